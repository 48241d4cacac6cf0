import PyProof.Rows.All
import Wide.All
import OpenK.AllK
import Wide.FinOn
import Lean
import PyProof.EqAt
import PyProof.EqKinds
import PyProof.TupleCall
import KE.KSortKey
import KE.KDflt
import PyProof.Rows.SortRuns
import PyProof.DictCompW
import KE.KLam
import PyProof.Rows.StrRev
import PyProof.WalksMore
import PyProof.ReprRoads
import PyProof.CallStr
import PyProof.AttrMissHeap
import KE.KDictOf
import KE.KTryMore
import OpenK.KOwn
import PyProof.RulesAs
import PyProof.RulesDel
import KE.KDictList
import PyProof.Rows.SeqMore2
import PyProof.FString
import PyProof.Rows.SetFrom
import PyProof.SetScanFacts
import PyProof.SetKind
import PyProof.TupleKey
import PyProof.DictKinds
import PyProof.IsRules
import PyProof.DictWalks
import PyProof.RulesDelMore
import PyProof.DelItemList
import PySem.Challenge.RW_waymusts_k37_whole_musts_by_ways_apart
set_option autoImplicit true
set_option linter.all false
set_option Elab.async false
set_option maxRecDepth 100000
set_option maxHeartbeats 8000000
local macro_rules (kind:=«term{_}»)|`(«term{_}»|{$x,*})=>`(⟨$x,*⟩)
local macro_rules|`('L')=>`(by lia)
local macro_rules|`('D')=>`(by decide)
local macro_rules|`('S')=>`(by simp)
local macro_rules|`('O')=>`(by omega)
noncomputable section
open Option renaming some→AA,none→AL,map_eq_some_iff→BU,map_some→I9,none→OA,isSome_map→QB,map→a7,getD_none→dH
open Bool renaming false→AE,true→AQ,false_ne_true→BH,and_eq_true→CP,eq_iff_iff→K1,false_eq_true→L1,not_eq_true'→RM,and_eq_true_iff→bF,eq_false_iff→gT,or_eq_true→lF
open PySem renaming wpAny_bind→AB,Value→AI,Shared→AN,Addr→AV,starEach→AW,model→A9,wpAny→BE,wpAny_setField_rec→BW,Program→CA,wpAny_call_entry→CG,wpAny_field→CH,FuncData→CM,Heap→CN,wpAny_callSpecial?_slot→CU,mainGlobals→C3,Str→C7,wpAny_newObj_type→C9,foldedSetIterable→DK,World→DL,wpAny_mono→DN,wpAny_holding→DO,behindInMarks→DP,rawInt→DR,Spec→EF,compareOp→EL,wpAny_rule→EM,Expr→EU,backTo→EW,sizeLine_eq→FM,Stmt→FP,letOwnedTupleGo→F7,wpAny_attempt→GC,cLine→GD,Around→GL,sliceBounds→G0,wpAny_standAt→G8,wpAny_comprehension_free→G9,assignEach→HA,wpAny_seqItems→HH,binaryOp→HI,wpAny_typeNameOfWhole_keyiter→HS,wpAny_pyIter_tuple→HX,tupleKind_room_in1→HY,sysModules→HZ,bootBuiltins→H9,wpAny_passesOwn→IG,wpAny_dictEntries→IM,mem_of_lookup→IT,wpAny_of_eq→IZ,codeAny→JD,Obj→JF,wpAny_typeNameOf_keyiter→JR,Scope→JS,builtinsNs→JX,PyData→JY,IsPair→J0,swapsWith→J3,wpAny_pyIter_slot→KH,wpAny_pyIter_list→KI,wpAny_newTuple→KJ,holding→LC,wpAny_letGo→LG,standAt→MT,wpAny_Call_Name_kw→M6,pyNext→M7,pyIter→NY,assign→N1,wpAny_isInstance→OH,tupleKind→OI,bindArgs→OJ,Arguments→ON,wpAny_pyIter_rangeiter→OW,codeAny_compStart_list→OX,call_meets→OY,wpAny_execs_nil→O3,wpAny_dictEpoch→O4,wpAny_notOrdered_dict→P1,wpAny_isOneOf_keyiter→P2,wpAny_updateSeq_pair→QP,wpAny_setField→QQ,wpAny_pyIter_keyiter→QR,wpAny_fieldsOf→QS,isSubtype_stop→QV,IsPart→QY,getItem→Q9,codeAmong→RA,cellsFrom→RB,callerA→RC,DictEntry→RK,wpAny_onRaise→SO,wpAny_newList→SQ,field→SR,attributeBase→SS,wpAny_truthy_bool→UO,wpAny_assign_Name→UP,slot_list_getitem→UQ,concat_meets→UR,codeAny_mono→US,SetTable→UT,NameKind→UW,Keyword→UZ,wpAny_eqBool_int→WM,noFill_tuple_add→WN,isTrue→WO,PassesOwn→WR,wpAny_mkInt→W5,seqIndex_of→W6,valueAt→YU,Builtin→YZ,BindsTo→Y0,wpAny_load→ZV,newFunctionEnv→ZX,firstArgMember→ZY,compTurn→ZZ,compEnvC→Z0,closureFor→Z1,again→Z2,Env→aB,wpAny_getItem_list_slice→bX,swapsWithSole→bY,swappedStores→bZ,seq_tuple_add→b7,rangeSize_one→b8,evalPart_none→b9,call→cC,slicePick→c9,bindL→dB,bindC→dC,atKey→dD,Sem→dE,isCodeTable→dF,wpAny_typeOf→fZ,wpAny_pyNext_range_end→gA,relabel→gE,codeAny_compStart_dict→gG,callType_new→gH,Result→gJ,Fin→gP,exec_Assign_Name_used→i4,keywordEach→k6,Tok→k8,ReadsAll→k9,Reads→lA,IsRangeIter→lE
open PySem.W renaming Frag→AC,nsIn→EB,tabIn→ET,mg_none_of→EX,fnOf→FL,keepIn→GX,codeIn→JL,tabObj→K6,CodeHd→K7,kla_obj→NC,mg_of→OP,OpenLaw→RZ,KatTups→R1,envX→WP,cellsFrom_some→WQ,kdl_call→cD,kat_cons→cE,kat_yes→dG,kla_fn→gK,kat_no→gM,kat_go→gO,WalkO→i6
open PySem.Heap renaming get?_push_of_some→AF,get?_push_size→AT,lt_size→BB,SameBut→CQ,size_push→D3,get?_update_self→HU,get?_push_ne→JW,size_update→NF,get?_update_ne→O8,get?_update_other→YY,get?_none_of_le→bC,ExtBut→bD
open Array renaming getElem_mem→AG,getElem?_eq_some_iff→CY,getElem?_toList→DF,perm_iff_toList_perm→EG,size_push→EI,toList_append→EQ,toList_push→FH,length_toList→GZ,mem_push→G2,size_append→HV,mem_toList_iff→II,size_extract→JG,toList_extract→KM,forIn_toList→LJ,size_setIfInBounds→MV,toList_reverse→OM,toList_setIfInBounds→U3,eraseIdxIfInBounds→WT,append_empty→cH
open List renaming getElem?_eq_some_iff→AH,length_map→AK,mem_singleton→AS,map_cons→AU,getElem?_map→AY,mem_cons_self→AZ,mem_cons_of_mem→A2,mem_cons→A3,mem_filter→A4,not_mem_nil→A7,length_cons→A8,size_toArray→BA,getElem?_eq_getElem→BD,length_append→BG,getElem?_set_ne→BK,replicate→BP,getElem?_set_self→BQ,mem_append→BR,mem_of_getElem?→BS,exists_cons_of_length_eq_add_one→BX,mem_map→BY,pairwise_iff_getElem→B9,getElem?_append_left→CD,take_succ_eq_append_getElem→CI,mem_append_right→CJ,length_singleton→CV,getElem?_append_right→CZ,append_assoc→C0,map_map→DA,pairwise_map→DE,length_filter_le→DH,length_set→DI,range→DM,flatMap_cons→DW,length_replicate→DY,map_append→D0,filter_cons→D2,any_cons→EK,replicate_succ→ES,nodup_cons→EZ,append_nil→E4,getElem?_replicate→FG,nodup_append→FI,drop_eq_getElem_cons→FJ,getElem?_drop→FN,pairwise_append→FR,mem_append_left→FS,eq_nil_of_length_eq_zero→FT,getElem?_cons_succ→FW,length_take→F9,nil_append→GJ,length_nil→GK,length_range→GP,flatten_cons→GQ,filterMap_cons→G1,take_length→G4,nodup_nil→G5,mem_range→G6,lookup_cons→G7,getElem_mem→IP,any_eq_true→IQ,getElem?_zip_eq_some→IV,pairwise_singleton→JM,pairwise_mergeSort→JN,length_eq_zero_iff→JO,take_of_length_le→JT,reverse_cons→JU,drop_eq_nil_of_le→JV,mem_of_mem_erase→KB,length→KP,of_mem_zip→KZ,mergeSort_perm→K8,map_congr_left→K9,getElem?_range→LA,perm_ext_iff_of_nodup→LX,pairwise_cons→LY,mem_filterMap→LZ,drop_zero→L0,getLast?_eq_getElem?→MG,length_drop→ND,cons_append→NE,filter_eq_nil_iff→NP,foldl_cons→N4,mem_iff_getElem?→OB,length_reverse→O6,length_pos_iff→O7,map_drop→P3,zip_cons_cons→QC,getElem_range→QD,getElem?_take→QE,filterMap_map→QF,take_sublist→RF,pairwise_iff_forall_sublist→RG,ext_getElem?→RH,any_map→RI,any_eq_false→RJ,eraseIdxIfInBounds_toArray→R9,zipIdx_cons→SX,getLast?_eq_some_getLast→TW,range_succ→T6,length_zip→T7,find?_cons→T8,idxOf_lt_length_of_mem→UX,getElem?_take_of_lt→XF,all_cons→XG,eraseIdx_cons_succ→YH,map_nil→YV,length_pos_of_mem→YW,length_eq_one_iff→YX,singleton_append→Z5,perm_append_comm→Z6,getElem?_toArray→Z7,getElem?_eq_none→Z8,mem_iff_getElem→a9,map_id→bB,reverse_append→cG,getElem_idxOf→dI,append_of_mem→dJ,foldl_append→gS,perm_middle→jA
open Nat renaming le_refl→AM,lt_of_lt_of_le→AO,lt_of_le_of_lt→AR,le_trans→A0,le_add_right→A5,add_lt_add_left→A6,zero_le→BN,ne_of_lt→CC,le_of_lt→CS,lt_succ_self→C4,lt_trans→DB,le_of_eq→DG,sub_le→DJ,lt_or_eq_of_le→DQ,le_add_left→DU,ne_of_gt→EN,add_le_add→EY,zero_add→FB,lt_of_succ_le→FY,lt_irrefl→F8,lt_of_le_of_ne→GB,le_succ→HF,lt_succ_of_lt→IC,le_of_lt_succ→ID,le_of_not_lt→IU,lt_trichotomy→JZ,succ_le_of_lt→MX,le_max_right→NJ,add_sub_cancel_left→NK,succ_pos→N3,add_comm→R8,min_le_left→UV,not_lt→WS,add_zero→Z4,lt_succ_of_le→i9,not_lt_of_le→lB,min_le_right→lC,lt_of_not_le→lD,min_eq_left→nK,le_max_left→nL
open PyProof.Rows renaming arrOf→A1,wpS_pure→BC,wpS_bind→BI,SortSt→BZ,Keyed→CO,pendingOf→DS,callWith_type1→D9,slot_tuple_getitem→EC,seqObj→FF,wpS_forRange→FV,IntsAre→IA,pairsOf→IN,wpS_mono→JQ,wpS_modify→M5,wpS_get→NN,wpS→NX,listUpdate_at→NZ,envOfC→N0,AllBare→OZ,wpS_lift→QO,pairsOf_toList→QT,mirror→QU,IsTup→U1,seqEpoch_at→W7,get?_update_seq→YG,size_push'→ZW,SortKind→Z3,numOf→dA,subscriptTail_builtinR→gD,listItems_at→gF,tail_any→k5,failedOf→k7,entry_tuple_getitem→nH
open List.Nodup renaming length_le_of_subset→BF
open Option.some renaming inj→BJ,injEq→XE
open Classical renaming byContradiction→BL,propDecidable→UB
open Or renaming inl→BM,inr→D5
open Ne renaming symm→CT
open Sum renaming inl→C1,inr→RY
open PySem.PassesOwn renaming never→C2
open PySem.F renaming slot_enumerate_next→C6,plainAttrs_list→EE,type_list_append→GG,slot_list_append→GH,args_enumerate_next_1→G3,entry_enumerate_next→HC,slot_enumerate_iter→HP,slot_range_reversed→KU,args_tuple_add_2→MB,entry_tuple_add→MU,slot_tuple_add→M9,args_enumerate_iter_1→RE,typeCall_enumerate_1→R6,entry_enumerate_iter→R7,newCall_enumerate_1→SV,entry_enumerate_new→SW,plain_reversed_new→TU,args_object_init_2→TV,slot_dict_delitem→T5,called_enumerate→UU,slot_list_index→VJ,type_list_pop→XB,slot_list_pop→XC
open Nat.succ renaming inj→DC
open PySem.PyData renaming eqv→DD,depth→GE,canLayAll0→GF,depthAll→I0,canLay0→LD,int→O5,eqvAll→VL,tuple→XD
open PySem.Builtin.Range renaming rangeFitsLong→DT,rangeSize→RL
open PySem.Builtin.SmallTypes renaming nextOf→DX,ownedTupleIsFree→HG,ownedTupleHandOut→jB
open PySem.Obj renaming mapSeq→D4,data_mapFields→MC,isFreed_of_fields→a8,data_mapDictKeys→cF,cls_mapFields→i8,mapDictKeys→nJ
open PySem.Heap.SameBut renaming update→FQ
open PySem.Value renaming ref→FU,none→JE,int→RX,type→cA,isStrOf→nI
open Prod renaming snd→GA,ext→KO,fst→LW
open List.Perm renaming refl→GT,swap→HR,append_left→JP,trans→KC,eq_of_pairwise→LH,append_right→UY
open PySem.Str renaming ofString→HJ
open Int renaming lt_of_le_of_lt→HK,emod_lt_of_pos→HL,emod_eq_of_lt→IE,emod_nonneg→JH,toNat_natCast→J1,le_trans→LI,add_emod_right→MD,toNat_of_nonneg→P4,le_of_lt→SC,le_refl→T9,ne_of_lt→Z9,le_total→aA,le_antisymm→nM
open PySem.Builtin.Slice renaming slicePlaces→HQ,sliceAdjust→KL,sliceApplied→P6
open False renaming elim→IH
open List.Pairwise renaming nil→KQ,imp_of_mem→QX
open PySem.Builtin.List renaming listTooLong→K0
open Decidable renaming not_not→LF
open PySem.SeqAt renaming eqAt_reads→M8,EqAt→cB,in_tupleAt→gI,in_listAt→i5
open True renaming intro→NO
open Sum.inl renaming inj→N2
open Function renaming comp→OL
open PySem.Builtin.Tuple renaming tupleItemsOf→P5
open Array.Perm renaming refl→QG
open List.cons renaming injEq→QW
open ForInStep renaming yield→QZ
open PySem.W.KatTups renaming nil→SU
open PyProof.Rows.IntsAre renaming int_at→TX
open PySem.Heap.IsSliceOf renaming new→UA
open PySem.Calls renaming Name_function_global→U2,call_function_entry→VM,callWith_builtin→YJ
open PySem.SeqAt.EqAt renaming str_int→W8,int_str→W9,int_int→XA
open PySem.Data renaming cell→YI,fields→bE,seq→nN
open PySem.Around renaming frames_deeper→Y1
open And renaming intro→Y2
open PyProof.Rows.SortSt renaming mk'→aZ
open PySem.NameKind renaming free→gQ,cell→gR
open Prod.mk renaming injEq→i7
universe u0 u1 u2 u3 u4
theorem Xo11{α0:Sort u0}{A:α0->Prop}{b:Prop}(h:∃x,A x)(k:∀x,A x->b):b:=h.elim λx h=>k x h
theorem Xo02{A B b:Prop}(h:A∧B)(k:A->B->b):b:=k h.1 h.2
theorem Xo21{α0:Sort u0}{α1:Sort u1}{A:α0->α1->Prop}{b:Prop}(h:∃x y,A x y)(k:∀x y,A x y->b):b:=h.elim λx h=>h.elim λy h=>k x y h
theorem Xo12{α0:Sort u0}{A B:α0->Prop}{b:Prop}(h:∃x,A x∧B x)(k:∀x,A x->B x->b):b:=h.elim λx h=>k x h.1 h.2
theorem Xo03{A B C b:Prop}(h:A∧B∧C)(k:A->B->C->b):b:=k h.1 h.2.1 h.2.2
theorem Xo31{α0:Sort u0}{α1:Sort u1}{α2:Sort u2}{A:α0->α1->α2->Prop}{b:Prop}(h:∃x y z,A x y z)(k:∀x y z,A x y z->b):b:=h.elim λx h=>h.elim λy h=>h.elim λz h=>k x y z h
theorem Xo22{α0:Sort u0}{α1:Sort u1}{A B:α0->α1->Prop}{b:Prop}(h:∃x y,A x y∧B x y)(k:∀x y,A x y->B x y->b):b:=h.elim λx h=>h.elim λy h=>k x y h.1 h.2
theorem Xo13{α0:Sort u0}{A B C:α0->Prop}{b:Prop}(h:∃x,A x∧B x∧C x)(k:∀x,A x->B x->C x->b):b:=h.elim λx h=>k x h.1 h.2.1 h.2.2
theorem Xo04{A B C D b:Prop}(h:A∧B∧C∧D)(k:A->B->C->D->b):b:=k h.1 h.2.1 h.2.2.1 h.2.2.2
theorem Xo41{α0:Sort u0}{α1:Sort u1}{α2:Sort u2}{α3:Sort u3}{A:α0->α1->α2->α3->Prop}{b:Prop}(h:∃x y z u,A x y z u)(k:∀x y z u,A x y z u->b):b:=h.elim λx h=>h.elim λy h=>h.elim λz h=>h.elim λu h=>k x y z u h
theorem Xo32{α0:Sort u0}{α1:Sort u1}{α2:Sort u2}{A B:α0->α1->α2->Prop}{b:Prop}(h:∃x y z,A x y z∧B x y z)(k:∀x y z,A x y z->B x y z->b):b:=h.elim λx h=>h.elim λy h=>h.elim λz h=>k x y z h.1 h.2
theorem Xo23{α0:Sort u0}{α1:Sort u1}{A B C:α0->α1->Prop}{b:Prop}(h:∃x y,A x y∧B x y∧C x y)(k:∀x y,A x y->B x y->C x y->b):b:=h.elim λx h=>h.elim λy h=>k x y h.1 h.2.1 h.2.2
theorem Xo14{α0:Sort u0}{A B C D:α0->Prop}{b:Prop}(h:∃x,A x∧B x∧C x∧D x)(k:∀x,A x->B x->C x->D x->b):b:=h.elim λx h=>k x h.1 h.2.1 h.2.2.1 h.2.2.2
theorem Xo05{A B C D E b:Prop}(h:A∧B∧C∧D∧E)(k:A->B->C->D->E->b):b:=k h.1 h.2.1 h.2.2.1 h.2.2.2.1 h.2.2.2.2
theorem Xo51{α0:Sort u0}{α1:Sort u1}{α2:Sort u2}{α3:Sort u3}{α4:Sort u4}{A:α0->α1->α2->α3->α4->Prop}{b:Prop}(h:∃x y z u v,A x y z u v)(k:∀x y z u v,A x y z u v->b):b:=h.elim λx h=>h.elim λy h=>h.elim λz h=>h.elim λu h=>h.elim λv h=>k x y z u v h
theorem Xo42{α0:Sort u0}{α1:Sort u1}{α2:Sort u2}{α3:Sort u3}{A B:α0->α1->α2->α3->Prop}{b:Prop}(h:∃x y z u,A x y z u∧B x y z u)(k:∀x y z u,A x y z u->B x y z u->b):b:=h.elim λx h=>h.elim λy h=>h.elim λz h=>h.elim λu h=>k x y z u h.1 h.2
theorem Xo33{α0:Sort u0}{α1:Sort u1}{α2:Sort u2}{A B C:α0->α1->α2->Prop}{b:Prop}(h:∃x y z,A x y z∧B x y z∧C x y z)(k:∀x y z,A x y z->B x y z->C x y z->b):b:=h.elim λx h=>h.elim λy h=>h.elim λz h=>k x y z h.1 h.2.1 h.2.2
theorem Xo24{α0:Sort u0}{α1:Sort u1}{A B C D:α0->α1->Prop}{b:Prop}(h:∃x y,A x y∧B x y∧C x y∧D x y)(k:∀x y,A x y->B x y->C x y->D x y->b):b:=h.elim λx h=>h.elim λy h=>k x y h.1 h.2.1 h.2.2.1 h.2.2.2
theorem Xo15{α0:Sort u0}{A B C D E:α0->Prop}{b:Prop}(h:∃x,A x∧B x∧C x∧D x∧E x)(k:∀x,A x->B x->C x->D x->E x->b):b:=h.elim λx h=>k x h.1 h.2.1 h.2.2.1 h.2.2.2.1 h.2.2.2.2
theorem Xo06{A B C D E F b:Prop}(h:A∧B∧C∧D∧E∧F)(k:A->B->C->D->E->F->b):b:=k h.1 h.2.1 h.2.2.1 h.2.2.2.1 h.2.2.2.2.1 h.2.2.2.2.2
set_option compiler.reuse false
def List.mp{α β:Type}(l:List α)(f:α->β):List β:=match l with|[]=>[]|a::l=>f a::l.mp f
def List.fm{α β:Type}(l:List α)(f:α->List β):List β:=match l with|[]=>[]|a::l=>f a++l.fm f
def List.sn{α:Type}(l:List α)(f:α->Bool):List α×List α:=match l with|[]=>([],[])|a::r=>if f a then let q:=r.sn f;(a::q.1,q.2) else ([],l)
def List.fd{α:Type}(l:List α)(f:α->Bool):Option α:=match l with|[]=>none|a::l=>if f a then some a else l.fd f
def List.fl{α β:Type}(l:List α)(f:β->α->β)(b:β):β:=match l with|[]=>b|a::l=>l.fl f (f b a)
set_option compiler.extract_closed false in
open Lean in
def ndQ(k:String)(l:List Syntax):Syntax:=.node .none (k.splitOn "."|>.fl .str .anonymous) l.toArray
open Lean in
def taQ:=Syntax.atom .none
open Lean in
def tmQ(k:String):=ndQ ("Lean.Parser.Term."++k)
set_option compiler.extract_closed false in
open Lean in
def obT(s:Syntax):Option Syntax:=
 let tc(k:String):=ndQ ("Lean.Parser.Tactic."++k)
 let nl:=ndQ "null"
 let sq(l:List Syntax):=tc "tacticSeq" [tc "tacticSeq1Indented" [nl (l.intersperse (taQ ";"))]]
 let lo(k:String)(l:List Syntax):=tc "rcasesPatLo" [tc "rcasesPatMed" [nl [tc ("rcasesPat."++k) l]],nl []]
 let rc(e p:Syntax):=tc "rcases" [taQ "rcases",nl [tc "elimTarget" [nl [],e]],nl [taQ "with",p]]
 let it(x:Syntax):=tc "intro" [taQ "intro",nl [x]]
 let d:=s[2][0]
 let q:=if d[0].getNumArgs==2 then d[0][0] else d[0]
 let e:=d[4]
 let ps:=q[1].getSepArgs.toList
 let L:=ps.length
 if q[0].isToken "{" then
 let lf:=ps.zipIdx.mp λ(x,i)=>if x.isIdent&&toString x.getId != "rfl" then (x,lo "one" [x],[])
  else let n:=(mkIdent (.mkSimple s!"qo'{i}")).raw;let p:=if x.isIdent then lo "one" [x] else lo "ignore" [taQ "_"];(n,p,[rc n p])
 let cl:=if e.isIdent then [tc "tacticTry_" [taQ "try",sq [tc "clear" [taQ "clear",nl [e]]]]] else []
 let al:=[6,5,4,3,2].fm λk=>if k>L then [] else (List.range k).mp λm=>
  let z:=k==L
  let hd:=if z then lf else lf.take (k-1)
  let y:=(mkIdent (.mkSimple s!"qo'{L}")).raw
  sq ([tc "refine" [taQ "refine",tmQ "app" [mkIdent (.mkSimple s!"Xo{k-1-m}{m+1}"),nl [e,tmQ "syntheticHole" [taQ "?",taQ "_"]]]]]++cl++hd.fm (λx=>it x.1::x.2.2)++if z then [] else [it y,s.setArg 2 (s[2].setArg 0 ((d.setArg 4 y).setArg 0 (q.setArg 1 (Syntax.mkSep (ps.drop (k-1)).toArray (taQ ",")))))])
 some (tc "first" [taQ "first",nl ((al++[sq [rc e (lo "tuple" [taQ "⟨",nl ((lf.mp (·.2.1)).intersperse (taQ ",")),taQ "⟩"])]]).mp λt=>ndQ "group" [taQ "|",t])])
 else none
open Lean in
local macro_rules(kind:=Lean.Parser.Tactic.tacticHave__)|s=>match obT s with|some x=>return x|none=>Macro.throwUnsupported
local macro_rules(kind:=Lean.Parser.Command.declaration)|s=>if s.getPos?.isNone then Lean.Macro.throwUnsupported else let s:=s.rewriteBottomUp λt=>t.setInfo .none;pure (if(s[1].isOfKind ``Lean.Parser.Command.definition||s[1].isOfKind ``Lean.Parser.Command.abbrev||s[1].isOfKind ``Lean.Parser.Command.instance)&&s[0][4].isNone then s.setArg 0 (s[0].setArg 4 (Lean.mkNullNode #[.node .none ``Lean.Parser.Command.noncomputable #[Lean.mkAtom "noncomputable "]])) else s)
section
open PySem
variable{κ α:Type}{a b L dx C:AV}{h h' base:CN}{items:Array AI}{P prog:CA}{w:DL}{AJ:List (AV×JF)}{s s':AN}{t' i j k n:Nat}{ch fp:List AV}{N ps:List C7}{x name qual:C7}{M:Model}{A:GL}{E Q:AI->AN->Prop}{u v:AI}{e c o tg:EU}{pos OU p YF:Pos}{es:List EU}{body:List FP}{f:AI->AI->dE AI}{op:CmpOp}{CW us:List AI}{mg:C7->Option AI}{fd:CM}{T:String}
namespace _L
open PySem PySem.Spec PyProof.Rows
abbrev Key:=Sum Int C7
noncomputable def nW:Key->AI->Bool
 |.inl k,v=>Value.isInt k v
 |.inr x,v=>nI x v
def yJX(w:DL):Key->Int
 |.inl k=>hashInt k
 |.inr x=>hashStr w x
theorem dY:∀{k:Key} {v:AI},nW k v=AQ->(∃i t,k=C1 i/\v=RX i t)\/(∃x t,k=RY x/\v=Value.str x t)
 |.inl i,v,h=>by have{t,e}:=Value.isInt_shape h;exact .inl {i,t,rfl,e}
 |.inr x,v,h=>by have{t,e}:=Value.isStrOf_shape h;exact .inr {x,t,rfl,e}
theorem zRN(i:Int)(t:k8):nW (.inl i) (.int i t)=AQ:=by simp[nW,Value.isInt]
theorem zRO(x:C7)(t:k8):nW (.inr x) (.str x t)=AQ:=by simp[nW,nI]
theorem yDC(a b:Int):decide ((C1 a:Key)=C1 b)=(a==b):=by
 by_cases e:a=b
 .subst e;simp
 .have h:¬(C1 a:Key)=C1 b:=λq=>e (N2 q);rw[decide_eq_false h];exact(beq_eq_false_iff_ne.mpr e).symm
theorem yDD(a b:C7):decide ((RY a:Key)=RY b)=decide (a=b):=by
 by_cases e:a=b
 .subst e;simp
 .have h:¬(RY a:Key)=RY b:=λq=>e (Sum.inr.inj q);rw[decide_eq_false h,decide_eq_false e]
theorem yDE(a:Int)(b:C7):decide ((C1 a:Key)=RY b)=AE:=decide_eq_false (λq=>nomatch q)
theorem yDF(a:C7)(b:Int):decide ((RY a:Key)=C1 b)=AE:=decide_eq_false (λq=>nomatch q)
def YO(prog:CA)(w:DL):PySem.KeyKind prog w Key where
 is:=nW
 hash:=yJX w
 inj:=λv a b ha hb=>by
  rcases dY ha with⟨i,t,rfl,rfl⟩|⟨x,t,rfl,rfl⟩
  .rcases dY hb with⟨j,u,rfl,e⟩|⟨y,u,rfl,e⟩
   .injection e with e1 _;rw[e1]
   .exact nomatch e
  .rcases dY hb with⟨j,u,rfl,e⟩|⟨y,u,rfl,e⟩
   .exact nomatch e
   .injection e with e1 _;rw[e1]
 byValue:=λk v h=>by rcases dY h with⟨i,t,rfl,rfl⟩|⟨x,t,rfl,rfl⟩<;>rfl
 pyHash:=λhv h=>by
  rcases dY hv with⟨i,t,rfl,rfl⟩|⟨x,t,rfl,rfl⟩
  .exact wpAny_pyHash_int h
  .exact wpAny_pyHash_str h
 eqBool:=λhu hv h=>by
  rcases dY hu with⟨i,t,rfl,rfl⟩|⟨x,t,rfl,rfl⟩
  .rcases dY hv with⟨j,u,rfl,rfl⟩|⟨y,u,rfl,rfl⟩
   .rw[yDC] at h;exact WM h
   .rw[yDE] at h;exact W9 i t y u _ _ _ _ h
  .rcases dY hv with⟨j,u,rfl,rfl⟩|⟨y,u,rfl,rfl⟩
   .rw[yDF] at h;exact W8 x t j u _ _ _ _ h
   .rw[yDD] at h;exact wpAny_eqBool_str h
 «strs»:=λk x t v h=>by
  rcases dY h with⟨i,u,rfl,e⟩|⟨y,u,rfl,e⟩
  .exact nomatch e
  .injection e with e1 _;subst e1;cases v<;>rfl
theorem Xf(prog:CA)(w:DL)(k:Key)(v:AI):(YO prog w).is k v=nW k v:=rfl
theorem zNU(prog:CA)(w:DL)(i:Int)(t:k8):(YO prog w).is (.inl i) (.int i t)=AQ:=zRN i t
theorem zNV(prog:CA)(w:DL)(x:C7)(t:k8):(YO prog w).is (.inr x) (.str x t)=AQ:=zRO x t
inductive V where
 |non|bl (b:Bool)|int (i:Int)|str (x:C7)|byt (b:Array UInt8)|flt (b:UInt64)|ref (a:AV)|ty (n:String)
 deriving DecidableEq
def RelV:V->AI->Prop
 |.non,u=>u=JE
 |.bl b,u=>u=Value.bool b
 |.int i,u=>∃t,u=RX i t
 |.str x,u=>∃t,u=Value.str x t
 |.byt b,u=>∃t,u=Value.bytes b t
 |.flt b,u=>∃t,u=Value.float b t
 |.ref a,u=>u=FU a
 |.ty n,u=>u=cA n
abbrev Vals:List V->List AI->Prop:=Paired RelV
theorem Vals.length{xs:List V}{us:List AI}(r:Vals xs us):xs.length=us.length:=Paired.length r
theorem Vals.get:∀{xs:List V} {us:List AI} {i:Nat} {x:V},Vals xs us->xs[i]?=AA x->∃u,us[i]?=AA u/\RelV x u
 |_,_,_,_,.nil,e=>by simp at e
 |_,_,0,_,.cons r _,e=>by simp at e;subst e;exact{_,rfl,r}
 |_,_,i+1,x,.cons _ t,e=>by have{u,h1,h2}:=Vals.get t (by simpa using e);exact{u,by simpa using h1,h2}
theorem Vals.set{x:V}{u:AI}(r:RelV x u):∀{xs:List V} {us:List AI} (i:Nat),Vals xs us->Vals (xs.set i x) (us.set i u)
 |_,_,_,.nil=>.nil
 |_,_,0,.cons _ t=>.cons r t
 |_,_,i+1,.cons q t=>.cons q (Vals.set r i t)
theorem Vals.append:∀{xs ys:List V} {us ws:List AI},Vals xs us->Vals ys ws->Vals (xs++ys) (us++ws)
 |_,_,_,_,.nil,s=>s
 |_,_,_,_,.cons r t,s=>.cons r (Vals.append t s)
theorem Vals.take:∀{xs:List V} {us:List AI} (n:Nat),Vals xs us->Vals (xs.take n) (us.take n)
 |_,_,0,_=>.nil
 |_,_,_+1,.nil=>.nil
 |_,_,n+1,.cons r t=>.cons r (Vals.take n t)
theorem Vals.drop:∀{xs:List V} {us:List AI} (n:Nat),Vals xs us->Vals (xs.drop n) (us.drop n)
 |_,_,0,r=>r
 |_,_,_+1,.nil=>.nil
 |_,_,n+1,.cons _ t=>Vals.drop n t
def RelO:Option V->Option AI->Prop
 |some v,AA u=>RelV v u
 |none,AL=>True
 |_,_=>False
def KV:List (κ×V)->List (κ×AI)->Prop:=Paired λ(p:κ×V) (q:κ×AI)=>p.1=q.1/\RelV p.2 q.2
def kV:Key->V
 |.inl i=>.int i
 |.inr x=>.str x
inductive HO where
 |lst (xs:List V)
 |tup (xs:List V)
 |dK (kvs:List (Key×V))|dT (kvs:List (List Key×V))
 |set (S:Int->Bool) (n:Nat)
 |ins (C dx:AV) (fs:List (C7×V))
 |own (x:AV)
 |xd (fs:List (C7×V))
 |met (f x:AV)
 |rng (lo hi:Int)
 |frz (o:JF) (u:HO)
 |tbl (q:C7) (ps:Array AI)
 |ext (φ:CN->Prop)
abbrev Hp:=AV->Option HO
def DZ(H:Hp)(a:AV)(o:HO):Hp:=λb=>if b=a then AA o else H b
variable{H:Hp}
theorem GO{o:HO}:DZ H a o a=AA o:=by unfold DZ;rw[if_pos rfl]
theorem EH{o:HO}(h:b≠a):DZ H a o b=H b:=by unfold DZ;rw[if_neg h]
theorem Tj{o u:HO}:DZ (DZ H a o) a u=DZ H a u:=by funext b;unfold DZ;split<;>rfl
theorem zY{o u:HO}(h:H a=AA o)(h':H b=AA u)(d:o≠u):a≠b:=by intro e;subst e;rw[h] at h';exact d (BJ h')
theorem SF{o:HO}(h:H a=AA o)(h':H b=AL):a≠b:=by intro e;subst e;rw[h] at h';cases h'
def IsTupP(h:CN)(a:AV)(items:Array AI):Prop:=∃o,h.get? a=AA o/\o.cls=.type "tuple"/\o.dict=AL/\∃n,o.data=.seq items n
theorem IsTupP.isTup(p:IsTupP h a items):U1 h a items:=let ⟨o,e,c,_,n⟩:=p;{o,e,c,n}
theorem IsTupP.new(h:CN)(items:Array AI):IsTupP (h.push { cls:=.type "tuple",data:=.seq items }) h.objs.size items:={_,AT _ rfl,rfl,rfl,_,rfl}
section
variable(P:CA)(w:DL)
def ObjOk(H:Hp)(h:CN)(a:AV):HO->Prop
 |.lst xs=>xs.length<=sizeLine/\∃(CW:List AI) (n:Nat),Vals xs CW/\h.get? a=AA { cls:=.type "list",data:=.seq CW.toArray n }
 |.tup xs=>xs.length<=sizeLine/\∃CW:List AI,Vals xs CW/\IsTupP h a CW.toArray
 |.dK kvs=>kvs.length<=sizeLine/\(a==HZ)=AE/\∃vs,KV kvs vs/\h.DictOf (YO P w) a vs
 |.dT kvs=>kvs.length<=sizeLine/\(a==HZ)=AE/\∃xs:List (List Key×AV×AI),
   Paired (λ(p:List Key×V) (q:List Key×AV×AI)=>p.1=q.1/\H q.2.1=AA (.tup (p.1.map kV))/\RelV p.2 q.2.2) kvs xs /\
   ∃o es ep,h.get? a=AA o/\o.ExactDict/\o.data=.dict es ep/\es.toList=xs.map (entryOfKey (OI (YO P w)))/\(xs.map (·.1)).Nodup
 |.set S n=>h.SetOf (intKind P w) a S n
 |.ins C dx fs=>H dx=AA (.own a)/\fs.length<=1000/\dx≠a/\h.get? a=AA (PySem.W.instObj C dx) /\
   ∃mA,h.Ns1 dx mA/\(∀f,RelO (fs.lookup f) (mA f))/\PySem.Within mA (fs.map (·.1))
 |.own _=>∃o,h.get? a=AA o
 |.xd fs=>∃mA,h.Ns1 a mA/\∀f,RelO (fs.lookup f) (mA f)
 |.rng lo hi=>∃t u v,h.get? a=AA { cls:=.type "range",data:=.fields #[.int lo t,.int hi u,.int 1 v] }
 |.frz o u=>h.get? a=AA o/\ObjOk H h a u
 |.tbl q ps=>h.get? a=AA { cls:=.none,data:=.fields ps }/\TriplesOk ps.toList/\∀pos cv,RA pos ps.toList=AA cv->∃c' o vs t,cv=.ref c'/\H c'=AA (.frz o (.own c'))/\o.data=.fields vs/\vs[1]?=AA (.str q t)
 |.met f x=>h.get? a=AA (PySem.W.methodObj (.ref f) (.ref x))
 |.ext φ=>φ h/\(∃o,h.get? a=AA o)/\∀h1 h2:CN,φ h1->(∀o,h1.get? a=AA o->h2.get? a=AA o)->φ h2
def HOk(H:Hp)(h:CN):Prop:=∀a o,H a=AA o->ObjOk P w H h a o
end
variable{H':Hp}
section
variable{o:HO}
theorem ObjOk.lt(x:ObjOk P w H h a o):a<h.objs.size:=by
 cases o with
 |lst xs=>have{_,_,_,_,e}:=x;exact BB e
 |tup xs=>have{_,_,_,p}:=x;exact p.isTup.lt
 |dK kvs=>have{_,_,_,_,o,_,_,e,_}:=x;exact BB e
 |dT kvs=>have{_,_,_,_,o,_,_,e,_}:=x;exact BB e
 |set S n=>have{o,_,_,_,e,_}:=x;exact BB e
 |ins C dx fs=>have{_,_,_,e,_}:=x;exact BB e
 |own y=>have{_,e}:=x;exact BB e
 |xd fs=>have{_,zz',_}:=x;have{_,_,_,e,_}:=zz';exact BB e
 |rng lo hi=>have{_,_,_,e}:=x;exact BB e
 |frz ob u=>have{e,_}:=x;exact BB e
 |tbl q ps=>exact BB x.1
 |met f y=>exact BB (x)
 |ext φ=>have{_,zz',_}:=x;have{_,e}:=zz';exact BB e
theorem pA0{α β:Type}{F G:α->β->Prop}:∀{l₁:List α} {l₂:List β},Paired F l₁ l₂->(∀a b,F a b->G a b)->Paired G l₁ l₂
 |_,_,.nil,_=>.nil
 |_,_,.cons r t,f=>.cons (f _ _ r) (pA0 t f)
theorem ObjOk.stay(x:ObjOk P w H h a o)(k:∀b u,(b=a\/H b=AA (.own a))->h.get? b=AA u->h'.get? b=AA u) (ho:∀b,H b=AA (.own a)->H' b=AA (.own a)) (ht:∀b xs,H b=AA (.tup xs)->H' b=AA (.tup xs)) (hf:∀b o x,H b=AA (.frz o (.own x))->H' b=AA (.frz o (.own x))):ObjOk P w H' h' a o:=by
 induction o with
 |lst xs=>have{z,CW,n,r,e}:=x;exact{z,CW,n,r,k _ _ (.inl rfl) e}
 |tup xs=>have{z,CW,r,ob,e,c}:=x;exact{z,CW,r,ob,k _ _ (.inl rfl) e,c}
 |dK kvs=>have{z,y,vs,r,ob,es,ep,e,c}:=x;exact{z,y,vs,r,ob,es,ep,k _ _ (.inl rfl) e,c}
 |dT kvs=>have{z,y,xs,r,ob,es,ep,e,c}:=x;exact{z,y,xs,pA0 r λp q z=>{z.1,ht _ _ z.2.1,z.2.2},ob,es,ep,k _ _ (.inl rfl) e,c}
 |set S n=>have{ob,es,ep,t,e,c}:=x;exact{ob,es,ep,t,k _ _ (.inl rfl) e,c}
 |ins C dx fs=>have{d,z,ne,e,mA,zz',r}:=x;have{od,es,ep,e2,c}:=zz';exact{ho _ d,z,ne,k _ _ (.inl rfl) e,mA,{od,es,ep,k _ _ (.inr d) e2,c},r}
 |own y=>have{ob,e}:=x;exact{ob,k _ _ (.inl rfl) e}
 |xd fs=>have{mA,zz',r}:=x;have{od,es,ep,e,c}:=zz';exact{mA,{od,es,ep,k _ _ (.inl rfl) e,c},r}
 |rng lo hi=>have{t,u,v,e}:=x;exact{t,u,v,k _ _ (.inl rfl) e}
 |frz ob u ih=>have{e,q}:=x;exact{k _ _ (.inl rfl) e,ih q}
 |tbl q ps=>have{e,tr,al}:=x;refine{k a _ (.inl rfl) e,tr,λpos cv z=>?_};have{c',o,vs,t,r1,r2,r3}:=al pos cv z;exact{c',o,vs,t,r1,hf _ _ _ r2,r3}
 |met f y=>have e:=x;exact k a _ (.inl rfl) e
 |ext φ=>have{p,zz',st}:=x;have{o,e}:=zz';exact{st _ _ p λo q=>k _ _ (.inl rfl) q,{o,k _ _ (.inl rfl) e},st}
theorem HOk.lt(x:HOk P w H h)(e:H a=AA o):a<h.objs.size:=(x a o e).lt
theorem HOk.fresh(x:HOk P w H h)(e:h.objs.size<=a):H a=AL:=by
 cases q:H a with
 |none=>rfl
 |some u=>exact absurd (AO (x.lt q) e) (F8 _)
theorem HOk.kept(x:HOk P w H h)(k:∀b u,h.get? b=AA u->h'.get? b=AA u):HOk P w H h':=λa o e =>
 (x a o e).stay (λb u _ q=>k b u q) (λ_ q=>q) (λ_ _ q=>q) λ_ _ _ q=>q
theorem HOk.laid(x:HOk P w H h)(k:∀b u,h.get? b=AA u->h'.get? b=AA u)(hp:h.objs.size<=a)(new:ObjOk P w (DZ H a o) h' a o):HOk P w (DZ H a o) h':=λb u e=>by
 have hn:=x.fresh hp;by_cases hb:b=a
 .subst hb;rw[GO] at e;cases e;exact new
 .rw[EH hb] at e;exact(x b u e).stay (λc v _ q=>k c v q) (λc q=>by rw[EH (SF q hn)];exact q) (λc xs q=>by rw[EH (SF q hn)];exact q) λc o x q=>by rw[EH (SF q hn)];exact q
end
def Rd(H:Hp)(a:AV)(u:HO):Prop:=H a=AA u\/∃o,H a=AA (.frz o u)
theorem Rd.ok{u:HO}(r:Rd H a u)(x:HOk P w H h):ObjOk P w H h a u:=by
 rcases r with r|⟨o,r⟩
 .exact x a u r
 .have{_,q}:=x a _ r;exact q
def wI:Option HO->Prop
 |some (.lst _)=>True
 |some (.dK _)=>True
 |some (.dT _)=>True
 |some (.set _ _)=>True
 |some (.ins _ _ _)=>True
 |some (.ext _)=>True
 |_=>False
section
variable{x e:AV}{o':HO}
theorem HOk.write(ok:HOk P w H h)(mu:wI (H x))(he:e=x\/H e=AA (.own x))(k:∀b u,b≠e->h.get? b=AA u->h'.get? b=AA u)(tP:∃u,h'.get? e=AA u) (new:ObjOk P w (DZ H x o') h' x o'):HOk P w (DZ H x o') h':=λb u q=>by
 have xA:∀c y,H c=AA (.own y)->c≠x:=λc y r z=>by subst z;rw[r] at mu;exact mu
 have Ms:∀c xs,H c=AA (.tup xs)->c≠x:=λc xs r z=>by subst z;rw[r] at mu;exact mu
 have Mt:∀c o y,H c=AA (.frz o (.own y))->c≠x:=λc o y r z=>by subst z;rw[r] at mu;exact mu
 by_cases hb:b=x
 .subst hb;rw[GO] at q;cases q;exact new
 .rw[EH hb] at q;by_cases qD:b=e
  .have q':H b=AA (.own x):=by
    rcases he with z|z
    .exact absurd (qD.trans z) hb
    .rw[qD];exact z
   rw[q] at q';cases q';have{v,hv}:=tP;exact{v,by rw[qD];exact hv}
  .refine(ok b u q).stay (λc v hc r=>k c v ?_ r) (λc r=>by rw[EH (xA c b r)];exact r) (λc xs r=>by rw[EH (Ms c xs r)];exact r) λc o y r=>by rw[EH (Mt c o y r)];exact r
   rcases hc with rfl|hc
   .exact qD
   .rintro rfl;rcases he with z|z
    .exact xA c b hc z
    .rw[hc] at z;cases z;exact hb rfl
end
structure Un(fs ex:List AV)(H H':Hp)(h h':CN):Prop where
 keep:∀b o,h.get? b=AA o->H b=AL->b∉fs->b∉ex->h'.get? b=AA o
 slot:∀b o,h.get? b=AA o->H b=AL->b∈fs->b∉ex->∃sl,h'.get? b=AA { o with slots:=sl }
 free:∀b o,h.get? b=AA o->H b=AL->b∉ex->H' b=AL
 there:∀b o,h.get? b=AA o->b∉ex->∃o',h'.get? b=AA o'
 tups:∀b xs,H b=AA (.tup xs)->H' b=AA (.tup xs)
 frzs:∀b o u,H b=AA (.frz o u)->H' b=AA (.frz o u)
 tbls:∀b t ps,H b=AA (.tbl t ps)->∃more,H' b=AA (.tbl t (ps++more))
section
variable{fs fs' ex ex':List AV}{H1 H2:Hp}{h1 h2:CN}{x e:AV}{o:HO}
theorem Un.any(u:Un fs ex H H1 h h1){ob:JF}(q:h.get? b=AA ob)(n:H b=AL)(hx:b∉ex):∃sl,h1.get? b=AA { ob with slots:=sl }:=by
 by_cases hb:b∈fs
 .exact u.slot b ob q n hb hx
 .exact{ob.slots,u.keep b ob q n hb hx}
theorem Un.kept(k:∀b u,h.get? b=AA u->h'.get? b=AA u):Un fs ex H H h h' :={λb ob q _ _ _=>k b ob q,λb ob q _ _ _=>{ob.slots,k b ob q},λ_ _ _ n _=>n,λb ob q _=>{ob,k b ob q},λ_ _ q=>q,λ_ _ _ q=>q,λ_ _ ps q=>{#[],by rw[q];simp}}
theorem Un.refl:Un fs ex H H h h:=Un.kept λ_ _ q=>q
theorem Un.laid(k:∀b u,h.get? b=AA u->h'.get? b=AA u)(hp:h.objs.size<=a)(hn:H a=AL):Un fs ex H (DZ H a o) h h' where
 keep:=λb u q _ _ _=>k b u q
 slot:=λb u q _ _ _=>{u.slots,k b u q}
 free:=λb u q n _=>by rw[EH (CC (AO (BB q) hp))];exact n
 there:=λb u q _=>{u,k b u q}
 tups:=λb xs q=>by rw[EH (SF q hn)];exact q
 frzs:=λb u xs q=>by rw[EH (SF q hn)];exact q
 tbls:=λb t ps q=>{#[],by rw[EH (SF q hn),q];simp}
theorem Un.write(mu:wI (H x))(he:e=x\/H e=AA (.own x))(k:∀b u,b≠e->h.get? b=AA u->h'.get? b=AA u)(tP:∃u,h'.get? e=AA u):Un fs ex H (DZ H x o) h h':=by
 have hx:∀b,H b=AL->b≠x:=λb n z=>by subst z;rw[n] at mu;exact mu
 have hb:∀b,H b=AL->b≠e:=λb n z=>by
  subst z;rcases he with r|r
  .exact hx b n r
  .rw[n] at r;cases r
 have hm:∀b u,H b=AA u->¬wI (AA u)->b≠x:=λb u q nm z=>by subst z;rw[q] at mu;exact nm mu
 refine{λb u q n _ _=>k b u (hb b n) q,λb u q n _ _=>{u.slots,k b u (hb b n) q},λb u q n _=>by rw[EH (hx b n)];exact n,λb u q _=>?_,
  λb xs q=>by rw[EH (hm b _ q λz=>z)];exact q,λb u xs q=>by rw[EH (hm b _ q λz=>z)];exact q,λb t ps q=>{#[],by rw[EH (hm b _ q λz=>z),q];simp}}
 by_cases qD:b=e
 .subst qD;exact tP
 .exact{u,k b u qD q}
end
noncomputable def Cm(h:CN)(H:Hp):List AV:=(DM h.objs.size).filter λa=>(H a).isSome
def g7(h:CN)(H:Hp):CN:=PySem.W.hideAll h (Cm h H)
theorem zRQ(h:CN)(H:Hp):(g7 h H).objs.size=h.objs.size:=PySem.W.hideAll_size _ _
theorem zVJ{o:JF}(e:h.get? b=AA o)(n:H b=AL):(g7 h H).get? b=AA o :=PySem.W.hideAll_get _ e λhm=>by have q:=(A4.mp hm).2;rw[n] at q;simp at q
theorem zZH{o:JF}(e:(g7 h H).get? b=AA o):h.get? b=AA o/\H b=AL:=by
 have e':=PySem.W.of_hideAll (Cm h H) e;refine{e',?_};cases q:H b with
 |none=>rfl
 |some x=>have hm:b∈Cm h H:=A4.mpr {G6.mpr (BB e'),by simp[q]};have z:(g7 h H).get? b=AL:=PySem.W.hideAll_none (Cm h H) hm;rw[z] at e;cases e
noncomputable def vJ(g h:CN)(L:AV):List (AV×JF):=(DM h.objs.size).filterMap λa=>if a=L\/(g.get? a).isSome=AQ then AL else(h.get? a).map λo=>(a,o)
theorem zNW{g:CN}{o:JF}(h1:a≠L)(h2:g.get? a=AL)(h3:h.get? a=AA o):(a,o)∈vJ g h L :=LZ.mpr {a,G6.mpr (BB h3),by simp[h1,h2,h3]}
theorem zIU{g:CN}{p:AV×JF}(hp:p∈vJ g h L):p.1≠L/\g.get? p.1=AL/\h.get? p.1=AA p.2:=by
 have{b,_,e}:=LZ.mp hp;split at e
 .cases e
 .rename_i hn;cases q:h.get? b with
  |none=>rw[q] at e;simp at e
  |some u =>
   rw[q] at e;simp only[I9,XE] at e;subst e;refine{λz=>hn (.inl z),?_,q};cases r:g.get? b with
   |none=>rfl
   |some v=>exact(hn (.inr (by simp[r]))).elim
def rest(g h:CN)(L d:AV):List (AV×JF):=(vJ g h L).filter λp=>decide (p.1≠d)
theorem zVK{g:CN}:News g L h (vJ g h L):=λp hp=>let ⟨a,b,c⟩:=zIU hp;{c,a,b}
structure Mod(K:AC)(mg:C7->Option AI)(base:CN):Prop where
 kin:K.In base
 glob:base.Ns C3 mg
 blt:∃mb,base.Ns JX mb/\∀x:C7,x≠"__name__"->mb x=H9 x
 nolimit:base.NoLimit
 bmain:∃bm ob,mg "__builtins__"=AA (.ref bm)/\bm≠JX/\base.get? bm=AA ob/\ob.cls=.type "module"/\ob.dict=AA JX/\ob.data=.plain
set_option genInjectivity false in
structure Cx where
 prog:CA
 w:DL
 K:AC
 mg:C7->Option AI
 base:CN
 A:GL
 N:List C7
 s₀:AN
 H₀:Hp
 env:aB
 outer:List aB
 stack:List aB
 ex:List AV
 fn:C7->Bool
 calm:Bool
 pn:List (AV×JF)
 xe:AI->AN->Prop
def bM(l:List aB):List AV:=l.filterMap (·.frame)
abbrev Cx.fs(X:Cx):List AV:=bM X.outer
def eI(sc:JS)(x:C7):Prop:=sc.names.lookup x=AA .local\/sc.names.lookup x=AA .cell\/sc.names.lookup x=AA .free
def Loc(sc:JS)(x:C7):Prop:=sc.names.lookup x=AA .local\/sc.names.lookup x=AA .cell
def yJY(env:aB)(h:CN)(m:C7->Option AI)(x:C7)(u:AI):Prop :=(env.kindOf x=AA .local/\m x=AA u)\/((env.kindOf x=AA .cell\/env.kindOf x=AA .free)/\∃c,env.cells.lookup x=AA c/\h.IsCell c (AA u))
noncomputable def j4:List C7:=["holders","_law_table","_law_back","_law_kept_right","law"]
def TB(K:AC)(T:AV)(q:C7):Prop:=∃x c,x∈j4/\ET K x=AA (c,T)/\q=x++(".<locals>.<lambda>":C7)
structure Cx.Ok(X:Cx):Prop where
 tab:∀T q,TB X.K T q->∃ps,X.H₀ T=AA (.tbl q ps)
 mod:Mod X.K X.mg X.base
 kind:X.env.scope.kind=.function
 glob:X.env.globals=C3
 blt:X.env.builtins=JX
 above:X.s₀.heap.objs.size<=X.env.locals
 inj:∀x y c,X.env.cells.lookup x=AA c->X.env.cells.lookup y=AA c->x=y
 has:∀x,(X.env.kindOf x=AA .cell\/X.env.kindOf x=AA .free)->∃c,X.env.cells.lookup x=AA c
 cab:∀x c,X.fn x=AQ->X.env.cells.lookup x=AA c->X.s₀.heap.objs.size<=c
 hd:X.calm=AQ->X.A.handled=AL
 frames:X.A.frames=AA X.stack
 stk:X.stack=X.outer\/(X.stack=X.env::X.outer/\X.env.frame=AA X.env.locals)
 exf:∀b∈X.ex,b≠X.env.locals/\∀x c,X.env.cells.lookup x=AA c->c≠b
 bs:∀b o,X.base.get? b=AA o->X.s₀.heap.get? b=AA o/\X.H₀ b=AL
 bsz:X.base.objs.size<=X.s₀.heap.objs.size
 noex:∀b o,X.base.get? b=AA o->b∉X.ex
 exfs:∀b∈X.ex,b∉X.fs
 funs:X.s₀.heap.FunFrames X.base X.outer
 frf:∀b∈X.fs,X.H₀ b=AL
structure Inv(X:Cx)(AJ:List (AV×JF))(σ:List (Option V))(H:Hp)(s:AN):Prop where
 ok:X.Ok
 os:s.os=X.s₀.os
 bare:OZ s.gens
 base:Un X.fs X.ex X.H₀ H X.s₀.heap s.heap
 loc:∃m,s.heap.Ns X.env.locals m/\∀(i:Nat) (x:C7) (v:V),X.N[i]?=AA x->σ[i]?=AA (AA v)->eI X.env.scope x->∃u,RelV v u/\yJY X.env s.heap m x u
 cell:∀x c,X.env.cells.lookup x=AA c->∃v,s.heap.IsCell c v
 free:H X.env.locals=AL
 freeC:∀x c,X.env.cells.lookup x=AA c->H c=AL
 pin:∀p∈X.pn++AJ,s.heap.get? p.1=AA p.2/\H p.1=AL/\p.1≠X.env.locals/\p.1∉X.fs/\∀v,p.2.data≠.cell v
 hok:HOk X.prog X.w H s.heap
 len:σ.length=X.N.length
variable{X:Cx}
section
variable{σ:List (Option V)}
theorem Cx.Ok.nofr(ok:X.Ok){o:JF}(e:X.base.get? b=AA o):b∉X.fs:=λhb=>by have:=(ok.funs.mem hb).1;rw[e] at this;cases this
theorem Inv.bs(I:Inv X AJ σ H s):∀b o,X.base.get? b=AA o->s.heap.get? b=AA o/\H b=AL:=λb o e =>
 {I.base.keep b o (I.ok.bs b o e).1 (I.ok.bs b o e).2 (I.ok.nofr e) (I.ok.noex b o e),I.base.free b o (I.ok.bs b o e).1 (I.ok.bs b o e).2 (I.ok.noex b o e)}
theorem Inv.bk(I:Inv X AJ σ H s):∀b o,X.base.get? b=AA o->s.heap.get? b=AA o:=λb o e=>(I.bs b o e).1
theorem Inv.tab(I:Inv X AJ σ H s):∀T q,TB X.K T q->∃ps,H T=AA (.tbl q ps):=λT q b=>by have{ps,e}:=I.ok.tab T q b;have{m,e'}:=I.base.tbls T q ps e;exact{_,e'}
theorem Inv.mod(I:Inv X AJ σ H s):Mod X.K X.mg X.base:=I.ok.mod
theorem Inv.kIn(I:Inv X AJ σ H s):X.K.In s.heap:=I.ok.mod.kin.keeps I.bk
theorem Inv.nolimit(I:Inv X AJ σ H s):s.heap.NoLimit:=I.ok.mod.nolimit.keeps I.bk
theorem Inv.fr(I:Inv X AJ σ H s):∃m,Fr X.base X.env.locals s.heap m :=
 let ⟨m,hn,_⟩:=I.loc
 {m,hn,I.bk,A0 I.ok.bsz I.ok.above}
theorem Inv.lt(I:Inv X AJ σ H s):X.env.locals<s.heap.objs.size:=let ⟨_,hn,_⟩:=I.loc;hn.lt
theorem Inv.sz(I:Inv X AJ σ H s):X.s₀.heap.objs.size<=s.heap.objs.size:=A0 I.ok.above (CS I.lt)
theorem Inv.nofs(I:Inv X AJ σ H s)(h:s.heap.objs.size<=a):a∉X.fs:=λhb=>by have{_,o,ho,_}:=I.ok.funs.mem hb;exact absurd (AO (BB ho) (A0 I.sz h)) (F8 _)
theorem Inv.cne(I:Inv X AJ σ H s):∀x c,X.env.cells.lookup x=AA c->c≠X.env.locals:=λx c e z=>by have{v,o,ho,hd}:=I.cell x c e;have{m,zz',_}:=I.loc;have{o',es,ep,iS,yS,_}:=zz';rw[z,iS] at ho;cases ho;rw[yS] at hd;cases hd
theorem Inv.funs(I:Inv X AJ σ H s):s.heap.FunFrames X.base X.outer:=by
 have all:∀l,(∀b∈bM l,b∈X.fs)->X.s₀.heap.FunFrames X.base l->s.heap.FunFrames X.base l:=by
  intro l;induction l with
  |nil=>intro _ _;trivial
  |cons env r ih=>intro hs hl;have{hk,zz',hr}:=hl;have{L,o,hf,hn,ho,hd}:=zz';have hL:=hs L (by unfold bM;rw[G1,hf];exact AZ);have{sl,e}:=I.base.slot L o ho (I.ok.frf L hL) hL λz=>I.ok.exfs L z hL;exact{hk,{L,_,hf,hn,e,hd},ih (λb hb=>hs b (by unfold bM;rw[G1,hf];exact A2 _ hb)) hr}
 exact all X.outer (λ_ hb=>hb) I.ok.funs
theorem Inv.stack(I:Inv X AJ σ H s):s.heap.FunFrames X.base X.stack:=by
 rcases I.ok.stk with e|⟨e,hf⟩
 .rw[e];exact I.funs
 .rw[e];have{m,hn,_}:=I.loc;refine .cons (by rw[I.ok.kind];decide) hf hn ?_ I.funs;exact bC (A0 I.ok.bsz I.ok.above)
theorem Inv.stkSub(I:Inv X AJ σ H s):∀b∈bM X.stack,b∈X.env.locals::X.fs:=λb hb=>by
 rcases I.ok.stk with e|⟨e,hf⟩
 .rw[e] at hb;exact A2 _ hb
 .rw[e] at hb;unfold bM at hb;rw[G1,hf] at hb;exact hb
theorem Inv.stkFree(I:Inv X AJ σ H s):∀b∈bM X.stack,H b=AL:=λb hb=>by
 rcases A3.mp (I.stkSub b hb) with e|hb
 .rw[e];exact I.free
 .have{_,o,ho,_}:=I.ok.funs.mem hb;exact I.base.free b o ho (I.ok.frf b hb) λz=>I.ok.exfs b z hb
theorem Inv.step{g':Array GenState}{d':Drawn}(I:Inv X AJ σ H s) (iV:∀b∈ch,(b∈X.ex\/X.s₀.heap.objs.size<=b)/\b≠X.env.locals/\(∀x c,X.env.cells.lookup x=AA c->c≠b)/\∀p∈X.pn++AJ,p.1≠b) (keep:∀b o,b≠X.env.locals->b∉X.fs->b∉ch->s.heap.get? b=AA o->H b=AL->h'.get? b=AA o) (slot:∀b o,b≠X.env.locals->b∈X.fs->b∉ch->s.heap.get? b=AA o->H b=AL->∃sl,h'.get? b=AA { o with slots:=sl }) (free:∀b o,b∉ch->s.heap.get? b=AA o->H b=AL->H' b=AL) (there:∀b o,b∉ch->s.heap.get? b=AA o->∃o',h'.get? b=AA o') (tups:∀b xs,H b=AA (.tup xs)->H' b=AA (.tup xs)) (frzs:∀b o u,H b=AA (.frz o u)->H' b=AA (.frz o u)) (tbls:∀b t ps,H b=AA (.tbl t ps)->∃more,H' b=AA (.tbl t (ps++more))) (ns:∀m,s.heap.Ns X.env.locals m->h'.Ns X.env.locals m) (hok:HOk X.prog X.w H' h') (hg:OZ g') : Inv X AJ σ H' { s with heap:=h',gens:=g',drawn:=d',toks:=t' }:=by
 have neL:∀b o,X.s₀.heap.get? b=AA o->b≠X.env.locals:=λb o e=>CC (AO (BB e) I.ok.above);have Dh:∀b o,X.s₀.heap.get? b=AA o->b∉X.ex->b∉ch:=λb o e hx hb=>by
  rcases(iV b hb).1 with z|z
  .exact hx z
  .exact absurd (AO (BB e) z) (F8 _)
 have nG:∀x c,X.env.cells.lookup x=AA c->∀v,s.heap.IsCell c v->h'.IsCell c v:=λx c e v q0=>by
  have{o,ho,hd}:=q0;have xE:=λz=>(iV c z).2.2.1 x c e rfl;by_cases hc:c∈X.fs
  .have{sl,q}:=slot c o (I.cne x c e) hc xE ho (I.freeC x c e);exact{_,q,hd}
  .exact{o,keep c o (I.cne x c e) hc xE ho (I.freeC x c e),hd}
 refine{I.ok,I.os,hg,{λb o e n hb hx=>?_,λb o e n hb hx=>?_,λb o e n hx=>?_,λb o e hx=>?_,λb xs e=>tups b xs (I.base.tups b xs e),λb o xs e=>frzs b o xs (I.base.frzs b o xs e),λb t ps e=>?_},?_,λx c e=>?_,?_,λx c e=>?_,λp hp=>?_,hok,I.len}
 .exact keep b o (neL b o e) hb (Dh b o e hx) (I.base.keep b o e n hb hx) (I.base.free b o e n hx)
 .have{sl,e1}:=I.base.slot b o e n hb hx;have{sl',e2}:=slot b _ (neL b o e) hb (Dh b o e hx) e1 (I.base.free b o e n hx);exact{sl',e2}
 .have{o',e1}:=I.base.there b o e hx;exact free b o' (Dh b o e hx) e1 (I.base.free b o e n hx)
 .have{o',e1}:=I.base.there b o e hx;exact there b o' (Dh b o e hx) e1
 .have{m1,e1}:=I.base.tbls b t ps e;have{m2,e2}:=tbls b t _ e1;exact{m1++m2,by rw[e2,Array.append_assoc]}
 .have{m,hn,hl}:=I.loc;refine{m,ns m hn,λi x v e1 e2 e3=>?_};have{u,r,l}:=hl i x v e1 e2 e3;refine{u,r,?_};rcases l with l|⟨k,c,e,z⟩
  .exact .inl l
  .exact .inr {k,c,e,nG x c e _ z}
 .have{v,z}:=I.cell x c e;exact{v,nG x c e v z}
 .have{m,zz',_}:=I.loc;have{o,_,_,ho,_}:=zz';exact free _ o (λz=>(iV _ z).2.1 rfl) ho I.free
 .have{v,o,ho,hd}:=I.cell x c e;exact free c o (λz=>(iV c z).2.2.1 x c e rfl) ho (I.freeC x c e)
 .have{e,n,ne,nf,d}:=I.pin p hp;have xE:=λz=>(iV p.1 z).2.2.2 p hp rfl;exact{keep p.1 p.2 ne nf xE e n,free p.1 p.2 xE e n,ne,nf,d}
theorem Inv.un(I:Inv X AJ σ H s)(u:Un X.fs [] H H' s.heap h')(hok:HOk X.prog X.w H' h'):Inv X AJ σ H' { s with heap:=h',toks:=t' }:=by
 have{m,zz',_}:=id I.loc;have{o,es,ep,ho,r}:=zz';have{sl,hL}:=u.any ho I.free 'S';exact I.step (ch:=[]) (λ_ z=>nomatch z) (λb o _ hb _ e n=>u.keep b o e n hb 'S') (λb o _ hb _ e n=>u.slot b o e n hb 'S') (λb o _ e n=>u.free b o e n 'S') (λb o _ e=>u.there b o e 'S') u.tups u.frzs u.tbls (λm' hm=>by have{o',bT,nC,iS,r'}:=hm;rw[ho] at iS;cases iS;exact{_,bT,nC,hL,r'}) hok I.bare
theorem Inv.call{g':Array GenState}{d':Drawn}(I:Inv X AJ σ H s)(u:Un (bM X.stack) ch H H' s.heap h')(hok:HOk X.prog X.w H' h')(hg:OZ g') (iV:∀b∈ch,(b∈X.ex\/X.s₀.heap.objs.size<=b)/\b≠X.env.locals/\(∀x c,X.env.cells.lookup x=AA c->c≠b)/\∀p∈X.pn++AJ,p.1≠b) : Inv X AJ σ H' { s with heap:=h',gens:=g',drawn:=d',toks:=t' }:=by
 have{m,zz',_}:=id I.loc;have{o,es,ep,ho,r}:=zz';have{sl,hL}:=u.any ho I.free λz=>(iV _ z).2.1 rfl;exact I.step iV (λb o hL hb hc e n=>u.keep b o e n (λz=>(A3.mp (I.stkSub b z)).elim hL hb) hc) (λb o _ _ hc e n=>u.any e n hc) (λb o hc e n=>u.free b o e n hc) (λb o hc e=>u.there b o e hc) u.tups u.frzs u.tbls (λm' hm=>by have{o',bT,nC,iS,r'}:=hm;rw[ho] at iS;cases iS;exact{_,bT,nC,hL,r'}) hok hg
theorem Inv.turned{it:AV}(I:Inv X AJ σ H s)(k:∀b o,b≠it->s.heap.get? b=AA o->h'.get? b=AA o)(hn:H it=AL)(hL:it≠X.env.locals) (h1:it∈X.ex\/X.s₀.heap.objs.size<=it) (h2:∀x c,X.env.cells.lookup x=AA c->c≠it) (h3:∀p∈X.pn++AJ,p.1≠it):Inv X AJ σ H { s with heap:=h',toks:=t' }:=by
 have xD:∀b u,H b=AA u->b≠it:=λb u e z=>by rw[z,hn] at e;cases e
 refine I.step (ch:=[it]) (λb hb=>?_) (λb o _ _ hc e _=>k b o (λz=>hc (by simp[z])) e) (λb o _ _ hc e _=>{o.slots,k b o (λz=>hc (by simp[z])) e}) (λ_ _ _ _ n=>n)
  (λb o hc e=>{o,k b o (λz=>hc (by simp[z])) e}) (λ_ _ e=>e) (λ_ _ _ e=>e) (λb t ps e=>{#[],by rw[e];simp}) (λm hm=>?_) (λb u e=>?_) I.bare
 .have e:b=it:=by simpa using hb
  subst e;exact{h1,hL,h2,h3}
 .have{o,es,ep,ho,r}:=hm;exact{o,es,ep,k _ o (CT hL) ho,r}
 .refine(I.hok b u e).stay (λc v hc q=>k c v ?_ q) (λ_ q=>q) (λ_ _ q=>q) λ_ _ _ q=>q;rcases hc with z|z
  .rw[z];exact xD b u e
  .exact xD c _ z
theorem Inv.tok(I:Inv X AJ σ H s)(t:Nat):Inv X AJ σ H { s with toks:=t }:=I.un Un.refl I.hok
theorem Inv.kept{t':Nat}(I:Inv X AJ σ H s)(k:∀b u,s.heap.get? b=AA u->h'.get? b=AA u):Inv X AJ σ H { s with heap:=h',toks:=t' }:=I.un (Un.kept k) (I.hok.kept k)
theorem Inv.laid{a:AV}{o:HO}{t':Nat}(I:Inv X AJ σ H s)(k:∀b u,s.heap.get? b=AA u->h'.get? b=AA u)(hp:s.heap.objs.size<=a)(new:ObjOk X.prog X.w (DZ H a o) h' a o) : Inv X AJ σ (DZ H a o) { s with heap:=h',toks:=t' }:=I.un (Un.laid k hp (I.hok.fresh hp)) (I.hok.laid k hp new)
theorem Inv.write{x e:AV}{o:HO}{t':Nat}(I:Inv X AJ σ H s)(mu:wI (H x))(he:e=x\/H e=AA (.own x))(k:∀b u,b≠e->s.heap.get? b=AA u->h'.get? b=AA u)(tP:∃u,h'.get? e=AA u) (new:ObjOk X.prog X.w (DZ H x o) h' x o):Inv X AJ σ (DZ H x o) { s with heap:=h',toks:=t' }:=I.un (Un.write mu he k tP) (I.hok.write mu he k tP new)
theorem Inv.pins_of{mK:List (AV×JF)}(I:Inv X AJ σ H s)(h:∀p∈mK,s.heap.get? p.1=AA p.2/\H p.1=AL/\p.1≠X.env.locals/\p.1∉X.fs/\∀v,p.2.data≠.cell v):Inv X mK σ H s :={I.ok,I.os,I.bare,I.base,I.loc,I.cell,I.free,I.freeC,λp hp=>(BR.mp hp).elim (λz=>I.pin p (FS _ z)) (h p),I.hok,I.len}
theorem Vh(hN:N.Nodup)(a:N[i]?=AA x)(b:N[j]?=AA x):i=j:=by have{h1,e1}:=AH.mp a;have{h2,e2}:=AH.mp b;exact(List.getElem_inj hN).mp (e1.trans e2.symm)
theorem Hu{v:V}{Q:Unit->AN->Prop}(I:Inv X AJ σ H s)(hN:X.N.Nodup)(hi:X.N[i]?=AA x)(hx:Loc X.env.scope x)(r:RelV v u) (h:∀s',Inv X AJ (σ.set i (AA v)) H s'->(∃a,CQ a s.heap s'.heap/\(a=X.env.locals\/X.env.cells.lookup x=AA a))->Q () s') (hf:X.fn x=AQ\/X.env.scope.names.lookup x=AA .local:=by first|exact .inl rfl|exact .inr rfl|assumption):BE M A (storeName X.env x u) Q E s:=by
 have{m,hn,hl}:=id I.loc;have Os:(X.env.scope.kind==.class||(X.env.scope.kind==.module&&X.env.locals != X.env.globals))=AE:=by rw[I.ok.kind];rfl
 have hiσ:i < σ.length:=by rw[I.len];exact(AH.mp hi).1
 have Pk:=I.cne;have V4:∀{a:AV} {h':CN},(∃o,s.heap.get? a=AA o/\H a=AL)->CQ a s.heap h'->HOk X.prog X.w H h':=λ{a h'} ha hs b ob e=>by
  have{_,_,mY}:=ha;refine(I.hok b ob e).stay (λc w' hc q=>(hs.2 c ?_).trans q) (λ_ q=>q) (λ_ _ q=>q) λ_ _ _ q=>q;rintro rfl;rcases hc with rfl|hc
  .rw[mY] at e;cases e
  .rw[mY] at hc;cases hc
 rcases hx with hk|hk
 .refine wpAny_storeName_local hk hn (λh' hn' hs=>?_) Os;have{oL,_,_,iR,_}:=id hn;refine h _ {I.ok,I.os,I.bare,{λb o e n hb hx=>?_,λb o e n hb hx=>?_,I.base.free,λb o e hx=>?_,I.base.tups,I.base.frzs,I.base.tbls},{_,hn',λj y v' e1 e2 e3=>?_},λy c e=>?_,I.free,I.freeC,λp hp=>?_,V4 {oL,iR,I.free} hs,by simpa using I.len} {_,hs,.inl rfl}
  .exact(hs.2 b (CC (AO (BB e) I.ok.above))).trans (I.base.keep b o e n hb hx)
  .have{sl,e1}:=I.base.slot b o e n hb hx;exact{sl,(hs.2 b (CC (AO (BB e) I.ok.above))).trans e1}
  .have{o',e1}:=I.base.there b o e hx;exact{o',(hs.2 b (CC (AO (BB e) I.ok.above))).trans e1}
  .by_cases hj:j=i
   .subst hj;rw[hi] at e1;cases e1;rw[BQ hiσ] at e2;cases e2;exact{u,r,.inl {hk,by simp}}
   .rw[BK (CT hj)] at e2;have{u',r',q}:=hl j y v' e1 e2 e3;refine{u',r',?_};rcases q with⟨k,e⟩|⟨k,c,e,z⟩
    .refine .inl {k,?_};have:y≠x:=λe=>hj (Vh hN e1 (e▸hi));simp[this,e]
    .exact .inr {k,c,e,z.sameBut hs (Pk y c e)}
  .have{w',z}:=I.cell y c e;exact{w',z.sameBut hs (Pk y c e)}
  .have{e,n,ne,nf,d}:=I.pin p hp;exact{(hs.2 p.1 ne).trans e,n,ne,nf,d}
 .have Ol:X.fn x=AQ:=by
   rcases hf with z|z
   .exact z
   .rw[z] at hk;cases hk
  have{c,hc}:=I.ok.has x (.inl hk);have{w',z}:=I.cell x c hc;refine wpAny_storeName_cell I.ok.kind hk hc z (λh' VH hs=>?_);have{oc,kQ,Nt}:=id z;refine h { s with heap:=h' } {I.ok,I.os,I.bare,{λb o e n hb hx=>?_,λb o e n hb hx=>?_,I.base.free,λb o e hx=>?_,I.base.tups,I.base.frzs,I.base.tbls},{m,hn.sameBut hs (CT (Pk x c hc)),λj y v' e1 e2 e3=>?_},λy c' e=>?_,I.free,I.freeC,λp hp=>?_,V4 {oc,kQ,I.freeC x c hc} hs,by simpa using I.len} {c,hs,.inr hc}
  .exact(hs.2 b (CC (AO (BB e) (I.ok.cab x c Ol hc)))).trans (I.base.keep b o e n hb hx)
  .have{sl,e1}:=I.base.slot b o e n hb hx;exact{sl,(hs.2 b (CC (AO (BB e) (I.ok.cab x c Ol hc)))).trans e1}
  .have{o',e1}:=I.base.there b o e hx;exact{o',(hs.2 b (CC (AO (BB e) (I.ok.cab x c Ol hc)))).trans e1}
  .by_cases hj:j=i
   .subst hj;rw[hi] at e1;cases e1;rw[BQ hiσ] at e2;cases e2;exact{u,r,.inr {.inl hk,c,hc,VH}}
   .rw[BK (CT hj)] at e2;have{u',r',q}:=hl j y v' e1 e2 e3;refine{u',r',?_};rcases q with q|⟨k,c',e,z'⟩
    .exact .inl q
    .refine .inr {k,c',e,z'.sameBut hs ?_};rintro rfl;exact hj (Vh hN e1 (I.ok.inj _ _ _ e hc▸hi))
  .by_cases Dw:c'=c
   .subst Dw;exact{_,VH}
   .have{w2,z2}:=I.cell y c' e;exact{w2,z2.sameBut hs Dw}
  .have{e,n,ne,nf,d}:=I.pin p hp;refine{(hs.2 p.1 ?_).trans e,n,ne,nf,d};intro q;rw[q,kQ] at e;have q':=BJ e;exact d w' (by rw[<-q'];exact Nt)
theorem Vg{v:V}{Q:Unit->AN->Prop}(I:Inv X AJ σ H s)(hN:X.N.Nodup)(hi:X.N[i]?=AA x)(hx:Loc X.env.scope x)(r:RelV v u) (h:∀s',Inv X AJ (σ.set i (AA v)) H s'->Q () s') (hf:X.fn x=AQ\/X.env.scope.names.lookup x=AA .local:=by first|exact .inl rfl|exact .inr rfl|assumption):BE M A (storeName X.env x u) Q E s :=Hu I hN hi hx r (λs' I' _=>h s' I') hf
theorem Inv.call'(I:Inv X AJ σ H s)(ho:s'.os=s.os)(u:Un (bM X.stack) ch H H' s.heap s'.heap)(hok:HOk X.prog X.w H' s'.heap)(hg:OZ s'.gens) (iV:∀b∈ch,(b∈X.ex\/X.s₀.heap.objs.size<=b)/\b≠X.env.locals/\(∀x c,X.env.cells.lookup x=AA c->c≠b)/\∀p∈X.pn++AJ,p.1≠b):Inv X AJ σ H' s':=by have{h',g',d',t',o'}:=s';have e:=ho;subst e;exact I.call u hok hg iV
end
abbrev XK:=AI->Option AV->Hp->Prop
abbrev St:=List (Option V)
abbrev VK:=V->Hp->Prop
abbrev TE:=St->Hp->VK->Prop
abbrev TT:=St->Hp->(Bool->Hp->Prop)->Prop
abbrev TA:=St->Hp->(List V->Hp->Prop)->Prop
structure Ends where
 nx:St->Hp->Prop
 rt:VK
 bk:St->Hp->Prop:=λ_ _=>False
 ct:St->Hp->Prop:=λ_ _=>False
abbrev TS:=Ends->St->Hp->Prop
def EP(X:Cx)(AJ:List (AV×JF))(σ:St)(Q:VK)(u:AI)(s':AN):Prop:=∃v H',Inv X AJ σ H' s'/\RelV v u/\Q v H'
def TP(X:Cx)(AJ:List (AV×JF))(σ:St)(Q:Bool->Hp->Prop)(b:Bool)(s':AN):Prop:=∃H',Inv X AJ σ H' s'/\Q b H'
def AP(X:Cx)(AJ:List (AV×JF))(σ:St)(Q:List V->Hp->Prop)(us:List AI)(s':AN):Prop:=∃vs H',Inv X AJ σ H' s'/\Vals vs us/\Q vs H'
def SP(X:Cx)(AJ:List (AV×JF))(D:Ends)(f:Flow)(s':AN):Prop :=
 match f with
 |.next=>∃σ' H',Inv X AJ σ' H' s'/\D.nx σ' H'
 |.brk=>∃σ' H',Inv X AJ σ' H' s'/\D.bk σ' H'
 |.cont=>∃σ' H',Inv X AJ σ' H' s'/\D.ct σ' H'
 |.ret u=>∃v σ' H',Inv X AJ σ' H' s'/\RelV v u/\D.rt v H'
def PE(X:Cx)(e:EU)(t:TE):Prop :=∀(AJ:List (AV×JF)) (s:AN) (σ:St) (H:Hp) (Q:VK),Inv X AJ σ H s->t σ H Q->BE (A9 X.prog X.w) X.A (eval e X.env) (EP X AJ σ Q) X.xe s
def PT(X:Cx)(e:EU)(t:TT):Prop :=∀(AJ:List (AV×JF)) (s:AN) (σ:St) (H:Hp) (Q:Bool->Hp->Prop),Inv X AJ σ H s->t σ H Q->BE (A9 X.prog X.w) X.A (WO e X.env (eval e X.env)) (TP X AJ σ Q) X.xe s
def PW(X:Cx)(e:EU)(t:TT):Prop :=∀(S7:dE AI) (AJ:List (AV×JF)) (s:AN) (σ:St) (H:Hp) (Q:Bool->Hp->Prop),Inv X AJ σ H s->t σ H Q->BE (A9 X.prog X.w) X.A (WO e X.env S7) (TP X AJ σ Q) X.xe s
theorem PW.pt{t:TT}(h:PW X e t):PT X e t:=h _
def PA(X:Cx)(es:List EU)(t:TA):Prop :=∀(pos:Pos) (AJ:List (AV×JF)) (s:AN) (σ:St) (H:Hp) (Q:List V->Hp->Prop),Inv X AJ σ H s->t σ H Q->BE (A9 X.prog X.w) X.A (spliced (EW pos (AW es X.env))) (AP X AJ σ Q) X.xe s
def PS(X:Cx)(st:FP)(t:TS):Prop :=∀(AJ:List (AV×JF)) (s:AN) (σ:St) (H:Hp) (D:Ends),Inv X AJ σ H s->t D σ H->BE (A9 X.prog X.w) X.A (exec st X.env) (SP X AJ D) X.xe s
def PSs(X:Cx)(st:List FP)(t:TS):Prop :=∀(AJ:List (AV×JF)) (s:AN) (σ:St) (H:Hp) (D:Ends),Inv X AJ σ H s->t D σ H->BE (A9 X.prog X.w) X.A (execs st X.env) (SP X AJ D) X.xe s
theorem HE{t:dE α}{Q Q':α->AN->Prop}(h:BE M A t Q E s)(hQ:∀a s,Q a s->Q' a s):BE M A t Q' E s:=DN h hQ λ_ _ x=>x
variable{σ:St}{ta tb:TE}
section
def Jo(i:Nat):TE:=λσ H Q=>∃v,σ[i]?=AA (AA v)/\Q v H
def tC(v:V):TE:=λ_ H Q=>Q v H
theorem oC(hN:X.N[i]?=AA x)(hv:eI X.env.scope x)(hd:(x==("__debug__":C7))=AE:=by decide)(OG:(x==("__classdict__":C7))=AE:=by decide):PE X (.Name x pos) (Jo i):=by
 intro AJ s σ H Q I h;have{v,e,h}:=h;have{m,hn,hl}:=I.loc;have{u,r,l}:=hl i x v hN e hv;have fin:EP X AJ σ Q u s:={v,H,I,r,h};rcases l with⟨hk,hm⟩|⟨hk,c,hc,m7⟩
 .exact wpAny_Name (wpAny_loadName_local I.ok.kind hk hn hm fin) hd
 .rcases hk with hk|hk
  .exact wpAny_Name (wpAny_loadName_cell I.ok.kind hk hc m7 fin) hd
  .exact wpAny_Name (wpAny_loadName_free I.ok.kind hk hc m7 fin OG) hd
theorem VX{i j pos}:PE X (.Constant (.int i) j pos) (tC (.int i)):=λ_ _ _ H _ I h=>wpAny_Constant_int {.int i,H,I.tok _,{_,rfl},h}
theorem wA{b j pos}:PE X (.Constant (.bool b) j pos) (tC (.bl b)):=λ_ _ _ H _ I h=>Constant_bool {.bl b,H,I,rfl,h}
theorem oY{j pos}:PE X (.Constant .none j pos) (tC .non):=λ_ _ _ H _ I h=>Constant_none {.non,H,I,rfl,h}
def Gl(X:Cx)(x:C7):Prop:=X.env.kindOf x=AA .globalImplicit
theorem zZI(I:Inv X AJ σ H s)(hg:Gl X x)(hm:X.mg x=AA u)(h:Q u s) (hd:(x==("__debug__":C7))=AE:=by decide):BE (A9 X.prog X.w) X.A (eval (.Name x pos) X.env) Q E s :=U2 I.ok.kind hg (Calls.loadGlobal_global (by rw[I.ok.glob];exact I.mod.glob.keeps I.bk) hm h) hd
theorem jW(I:Inv X AJ σ H s)(hg:Gl X x)(hm:X.mg x=AL)(hv:H9 x=AA u)(h:Q u s) (hn:x≠"__name__":=by decide) (hd:(x==("__debug__":C7))=AE:=by decide):BE (A9 X.prog X.w) X.A (eval (.Name x pos) X.env) Q E s:=by have{mb,h1,h2}:=I.mod.blt;exact U2 I.ok.kind hg (Calls.loadGlobal_builtin (by rw[I.ok.glob];exact I.mod.glob.keeps I.bk) hm (by rw[I.ok.blt];exact h1.keeps I.bk) ((h2 x hn).trans hv) h) hd
variable{a b:EU}{tA Dc:TT}{rest:List EU}
def yJZ(t u:TT):TT:=λσ H Q=>t σ H λc H1=>if c=AQ then u σ H1 Q else Q AE H1
def tOr(t u:TT):TT:=λσ H Q=>t σ H λc H1=>if c=AQ then Q AQ H1 else u σ H1 Q
def yJ0(t:TT):TT:=λσ H Q=>t σ H λc H1=>Q (!c) H1
theorem zZJ(ha:PT X a tA):PW X (.BoolOp .And [a] pos) tA:=by
 intro wh AJ s σ H Q I h;refine isTrue_and (HE (ha AJ s σ H Q I h) λc s1 e=>?_);cases c with
 |true=>exact isTrue_and_nil e
 |false=>exact e
theorem yDG(ha:PT X a tA):PW X (.BoolOp .Or [a] pos) tA:=by
 intro wh AJ s σ H Q I h;refine isTrue_or (HE (ha AJ s σ H Q I h) λc s1 e=>?_);cases c with
 |false=>exact isTrue_or_nil e
 |true=>exact e
theorem yDH(ha:PT X a tA)(hb:PW X (.BoolOp .And (b::rest) pos) Dc):PW X (.BoolOp .And (a::b::rest) pos) (yJZ tA Dc):=by
 intro wh AJ s σ H Q I h;refine isTrue_and (HE (ha AJ s σ H _ I h) λc s1 ⟨H1,I1,q1⟩=>?_);cases c with
 |true=>exact hb wh AJ s1 σ H1 Q I1 q1
 |false=>exact{H1,I1,q1}
theorem yG0(ha:PT X a tA)(hb:PW X (.BoolOp .Or (b::rest) pos) Dc):PW X (.BoolOp .Or (a::b::rest) pos) (tOr tA Dc):=by
 intro wh AJ s σ H Q I h;refine isTrue_or (HE (ha AJ s σ H _ I h) λc s1 ⟨H1,I1,q1⟩=>?_);cases c with
 |true=>exact{H1,I1,q1}
 |false=>exact hb wh AJ s1 σ H1 Q I1 q1
theorem yDI(ha:PT X a tA):PT X (.UnaryOp .Not a pos) (yJ0 tA):=by intro AJ s σ H Q I h;exact isTrue_not (ha AJ s σ H (λc H1=>Q (!c) H1) I h)
def yJ1(ta tb:TE):TE:=λσ H Q=>ta σ H λx H1=>∃c,x=.bl c/\if c=AQ then Q (.bl AQ) H1 else tb σ H1 Q
theorem yDJ{op}{t:TE}(h:PE X a t):PE X (.BoolOp op [a] pos) t:=λAJ s σ H Q I hw=>BoolOp_one (h AJ s σ H Q I hw)
theorem yG1(ha:PE X a ta)(hb:PE X (.BoolOp .Or (b::rest) pos) tb):PE X (.BoolOp .Or (a::b::rest) pos) (yJ1 ta tb):=by
 intro AJ s σ H Q I h;refine BoolOp_or (HE (ha AJ s σ H _ I h) λv s1 ⟨x,H1,I1,r1,q1⟩=>?_);have{c,rfl,q1}:=q1;cases r1;refine UO ?_;cases c with
 |false=>exact hb AJ s1 σ H1 Q I1 q1
 |true=>exact{.bl AQ,H1,I1,rfl,q1}
def tIf(t:TT)(ta tb:TE):TE:=λσ H Q=>t σ H λc H1=>if c=AQ then ta σ H1 Q else tb σ H1 Q
theorem zVL(hc:PT X c tA)(ha:PE X a ta)(hb:PE X b tb):PE X (.IfExp c a b pos) (tIf tA ta tb):=by
 intro AJ s σ H Q I h;refine wpAny_IfExp (HE (hc AJ s σ H _ I h) λd s1 ⟨H1,I1,q1⟩=>?_);cases d with
 |true=>exact ha AJ s1 σ H1 Q I1 q1
 |false=>exact hb AJ s1 σ H1 Q I1 q1
end
def SqL(K:AC)(H:Hp)(a:AV)(xs:List V):Prop :=Rd H a (.lst xs) \/ ∃(o:JF) (CW:Array AI) (n:Nat),K.lookup a=AA o/\o.cls=.type "list"/\o.dict=AL/\o.data=.seq CW n/\CW.size<=sizeLine/\Vals xs CW.toList
def SqT(K:AC)(H:Hp)(a:AV)(xs:List V):Prop :=Rd H a (.tup xs) \/ ∃(o:JF) (CW:Array AI) (n:Nat),K.lookup a=AA o/\o.cls=.type "tuple"/\o.data=.seq CW n/\CW.size<=sizeLine/\Vals xs CW.toList
noncomputable def yJ2:AI->Option V
 |.none=>AA .non
 |.bool b=>AA (.bl b)
 |.int i _=>AA (.int i)
 |.str x _=>AA (.str x)
 |.bytes b _=>AA (.byt b)
 |.float b _=>AA (.flt b)
 |.ref a=>AA (.ref a)
 |.type n=>AA (.ty n)
 |_=>AL
theorem RelV.abs{x:V}(r:RelV x u):yJ2 u=AA x:=by
 cases x with
 |non=>cases r;rfl
 |bl _=>cases r;rfl
 |int _=>have{t,rfl}:=r;rfl
 |str _=>have{t,rfl}:=r;rfl
 |byt _=>have{t,rfl}:=r;rfl
 |flt _=>have{t,rfl}:=r;rfl
 |ref _=>cases r;rfl
 |ty _=>cases r;rfl
theorem RelV.inj{x y:V}{u:AI}(r:RelV x u)(q:RelV y u):x=y:=BJ (r.abs.symm.trans q.abs)
theorem Vals.inj:∀{xs ys:List V} {us:List AI},Vals xs us->Vals ys us->xs=ys
 |_,_,_,.nil,.nil=>rfl
 |_,_,_,.cons r t,.cons r' t'=>by rw[r.inj r',Vals.inj t t']
variable{xs ys:List V}
theorem SqL.of{K:AC}(h:H a=AA (.lst xs)):SqL K H a xs:=.inl (.inl h)
theorem SqT.of{K:AC}(h:H a=AA (.tup xs)):SqT K H a xs:=.inl (.inl h)
theorem Inv.list(I:Inv X AJ σ H s)(h:SqL X.K H a xs):∃CW:List AI,Vals xs CW/\PlainL s.heap a CW.toArray/\xs.length<=sizeLine:=by
 rcases h with h|⟨o,CW,n,hk,hc,hd,hs,hz,r⟩
 .have{z,CW,n,r,e}:=h.ok I.hok;exact{CW,r,{_,n,e,rfl,rfl,rfl},z}
 .refine{CW.toList,r,{o,n,I.kIn a o hk,hc,hd,by simpa using hs},?_};have e:=r.length;simp only[GZ] at e;exact A0 (DG e) hz
theorem Inv.tuple(I:Inv X AJ σ H s)(h:SqT X.K H a xs):∃CW:List AI,Vals xs CW/\U1 s.heap a CW.toArray/\xs.length<=sizeLine:=by
 rcases h with h|⟨o,CW,n,hk,hc,hs,hz,r⟩
 .have{z,CW,r,p}:=h.ok I.hok;exact{CW,r,p.isTup,z}
 .refine{CW.toList,r,{o,I.kIn a o hk,hc,n,by simpa using hs},?_};have e:=r.length;simp only[GZ] at e;exact A0 (DG e) hz
theorem Inv.list_inj(I:Inv X AJ σ H s)(h:SqL X.K H a xs)(h':SqL X.K H a ys):xs=ys:=by
 have{CW,r,zz',_}:=I.list h;have{o,n,e,_,_,d}:=zz';have{RS,r',zz',_}:=I.list h';have{o',n',e',_,_,d'}:=zz';rw[e] at e';cases e';rw[d] at d';injection d' with d1 _;have:CW=RS:=by simpa using congrArg Array.toList d1
 subst this;exact r.inj r'
theorem Inv.tuple_inj(I:Inv X AJ σ H s)(h:SqT X.K H a xs)(h':SqT X.K H a ys):xs=ys:=by
 have{CW,r,zz',_}:=I.tuple h;have{o,e,_,n,d}:=zz';have{RS,r',zz',_}:=I.tuple h';have{o',e',_,n',d'}:=zz';rw[e] at e';cases e';rw[d] at d';injection d' with d1 _;have:CW=RS:=by simpa using congrArg Array.toList d1
 subst this;exact r.inj r'
abbrev Cx.wish(X:Cx)(E:AI->AN->Prop):Cx:={ X with xe:=E }
abbrev Cx.nox(X:Cx):Cx:=X.wish λ_ _=>False
theorem Cx.Ok.wish{X:Cx}(ok:X.Ok)(E:AI->AN->Prop):(X.wish E).Ok :={ok.tab,ok.mod,ok.kind,ok.glob,ok.blt,ok.above,ok.inj,ok.has,ok.cab,ok.hd,ok.frames,ok.stk,ok.exf,ok.bs,ok.bsz,ok.noex,ok.exfs,ok.funs,ok.frf}
theorem Cx.Ok.unwish(ok:(X.wish E).Ok):X.Ok :={ok.tab,ok.mod,ok.kind,ok.glob,ok.blt,ok.above,ok.inj,ok.has,ok.cab,ok.hd,ok.frames,ok.stk,ok.exf,ok.bs,ok.bsz,ok.noex,ok.exfs,ok.funs,ok.frf}
theorem Inv.wish(I:Inv X AJ σ H s)(E:AI->AN->Prop):Inv (X.wish E) AJ σ H s:={I.ok.wish E,I.os,I.bare,I.base,I.loc,I.cell,I.free,I.freeC,I.pin,I.hok,I.len}
theorem Inv.unwish(I:Inv (X.wish E) AJ σ H s):Inv X AJ σ H s:={I.ok.unwish,I.os,I.bare,I.base,I.loc,I.cell,I.free,I.freeC,I.pin,I.hok,I.len}
theorem SP.unwish{D:Ends}{f:Flow}{s':AN}(h:SP (X.wish E) AJ D f s'):SP X AJ D f s':=by
 cases f with
 |next=>have{σ',H',I,q}:=h;exact{σ',H',I.unwish,q}
 |brk=>have{σ',H',I,q}:=h;exact{σ',H',I.unwish,q}
 |cont=>have{σ',H',I,q}:=h;exact{σ',H',I.unwish,q}
 |ret u=>have{v,σ',H',I,r,q}:=h;exact{v,σ',H',I.unwish,r,q}
theorem PSs.nox{st:List FP}{t:TS}(h:PSs X.nox st t):PSs X st t:=λAJ s σ H D I hw =>
 DN (h AJ s σ H D (I.wish _) hw) (λ_ _ q=>q.unwish) λ_ _ z=>IH z
variable{te:TE}
section
variable{st:FP}{rest:List FP}{t u:TS}
def yG2:TS:=λD σ H=>D.nx σ H
def Ze(t u:TS):TS:=λD σ H=>t { D with nx:=u D } σ H
theorem aN:PSs X [] yG2:=λ_ _ σ H _ I h=>O3 {σ,H,I,h}
theorem cQ(h1:PS X st t)(h2:PSs X rest u):PSs X (st::rest) (Ze t u):=by
 intro AJ s σ H D I h;refine wpAny_execs_cons (HE (h1 AJ s σ H { D with nx:=u D } I h) λf s1 q=>?_);cases f with
 |next=>have{σ',H',I',q}:=q;exact h2 AJ s1 σ' H' D I' q
 |ret v=>exact q
 |brk=>exact q
 |cont=>exact q
theorem j3(h1:PS X st t):PSs X [st] t:=by
 intro AJ s σ H D I h;refine wpAny_execs_cons (HE (h1 AJ s σ H D I h) λf s1 q=>?_);cases f with
 |next=>exact O3 q
 |ret v=>exact q
 |brk=>exact q
 |cont=>exact q
theorem Inv.quiet(I:Inv X AJ σ H s):interactive X.env=AE:=by simp[interactive,I.ok.kind]
def yG3(te:TE):TS:=λD σ H=>te σ H λ_ H1=>D.nx σ H1
theorem vH(he:PE X e te)(hs:J3 e AL pos.line X.env=pure AE:=by rfl):PS X (.Expr e pos) (yG3 te):=by intro AJ s σ H D I h;exact wpAny_Expr_any (HE (he AJ s σ H _ I h) (λv s1 q0=>by have{x,H1,I1,r1,q1}:=q0;exact{σ,H1,I1,q1})) I.quiet hs
def yJ3(te:TE):TS:=λD σ H=>te σ H D.rt
theorem uU(he:PE X e te):PS X (.Return (AA e) pos) (yJ3 te):=by intro AJ s σ H D I h;exact wpAny_Return_some (HE (he AJ s σ H _ I h) (λv s1 q0=>by have{x,H1,I1,r1,q1}:=q0;exact{x,σ,H1,I1,r1,q1}))
def yJ4(c:TT)(t u:TS):TS:=λD σ H=>c σ H λb H1=>if b=AQ then t D σ H1 else u D σ H1
theorem yDK{a b:List FP}{tc:TT}(hc:PT X c tc)(ha:PSs X a t)(hb:PSs X b u):PS X (.If c a b pos) (yJ4 tc t u):=by
 intro AJ s σ H D I h;refine wpAny_If (HE (hc AJ s σ H _ I h) λd s1 ⟨H1,I1,q1⟩=>?_);cases d with
 |true=>exact ha AJ s1 σ H1 D I1 q1
 |false=>exact hb AJ s1 σ H1 D I1 q1
def yDL:TS:=λ_ _ _=>False
theorem eD:PS X st yDL:=λ_ _ _ _ _ _ h=>h.elim
end
abbrev TG:=V->St->Hp->(St->Hp->Prop)->Prop
abbrev mH:=List V->St->Hp->(St->Hp->Prop)->Prop
def PG(X:Cx)(TC:EU)(t:TG):Prop :=∀(AJ:List (AV×JF)) (s:AN) (σ:St) (H:Hp) (v:V) (u:AI) (Q:St->Hp->Prop),Inv X AJ σ H s->RelV v u->t v σ H Q ->BE (A9 X.prog X.w) X.A (N1 TC X.env u) (λ_ s'=>∃σ' H',Inv X AJ σ' H' s'/\Q σ' H') X.xe s
def PGs(X:Cx)(ts:List EU)(t:mH):Prop :=∀(AJ:List (AV×JF)) (s:AN) (σ:St) (H:Hp) (vs:List V) (us:List AI) (Q:St->Hp->Prop),Inv X AJ σ H s->Vals vs us->t vs σ H Q ->BE (A9 X.prog X.w) X.A (assignInOrder ((HA ts X.env).map (·.2)) us) (λ_ s'=>∃σ' H',Inv X AJ σ' H' s'/\Q σ' H') X.xe s
abbrev Jq:=V->V->V->Hp->(Hp->Prop)->Prop
def Zd(X:Cx)(t:Jq):Prop :=∀(AJ:List (AV×JF)) (s:AN) (σ:St) (H:Hp) (o i v:V) (ov iv u:AI) (Q:Hp->Prop),Inv X AJ σ H s->RelV o ov->RelV i iv->RelV v u->t o i v H Q ->BE (A9 X.prog X.w) X.A (setItem ov iv u) (λ_ s'=>∃H',Inv X AJ σ H' s'/\Q H') X.xe s
def lR(i:Nat):TG:=λv σ H Q=>Q (σ.set i (AA v)) H
theorem j2(hN:X.N.Nodup)(hi:X.N[i]?=AA x)(hx:Loc X.env.scope x)(hf:X.fn x=AQ\/X.env.scope.names.lookup x=AA .local:=by first|exact .inl rfl|exact .inr rfl|assumption):PG X (.Name x pos) (lR i):=by intro AJ s σ H v u Q I r h;exact UP (Vg I hN hi hx r (λs' I'=>{_,H,I',h}) hf)
def yJ5:mH:=λvs σ H Q=>vs=[]/\Q σ H
def yG5(t:TG)(u:mH):mH:=λvs σ H Q=>∃v r,vs=v::r/\t v σ H λσ' H'=>u r σ' H' Q
theorem SG:PGs X [] yJ5:=by intro AJ s σ H vs us Q I r h;have{e,h}:=h;subst e;cases r;exact assignInOrder_nil {σ,H,I,h}
theorem oK{t:TG}{u:mH}(h1:PG X e t)(h2:PGs X es u) (hs:(HA (e::es) X.env).map (·.2)=N1 e X.env::(HA es X.env).map (·.2):=by rfl):PGs X (e::es) (yG5 t u):=by
 intro AJ s σ H vs us Q I r h;have{v,vr,e1,h}:=h;subst e1;cases r with
 |cons r rr=>rw[hs];refine assignInOrder_cons (HE (h1 AJ s σ H _ _ _ I r h) λ_ s1 ⟨σ1,H1,I1,q1⟩=>?_);exact h2 AJ s1 σ1 H1 _ _ Q I1 rr q1
def yJ6(K:AC)(n:Nat)(t:mH):TG:=λv σ H Q=>∃a xs,v=.ref a/\SqT K H a xs/\xs.length=n/\t xs σ H Q
theorem Af{t:mH}(hc:X.calm=AQ)(h:PGs X es t) (hn:(HA es X.env).length=n:=by rfl) (RU:(HA es X.env).findIdx? (·.1)=AL:=by rfl):PG X (.Tuple es k pos) (yJ6 X.K n t):=by intro AJ s σ H v u Q I r hw;have{a,xs,e1,hq,hl,hw}:=hw;subst e1;cases r;have{CW,rv,ht,hz}:=I.tuple hq;refine assign_Tuple_tuple (I.ok.hd hc) ht (by simp[hn,<-hl,rv.length]) RU λh' hx=>?_;have I1:=I.kept (t':=s.toks) λb o e=>hx b o (CC (BB e)) e;exact h AJ _ σ H xs _ Q I1 (by simpa using rv) hw
def yJ7(to ti:TE)(t:Jq):TG:=λv σ H Q=>to σ H λo H1=>ti σ H1 λi H2=>t o i v H2 λH3=>Q σ H3
theorem yDM{i:EU}{to ti:TE}{t:Jq}(ho:PE X o to)(hi:PE X i ti)(hs:Zd X t) (ha:∀v,N1 (.Subscript o i pos) X.env v=(do
   let ov <-LC [v] (eval o X.env)
   let iv <-LC [v,ov] (eval i X.env)
   MT pos
   LC [v,ov,iv] (setItem ov iv v)
   release [v,ov,iv] []):=by intro _;rfl):PG X (.Subscript o i pos) (yJ7 to ti t):=by
 intro AJ s σ H v u Q I r h;rw[ha];refine AB (DO (HE (ho AJ s σ H _ I h) λov s1 ⟨x,H1,I1,r1,q1⟩=>?_));refine AB (DO (HE (hi AJ s1 σ H1 _ I1 q1) λiv s2 ⟨y,H2,I2,r2,q2⟩=>?_));refine AB (G8 (AB (DO (HE (hs AJ s2 σ H2 x y v ov iv u _ I2 r1 r2 r q2) λ_ s3 ⟨H3,I3,q3⟩=>?_))));exact wpAny_release {σ,H3,I3,q3}
def r9(te:TE)(g:TG):TS:=λD σ H=>te σ H λx H1=>g x σ H1 D.nx
theorem Fi{g:TG}(he:PE X e te)(hg:PG X tg g)(hs:bY [tg] e pos.line X.env=pure AE:=by rfl)(hw:bZ [tg] e X.env=pure AL:=by rfl) (h1:(HA [tg] X.env).map (·.2)=[N1 tg X.env]:=by rfl):PS X (.Assign [tg] e pos) (r9 te g):=by intro AJ s σ H D I h;refine wpAny_Assign_stores (HE (he AJ s σ H _ I h) λv s1 ⟨x,H1,I1,r1,q1⟩=>?_) hs hw;rw[h1];exact HE (hg AJ s1 σ H1 x v _ I1 r1 q1) λ_ s2 q=>q
theorem rF(hN:X.N.Nodup)(hi:X.N[i]?=AA x)(hx:Loc X.env.scope x)(he:PE X e te)(hs:J3 e (AA (.Name x OU)) pos.line X.env=pure AE:=by rfl)(hf:X.fn x=AQ\/X.env.scope.names.lookup x=AA .local:=by first|exact .inl rfl|exact .inr rfl|assumption) : PS X (.Assign [.Name x OU] e pos) (r9 te (lR i)):=by intro AJ s σ H D I h;refine wpAny_Assign_Name (HE (he AJ s σ H _ I h) λv s1 ⟨y,H1,I1,r1,q1⟩=>?_) hs;exact Vg I1 hN hi hx r1 (λs2 I2=>{_,H1,I2,q1}) hf
def yDN(c:TT)(tb:TS):TS:=λD σ H=>∃W:Nat->St->Hp->Prop,(∃m,W m σ H)/\∀m σ H,W m σ H ->c σ H λb H1=>if b=AQ then ∃N:St->Hp->Prop,(∀σ' H',N σ' H'->∃m',m'<m/\W m' σ' H')/\tb { D with nx:=N,ct:=N,bk:=D.nx } σ H1 else D.nx σ H1
theorem Hi{tc:TT}{tb:TS}(hp:WR (A9 X.prog X.w) X.A X.env X.xe)(hc:PT X c tc)(hb:PSs X body tb):PS X (.While c body [] pos) (yDN tc tb):=by
 intro AJ s σ H D I h;have{W,zz',turn}:=h;have{m0,w0}:=zz';refine wpAny_While (codeAny_whileLoop (λn s'=>∃σ' H',Inv X AJ σ' H' s'/\W n σ' H') ?_ m0 {σ,H,I,w0});intro n s1 zz';have{σ1,H1,I1,w1}:=zz';refine IG hp (HE (hc AJ s1 σ1 H1 _ I1 (turn n σ1 H1 w1)) λb s2 ⟨H2,I2,q2⟩=>?_);cases b with
 |true =>
  have{N,hN,q2}:=q2;rw[if_pos rfl];refine IG hp (HE (hb AJ s2 σ1 H2 _ I2 q2) λf s3 q3=>?_);cases f with
  |next=>have{σ3,H3,I3,n3}:=q3;have{m',hm,w3}:=hN σ3 H3 n3;exact{m',hm,σ3,H3,I3,w3}
  |cont=>have{σ3,H3,I3,n3}:=q3;have{m',hm,w3}:=hN σ3 H3 n3;exact{m',hm,σ3,H3,I3,w3}
  |brk=>exact q3
  |ret v=>exact q3
 |false=>rw[if_neg BH];exact O3 {σ1,H2,I2,q2}
structure It where
 go:Nat->Hp->Prop
 yld:Nat->Hp->V->Hp->Prop
 stop:Nat->Hp->Prop
def FpOk(X:Cx)(AJ:List (AV×JF))(H:Hp)(b:AV):Prop :=H b=AL/\b≠X.env.locals/\b∉X.fs/\(b∈X.ex\/X.s₀.heap.objs.size<=b)/\(∀x c,X.env.cells.lookup x=AA c->c≠b)/\∀p∈X.pn++AJ,p.1≠b
theorem Inv.fpOk(I:Inv X AJ σ H s)(hb:s.heap.objs.size<=b)(hn:H' b=AL):FpOk X AJ H' b:=by
 refine{hn,EN (AO I.lt hb),I.nofs hb,.inr (A0 I.sz hb),λx c e z=>?_,λp hp z=>?_}
 .have{v,q}:=I.cell x c e;exact absurd (AO q.lt (by rw[z];exact hb)) (F8 _)
 .exact absurd (AO (BB (I.pin p hp).1) (by rw[z];exact hb)) (F8 _)
structure Turn(P:CA)(w:DL)(K:AC)(tg:EU)(J:It)(fp:List AV)(it:AV)(tn:Nat->CN->Prop):Prop where
 mem:it∈fp
 obj:∀i h,tn i h->∀b∈fp,∃o,h.get? b=AA o/\∀v,o.data≠.cell v
 keep:∀i h h',tn i h->(∀b∈fp,∀o,h.get? b=AA o->h'.get? b=AA o)->tn i h'
 item:∀(X:Cx),X.prog=P->X.w=w->X.K=K->X.calm=AQ->∀(i:Nat) (AJ:List (AV×JF)) (s:AN) (σ:St) (H:Hp) (E:AI->AN->Prop),Inv X AJ σ H s->(∀b∈fp,FpOk X AJ H b)->tn i s.heap->J.go i H ->
  BE (A9 P w) X.A (M7 (.ref it)) (λr s1=>∃u,r=AA u /\
   BE (A9 P w) X.A (F7 tg (.ref it) u) (λ_ s2=>∃x H',Inv X AJ σ H' s2/\RelV x u/\J.yld i H x H'/\tn (i+1) s2.heap/\∀b∈fp,H' b=AL) E s1) E s
 done:∀(X:Cx),X.prog=P->X.w=w->X.K=K->X.calm=AQ->∀(i:Nat) (AJ:List (AV×JF)) (s:AN) (σ:St) (H:Hp) (E:AI->AN->Prop),Inv X AJ σ H s->(∀b∈fp,FpOk X AJ H b)->tn i s.heap->J.stop i H ->
  BE (A9 P w) X.A (M7 (.ref it)) (λr s1=>r=AL/\Inv X AJ σ H s1) E s
 self:∀(A:GL) (i:Nat) (s:AN) (Q:AI->AN->Prop) (E:AI->AN->Prop),tn i s.heap->Q (.ref it) s->BE (A9 P w) A (NY (.ref it)) Q E s
abbrev TI:=St->Hp->(It->Hp->Prop)->Prop
def PIE(X:Cx)(AJ:List (AV×JF))(σ:St)(tg:EU)(R:It->Hp->Prop)(mN:AI)(s2:AN):Prop :=∃(it:AV) (fp:List AV) (tn:Nat->CN->Prop) (J:It) (H':Hp),mN=.ref it/\Inv X AJ σ H' s2/\Turn X.prog X.w X.K tg J fp it tn/\tn 0 s2.heap/\(∀b∈fp,FpOk X AJ H' b)/\R J H'
def PI(X:Cx)(tg iter:EU)(wi:TI):Prop :=∀(AJ:List (AV×JF)) (s:AN) (σ:St) (H:Hp) (R:It->Hp->Prop),Inv X AJ σ H s->wi σ H R ->BE (A9 X.prog X.w) X.A (eval iter X.env) (λv s1=>BE (A9 X.prog X.w) X.A (NY v) (PIE X AJ σ tg R) X.xe s1) X.xe s
theorem qU{E:AI → AN → Prop}{it:AV}{o:JF}{n:String}{vs:Array AI}{Q:Unit → AN → Prop}(ho : s.heap.get? it = AA o)(hc : o.cls = .type n)(hd : o.data = .fields vs) (hn : ["enumerate", "zip", "dict_itemiterator", "dict_reverseitemiterator", "odict_iterator", "itertools.zip_longest", "itertools.pairwise"].contains n = AE) (hQ : Q () s) : BE M A (F7 tg (.ref it) u) Q E s := by
  unfold F7;cases tg <;> first
    | exact wpAny_pure hQ
    | (cases u <;> first
        | exact wpAny_pure hQ
        | (
          refine AB (ZV ho ?_);rw [hc, hd];show BE M A (if (["enumerate", "zip", "dict_itemiterator", "dict_reverseitemiterator", "odict_iterator", "itertools.zip_longest", "itertools.pairwise"].contains n && vs[0]? == AA (DR _)) = AQ then _ else _) Q E s;rw [if_neg (by intro h; rw [hn, Bool.false_and] at h; cases h)];exact wpAny_pure hQ))
noncomputable def sS(K:AC)(a:AV):It :={λi H=>∃xs x,SqL K H a xs/\xs[i]?=AA x,λi H x H'=>H'=H/\∀xs,SqL K H a xs->xs[i]?=AA x,λi H=>∃xs,SqL K H a xs/\xs.length<=i}
noncomputable def sQ(K:AC)(a:AV):It :={λi H=>∃xs x,SqT K H a xs/\xs[i]?=AA x,λi H x H'=>H'=H/\∀xs,SqT K H a xs->xs[i]?=AA x,λi H=>∃xs,SqT K H a xs/\xs.length<=i}
noncomputable def sR(lo:Int)(n:Nat):It:={λi _=>i<n,λi H x H'=>H'=H/\x=.int (lo+i),λi _=>n<=i}
theorem zRS{K:AC}(a it:AV):Turn P w K tg (sS K a) [it] it (λi h=>h.IsListIter it a i) where
 mem:=by simp
 obj:=λi h st b hb=>by
  have e:b=it:=by simpa using hb
  subst e;have{o,e,c,d}:=st;exact{o,e,λv z=>by rw[d] at z;cases z}
 keep:=λi h h' st k=>st.at λo e=>k it 'S' o e
 item:=by intro X hP hw hK hc i AJ s σ H E I hf st hg;subst hP hw hK;have{xs,x,hq,hx}:=hg;have{CW,rv,p,hz}:=I.list hq;have{u,hu,ru}:=rv.get hx;have{f0,f1,f2,f3,f4,f5}:=hf it 'S';refine wpAny_pyNext_list_item st p.isList (by simpa using hu) λh' C5 sb=>?_;have I1:Inv X AJ σ H { s with heap:=h' }:=I.turned (λb o hb e=>(sb.2 b hb).trans e) f0 f1 f3 f4 f5;have{o,e,c,d}:=id C5;exact{u,rfl,qU e c d 'D' {x,H,I1,ru,{rfl,λys hy=>by rw[I.list_inj hy hq];exact hx},C5,λb hb=>(hf b hb).1}}
 done:=by intro X hP hw hK hc i AJ s σ H E I hf st hg;subst hP hw hK;have{xs,hq,hx}:=hg;have{CW,rv,p,hz}:=I.list hq;have{f0,f1,f2,f3,f4,f5}:=hf it 'S';have hl:=rv.length;exact wpAny_pyNext_list_end (I.ok.hd hc) st p.isList (by simp;lia) λh' eb=>{rfl,I.turned (λb o hb e=>eb b o hb e) f0 f1 f3 f4 f5}
 self:=λ_ _ _ _ _ st h=>wpAny_pyIter_listiter st h
theorem zQO{K:AC}(a it:AV):Turn P w K tg (sQ K a) [it] it (λi h=>h.IsTupleIter it a i) where
 mem:=by simp
 obj:=λi h st b hb=>by
  have e:b=it:=by simpa using hb
  subst e;have{o,e,c,d}:=st;exact{o,e,λv z=>by rw[d] at z;cases z}
 keep:=λi h h' st k=>st.at λo e=>k it 'S' o e
 item:=by intro X hP hw hK hc i AJ s σ H E I hf st hg;subst hP hw hK;have{xs,x,hq,hx}:=hg;have{CW,rv,p,hz}:=I.tuple hq;have{u,hu,ru}:=rv.get hx;have{f0,f1,f2,f3,f4,f5}:=hf it 'S';refine wpAny_pyNext_tuple_item st (p) (by simpa using hu) λh' C5 sb=>?_;have I1:Inv X AJ σ H { s with heap:=h' }:=I.turned (λb o hb e=>(sb.2 b hb).trans e) f0 f1 f3 f4 f5;have{o,e,c,d}:=id C5;exact{u,rfl,qU e c d 'D' {x,H,I1,ru,{rfl,λys hy=>by rw[I.tuple_inj hy hq];exact hx},C5,λb hb=>(hf b hb).1}}
 done:=by intro X hP hw hK hc i AJ s σ H E I hf st hg;subst hP hw hK;have{xs,hq,hx}:=hg;have{CW,rv,p,hz}:=I.tuple hq;have{f0,f1,f2,f3,f4,f5}:=hf it 'S';have hl:=rv.length;exact wpAny_pyNext_tuple_end (I.ok.hd hc) st (p) (by simp;lia) λh' eb=>{rfl,I.turned (λb o hb e=>eb b o hb e) f0 f1 f3 f4 f5}
 self:=λ_ _ _ _ _ st h=>wpAny_pyIter_tupleiter st h
theorem zQP{K:AC}(it:AV)(lo:Int)(n:Nat):Turn P w K tg (sR lo n) [it] it (λi h=>lE h it (lo+(i:Nat) * 1) ((n:Int)-(i:Nat)) 1) where
 mem:=by simp
 obj:=λi h st b hb=>by
  have e:b=it:=by simpa using hb
  subst e;exact{_,st,λv z=>by have z':=z;cases z'}
 keep:=λi h h' st k=>k it 'S' _ st
 item:=by intro X hP hw hK hc i AJ s σ H E I hf st hg;subst hP hw hK;have{f0,f1,f2,f3,f4,f5}:=hf it 'S';have W:=Walks.range (prog:=X.prog) (w:=X.w) (I.ok.hd hc) it lo 1 n;refine W.item i s _ _ hg st λv h' tk hv C5 kk=>?_;have{t,rfl}:=hv;have I1:Inv X AJ σ H { s with heap:=h',toks:=tk }:=I.turned (λb o hb e=>kk b o (by simpa using hb) e) f0 f1 f3 f4 f5;refine{_,rfl,qU C5 rfl rfl 'D' {.int (lo+i),H,I1,{t,?_},{rfl,rfl},C5,λb hb=>(hf b hb).1}};rw[Int.mul_one]
 done:=by intro X hP hw hK hc i AJ s σ H E I hf st hg;subst hP hw hK;have{f0,f1,f2,f3,f4,f5}:=hf it 'S';exact gA (I.ok.hd hc) st (by have:n<=i:=hg;lia) λh' eb=>{rfl,I.turned (λb o hb e=>eb b o hb e) f0 f1 f3 f4 f5}
 self:=λ_ _ _ _ _ st h=>OW st h
def yG6(K:AC)(tl:TE):TI:=λσ H R=>tl σ H λx H1=>∃a,x=.ref a/\(∃xs,SqL K H1 a xs)/\R (sS K a) H1
def yJ8(K:AC)(tl:TE):TI:=λσ H R=>tl σ H λx H1=>∃a,x=.ref a/\(∃xs,SqT K H1 a xs)/\R (sQ K a) H1
theorem Ti{l:EU}{tl:TE}(hl:PE X l tl):PI X tg l (yG6 X.K tl):=by
 intro AJ s σ H R I h;refine HE (hl AJ s σ H _ I h) λv s1 q0=>?_;have{x,H1,I1,r1,q1}:=q0;have{a,e,zz',q}:=q1;have{xs,hq}:=zz';subst e;cases r1;have{CW,rv,p,hz}:=I1.list hq;refine KI p.isList ?_;refine{s1.heap.objs.size,[s1.heap.objs.size],_,_,H1,rfl,I1.kept λb o e=>AF _ e,zRS a _,{_,AT _ rfl,rfl,rfl},λb hb=>?_,q};have e:b=s1.heap.objs.size:=by simpa using hb
 subst e;exact I1.fpOk (AM _) (I1.hok.fresh (AM _))
theorem Qz{l:EU}{tl:TE}(hl:PE X l tl):PI X tg l (yJ8 X.K tl):=by
 intro AJ s σ H R I h;refine HE (hl AJ s σ H _ I h) λv s1 q0=>?_;have{x,H1,I1,r1,q1}:=q0;have{a,e,zz',q}:=q1;have{xs,hq}:=zz';subst e;cases r1;have{CW,rv,p,hz}:=I1.tuple hq;refine HX (p) ?_;refine{s1.heap.objs.size,[s1.heap.objs.size],_,_,H1,rfl,I1.kept λb o e=>AF _ e,zQO a _,{_,AT _ rfl,rfl,rfl},λb hb=>?_,q};have e:b=s1.heap.objs.size:=by simpa using hb
 subst e;exact I1.fpOk (AM _) (I1.hok.fresh (AM _))
theorem Vf{R:It->Hp->Prop}{lo hi:Int}{t u v:k8}{tk:Nat}(I:Inv X AJ σ H s)(h1:-(2 ^ 62)<=lo)(h2:lo<2 ^ 62)(h3:-(2 ^ 62)<=hi)(h4:hi<2 ^ 62) (q:R (sR lo (hi-lo).toNat) H):BE (A9 X.prog X.w) X.A (NY (.ref s.heap.objs.size)) (PIE X AJ σ tg R) E { s with heap:=s.heap.push { cls:=.type "range",data:=.fields #[.int lo t,.int hi u,.int 1 v] },toks:=tk }:=by
 refine wpAny_pyIter_range (IsRange.new ..) (small_one h1 h2 h3 h4) ?_;have I1:Inv X AJ σ H { s with heap:=s.heap.push { cls:=.type "range",data:=.fields #[.int lo t,.int hi u,.int 1 v] },toks:=tk }:=I.kept λb o e=>AF _ e;refine{(s.heap.push { cls:=.type "range",data:=.fields #[.int lo t,.int hi u,.int 1 v] }).objs.size,[(s.heap.push { cls:=.type "range",data:=.fields #[.int lo t,.int hi u,.int 1 v] }).objs.size],_,_,H,rfl,
  I1.kept λb o e=>AF _ e,zQP _ lo (hi-lo).toNat,?_,λb hb=>?_,q}
 .have e1:lo+((0:Nat):Int) * 1=lo:=by simp
  have e2:(((hi-lo).toNat:Nat):Int)-((0:Nat):Int)=RL lo hi 1:=by rw[b8];split<;>lia
  rw[e1,e2];exact AT _ rfl
 .have e:b=(s.heap.push { cls:=.type "range",data:=.fields #[.int lo t,.int hi u,.int 1 v] }).objs.size:=by simpa using hb
  subst e;exact I1.fpOk (AM _) (I1.hok.fresh (AM _))
def yG7(ta:TA):TI:=λσ H R=>ta σ H λvs H1=>∃j:Int,vs=[.int j]/\-(2 ^ 62)<=j/\j<2 ^ 62/\R (sR 0 j.toNat) H1
def yG8(ta:TA):TI:=λσ H R=>ta σ H λvs H1=>∃i j:Int,vs=[.int i,.int j]/\(-(2 ^ 62)<=i/\i<2 ^ 62/\-(2 ^ 62)<=j/\j<2 ^ 62)/\R (sR i (j-i).toNat) H1
theorem Ht{a:EU}{ta:TA}(hg:Gl X "range")(hm:X.mg "range"=AL)(ha:PA X [a] ta)(hs:AW [a] X.env=[(AE,eval a X.env)]:=by rfl):PI X tg (.Call (.Name "range" p) [a] [] pos) (yG7 ta):=by
 intro AJ s σ H R I h;refine Call_ (jW I hg hm boot_range (D9 (HE (ha pos AJ s σ H _ I h) λus s1 ⟨vs,H1,I1,r1,q1⟩=>?_) hs rfl));have{j,e,q1,q2,q}:=q1;subst e;cases r1 with
 |cons r rr=>cases rr;have{t,rfl}:=r;exact call_range_1 (Vf I1 'L' 'L' q1 q2 (by simpa using q))
theorem zRU{a b:EU}{ta:TA}(hg:Gl X "range")(hm:X.mg "range"=AL)(ha:PA X [a,b] ta)(hs:AW [a,b] X.env=[(AE,eval a X.env),(AE,eval b X.env)]:=by rfl)(M2:AW [b] X.env=[(AE,eval b X.env)]:=by rfl) : PI X tg (.Call (.Name "range" p) [a,b] [] pos) (yG8 ta):=by
 intro AJ s σ H R I h;refine Call_ (jW I hg hm boot_range (D9 (HE (ha pos AJ s σ H _ I h) λus s1 ⟨vs,H1,I1,r1,q1⟩=>?_) (by rw[hs,M2]) (by rw[M2];rfl)));have{i,j,e,zz',q}:=q1;have{q1,q2,q3,q4}:=zz';subst e;cases r1 with
 |cons r rr =>
  cases rr with
  |cons r' rr=>cases rr;have{t,rfl}:=r;have{t',rfl}:=r';exact call_range_2 (Vf I1 q1 q2 q3 q4 q)
def yJ9(wi:TI)(g:TG)(tb:TS):TS:=λD σ H=>wi σ H λJ H1=>∃W:Nat->Nat->St->Hp->Prop,(∃m,W 0 m σ H1)/\∀i m σ H,W i m σ H ->(J.stop i H/\D.nx σ H)\/(J.go i H/\∃N:St->Hp->Prop,(∀σ' H',N σ' H'->∃m',m'<m/\W (i+1) m' σ' H')/\∀x H',J.yld i H x H'->g x σ H' λσ2 H2=>tb { D with nx:=N,ct:=N,bk:=D.nx } σ2 H2)
noncomputable def uT(fp:List AV)(h:CN):List (AV×JF):=fp.filterMap λb=>(h.get? b).map λo=>(b,o)
theorem Bo{o:JF}(hb:b∈fp)(e:h.get? b=AA o):(b,o)∈uT fp h:=LZ.mpr {b,hb,by rw[e];rfl}
theorem zRV{p:AV×JF}(hp:p∈uT fp h):p.1∈fp/\h.get? p.1=AA p.2:=by
 have{b,hb,e}:=LZ.mp hp;cases q:h.get? b with
 |none=>rw[q] at e;cases e
 |some o=>rw[q] at e;have e':=BJ e;subst e';exact{hb,q}
theorem Inv.pinned(I:Inv X AJ σ H s)(hf:∀b∈fp,FpOk X AJ H b)(ho:∀b∈fp,∃o,s.heap.get? b=AA o/\∀v,o.data≠.cell v):Inv X (AJ++uT fp s.heap) σ H s :=I.pins_of λp hp=>(BR.mp hp).elim (λz=>I.pin p (CJ _ z)) λz=>by have{hb,e}:=zRV z;have{f0,f1,f2,_}:=hf p.1 hb;have{o,e',d}:=ho p.1 hb;rw[e] at e';cases e';exact{e,f0,f1,f2,d}
theorem Inv.unpinned{pl:List (AV×JF)}(I:Inv X (AJ++pl) σ H s):Inv X AJ σ H s:=I.pins_of λp hp=>I.pin p (CJ _ (FS _ hp))
theorem Ae{iter:EU}{wi:TI}{g:TG}{tb:TS}(hp:WR (A9 X.prog X.w) X.A X.env X.xe)(hc:X.calm=AQ)(hi:PI X tg iter wi)(hg:PG X tg g)(hb:PSs X body tb) (hs:∀x,DK iter X.env x=pure x:=by intro _;rfl):PS X (.For tg iter body [] pos) (yJ9 wi g tb):=by
 intro AJ s σ H D I h;refine wpAny_For (HE (hi AJ s σ H _ I h) λv s1 h1=>HE h1 λmN s2 h2=>?_) hs;have{it,fp,tn,J,H2,e,I2,T,st2,f2,W,zz',turn}:=h2;have{m0,w0}:=zz';subst e
 -- what stays AQ of the iterator's objects through the pL
 have V8:∀{H':Hp},(∀b∈fp,H' b=AL)->∀b∈fp,FpOk X AJ H' b:=λhn b hb=>{hn b hb,(f2 b hb).2};refine codeAny_forLoop_any (λn s'=>∃i σ' H',Inv X AJ σ' H' s'/\tn i s'.heap/\(∀b∈fp,H' b=AL)/\W i n σ' H') ?_ m0 {0,σ,H2,I2,st2,λb hb=>(f2 b hb).1,w0};intro n s3 zz';have{i,σ3,H3,I3,KY,yZ,w3}:=zz';rcases turn i n σ3 H3 w3 with⟨stop,qn⟩|⟨go,N,hN,step⟩
 .refine IG hp (HE (T.done X rfl rfl rfl hc i AJ s3 σ3 H3 X.xe I3 (V8 yZ) KY stop) λr s4 ⟨hr,I4⟩=>?_);subst hr;exact O3 {σ3,H3,I4,qn}
 .refine IG hp (HE (T.item X rfl rfl rfl hc i AJ s3 σ3 H3 X.xe I3 (V8 yZ) KY go) λr s4 ⟨u,hr,h4⟩=>?_);subst hr;refine IG hp (HE h4 λ_ s5 ⟨x,H5,I5,r5,y5,kH,Oz⟩=>?_);have Ps:=I5.pinned (V8 Oz) (T.obj _ _ kH);refine IG hp (HE (hg _ s5 σ3 H5 x u _ Ps r5 (step x H5 y5)) λ_ s6 ⟨σ6,H6,I6,q6⟩=>?_);refine IG hp (HE (hb _ s6 σ6 H6 _ I6 q6) λf s7 q7=>?_);have Z2:∀{σ7:St} {H7:Hp},Inv X (AJ++uT fp s5.heap) σ7 H7 s7->N σ7 H7->∃m,m<n/\∃i σ' H',Inv X AJ σ' H' s7/\tn i s7.heap/\(∀b∈fp,H' b=AL)/\W i m σ' H':=λ{σ7 H7} I7 n7=>by have{m',hm,w7}:=hN σ7 H7 n7;refine{m',hm,i+1,σ7,H7,I7.unpinned,T.keep _ _ _ kH λb hb o e=>(I7.pin (b,o) (CJ _ (CJ _ (Bo hb e)))).1,λb hb=>?_,w7};have{o,e,d}:=T.obj _ _ kH b hb;exact(I7.pin (b,o) (CJ _ (CJ _ (Bo hb e)))).2.1
  cases f with
  |next=>have{σ7,H7,I7,n7}:=q7;exact Z2 I7 n7
  |cont=>have{σ7,H7,I7,n7}:=q7;exact Z2 I7 n7
  |brk=>have{σ7,H7,I7,q7}:=q7;exact{σ7,H7,I7.unpinned,q7}
  |ret v=>have{x7,σ7,H7,I7,r7,q7}:=q7;exact{x7,σ7,H7,I7.unpinned,r7,q7}
variable{D:Ends}
theorem yGM{K:AC}{g:TG}{tb:TS}(Pv:Nat->St->Hp->Prop)(h0:Pv 0 σ H)(hl:∀i σ H,i<=xs.length->Pv i σ H->SqL K H a xs) (hs:∀i x σ H,xs[i]?=AA x->Pv i σ H->g x σ H λσ2 H2=>tb { D with nx:=Pv (i+1),ct:=Pv (i+1),bk:=D.nx } σ2 H2) (hd:∀σ H,Pv xs.length σ H->D.nx σ H) : ∃W:Nat->Nat->St->Hp->Prop,(∃m,W 0 m σ H)/\∀i m σ H,W i m σ H ->((sS K a).stop i H/\D.nx σ H)\/((sS K a).go i H/\∃N:St->Hp->Prop,(∀σ' H',N σ' H'->∃m',m'<m/\W (i+1) m' σ' H')/\∀x H',(sS K a).yld i H x H'->g x σ H' λσ2 H2=>tb { D with nx:=N,ct:=N,bk:=D.nx } σ2 H2):=by
 refine{λi m σ H=>m=xs.length-i/\i<=xs.length/\Pv i σ H,{xs.length,by simp,BN _,h0},?_};intro i m σ H zz';have{rfl,hi,p}:=zz';have q:=hl i σ H hi p;by_cases IS:i<xs.length
 .refine .inr {{xs,xs[i],q,by simp[IS]},Pv (i+1),λσ' H' p'=>{xs.length-(i+1),by lia,rfl,IS,p'},λx H' y=>?_};have{e,y}:=y;subst e;exact hs i x σ _ (y xs q) p
 .have e:i=xs.length:=by lia
  subst e;exact .inl {{xs,q,AM _},hd σ H p}
theorem zZK{K:AC}{g:TG}{tb:TS}(Pv:Nat->St->Hp->Prop)(h0:Pv 0 σ H)(hl:∀i σ H,i<=xs.length->Pv i σ H->SqT K H a xs) (hs:∀i x σ H,xs[i]?=AA x->Pv i σ H->g x σ H λσ2 H2=>tb { D with nx:=Pv (i+1),ct:=Pv (i+1),bk:=D.nx } σ2 H2) (hd:∀σ H,Pv xs.length σ H->D.nx σ H) : ∃W:Nat->Nat->St->Hp->Prop,(∃m,W 0 m σ H)/\∀i m σ H,W i m σ H ->((sQ K a).stop i H/\D.nx σ H)\/((sQ K a).go i H/\∃N:St->Hp->Prop,(∀σ' H',N σ' H'->∃m',m'<m/\W (i+1) m' σ' H')/\∀x H',(sQ K a).yld i H x H'->g x σ H' λσ2 H2=>tb { D with nx:=N,ct:=N,bk:=D.nx } σ2 H2):=by
 refine{λi m σ H=>m=xs.length-i/\i<=xs.length/\Pv i σ H,{xs.length,by simp,BN _,h0},?_};intro i m σ H zz';have{rfl,hi,p}:=zz';have q:=hl i σ H hi p;by_cases IS:i<xs.length
 .refine .inr {{xs,xs[i],q,by simp[IS]},Pv (i+1),λσ' H' p'=>{xs.length-(i+1),by lia,rfl,IS,p'},λx H' y=>?_};have{e,y}:=y;subst e;exact hs i x σ _ (y xs q) p
 .have e:i=xs.length:=by lia
  subst e;exact .inl {{xs,q,AM _},hd σ H p}
abbrev R2:=V->V->Hp->VK->Prop
def OpR(X:Cx)(f:AI->AI->dE AI)(r:R2):Prop :=∀(AJ:List (AV×JF)) (s:AN) (σ:St) (H:Hp) (x y:V) (v u:AI) (Q:VK),Inv X AJ σ H s->RelV x v->RelV y u->r x y H Q ->BE (A9 X.prog X.w) X.A (f v u) (EP X AJ σ Q) X.xe s
def Cz(X:Cx)(f:AI->dE AI)(r:V->Hp->VK->Prop):Prop :=∀(AJ:List (AV×JF)) (s:AN) (σ:St) (H:Hp) (x:V) (v:AI) (Q:VK),Inv X AJ σ H s->RelV x v->r x H Q ->BE (A9 X.prog X.w) X.A (f v) (EP X AJ σ Q) X.xe s
def CallR(X:Cx)(f:AI)(r:List V->Hp->VK->Prop):Prop :=∀(AJ:List (AV×JF)) (s:AN) (σ:St) (H:Hp) (xs:List V) (us:List AI) (Q:VK),Inv X AJ σ H s->Vals xs us->r xs H Q ->BE (A9 X.prog X.w) X.A (call f us) (EP X AJ σ Q) X.xe s
def yKA(X:Cx)(r:V->Hp->(Bool->Hp->Prop)->Prop):Prop :=∀(AJ:List (AV×JF)) (s:AN) (σ:St) (H:Hp) (x:V) (v:AI) (Q:Bool->Hp->Prop),Inv X AJ σ H s->RelV x v->r x H Q ->BE (A9 X.prog X.w) X.A (truthy v) (TP X AJ σ Q) X.xe s
def v9(r:R2)(ta tb:TE):TE:=λσ H Q=>ta σ H λx H1=>tb σ H1 λy H2=>r x y H2 Q
def tUn(r:V->Hp->VK->Prop)(ta:TE):TE:=λσ H Q=>ta σ H λx H1=>r x H1 Q
def rI(C:Int->Int->Prop)(g:Int->Int->V):R2:=λx y H Q=>∃i j,x=.int i/\y=.int j/\C i j/\Q (g i j) H
def eC(g:Int->Int->V):R2:=λx y H Q=>∃i j,x=.int i/\y=.int j/\Q (g i j) H
def rU(g:Int->V):V->Hp->VK->Prop:=λx H Q=>∃i,x=.int i/\Q (g i) H
section
variable{a b:EU}{tc:TE}
theorem Jp(ha:PE X a ta)(hb:PE X b tb){R:V->V->Hp->Prop}(I:Inv X AJ σ H s) (h:ta σ H λx H1=>tb σ H1 λy H2=>R x y H2) {Q:AI->AN->Prop} {f:AI->AI->dE AI} (hf:∀v u s2 x y H2,Inv X AJ σ H2 s2->RelV x v->RelV y u->R x y H2->BE (A9 X.prog X.w) X.A (f v u) Q X.xe s2) : BE (A9 X.prog X.w) X.A (eval a X.env) (λv EO=>BE (A9 X.prog X.w) X.A (eval b X.env) (λu MN=>BE (A9 X.prog X.w) X.A (f v u) Q X.xe MN) X.xe EO) X.xe s:=by refine HE (ha AJ s σ H _ I h) λv s1 q0=>?_;have{x,H1,I1,r1,q1}:=q0;refine HE (hb AJ s1 σ H1 _ I1 q1) λu s2 q0=>?_;have{y,H2,I2,r2,q2}:=q0;exact hf v u s2 x y H2 I2 r1 r2 q2
theorem yDO{op:Operator}{r:R2}(ho:OpR X (HI op) r)(ha:PE X a ta)(hb:PE X b tb):PE X (.BinOp a op b pos) (v9 r ta tb):=by intro AJ s σ H Q I h;exact wpAny_BinOp (Jp ha hb I h λv u s2 x y H2 I2 rx ry q=>ho AJ s2 σ H2 x y v u Q I2 rx ry q)
theorem Ek{op:UnaryOp}{r:V->Hp->VK->Prop}(ho:Cz X (unaryOp op) r)(ha:PE X a ta):PE X (.UnaryOp op a pos) (tUn r ta):=by intro AJ s σ H Q I h;exact UnaryOp_ (HE (ha AJ s σ H _ I h) (λv s1 q0=>by have{x,H1,I1,r1,q1}:=q0;exact ho AJ s1 σ H1 x v Q I1 r1 q1))
theorem Cp{C:Int->Int->Prop}{g:Int->Int->Int} (rule:∀(i j:Int) (t u:k8) (s:AN) (Q:AI->AN->Prop) (E:AI->AN->Prop),C i j->Q (.int (g i j) s.toks) { s with toks:=s.toks+1 }->BE (A9 X.prog X.w) X.A (f (.int i t) (.int j u)) Q E s) : OpR X f (rI C λi j=>.int (g i j)):=by intro AJ s σ H x y v u Q I rx ry h;have{i,j,rfl,rfl,hc,q}:=h;have{t,rfl}:=rx;have{t',rfl}:=ry;exact rule i j t t' s _ _ hc {.int (g i j),H,I.tok _,{_,rfl},q}
theorem Zn{g:Int->Int->Int} (rule:∀(i j:Int) (t u:k8) (s:AN) (Q:AI->AN->Prop) (E:AI->AN->Prop),Q (.int (g i j) s.toks) { s with toks:=s.toks+1 }->BE (A9 X.prog X.w) X.A (f (.int i t) (.int j u)) Q E s) : OpR X f (eC λi j=>.int (g i j)):=by intro AJ s σ H x y v u Q I rx ry h;have{i,j,rfl,rfl,q}:=h;have{t,rfl}:=rx;have{t',rfl}:=ry;exact rule i j t t' s _ _ {.int (g i j),H,I.tok _,{_,rfl},q}
theorem Jm{g:Int->Int->Bool} (rule:∀(i j:Int) (t u:k8) (s:AN) (Q:AI->AN->Prop) (E:AI->AN->Prop),Q (.bool (g i j)) s->BE (A9 X.prog X.w) X.A (f (.int i t) (.int j u)) Q E s) : OpR X f (eC λi j=>.bl (g i j)):=by intro AJ s σ H x y v u Q I rx ry h;have{i,j,rfl,rfl,q}:=h;have{t,rfl}:=rx;have{t',rfl}:=ry;exact rule i j t t' s _ _ {.bl (g i j),H,I,rfl,q}
def Zm(i j:Int):Prop:=0<=j/\j<=1000000/\i.natAbs<2 ^ 64
def CMul(i j:Int):Prop:=(-(2 ^ 64)<i/\i<2 ^ 64)\/(-(2 ^ 64)<j/\j<2 ^ 64)
theorem CMul.ok{i j:Int}(h:CMul i j):IntMulOk i j:=by
 rcases h with⟨h1,h2⟩|⟨h1,h2⟩
 .exact .of_left (intBits_le_64 h1 h2)
 .exact .of_right (intBits_le_64 h1 h2)
theorem oZ:OpR X (HI .Add) (eC λi j=>.int (i+j)):=Zn λ_ _ _ _ _ _ _ q=>add_int q
theorem yDP:OpR X (HI .Sub) (eC λi j=>.int (i-j)):=Zn λ_ _ _ _ _ _ _ q=>sub_int q
theorem yDQ:OpR X (HI .Mult) (rI CMul λi j=>.int (i * j)):=Cp λ_ _ _ _ _ _ _ hc q=>mul_int q hc.ok
theorem yDR:OpR X (HI .Mod) (rI (λ_ j=>0<j) λi j=>.int (i % j)):=Cp λi j _ _ _ _ _ hc q=>by have h1:=hc;exact mod_int' (Int.ne_of_gt hc) (by rw[Int.fmod_eq_emod_of_nonneg i (SC hc)];exact q)
theorem yDS:OpR X (HI .Pow) (rI Zm λi j=>.int (i ^ j.toNat)):=Cp λ_ _ _ _ _ _ _ hc q=>pow_int_small hc.1 hc.2.1 hc.2.2 q
theorem unI{f:AI->dE AI}{g:Int->Int} (rule:∀(i:Int) (t:k8) (s:AN) (Q:AI->AN->Prop) (E:AI->AN->Prop),Q (.int (g i) s.toks) { s with toks:=s.toks+1 }->BE (A9 X.prog X.w) X.A (f (.int i t)) Q E s) : Cz X f (rU λi=>.int (g i)):=by intro AJ s σ H x v Q I rx h;have{i,rfl,q}:=h;have{t,rfl}:=rx;exact rule i t s _ _ {.int (g i),H,I.tok _,{_,rfl},q}
theorem Fh:Cz X (unaryOp .USub) (rU λi=>.int (-i)):=unI λ_ _ _ _ _ q=>neg_int q
end
noncomputable def yKB:V->V->Bool
 |.non,.non=>AQ|.non,.int _=>AQ|.int _,.non=>AQ|.non,.bl _=>AQ|.bl _,.non=>AQ|.non,.str _=>AQ|.str _,.non=>AQ
 |.int _,.int _=>AQ|.bl _,.bl _=>AQ|.str _,.str _=>AQ|.byt _,.byt _=>AQ
 |.int _,.str _=>AQ|.str _,.int _=>AQ|.bl _,.str _=>AQ|.str _,.bl _=>AQ
 |_,_=>AE
def rNe:R2:=λx y H Q=>yKB x y=AQ/\Q (.bl (!decide (x=y))) H
theorem zZM{i j:Int}:decide (V.int i=V.int j)=(i==j):=by rw[K1];simp
theorem yDT{i j:Bool}:decide (V.bl i=V.bl j)=(i==j):=by rw[K1];simp
theorem zZN{i j:C7}:decide (V.str i=V.str j)=(i==j):=by rw[K1];simp
theorem zZO{i j:Array UInt8}:decide (V.byt i=V.byt j)=(i.toList==j.toList):=by rw[K1];cases i;cases j;simp
variable{y:V}
section
variable{a b:EU}{tc:TE}
theorem XR{Q:VK}{k k':Bool}(I:Inv X AJ σ H s)(q:Q (.bl k) H)(e:k=k'):EP X AJ σ Q (.bool k') s:=by subst e;exact{.bl k,H,I,rfl,q}
theorem yHB:OpR X (EL .NotEq) rNe:=by
 intro AJ s σ H x y v u Q I rx ry h;have{hs,q}:=h;cases x with
 |non =>
  cases rx;cases y with
  |non=>cases ry;exact PySem.EqNone.ne_none_none (XR I q 'S')
  |bl j=>cases ry;exact PySem.EqNone.ne_none_bool (XR I q 'S')
  |int j=>have{t',rfl}:=ry;exact PySem.EqNone.ne_none_int (XR I q 'S')
  |str j=>have{t',rfl}:=ry;exact PySem.EqNone.ne_none_str (XR I q 'S')
  |_=>exact absurd (hs) BH
 |bl i =>
  cases rx;cases y with
  |non=>cases ry;exact PySem.EqNone.ne_bool_none (XR I q 'S')
  |bl j=>cases ry;exact ne_bool (XR I q (congrArg not yDT))
  |str j=>have{t',rfl}:=ry;exact PySem.EqMixed.ne_bool_str (XR I q 'S')
  |_=>exact absurd (hs) BH
 |int i =>
  have{t,rfl}:=rx;cases y with
  |non=>cases ry;exact PySem.EqNone.ne_int_none (XR I q 'S')
  |int j=>have{t',rfl}:=ry;exact ne_int (XR I q (congrArg not zZM))
  |str j=>have{t',rfl}:=ry;exact PySem.EqMixed.ne_int_str (XR I q 'S')
  |_=>exact absurd (hs) BH
 |str i =>
  have{t,rfl}:=rx;cases y with
  |non=>cases ry;exact PySem.EqNone.ne_str_none (XR I q 'S')
  |bl j=>cases ry;exact PySem.EqMixed.ne_str_bool (XR I q 'S')
  |int j=>have{t',rfl}:=ry;exact PySem.EqMixed.ne_str_int (XR I q 'S')
  |str j=>have{t',rfl}:=ry;exact ne_str (XR I q (congrArg not zZN))
  |_=>exact absurd (hs) BH
 |byt i =>
  have{t,rfl}:=rx;cases y with
  |byt j=>have{t',rfl}:=ry;exact PySem.W.ne_bytes (XR I q (congrArg not zZO))
  |_=>exact absurd (hs) BH
 |_=>cases y<;>exact absurd (hs) BH
theorem wB:OpR X (EL .Lt) (eC λi j=>.bl (decide (i<j))):=Jm λ_ _ _ _ _ _ _ q=>lt_int q
theorem yDU:OpR X (EL .Gt) (eC λi j=>.bl (decide (j<i))):=Jm λ_ _ _ _ _ _ _ q=>gt_int q
theorem yHC:OpR X (EL .GtE) (eC λi j=>.bl (decide (j<=i))):=Jm λ_ _ _ _ _ _ _ q=>ge_int q
theorem yDV:OpR X (EL .Is) (λx y H Q=>y=.non/\Q (.bl (decide (x=.non))) H):=by
 intro AJ s σ H x y v u Q I rx ry h;have{rfl,q}:=h;cases ry;refine is_none_gen (XR I q ?_);cases x<;>first
  |(cases rx;rfl)
  |(have{t,rfl}:=rx;rfl)
theorem zZP:OpR X (EL .IsNot) (λx y H Q=>y=.non/\Q (.bl (!decide (x=.non))) H):=by
 intro AJ s σ H x y v u Q I rx ry h;have{rfl,q}:=h;cases ry;refine isnot_none_gen (XR I q ?_);cases x<;>first
  |(cases rx;rfl)
  |(have{t,rfl}:=rx;rfl)
theorem OpR.or{r r':R2}(h:OpR X f r)(h':OpR X f r'):OpR X f (λx y H Q=>r x y H Q\/r' x y H Q):=by
 intro AJ s σ H x y v u Q I rx ry q;rcases q with q|q
 .exact h AJ s σ H x y v u Q I rx ry q
 .exact h' AJ s σ H x y v u Q I rx ry q
theorem yI2(b:EU)(h:op≠.In:=by decide)(h2:op≠.NotIn:=by decide):DP op b=AE:=by
 have e1:(op==CmpOp.In)=AE:=by cases op<;>first|rfl|exact absurd rfl h
 have e2:(op==CmpOp.NotIn)=AE:=by cases op<;>first|rfl|exact absurd rfl h2
 cases b<;>simp[DP,e1,e2]
theorem zZQ{r:R2}(ho:OpR X (EL op) r)(ha:PE X a ta)(hb:PE X b tb)(hm:DP op b=AE):PE X (.Compare a [op] [b] pos) (v9 r ta tb):=by intro AJ s σ H Q I h;exact wpAny_Compare1 (Jp ha hb I h λv u s2 x y H2 I2 rx ry q=>ho AJ s2 σ H2 x y v u Q I2 rx ry q) hm
def yHD(t:TE):TT:=λσ H Q=>t σ H λx H'=>∃k,x=.bl k/\Q k H'
theorem Gd{r:R2}(ho:OpR X (EL op) r)(ha:PE X a ta)(hb:PE X b tb)(hm:DP op b=AE):PT X (.Compare a [op] [b] pos) (yHD (v9 r ta tb)):=by
 intro AJ s σ H Q I h;refine wpAny_isTrue_Compare1 (HE (ha AJ s σ H _ I h) λv s1 ⟨x,H1,I1,r1,q1⟩=>HE (hb AJ s1 σ H1 _ I1 q1) λu s2 ⟨y,H2,I2,r2,q2⟩ =>
  HE (ho AJ s2 σ H2 x y v u _ I2 r1 r2 q2) λc s3 ⟨z,H3,I3,r3,k,e,q3⟩=>?_) hm
 subst e;cases r3;exact UO {H3,I3,q3}
def Zl(K:AC)(x:V)(H:Hp)(k:Bool):Prop :=
 match x with
 |.non=>k=AE
 |.bl b=>k=b
 |.int i=>k=(i != 0)
 |.str y=>y.length<=sizeLine/\k=((y.length:Int) != 0)
 |.byt y=>y.size<=sizeLine/\k=((y.size:Int) != 0)
 |.ref p=>(∃xs,SqL K H p xs/\k=!xs.isEmpty)\/(∃xs,SqT K H p xs/\k=!xs.isEmpty)\/∃kvs,H p=AA (.dK kvs)/\k=!kvs.isEmpty
 |_=>False
theorem zQQ{kvs:List (κ×V)}{vs:List (κ×AI)}(r:KV kvs vs):(!vs.isEmpty)=!kvs.isEmpty:=by cases r<;>rfl
theorem Xe(r:Vals xs CW):(!CW.toArray.isEmpty)=!xs.isEmpty:=by cases r<;>simp
theorem lZ:(sizeLine:Nat)<2 ^ 63:=by rw[FM];decide
theorem yDW:yKA X (λx H Q=>∃k,Zl X.K x H k/\Q k H):=by
 intro AJ s σ H x v Q I rx h;have{k,e,q}:=h;have hl:=lZ;have hs:=FM;cases x with
 |non=>cases rx;have e':=e;subst e';exact truthy_none {H,I,q}
 |bl b=>cases rx;have e':=e;subst e';exact UO {H,I,q}
 |int i=>have{t,rfl}:=rx;have e':=e;subst e';exact PySem.P.truthy_int {H,I,q}
 |str y=>have{t,rfl}:=rx;have{hy,e'}:=e;subst e';exact PySem.P.truthy_str 'L' {H,I.tok _,q}
 |byt y=>have{t,rfl}:=rx;have{hy,e'}:=e;subst e';exact PySem.W.truthy_bytes 'L' {H,I.tok _,q}
 |ref p =>
  cases rx;have e':=e;rcases e' with⟨xs,hx,e'⟩|⟨xs,hx,e'⟩|⟨kvs,hx,e'⟩
  .subst e';have{CW,r,pl,hz}:=I.list hx;have EV:=r.length;exact wpAny_truthy_list pl.isList (by simp only[BA];lia) {H,I.tok _,by rw[Xe r];exact q}
  .subst e';have{CW,r,pl,hz}:=I.tuple hx;have EV:=r.length;exact truthy_tuple pl (by simp only[BA];lia) {H,I.tok _,by rw[Xe r];exact q}
  .subst e';have{hz,hS,vs,r,m}:=I.hok p _ hx;have EV:=Paired.length r;exact wpAny_truthy_dict hS m 'L' {H,I.tok _,by rw[zQQ r];exact q}
 |_=>exact(e).elim
theorem Uw(ha:PE X a ta)(he:∀S7,WO a X.env S7=(do let v <-S7;MT a.pos;LC [v] (truthy v))) : PT X a (λσ H Q=>ta σ H λx H'=>∃k,Zl X.K x H' k/\Q k H'):=by intro AJ s σ H Q I h;exact isTrue_plain (HE (ha AJ s σ H _ I h) (λv s1 q0=>by have{x,H1,I1,r1,q1}:=q0;exact yDW AJ s1 σ H1 x v Q I1 r1 q1)) (he _)
theorem zQR:OpR X (HI .Add) (λx y H Q=>∃i j,x=.str i/\y=.str j/\i.length+j.length<=sizeLine/\Q (.str (i++j)) H):=by intro AJ s σ H x y v u Q I rx ry h;have{i,j,rfl,rfl,hz,q}:=h;have{t,rfl}:=rx;have{t',rfl}:=ry;exact add_str (λt' tk=>{.str (i++j),H,I.tok _,{_,rfl},q}) hz
theorem Y6{x:V}(r:Vals [x] us):∃u,us=[u]/\RelV x u:=by
 cases r with
 |cons r1 r2=>cases r2;exact{_,rfl,r1}
theorem yHE{x:V}(r:Vals [x,y] us):∃u w',us=[u,w']/\RelV x u/\RelV y w':=by
 cases r with
 |cons r1 r2 =>
  cases r2 with
  |cons r3 r4=>cases r4;exact{_,_,rfl,r1,r3}
theorem zRX(hc:X.calm=AQ):CallR X (.builtin "min") (λxs H Q=>∃i j,xs=[.int i,.int j]/\Q (.int (if j<i then j else i)) H):=by
 intro AJ s σ H xs us Q I r h;have{i,j,rfl,q}:=h;obtain⟨u,w',rfl,⟨t,rfl⟩,⟨t',rfl⟩⟩:=yHE r;refine min_two_ints (I.ok.hd hc) λh' tk k=>{_,H,I.kept k,?_,q};by_cases hj:j<i
 .rw[if_pos hj,if_pos hj];exact{_,rfl}
 .rw[if_neg hj,if_neg hj];exact{_,rfl}
end
theorem RelO.some_of{v:V}{o:Option AI}(r:RelO (AA v) o):∃u,o=AA u/\RelV v u:=by
 cases o with
 |none=>exact(r).elim
 |some u=>exact{u,rfl,r}
structure Room(k:Nat)(A:GL):Prop where
 hd:A.handled=AL
 dp:A.depth+3 * k+5<recursionLimit
 un:A.units+16 * k+200<GD
 gd:A.guards=AA []
theorem Room.mono(r:Room k A)(h:j<=k):Room j A:={r.hd,by have:=r.dp;lia,by have:=r.un;lia,r.gd}
theorem Room.deeper{k:Nat}{A:GL}(r:Room (k+1) A)(env:aB):Room k (A.deeper env) :={r.hd,by have:=r.dp;show A.depth+1+3 * k+5<_;lia,by have:=r.un;show A.units+3+16 * k+200<_;lia,r.gd}
theorem Room.in1{k:Nat}{A:GL}(r:Room (k+1) A):Room k A.in1 :={r.hd,by have:=r.dp;show A.depth+3 * k+5<_;lia,by have:=r.un;show A.units+1+16 * k+200<_;lia,r.gd}
theorem Room.depth{k:Nat}{A:GL}(r:Room k A):A.depth<recursionLimit:=by have:=r.dp;lia
theorem Room.units{k:Nat}{A:GL}(r:Room k A):A.units+64<GD:=by have:=r.un;lia
def Zk:TA:=λ_ H Q=>Q [] H
def zX(ta:TE)(tr:TA):TA:=λσ H Q=>ta σ H λx H1=>tr σ H1 λxs H2=>Q (x::xs) H2
section
variable{t:TA}
theorem FO:PA X [] Zk:=λ_ _ _ _ H Q I h=>Calls.spliced_nil {[],H,I,.nil,h}
theorem PB(ha:PE X e te)(hr:PA X es t)(hs:AW (e::es) X.env=(AE,eval e X.env)::AW es X.env:=by rfl):PA X (e::es) (zX te t):=by intro pos AJ s σ H Q I h;rw[hs];refine Calls.spliced_cons (HE (ha AJ s σ H _ I h) λu s1 ⟨x,H1,I1,r1,q1⟩=>?_);exact HE (hr pos AJ s1 σ H1 _ I1 q1) (λus s2 q0=>by have{xs,H2,I2,r2,q2}:=q0;exact{x::xs,H2,I2,.cons r1 r2,q2})
def yKC(t:TA):TE:=λσ H Q=>t σ H λxs H1=>xs.length<=sizeLine/\∀p,H1 p=AL->Q (.ref p) (DZ H1 p (.tup xs))
def Zj(t:TA):TE:=λσ H Q=>t σ H λxs H1=>xs.length<=sizeLine/\∀p,H1 p=AL->Q (.ref p) (DZ H1 p (.lst xs))
theorem yDX{x1}(h:PA X es t):PE X (.Tuple es x1 pos) (yKC t):=by intro AJ s σ H Q I hq;refine wpAny_Tuple_spliced (HE (h pos AJ s σ H _ I hq) λus s1 ⟨xs,H1,I1,r,z,q⟩=>{by rw[<-r.length];exact z,?_});have hf:=I1.hok.fresh (AM _);refine{.ref s1.heap.objs.size,DZ H1 s1.heap.objs.size (.tup xs),I1.laid (λb u e=>AF _ e) (AM _) ?_,rfl,q _ hf};exact{z,us,r,{_,AT _ rfl,rfl,rfl,_,rfl}}
theorem rD(h:PA X es t):PE X (.List es pos) (Zj t):=by intro AJ s σ H Q I hq;refine wpAny_List_spliced (HE (h pos AJ s σ H _ I hq) λus s1 ⟨xs,H1,I1,r,z,q⟩=>{by rw[<-r.length];exact z,?_});have hf:=I1.hok.fresh (AM _);refine{.ref s1.heap.objs.size,DZ H1 s1.heap.objs.size (.lst xs),I1.laid (λb u e=>AF _ e) (AM _) ?_,rfl,q _ hf};exact{z,us,0,r,AT _ rfl}
end
abbrev Sp:=List V->Hp->VK->XK->Prop
abbrev CXT:=List aB->Hp->AN->XK->AI->AN->Prop
structure Env0(P:CA)(w:DL)(K:AC)(mg:C7->Option AI)(base:CN)(A:GL)(outer:List aB)(s:AN)(H:Hp):Prop where
 tab:∀T q,TB K T q->∃ps,H T=AA (.tbl q ps)
 frames:A.frames=AA outer
 mod:Mod K mg base
 bs:∀b o,base.get? b=AA o->s.heap.get? b=AA o/\H b=AL
 bsz:base.objs.size<=s.heap.objs.size
 funs:s.heap.FunFrames base outer
 frf:∀b∈bM outer,H b=AL
 hok:HOk P w H s.heap
 bare:OZ s.gens
def CE(outer:List aB)(P:CA)(w:DL)(H:Hp)(s:AN)(Q:VK)(u:AI)(s':AN):Prop :=∃v H',s'.os=s.os/\OZ s'.gens/\Un (bM outer) [] H H' s.heap s'.heap/\HOk P w H' s'.heap/\RelV v u/\Q v H'
def CR(CX:CXT)(outer:List aB)(P:CA)(w:DL)(H:Hp)(s:AN)(Q:VK)(E:XK)(r:gJ)(s':AN):Prop :=
 match r with
 |.ok (.ret u)=>CE outer P w H s Q u s'
 |.ok _=>False
 |.error e=>CX outer H s E e s'
structure FnOk(P:CA)(w:DL)(K:AC)(mg:C7->Option AI)(base:CN)(CX:CXT)(k:Nat)(f:AV)(fd:CM)(ps:List C7)(sp:Sp):Prop where
 len:∀vs H Q E,sp vs H Q E->vs.length=ps.length
 run:∀(A:GL) (outer:List aB) (s:AN) (H:Hp) (args:Args) (us:List AI) (vs:List V) (Q:VK) (E:XK),Room k A->Env0 P w K mg base A outer s H->Y0 s fd args (ps.zip us)->Vals vs us->sp vs H Q E ->
  JD (A9 P w) A (.call (.ref f) args) (CR CX outer P w H s Q E) s
variable{CX:CXT}{sp:Sp}
theorem FnOk.imp{K:AC}{f:AV}{sp':Sp}(F:FnOk P w K mg base CX k f fd ps sp) (h:∀vs H Q E,sp' vs H Q E->sp vs H Q E):FnOk P w K mg base CX k f fd ps sp' :={λvs H Q E q=>F.len vs H Q E (h _ _ _ _ q),λA outer s H args us vs Q E hr he hb hv hs=>F.run A outer s H args us vs Q E hr he hb hv (h _ _ _ _ hs)}
theorem Inv.env0(I:Inv X AJ σ H s):Env0 X.prog X.w X.K X.mg X.base X.A X.stack s H :={I.tab,I.ok.frames,I.ok.mod,I.bs,A0 I.ok.bsz I.sz,I.stack,I.stkFree,I.hok,I.bare}
theorem Inv.after{Q:VK}(I:Inv X AJ σ H s)(h:CE X.stack X.prog X.w H s Q u s'):EP X AJ σ Q u s':=by have{v,H',os,bare,un,hok,r,q}:=h;have{hh,g,d,t,Mg}:=s';obtain rfl:Mg=s.os:=os;exact{v,H',I.call un hok bare (λb z=>absurd z 'S'),r,q}
def uH(sp:Sp)(qK:List V)(E:XK)(t:TA):TE:=λσ H Q=>t σ H λvs H1=>sp (vs++qK) H1 Q E
def Binds(K:AC)(fd:CM)(ps:List C7)(ds:List AI):Prop :=∀(s:AN) (us:List AI),K.In s.heap->(us++ds).length=ps.length->Y0 s fd {us,[]} (ps.zip (us++ds))
theorem Binds.all{K:AC}(h:∀us:List AI,us.length=ps.length->OJ fd {us,[]}=pure (ps.zip us)):Binds K fd ps []:=λs us _ hl=>by rw[E4] at hl ⊢;exact .of_eq (h us hl)
def Fg(CX:CXT)(X:Cx)(E:XK):Prop:=∀(AJ:List (AV×JF)) (σ:St) (H:Hp) (s:AN) (e:AI) (s':AN),Inv X AJ σ H s->CX X.stack H s E e s'->X.xe e s'
section
variable{f:AV}{qK:List V}{ds:List AI}{E:XK}{m:C7}{t:TA}
theorem yDY{Q:VK}{vs:List V}(F:FnOk X.prog X.w X.K X.mg X.base CX k f fd ps sp)(hr:Room k X.A)(hb:Binds X.K fd ps ds)(hd:Vals qK ds)(hx:Fg CX X E) (I:Inv X AJ σ H s) (r:Vals vs us) (h:sp (vs++qK) H Q E):BE (A9 X.prog X.w) X.A (call (.ref f) us) (EP X AJ σ Q) X.xe s:=by
 have r2:=r.append hd;have hl:(us++ds).length=ps.length:=by rw[<-r2.length];exact F.len _ _ _ _ h
 refine wpAny_call (US (F.run X.A X.stack s H {us,[]} (us++ds) (vs++qK) Q E hr I.env0 (hb s us I.kIn hl) r2 h) λr s' hq=>?_);cases r with
 |error e=>exact hx AJ σ H s e s' I hq
 |ok fl =>
  cases fl with
  |ret u=>exact I.after hq
  |next=>exact IH hq
  |brk=>exact IH hq
  |cont=>exact IH hq
theorem vG(F:FnOk X.prog X.w X.K X.mg X.base CX k f fd ps sp)(hr:Room k X.A)(hg:Gl X x)(hm:X.mg x=AA (.ref f))(hk:GX X.K (.ref f)=AQ)(hb:Binds X.K fd ps ds)(hd:Vals qK ds)(hx:Fg CX X E) (ha:PA X (e::es) t) (UL:(x==("__debug__":C7))=AE:=by decide) (he:AW (e::es) X.env=(AE,eval e X.env)::AW es X.env:=by rfl) (LS:(EW pos (AW es X.env)).any (·.1)=AE:=by rfl) : PE X (.Call (.Name x p) (e::es) [] pos) (uH sp qK E t):=by intro AJ s σ H Q I h;refine M6 (zZI I hg hm ?_ UL);refine PySem.W.callWith_K I.ok.mod.kin hk (HE (ha pos AJ s σ H _ I h) λus s1 ⟨vs,H1,I1,r,q⟩=>{I1.kIn,?_}) he LS;exact yDY F hr hb hd hx I1 r q
end
structure FnScope(N P:List C7)(sc:JS):Prop where
 kind:sc.kind=.function
 co:sc.isCoroutine=AE
 gen:sc.isGenerator=AE
 nd:N.Nodup
 pre:N.take P.length=P
 par:∀x∈P,sc.names.lookup x=AA .local\/sc.names.lookup x=AA .cell
 nofree:∀y∈sc.names,y.2≠.free
theorem Wl{kindOf:C7->Option UW}{x:C7}:∀{YE:List (C7×AI)} {m:C7->Option AI},(∀v,(x,v)∉YE)->dB kindOf YE m x=m x
 |[],_,_=>rfl
 |(n,v)::r,m,h=>by
  unfold dB;rw[Wl λw hw=>h w (A2 _ hw)];split
  .have:x≠n:=by rintro rfl;exact h v AZ
   simp[this]
  .rfl
theorem Wj{kindOf:C7->Option UW}{x:C7}:∀{YE:List (C7×AI)} {m:C7->Option AI},(∀v,(x,v)∉YE)->dC kindOf YE m x=m x
 |[],_,_=>rfl
 |(n,v)::r,m,h=>by
  unfold dC;rw[Wj λw hw=>h w (A2 _ hw)];split
  .rfl
  .have:x≠n:=by rintro rfl;exact h v AZ
   simp[this]
theorem Wi{kindOf:C7->Option UW}{x:C7}{v:AI}:∀{P:List C7} {vs:List AI} {i:Nat} {m:C7->Option AI},P.Nodup->P[i]?=AA x->vs[i]?=AA v->kindOf x=AA .local ->dB kindOf (P.zip vs) m x=AA v
 |[],_,_,_,_,h,_,_=>by simp at h
 |_::_,[],_,_,_,_,h,_=>by simp at h
 |p::P,w::vs,0,m,nd,h1,h2,hk=>by simp at h1 h2;subst h1;subst h2;show dB kindOf ((p,w)::P.zip vs) m p=_;unfold dB;rw[Wl λv hv=>(EZ.mp nd).1 (KZ hv).1,if_pos hk];simp
 |p::P,w::vs,i+1,m,nd,h1,h2,hk=>by show dB kindOf ((p,w)::P.zip vs) m x=_;unfold dB;exact Wi (i:=i) (EZ.mp nd).2 (by simpa using h1) (by simpa using h2) hk
theorem Wh{kindOf:C7->Option UW}{x:C7}{v:AI}:∀{P:List C7} {vs:List AI} {i:Nat} {m:C7->Option AI},P.Nodup->P[i]?=AA x->vs[i]?=AA v->kindOf x≠AA .local ->dC kindOf (P.zip vs) m x=AA v
 |[],_,_,_,_,h,_,_=>by simp at h
 |_::_,[],_,_,_,_,h,_=>by simp at h
 |p::P,w::vs,0,m,nd,h1,h2,hk=>by simp at h1 h2;subst h1;subst h2;show dC kindOf ((p,w)::P.zip vs) m p=_;unfold dC;rw[Wj λv hv=>(EZ.mp nd).1 (KZ hv).1,if_neg hk];simp
 |p::P,w::vs,i+1,m,nd,h1,h2,hk=>by show dC kindOf ((p,w)::P.zip vs) m x=_;unfold dC;exact Wh (i:=i) (EZ.mp nd).2 (by simpa using h1) (by simpa using h2) hk
noncomputable def start(N:List C7)(vs:List V):St:=vs.map AA++BP (N.length-vs.length) AL
noncomputable def jI(CX:CXT)(P:CA)(w:DL)(K:AC)(mg:C7->Option AI)(base:CN)(N:List C7)(qual:C7)(scope:JS)(f:AV)(cd:AI)(A:GL)(outer:List aB)(s:AN)(H:Hp)(E:XK):Cx where
 prog:=P
 w:=w
 K:=K
 mg:=mg
 base:=base
 A:=A.deeper (N0 qual scope s.heap.objs.size f cd)
 N:=N
 s₀:=s
 H₀:=H
 env:=N0 qual scope s.heap.objs.size f cd
 outer:=outer
 stack:=N0 qual scope s.heap.objs.size f cd::outer
 ex:=[]
 calm:=AQ
 fn:=λ_=>AQ
 pn:=[]
 xe:=λe s'=>BE (A9 P w) (A.deeper (N0 qual scope s.heap.objs.size f cd)) (leaving (N0 qual scope s.heap.objs.size f cd) e) (λ_ cS=>CX outer H s E e cS) (λe' cS=>CX outer H s E e' cS) s'
theorem Uv{sc:JS}(h:sc.names.lookup x=AA .cell):∃c,(RB n sc.names []).lookup x=AA c:=by have q:=WQ sc.names n [] (.inl h);exact Option.isSome_iff_exists.mp q
theorem zR0{K:AC}{scope:JS}{f:AV}{cd:AI}{outer:List aB}{s1:AN}{E:XK}{vs:List V} (S:FnScope N ps scope) (hd:A.handled=AL) (e0:Env0 P w K mg base A outer s H) (hl:vs.length=ps.length) (r:Vals vs us) (x:InCallC s s.heap.objs.size (dB (N0 qual scope s.heap.objs.size f cd).kindOf (ps.zip us) λ_=>AL) (RB (s.heap.objs.size+1) scope.names []) (dC (N0 qual scope s.heap.objs.size f cd).kindOf (ps.zip us) λ_=>AL) s1) : Inv (jI CX P w K mg base N qual scope f cd A outer s H E) [] (start N vs) H s1:=by
 have LS:ps.length<=N.length:=by have:=congrArg KP S.pre;rw[F9] at this;lia
 have{h1,tk,rfl,hk}:=x.done;have xC:∀b:AV,b∉(jI CX P w K mg base N qual scope f cd A outer s H E).ex:=λb z=>absurd (show b∈([]:List AV) from z) 'S';refine{{e0.tab,e0.mod,S.kind,rfl,rfl,AM _,λy z c h1 h2=>?_,λy hy=>?_,λy c _ h=>?_,λ_=>hd,Y1 e0.frames,.inr {rfl,rfl},λb z=>absurd z (xC b),e0.bs,e0.bsz,λb _ _=>xC b,λb z=>absurd z (xC b),e0.funs,e0.frf},
  rfl,e0.bare,Un.kept hk,{_,x.toInCall.ns,λi y v h1 h2 h3=>?_},λy c h=>{_,x.cell y c h},e0.hok.fresh (AM _),λy c h=>?_,λp hp=>absurd (show p∈([]:List (AV×JF)) from hp) 'S',e0.hok.kept hk,?_}
 .exact name_of_addr x.apart (IT h1) (IT h2)
 .have hy:=hy;rcases hy with hy|hy
  .exact Uv hy
  .exact absurd rfl (S.nofree _ (IT hy))
 .exact CS (x.above y c (IT h))
 .have hi:i<vs.length:=by
   unfold start at h2;by_cases hi:i<vs.length
   .exact hi
   .rw[CZ (by simpa using hi)] at h2;rw[FG] at h2;split at h2<;>cases h2
  have ha:vs[i]?=AA v:=by
   unfold start at h2;rw[CD (by simpa using hi),AY] at h2;cases e:vs[i]? with
   |none=>rw[e] at h2;cases h2
   |some a=>rw[e] at h2;cases h2;rfl
  have{u,hu,rv}:=r.get ha;have hp:ps[i]?=AA y:=by rw[<-S.pre,XF (AO hi (DG hl))];exact h1
  have ndP:ps.Nodup:=by rw[<-S.pre];exact S.nd.sublist (RF _ _)
  refine{u,rv,?_};rcases S.par y (BS hp) with k|k
  .exact .inl {k,Wi ndP hp hu k}
  .have{c,e}:=Uv k;refine .inr {.inl k,c,e,?_};have q:=x.cell y c e;rw[Wh ndP hp hu (by show scope.names.lookup y≠_;rw[k];decide)] at q;exact q
 .exact e0.hok.fresh (CS (x.above y c (IT h)))
 .unfold start;show _=N.length;rw[BG,AK,DY];lia
theorem yDZ{K:AC}{f:AV}{FD:ON}{scope:JS}{dV kV UN pm HN ct oc:AI}{an od:Option AV} {eT:Array (Option AI)} {N ps:List C7} {sp:Sp} (lk:K.lookup f=AA {oc,od,.func (FL name qual FD body scope dV kV UN pm an HN ct),eT}) (OG:JL K HN qual=AQ) (S:FnScope N ps scope) (len:∀vs H Q E,sp vs H Q E->vs.length=ps.length) (PV:∀(A:GL) (outer:List aB) (s:AN) (H:Hp) (vs:List V) (Q:VK) (E:XK),Room k (A.deeper (N0 qual scope s.heap.objs.size f HN))->sp vs H Q E ->∃t,PSs (jI CX P w K mg base N qual scope f HN A outer s H E) body t/\t { nx:=λ_ H'=>Q .non H',rt:=Q } (start N vs) H) : FnOk P w K mg base CX (k+1) f (FL name qual FD body scope dV kV UN pm an HN ct) ps sp:=by
 refine{len,λA outer s H args us vs Q E hr e0 hb r iP=>?_};have hl:=len _ _ _ _ iP;have KX:=e0.mod.kin.keeps λb o e=>(e0.bs b o e).1;have lim:=e0.mod.nolimit.keeps λb o e=>(e0.bs b o e).1;have yH:∀y∈ps.zip us,scope.names.lookup y.1=AA .local\/(scope.names.lookup y.1=AA .cell/\((RB (s.heap.objs.size+1) scope.names []).lookup y.1).isSome=AQ):=λ⟨n,v⟩ hy=>by
  rcases S.par n (KZ hy).1 with q|q
  .exact .inl q
  .exact .inr {q,WQ _ _ _ (.inl q)}
 refine codeAny_call_function hr.depth (KX _ _ lk) rfl S.co S.gen rfl (PySem.W.codeRec_of KX OG) (hb _ _ _ _ ?_);refine wpAny_newFunctionEnv_cells S.kind yH λenv he s1 x=>?_;subst he;refine{lim.keeps x.toInCall.keep,codeAny_func ?_};have{t,ht,hq}:=PV A outer s H vs Q E (hr.deeper _) iP;have I:Inv (jI CX P w K mg base N qual scope f HN A outer s H E) [] (start N vs) H s1:=zR0 S hr.hd e0 hl r x;refine DN (ht [] s1 (start N vs) H _ I hq) (λfl s' hs=>?_) λe s' hs=>hs;have fin:∀{σ':St} {H':Hp} {v:V} {u:AI},Inv (jI CX P w K mg base N qual scope f HN A outer s H E) [] σ' H' s'->RelV v u->Q v H'->CE outer P w H s Q u s' :=
  λ{σ' H' v u} J rv q=>{v,H',J.os,J.bare,J.base,J.hok,rv,q}
 cases fl with
 |ret u=>have{v,σ',H',J,rv,q}:=hs;exact fin J rv q
 |next=>have{σ',H',J,q}:=hs;exact fin (v:=V.non) J rfl q
 |brk=>have{_,_,_,q}:=hs;exact IH q
 |cont=>have{_,_,_,q}:=hs;exact IH q
section
variable{t:TA}{id:String}{r:List V->Hp->VK->Prop}
def Co(r:List V->Hp->VK->Prop)(t:TA):TE:=λσ H Q=>t σ H λvs H1=>r vs H1 Q
theorem Uu(hc:CallR X (.builtin id) r)(hg:Gl X x)(hm:X.mg x=AL)(hv:H9 x=AA (.builtin id))(ha:PA X (e::es) t)(hn:x≠"__name__":=by decide)(UL:(x==("__debug__":C7))=AE:=by decide) (he:AW (e::es) X.env=(AE,eval e X.env)::AW es X.env:=by rfl) (LS:(EW pos (AW es X.env)).any (·.1)=AE:=by rfl):PE X (.Call (.Name x p) (e::es) [] pos) (Co r t):=by intro AJ s σ H Q I h;refine M6 (jW I hg hm hv ?_ hn UL);exact PyProof.Rows.callWith_builtin1 (HE (ha pos AJ s σ H _ I h) (λus s1 q0=>by have{vs,H1,I1,r1,q1}:=q0;exact hc AJ s1 σ H1 vs us Q I1 r1 q1)) he LS
theorem oN(hc:CallR X (.type T) r)(hg:Gl X x)(hm:X.mg x=AL)(hv:H9 x=AA (.type T))(ha:PA X (e::es) t)(hn:x≠"__name__":=by decide)(UL:(x==("__debug__":C7))=AE:=by decide) (he:AW (e::es) X.env=(AE,eval e X.env)::AW es X.env:=by rfl) (LS:(EW pos (AW es X.env)).any (·.1)=AE:=by rfl):PE X (.Call (.Name x p) (e::es) [] pos) (Co r t):=by intro AJ s σ H Q I h;refine M6 (jW I hg hm hv ?_ hn UL);exact D9 (HE (ha pos AJ s σ H _ I h) (λus s1 q0=>by have{vs,H1,I1,r1,q1}:=q0;exact hc AJ s1 σ H1 vs us Q I1 r1 q1)) he LS
end
end _L
variable{ns:List Int}
namespace HT
open PySem PyProof.Rows
noncomputable def lexLt:List Int->List Int->Bool
 |[],[]=>AE
 |[],_::_=>AQ
 |_::_,[]=>AE
 |x::xs,y::ys=>if x=y then lexLt xs ys else decide (x<y)
theorem zQS(x y:Int)(xs ys:List Int):lexLt (x::xs) (y::ys)=if x=y then lexLt xs ys else decide (x<y):=rfl
theorem zJ4:lexLt [] []=AE:=rfl
theorem zIV(y:Int)(ys:List Int):lexLt [] (y::ys)=AQ:=rfl
theorem zIW(x:Int)(xs:List Int):lexLt (x::xs) []=AE:=rfl
theorem zVO(A:GL)(s:AN)(a:Int)(t:k8)(c:Int)(u:k8):∃e,cB A s (.int a t) (.int c u) e/\(e=AQ↔a=c) :={(a==c),XA a t c u,by simp}
theorem zVP(A:GL)(s:AN)(a:Int)(t:k8)(c:Int)(u:k8)(prog:CA)(w:DL)(E:AI->AN->Prop)(Q:AI->AN->Prop)(h:Q (.bool (decide (a<c))) s) : BE (A9 prog w) A (richCompare .Lt (.int a t) (.int c u)) Q E s :=(PyProof.Rows.lt_int h:BE (A9 prog w) A (EL .Lt (.int a t) (.int c u)) Q E s)
section
open PySem.SeqAt
open PySem.AutoSeq1 (wpAny_loadPart')
open PySem.MeetsSeq PySem.MeetsSeq2 PySem.MeetsSeq3
theorem zJ5(l b:AV)(items L8:Array AI)(n n2:Nat)(dd nD:Option AV)(sl mI:Array (Option AI))(ns ms:List Int)(hi:IA items.toList ns)(hj:IA L8.toList ms) : Meets (YZ.«tuple.__lt__» {[.ref l,.ref b],[]}) (λ_ R s=>s.heap.get? l=AA { cls:=.type "tuple",dict:=dd,data:=.seq items n,slots:=sl }/\s.heap.get? b=AA { cls:=.type "tuple",dict:=nD,data:=.seq L8 n2,slots:=mI } /\ R (.ok (.ret (.bool (lexLt ns ms)))) s) :=
 .of_wp λprog w A R s h=>by
  have{hp,g,d,tk,os}:=s;have{hl,hb,h}:=h;have f2:=AutoSeq1.sub_tuple_tuple;have z1:items.size=ns.length:=by rw[<-hi.length];simp
  have z2:L8.size=ms.length:=by rw[<-hj.length];simp
  wp_walk using wpAny_loadPart' hl,wpAny_loadPart' hb,wpAny_forIn_list _ (λrest b s'=>b.1=AL/\s'={hp,g,d,tk,os}/\∃(vs ws:List AI) (sZ tD:List Int),rest=vs.zip ws /\
   IA vs sZ/\IA ws tD/\sZ.length+L8.size=tD.length+items.size/\R (.ok (.ret (.bool (lexLt sZ tD)))) {hp,g,d,tk,os}) _
  case turn =>
   rintro⟨y,x⟩ rest b s' ⟨X8,rfl,vs,ws,sZ,tD,hz,Ng,Do,EV,hR⟩;cases Ng with
   |nil=>rw[List.zip_nil_left] at hz;cases hz
   |cons a t hvi' =>
    cases Do with
    |nil=>rw[List.zip_nil_right] at hz;cases hz
    |cons c u hwi' =>
     rw[QC] at hz;injection hz with hyx hrest;injection hyx with hy hx;subst hy hx;rw[zQS] at hR;simp only[A8] at EV;have{e,he,yM}:=zVO A.in1 {hp,g,d,tk,os} a t c u;refine AB (he prog w _ _ ?_);cases e with
     |true =>
      rw[if_pos (yM.mp rfl)] at hR
      wp_walk
      exact{rfl,rfl,_,_,_,_,hrest,hvi',hwi',by lia,hR}
     |false =>
      rw[if_neg (λq=>absurd (yM.mpr q) BH)] at hR;have hri:=zVP A.in1 {hp,g,d,tk,os} a t c u prog w
      wp_walk using hri
      exact{_,rfl,by simpa using hR}
  case fin =>
   rintro⟨b1,b2⟩ s' ⟨X8,rfl,vs,ws,sZ,tD,hz,Ng,Do,EV,hR⟩;simp only at X8;subst X8;have hv:lexLt sZ tD=decide (items.size<L8.size):=by
    cases Ng with
    |nil =>
     cases Do with
     |nil=>simp only[GK] at EV;rw[zJ4];exact(decide_eq_false 'L').symm
     |cons c u hw=>simp only[GK,A8] at EV;rw[zIV];exact(decide_eq_true 'L').symm
    |cons a t hv =>
     cases Do with
     |nil=>simp only[GK,A8] at EV;rw[zIW];exact(decide_eq_false 'L').symm
     |cons c u hw=>rw[QC] at hz;cases hz
   rw[hv] at hR
   wp_walk
   exact{_,rfl,by simpa[Builtin.Tuple.tupleCompareSizes] using hR}
  case h=>exact{rfl,rfl,items.toList,L8.toList,ns,ms,rfl,hi,hj,by lia,h}
end
theorem lt_tupInts{l:AV}{L8:Array AI}{ms:List Int}(hl:U1 s.heap l items)(hb:U1 s.heap b L8)(hi:IA items.toList ns)(hj:IA L8.toList ms) (hu:A.units<GD) (h:Q (.bool (lexLt ns ms)) s):BE (A9 prog w) A (EL .Lt (.ref l) (.ref b)) Q E s:=by
 have{zz',ho,hc,n,hd}:=id hl;have{cls,dd,data,sl}:=zz';have{zz',cX,iW,n2,kY}:=id hb;have{zD,nD,data2,mI}:=zz';simp only at hc hd iW kY;subst hc hd iW kY;exact richCompare_meets_room (op:=.Lt) {_,ho,rfl} {_,cX,rfl} PySem.F.slot_tuple_lt PySem.F.entry_tuple_lt (PySem.F.args_tuple_lt_2 _ _) (zJ5 l b items L8 n n2 dd nD sl mI ns ms hi hj)
  {ho,cX,{(λx=>nomatch x),h}} hu
theorem cat_tup{t:AV}{vs ws:List AI}(ht:U1 s.heap t vs.toArray)(hb:U1 s.heap b ws.toArray)(hv:vs≠[]) (h1:ws=[]->Q (.ref t) s) (h2:ws≠[]->Q (.ref s.heap.objs.size) { s with heap:=s.heap.push { cls:=.type "tuple",data:=.seq (vs++ws).toArray } }) (MW:vs.length+ws.length<=sizeLine):BE (A9 prog w) A (HI .Add (.ref t) (.ref b)) Q E s:=by
 have{zz',ho,hc,n,hd}:=id ht;have{cls,dd,data,sl}:=zz';have{zz',cX,iW,n2,kY}:=id hb;have{zD,nD,data2,mI}:=zz';simp only at hc hd iW kY;subst hc hd iW kY;have e:vs.toArray++ws.toArray=(vs++ws).toArray:=by simp
 by_cases hw:ws=[]
 .exact UR {_,ho,rfl} {_,cX,rfl} WN b7 M9 MU (MB _ _)
   (tuple_addW1 t b vs.toArray ws.toArray n n2 dd nD sl mI (by simpa using hv) (by simp[hw])) {ho,cX,h1 hw}
 .refine UR {_,ho,rfl} {_,cX,rfl} WN b7 M9 MU (MB _ _)
   (tuple_addW2 t b vs.toArray ws.toArray n n2 dd nD sl mI (by simpa using hv) (by simpa using hw) (by rw[BA,BA];exact MW)) {ho,cX,?_}
  rw[e];exact h2 hw
noncomputable def sIx(n d:Nat):Option Int->Nat
 |none=>d
 |some v=>if v<0 then(v+(n:Int)).toNat else min v.toNat n
theorem sIx_none(n d:Nat):sIx n d AL=d:=rfl
theorem sIx_nat(n d k:Nat):sIx n d (AA (k:Int))=min k n:=by show(if k<0 then((k:Int)+n).toNat else min (k:Int).toNat n)=min k n;rw[if_neg 'L',J1]
theorem yD0(n d:Nat)(hd:d<=n)(o:Option Int):sIx n d o<=n:=by
 cases o with
 |none=>exact hd
 |some v =>
  show(if v<0 then(v+n).toNat else min v.toNat n)<=n;by_cases hv:v<0
  .rw[if_pos hv];lia
  .rw[if_neg hv];exact lC _ _
theorem Tr(v:Int)(n d:Nat):(if v<0 then max (v+(n:Int)) 0 else min v (n:Int))=((sIx n d (AA v):Nat):Int):=by
 show(if v<0 then max (v+n) 0 else min v n)=(((if v<0 then(v+n).toNat else min v.toNat n):Nat):Int);by_cases hv:v<0
 .simp only[if_pos hv];lia
 .simp only[if_neg hv];lia
theorem zQT(lo hi:Option Int)(n:Nat):KL lo hi 1 (n:Int)=(((sIx n 0 lo:Nat):Int),((sIx n n hi:Nat):Int)):=by
 have h1:¬(1<0):=by lia
 unfold KL;simp only[if_false];refine KO ?_ ?_
 .cases lo with
  |none=>rfl
  |some v=>exact Tr v n 0
 .cases hi with
  |none=>rfl
  |some v=>exact Tr v n n
theorem zQU(i j:Nat):HQ (i:Int) (j:Int) 1=j-i:=by
 unfold HQ;have h1:1>0:=by lia
 simp only[Int.ediv_one];split<;>lia
theorem Xd{o:Option Int}{Q:Option Int->AN->Prop}(p:QY v o)(h:Q o s):BE (A9 prog w) A (Builtin.Slice.slicePartIndex v) Q E s:=by
 cases p with
 |none=>exact slicePart_none h
 |int i t=>exact slicePart_int h
theorem sliceApplied_gen{sl:AV}{vl vu:AI}{lo hi:Option Int}{Q:Int×Int×Nat->AN->Prop}(hs:s.heap.IsSliceOf sl vl vu .none)(pl:QY vl lo)(pu:QY vu hi) (h:Q (((sIx n 0 lo:Nat):Int),1,sIx n n hi-sIx n 0 lo) s):BE (A9 prog w) A (P6 (.ref sl) (pure (n:Int))) Q E s:=by have{os,pY,Q8,ZK}:=id hs;unfold P6 Builtin.Slice.sliceFields;refine AB (AB (CH pY ZK rfl (AB (CH pY ZK rfl (AB (CH pY ZK rfl (wpAny_pure ?_)))))));refine AB (slicePart_none ?_);rw[if_neg 'D'];refine AB (Xd pl (AB (Xd pu (AB (wpAny_pure ?_)))));show BE _ _ (match KL lo hi 1 n with|(lo,hi)=>pure (lo,(1:Int),HQ lo hi 1)) _ _ s;rw[zQT lo hi n];show BE _ _ (pure (((sIx n 0 lo:Nat):Int),1,HQ ((sIx n 0 lo:Nat):Int) ((sIx n n hi:Nat):Int) 1)) _ _ s;rw[zQU];exact wpAny_pure h
theorem zVQ(xs:Array AI)(i k:Nat):((DM k).filterMap λ(m:Nat)=>xs[((i:Int)+(m:Int) * 1).toNat]?).toArray=((xs.toList.drop i).take k).toArray:=by
 have e:(λ(m:Nat)=>xs[(i+(m:Int) * 1).toNat]?)=λm=>xs[i+m]?:=by
  funext m;have:((i:Int)+m * 1).toNat=i+m:=by lia
  rw[this]
 rw[e];have:=pick_run xs i k;rw[QF] at this;have e2:((λx=>xs[x]?)∘λx=>i+x)=λm=>xs[i+m]?:=rfl;rw[e2] at this;rw[this]
theorem getItem_tuple_cut{t sl:AV}{vl vu:AI}{lo hi:Option Int}(ht:U1 s.heap t items)(hs:s.heap.IsSliceOf sl vl vu .none)(pl:QY vl lo)(pu:QY vu hi) (hw:¬(sIx items.size 0 lo=0/\sIx items.size items.size hi=items.size)) (h:Q (.ref s.heap.objs.size) { s with heap:=s.heap.push { cls:=.type "tuple",data:=.seq ((items.toList.drop (sIx items.size 0 lo)).take (sIx items.size items.size hi-sIx items.size 0 lo)).toArray } }) (MW:items.size<=sizeLine):BE (A9 prog w) A (Q9 (.ref t) (.ref sl)) Q E s:=by
 have aQ:sizeOk (.seq ((items.toList.drop (sIx items.size 0 lo)).take (sIx items.size items.size hi-sIx items.size 0 lo)).toArray):=by show((items.toList.drop (sIx items.size 0 lo)).take (sIx items.size items.size hi-sIx items.size 0 lo)).toArray.size<=sizeLine;rw[BA,F9,ND,GZ];lia
 have hj:sIx items.size items.size hi<=items.size:=yD0 _ _ (AM _) hi;have{os,pY,Q8,ZK}:=id hs;have Ow:s.TypeIs (.ref sl) "slice":={os,pY,Q8};unfold Q9
 try with_reducible refine DO ?_
 first|refine AB (wpAny_pure ?_)|skip
 refine AB (wpAny_sequenceKey ht.typeIs 'D' ?_)
 refine AB (CU (name:=HJ "__getitem__") ht.typeIs EC
  (CG EC ht.typeIs nH ?_ (args_tuple_getitem _ _)))
 show BE _ _ (P5 (.ref t) >>= _) _ _ s;refine AB (tupleItemsOf_ ht ?_);refine AB (fZ Ow ?_);rw[if_pos 'D'];refine AB (sliceApplied_gen hs pl pu ?_)
 have X5:¬((((sIx items.size 0 lo:Nat):Int)==0&&(1:Int)==1&&(sIx items.size items.size hi-sIx items.size 0 lo)==items.size)=AQ):=by intro q;rw[CP,CP] at q;have q1:((sIx items.size 0 lo:Nat):Int)=0:=eq_of_beq q.1.1;have q2:sIx items.size items.size hi-sIx items.size 0 lo=items.size:=eq_of_beq q.2;exact hw {by lia,by lia}
 show BE _ _ (if(((sIx items.size 0 lo:Nat):Int)==0&&(1:Int)==1&&(sIx items.size items.size hi-sIx items.size 0 lo)==items.size)=AQ then _ else _) _ _ s;rw[if_neg X5,zVQ]
 first
  |exact AB (C9 (wpAny_pure {_,rfl,wpAny_pure h}) aQ)
  |exact AB (C9 (AB (wpAny_pure (wpAny_pure {_,rfl,wpAny_pure h}))) aQ)
  |exact AB (AB (C9 (wpAny_pure (wpAny_pure {_,rfl,wpAny_pure h})) aQ))
  |exact AB (AB (C9 (wpAny_pure {_,rfl,wpAny_pure h}) aQ))
end HT
variable{X:_L.Cx}{te ta tb:_L.TE}{xs ys:List _L.V}{σ:_L.St}{H H':_L.Hp}{y:_L.V}{kvs:List (List _L.Key×_L.V)}
namespace _L
open PySem PySem.Spec PyProof.Rows
abbrev TO:=St->Hp->(Option Int->Hp->Prop)->Prop
def PO(X:Cx)(e:Option EU)(t:TO):Prop :=∀(AJ:List (AV×JF)) (s:AN) (σ:St) (H:Hp) (Q:Option Int->Hp->Prop),Inv X AJ σ H s->t σ H Q ->BE (A9 X.prog X.w) X.A (evalPart e X.env) (λu s'=>∃o H',Inv X AJ σ H' s'/\QY u o/\Q o H') X.xe s
def zZR:TO:=λ_ H Q=>Q AL H
def yHF(t:TE):TO:=λσ H Q=>t σ H λx H1=>∃i,x=.int i/\Q (AA i) H1
theorem l7:∀{us:List AI},Vals (ns.map V.int) us->IA us ns:=by
 induction ns with
 |nil=>intro us r;rw[YV] at r;cases r;exact .nil
 |cons n ns ih =>
  intro us r;rw[AU] at r;cases r with
  |cons r1 r2=>have{t,e}:=r1;subst e;exact .cons n t (ih r2)
section
variable{lo hi:Option EU}{tl th:TO}{p2:Pos}
theorem aO:PO X AL zZR:=by intro AJ s σ H Q I h;rw[b9];exact wpAny_pure {AL,H,I,.none,h}
theorem Tq(h:PE X e te):PO X (AA e) (yHF te):=by intro AJ s σ H Q I hw;rw[evalPart_some];refine HE (h AJ s σ H _ I hw) λu s1 q0=>?_;have{x,H1,I1,r1,q1}:=q0;have{i,rfl,q}:=q1;have{t,rfl}:=r1;exact{AA i,H1,I1,.int i t,q}
def SlR(X:Cx)(r:V->Option Int->Option Int->Hp->VK->Prop):Prop :=∀(AJ:List (AV×JF)) (s:AN) (σ:St) (H:Hp) (x:V) (v vl vu:AI) (lo hi:Option Int) (sl:AV) (Q:VK),Inv X AJ σ H s->RelV x v->s.heap.IsSliceOf sl vl vu .none->QY vl lo->QY vu hi->r x lo hi H Q ->∃T id,typeLookup (.type T) "__getitem__"=pure (AA (.builtin id))/\s.TypeIs v T/\BE (A9 X.prog X.w) X.A (Q9 v (.ref sl)) (EP X AJ σ Q) X.xe s
theorem SlR.or{r r':V->Option Int->Option Int->Hp->VK->Prop}(h:SlR X r)(h':SlR X r'):SlR X (λx lo hi H Q=>r x lo hi H Q\/r' x lo hi H Q):=by
 intro AJ s σ H x v vl vu lo hi sl Q I rx hs pl pu q;rcases q with q|q
 .exact h AJ s σ H x v vl vu lo hi sl Q I rx hs pl pu q
 .exact h' AJ s σ H x v vl vu lo hi sl Q I rx hs pl pu q
def tSl(r:V->Option Int->Option Int->Hp->VK->Prop)(te:TE)(tl th:TO):TE:=λσ H Q=>te σ H λx H1=>tl σ H1 λl H2=>th σ H2 λu H3=>r x l u H3 Q
theorem Ut{r:V->Option Int->Option Int->Hp->VK->Prop}(hr:SlR X r)(he:PE X e te)(hl:PO X lo tl)(hu:PO X hi th):PE X (.Subscript e (.Slice lo hi AL p2) pos) (tSl r te tl th):=by intro AJ s σ H Q I h;refine Subscript_ (HE (he AJ s σ H _ I h) λv s1 ⟨x,H1,I1,r1,q1⟩=>?_);refine wpAny_Slice (HE (hl AJ s1 σ H1 _ I1 q1) λvl s2 ⟨l,H2,I2,pl,q2⟩=>HE (hu AJ s2 σ H2 _ I2 q2) λvu s3 ⟨u,H3,I3,pu,q3⟩=>?_);rw[b9];refine wpAny_pure ?_;have I4:Inv X AJ σ H3 { s3 with heap:=s3.heap.push { cls:=.type "slice",data:=.fields #[vl,vu,.none] } }:=I3.kept λb ob q=>AF _ q;have{T,id,hT,ht,hg}:=hr AJ { s3 with heap:=s3.heap.push { cls:=.type "slice",data:=.fields #[vl,vu,.none] } } σ H3 x v vl vu l u s3.heap.objs.size Q I4 r1 (UA ..) pl pu q3;exact k5 ht hT hg (by with_unfolding_all rfl)
noncomputable def Y4(xs:List V)(lo hi:Option Int):List V:=(xs.drop (HT.sIx xs.length 0 lo)).take (HT.sIx xs.length xs.length hi-HT.sIx xs.length 0 lo)
theorem Xt(xs:List V)(lo hi:Option Int):(Y4 xs lo hi).length<=xs.length:=by unfold Y4;rw[F9,ND];lia
def yKD(K:AC):V->Option Int->Option Int->Hp->VK->Prop:=λx lo hi H Q=>∃a xs,x=.ref a/\SqT K H a xs /\ ¬(HT.sIx xs.length 0 lo=0/\HT.sIx xs.length xs.length hi=xs.length)/\∀p,H p=AL->Q (.ref p) (DZ H p (.tup (Y4 xs lo hi)))
theorem yD1:SlR X (yKD X.K):=by
 intro AJ s σ H x v vl vu lo hi sl Q I rx hs pl pu h;have{a,xs,rfl,hx,hw,q}:=h;cases rx;have{CW,r,ht,hz}:=I.tuple hx;have EV:CW.toArray.size=xs.length:=by rw[BA];exact r.length.symm
 refine{"tuple",_,EC.lookup,ht.typeIs,?_};refine HT.getItem_tuple_cut ht hs pl pu (by rw[EV];exact hw) ?_ (by rw[EV];exact hz);rw[EV];refine{.ref s.heap.objs.size,_,I.laid (λb ob q=>AF _ q) (AM _) ?_,rfl,q _ (I.hok.fresh (AM _))};exact{A0 (Xt xs lo hi) hz,_,(r.drop (HT.sIx xs.length 0 lo)).take (HT.sIx xs.length xs.length hi-HT.sIx xs.length 0 lo),IsTupP.new _ _}
def Zi(K:AC):R2:=λx y H Q=>∃a b ns ms,x=.ref a/\y=.ref b/\SqT K H a (ns.map V.int)/\SqT K H b (ms.map V.int)/\Q (.bl (HT.lexLt ns ms)) H
theorem yD2(hu:X.A.units<GD):OpR X (EL .Lt) (Zi X.K):=by intro AJ s σ H x y v u Q I rx ry h;have{a,b,ns,ms,rfl,rfl,ha,hb,q}:=h;cases rx;cases ry;have{CW,r1,p1,_}:=I.tuple ha;have{X3,r2,p2,_}:=I.tuple hb;have i1:IA CW.toArray.toList ns:=l7 r1;have i2:=l7 r2;exact HT.lt_tupInts p1 p2 i1 i2 hu {.bl (HT.lexLt ns ms),H,I,rfl,q}
theorem Vals.nil_iff(r:Vals xs us):us=[]↔xs=[]:=by
 cases r with
 |nil=>simp
 |cons _ _=>simp
end
noncomputable def WY(n:Nat)(i:Int):Option Nat:=if 0<=i then(if i<n then AA i.toNat else AL) else if -(n:Int)<=i then AA (i+n).toNat else AL
def atI(xs:List α)(i:Int):Option α:=(WY xs.length i).bind λj=>xs[j]?
theorem Tp{i:Int}(h:WY n i=AA j):seqIndex? i n=AA j/\j<n/\-(n:Int)<=i/\i<n:=by
 unfold WY at h;by_cases h0:0<=i
 .rw[if_pos h0] at h;by_cases h1:i<n
  .rw[if_pos h1] at h;have e:=BJ h;exact{by rw[W6 h0 h1,e],by lia,by lia,h1}
  .rw[if_neg h1] at h;cases h
 .rw[if_neg h0] at h;by_cases h1:-n<=i
  .rw[if_pos h1] at h;have e:=BJ h;exact{by rw[seqIndex_neg 'L' h1,e],by lia,h1,by lia}
  .rw[if_neg h1] at h;cases h
theorem Gc{xs:List α}{i:Int}{v:α}(h:atI xs i=AA v):∃j,seqIndex? i xs.length=AA j/\xs[j]?=AA v/\j<xs.length/\-(xs.length:Int)<=i/\i<xs.length:=by
 unfold atI at h;cases e:WY xs.length i with
 |none=>rw[e] at h;cases h
 |some j=>rw[e] at h;have{h1,h2,h3,h4}:=Tp e;exact{j,h1,h,h2,h3,h4}
theorem To{xs:List α}{v:α}(h:xs[j]?=AA v):atI xs (j:Int)=AA v:=by
 have hj:=(AH.mp h).1;have e:WY xs.length j=AA j:=by unfold WY;rw[if_pos (Int.natCast_nonneg _),if_pos 'L'];simp
 unfold atI;rw[e];exact h
theorem zVR(xs:List α)(v:α):atI (xs++[v]) (-1)=AA v:=by
 have hl:(xs++[v]).length=xs.length+1:=by simp
 have e:WY (xs++[v]).length (-1)=AA xs.length:=by unfold WY;rw[hl,if_neg 'D',if_pos 'L'];congr 1;lia
 unfold atI;rw[e];simp
def Tn(b:EU):Prop:=∀o i,subscripted b AE o i=operate [o,i] (Q9 o i)
def IxR(X:Cx)(r:R2):Prop :=∀(JJ PL:EU) (AJ:List (AV×JF)) (s:AN) (σ:St) (H:Hp) (x y:V) (v u:AI) (Q:VK),Inv X AJ σ H s->RelV x v->RelV y u->r x y H Q ->subscripted PL AE v u=operate [v,u] (Q9 v u)->BE (A9 X.prog X.w) X.A (subscriptTail JJ PL v u) (EP X AJ σ Q) X.xe s
def Da(X:Cx)(id:String)(r:V->List V->Hp->VK->Prop):Prop :=∀(AJ:List (AV×JF)) (s:AN) (σ:St) (H:Hp) (x:V) (xs:List V) (v:AI) (us:List AI) (Q:VK),Inv X AJ σ H s->RelV x v->Vals xs us->r x xs H Q ->BE (A9 X.prog X.w) X.A (call (.builtin id) (v::us)) (EP X AJ σ Q) X.xe s
section
variable{a b:EU}
theorem IxR.or{r r':R2}(h:IxR X r)(h':IxR X r'):IxR X (λx y H Q=>r x y H Q\/r' x y H Q):=by
 intro JJ PL AJ s σ H x y v u Q I rx ry q hs;rcases q with q|q
 .exact h JJ PL AJ s σ H x y v u Q I rx ry q hs
 .exact h' JJ PL AJ s σ H x y v u Q I rx ry q hs
theorem lQ{r:R2}(hr:IxR X r)(ha:PE X a ta)(hb:PE X b tb)(hs:Tn b):PE X (.Subscript a b pos) (v9 r ta tb):=by intro AJ s σ H Q I h;exact Subscript_ (Jp ha hb I h λv u s2 x y H2 I2 rx ry q=>hr a b AJ s2 σ H2 x y v u Q I2 rx ry q (hs _ _))
def Zh(K:AC):R2:=λx y H Q=>∃p xs i v,x=.ref p/\y=.int i/\SqL K H p xs/\atI xs i=AA v/\Q v H
def Zg(K:AC):R2:=λx y H Q=>∃p xs i v,x=.ref p/\y=.int i/\SqT K H p xs/\atI xs i=AA v/\Q v H
def Zf:R2:=λx y H Q=>∃z i c,x=.str z/\y=.int i/\z.length<=sizeLine/\atI z.cps.toList i=AA c/\Q (.str {#[c]}) H
theorem SJ:IxR X (Zh X.K):=by
 intro JJ PL AJ s σ H x y v u Q I rx ry h hs;have{p,xs,i,z,rfl,rfl,hq,he,q}:=h;cases rx;have{t,rfl}:=ry;have{CW,r,pl,hz}:=I.list hq;have{j,h1,h2,h3,h4,h5}:=Gc he;have{w,ew,MO}:=r.get h2;have hl:=r.length;have hn:=lZ;have fin:EP X AJ σ Q w s:={z,H,I,MO,q};by_cases h0:0<=i
 .have hj:i.toNat=j:=by rw[W6 h0 h5] at h1;exact BJ h1
  exact item_listR pl.isList h0 'L' (by rw[hj];simpa using ew) fin hs
 .have hj:(i+CW.toArray.size).toNat=j:=by rw[seqIndex_neg 'L' h4] at h1;rw[BA,<-hl];exact BJ h1
  exact gD pl.isList.typeIs UQ.lookup
   (wpAny_getItem_list_neg pl.isList 'L' (by rw[BA]<;>lia) 'L' (by rw[hj];simpa using ew) {rfl,fin}) hs
theorem eF:IxR X (Zg X.K):=by
 intro JJ PL AJ s σ H x y v u Q I rx ry h hs;have{p,xs,i,z,rfl,rfl,hq,he,q}:=h;cases rx;have{t,rfl}:=ry;have{CW,r,pl,hz}:=I.tuple hq;have{j,h1,h2,h3,h4,h5}:=Gc he;have{w,ew,MO}:=r.get h2;have hl:=r.length;have hn:=lZ;have fin:EP X AJ σ Q w s:={z,H,I,MO,q};exact gD pl.typeIs slot_tuple_getitem.lookup
  (getItem_tuple pl 'L' 'L' (by rw[BA,<-hl];exact h1) (by simpa using ew) {rfl,fin}) hs
theorem yD3:IxR X Zf:=by
 intro JJ PL AJ s σ H x y v u Q I rx ry h hs;have{z,i,c,rfl,rfl,hz,he,q}:=h;have{t,rfl}:=rx;have{t',rfl}:=ry;have{j,h1,h2,h3,h4,h5}:=Gc he;have hl:z.cps.toList.length=z.length:=by simp[Str.length]
 rw[hl] at h1 h4 h5;have hn:=lZ;exact k5 (typeIs_str s z t) slot_str_getitem.lookup (getItem_str (by have e1:decide (i < -(2 ^ 63:Int))=AE:=decide_eq_false 'L';have e2:decide (i>=2 ^ 63)=AE:=decide_eq_false 'L';rw[e1,e2,Bool.or_false]) (by rw[h1];simpa using h2) {.str {#[c]},H,I.tok _,{_,rfl},q}) hs
def rIx(K:AC):R2:=λx y H Q=>Zh K x y H Q\/Zg K x y H Q\/Zf x y H Q
theorem o7:IxR X (rIx X.K):=SJ.or (eF.or yD3)
theorem zQV(CW:List AI)(n j:Nat)(u:AI):D4 (·.setIfInBounds j u) { cls:=.type "list",data:=.seq CW.toArray n }={ cls:=.type "list",data:=.seq (CW.set j u).toArray n }:=by simp[D4]
theorem Inv.lst{AJ:List (AV×JF)}{σ:St}{H:Hp}{s:AN}{p:AV}{xs:List V}(I:Inv X AJ σ H s)(h:H p=AA (.lst xs)) : ∃(CW:List AI) (n:Nat),Vals xs CW/\s.heap.get? p=AA { cls:=.type "list",data:=.seq CW.toArray n }/\xs.length<=sizeLine:=by have{z,CW,n,r,e}:=I.hok p _ h;exact{CW,n,r,e,z}
theorem Inv.lstUpd{p:AV}{RS:List AI}{n':Nat}{f:JF->JF}(I:Inv X AJ σ H s)(h:H p=AA (.lst xs)) (ho:s.heap.get? p=AA { cls:=.type "list",data:=.seq CW.toArray n }) (hf:f { cls:=.type "list",data:=.seq CW.toArray n }={ cls:=.type "list",data:=.seq RS.toArray n' }) (r:Vals ys RS) (hz:ys.length<=sizeLine) (t:Nat) : Inv X AJ σ (DZ H p (.lst ys)) { s with heap:=s.heap.update p f,toks:=t }:=by
 have e:(s.heap.update p f).get? p=AA { cls:=.type "list",data:=.seq RS.toArray n' }:=by rw[HU f ho (by rw[hf]<;>rfl),hf]
 refine I.write (by rw[h];trivial) (.inl rfl) (λb u hb q=>(YY _ _ (CT hb)).trans q) {_,e} ?_;exact{hz,RS,n',r,e}
def yHG:V->V->V->Hp->(Hp->Prop)->Prop:=λo i v H Q=>∃p xs k j,o=.ref p/\i=.int k/\H p=AA (.lst xs)/\WY xs.length k=AA j/\Q (DZ H p (.lst (xs.set j v)))
theorem zVS:Zd X yHG:=by
 intro AJ s σ H o i v ov iv u Q I ro ri rv h;have{p,xs,k,j,rfl,rfl,hp,hj,q}:=h;cases ro;have{t,rfl}:=ri;have{CW,n,r,ho,hz}:=I.lst hp;have{h1,h2,h3,h4}:=Tp hj;have hl:=r.length;have hn:=lZ;have I' :=
  I.lstUpd hp ho (zQV CW n j u) (r.set rv j) (by rw[DI];exact hz) s.toks
 by_cases h0:0<=k
 .have hk:k.toNat=j:=by rw[W6 h0 h4] at h1;exact BJ h1
  exact PySem.W.ki_setAt ho h0 'L' (by rw[BA,<-hl];exact h4) (by rw[hk];exact{_,I',q})
 .have hk:(k+CW.toArray.size).toNat=j:=by rw[seqIndex_neg 'L' h3] at h1;rw[BA,<-hl];exact BJ h1
  exact PySem.W.ki_setBack ho 'L' (by rw[BA,<-hl];exact h3) 'L' (by rw[hk];exact{_,I',q})
theorem zLZ(lo hi:Option Int)(n:Nat):(G0 lo hi AL n).1=((HT.sIx n 0 lo:Nat):Int)/\(G0 lo hi AL n).2.1=((HT.sIx n n hi:Nat):Int)/\(G0 lo hi AL n).2.2=1:=by
 refine{?_,?_,rfl}
 .cases lo with
  |none=>simp[G0,HT.sIx]
  |some i =>
   simp only[G0,HT.sIx,dH,if_true];by_cases h:i<0
   .simp only[h,if_true]<;>lia
   .simp only[h,if_false]<;>lia
 .cases hi with
  |none=>simp[G0,HT.sIx]
  |some i =>
   simp only[G0,HT.sIx,dH,if_true];by_cases h:i<0
   .simp only[h,if_true]<;>lia
   .simp only[h,if_false]<;>lia
theorem zJ6(CW:List AI)(lo hi:Option Int):c9 CW.toArray lo hi AL=((CW.drop (HT.sIx CW.length 0 lo)).take (HT.sIx CW.length CW.length hi-HT.sIx CW.length 0 lo)).toArray:=by have{h1,h2,h3}:=zLZ lo hi CW.toArray.size;unfold c9;rw[h1,h2,h3];simp only[sliceRange_one,pick_run,BA]<;>rfl
def yKE(K:AC):V->Option Int->Option Int->Hp->VK->Prop:=λx lo hi H Q=>∃a xs,x=.ref a/\SqL K H a xs/\∀p,H p=AL->Q (.ref p) (DZ H p (.lst (Y4 xs lo hi)))
theorem Tl:SlR X (yKE X.K):=by intro AJ s σ H x v vl vu lo hi sl Q I rx hs pl pu h;have{a,xs,rfl,hx,q}:=h;cases rx;have{CW,r,ht,hz}:=I.list hx;have EV:=r.length;refine{"list",_,UQ.lookup,ht.isList.typeIs,?_};refine bX ht.isList hs pl pu .none 'S' ?_ (by rw[BA]<;>lia);rw[zJ6,<-EV];refine{.ref s.heap.objs.size,_,I.laid (λb ob q=>AF _ q) (AM _) ?_,rfl,q _ (I.hok.fresh (AM _))};exact{A0 (Xt xs lo hi) hz,_,0,(r.drop (HT.sIx xs.length 0 lo)).take (HT.sIx xs.length xs.length hi-HT.sIx xs.length 0 lo),AT _ rfl}
noncomputable def jS:V->Bool
 |.non=>AQ
 |.bl _=>AQ
 |.int _=>AQ
 |.str _=>AQ
 |_=>AE
noncomputable def iM:V->V->Bool
 |.non,.non=>AQ
 |.bl a,.bl b=>a==b
 |.bl a,.int b=>(if a then 1 else 0)==b
 |.int a,.bl b=>a==(if b then 1 else 0)
 |.int a,.int b=>a==b
 |.str a,.str b=>a==b
 |_,_=>AE
theorem yD4{x:V}(ry:RelV y u)(rx:RelV x v)(fy:jS y=AQ)(fx:jS x=AQ):cB A s u v (iM y x):=by
 cases y with
 |non =>
  cases ry;cases x with
  |non=>cases rx;exact SeqAt.EqAt.same _
  |bl b=>cases rx;exact SeqAt.EqAt.none_bool b
  |int b=>have{t,rfl}:=rx;exact SeqAt.EqAt.none_int b t
  |str b=>have{t,rfl}:=rx;exact SeqAt.EqAt.none_str b t
  |_=>exact absurd (fx) BH
 |bl a =>
  cases ry;cases x with
  |non=>cases rx;exact SeqAt.EqAt.bool_none a
  |bl b=>cases rx;exact SeqAt.EqAt.bool_bool a b
  |int b=>have{t,rfl}:=rx;exact SeqAt.EqAt.bool_int a b t
  |str b=>have{t,rfl}:=rx;exact SeqAt.EqAt.bool_str a b t
  |_=>exact absurd (fx) BH
 |int a =>
  have{t',rfl}:=ry;cases x with
  |non=>cases rx;exact SeqAt.EqAt.int_none a t'
  |bl b=>cases rx;exact SeqAt.EqAt.int_bool a t' b
  |int b=>have{t,rfl}:=rx;exact XA a t' b t
  |str b=>have{t,rfl}:=rx;exact W9 a t' b t
  |_=>exact absurd (fx) BH
 |str a =>
  have{t',rfl}:=ry;cases x with
  |non=>cases rx;exact SeqAt.EqAt.str_none a t'
  |bl b=>cases rx;exact SeqAt.EqAt.str_bool a t' b
  |int b=>have{t,rfl}:=rx;exact W8 a t' b t
  |str b=>have{t,rfl}:=rx;exact SeqAt.EqAt.str_str a t' b t
  |_=>exact absurd (fx) BH
 |_=>exact absurd (fy) BH
def kE(x:V)(u:AI):Bool:=match u with
 |.none=>iM .non x
 |.bool b=>iM (.bl b) x
 |.int i _=>iM (.int i) x
 |.str z _=>iM (.str z) x
 |_=>AE
theorem Qy{x:V}(r:RelV y u)(f:jS y=AQ):kE x u=iM y x:=by
 cases y with
 |non=>cases r;rfl
 |bl b=>cases r;rfl
 |int i=>have{t,rfl}:=r;rfl
 |str z=>have{t,rfl}:=r;rfl
 |_=>exact absurd (f) BH
theorem Gi{x:V}:∀{xs:List V} {us:List AI},Vals xs us->xs.all jS=AQ->us.any (kE x)=xs.any λy=>iM y x
 |_,_,.nil,_=>rfl
 |y::xs,u::us,.cons r t,f=>by rw[XG,CP] at f;rw[EK,EK,Qy r f.1,Gi t f.2]
theorem Hh{A:GL}{s:AN}{x:V}{v:AI}(rx:RelV x v)(fx:jS x=AQ):∀{xs:List V} {us:List AI},Vals xs us->xs.all jS=AQ->∀u∈us,cB A s u v (kE x u)
 |_,_,.nil,_=>λu hu=>by cases hu
 |y::xs,u::us,.cons r t,f=>λu' hu=>by
  rw[XG,CP] at f;rcases A3.mp hu with rfl|hu
  .rw[Qy r f.1];exact yD4 r rx f.1 fx
  .exact Hh rx fx t f.2 u' hu
def sN(x:V)(xs:List V):Bool:=xs.any λy=>iM y x
def rIn(K:AC)(bO:Bool):R2:=λx y H Q=>∃p xs,y=.ref p/\(SqL K H p xs\/SqT K H p xs)/\jS x=AQ/\xs.all jS=AQ/\Q (.bl (if bO then !sN x xs else sN x xs)) H
theorem zR7:OpR X (EL .In) (rIn X.K AE):=by
 intro AJ s σ H x y v u Q I rx ry h;have{p,xs,rfl,hq,fx,fs,q}:=h;cases ry;rcases hq with hq|hq
 .have{CW,r,pl,hz}:=I.list hq;refine i5 (kE x) pl.isList (λw hw=>Hh rx fx r fs w (by simpa using hw)) {.bl _,H,I,rfl,?_};rw[show CW.toArray.any (kE x)=CW.any (kE x) by simp,Gi r fs];exact q
 .have{CW,r,pl,hz}:=I.tuple hq;refine gI (kE x) pl (λw hw=>Hh rx fx r fs w (by simpa using hw)) {.bl _,H,I,rfl,?_};rw[show CW.toArray.any (kE x)=CW.any (kE x) by simp,Gi r fs];exact q
theorem V2:CallR X (.builtin "len") (λxs H Q=>∃p ys,xs=[.ref p]/\(SqL X.K H p ys\/SqT X.K H p ys)/\Q (.int ys.length) H):=by
 intro AJ s σ H xs us Q I r h;have{p,ys,rfl,hq,q}:=h;have{u,rfl,rx}:=Y6 r;cases rx;have hn:=lZ;rcases hq with hq|hq
 .have{CW,r',pl,hz}:=I.list hq;have EV:=r'.length;exact Calls.call_len_list pl.isList (by simp only[BA]<;>lia) {.int ys.length,H,I.tok _,{s.toks+1,by rw[BA,EV]},q}
 .have{CW,r',pl,hz}:=I.tuple hq;have EV:=r'.length;exact len_tuple pl (by simp only[BA]<;>lia) {.int ys.length,H,I.tok _,{s.toks+1,by rw[BA,EV]},q}
theorem V1:CallR X (.builtin "len") (λxs H Q=>∃z,xs=[.str z]/\z.length<=sizeLine/\Q (.int z.length) H):=by intro AJ s σ H xs us Q I r h;have{z,rfl,hz,q}:=h;have{u,rfl,t,rfl}:=Y6 r;have hn:=lZ;exact len_str 'L' {.int z.length,H,I.tok _,{_,rfl},q}
theorem CallR.or{f:AI}{r r':List V->Hp->VK->Prop}(h:CallR X f r)(h':CallR X f r'):CallR X f (λxs H Q=>r xs H Q\/r' xs H Q):=by
 intro AJ s σ H xs us Q I rs q;rcases q with q|q
 .exact h AJ s σ H xs us Q I rs q
 .exact h' AJ s σ H xs us Q I rs q
theorem V0:CallR X (.type "list") (λxs H Q=>∃p ys,xs=[.ref p]/\(SqL X.K H p ys\/SqT X.K H p ys)/\∀l,H l=AL->Q (.ref l) (DZ H l (.lst ys))):=by
 intro AJ s σ H xs us Q I r h;have{p,ys,rfl,hq,q}:=h;have{u,rfl,rx}:=Y6 r;cases rx;have fin:∀CW,Vals ys CW->ys.length<=sizeLine->∀h' c',(∀b o',s.heap.get? b=AA o'->h'.get? b=AA o') ->
   h'.get? s.heap.objs.size=AA { cls:=.type "list",dict:=AL,data:=.seq CW.toArray c',slots:=#[] }->EP X AJ σ Q (.ref s.heap.objs.size) { s with heap:=h' }:=λCW r' hz h' c' kp e =>
  {.ref s.heap.objs.size,_,I.laid kp (AM _) (show ObjOk X.prog X.w _ h' _ (.lst ys) from{hz,CW,c',r',e}),rfl,q _ (I.hok.fresh (AM _))}
 rcases hq with hq|hq
 .have{CW,r',pl,hz}:=I.list hq;have EV:=r'.length;have{o,ho,hc,n,hd}:=pl.isList;exact call_list_seq p (.inl rfl) ho hc hd (λh' c' kp e=>fin CW r' hz h' c' kp e) (by simp only[BA]<;>lia)
 .have{CW,r',pl,hz}:=I.tuple hq;have EV:=r'.length;have{o,ho,hc,n,hd}:=pl;exact call_list_seq p (.inr rfl) ho hc hd (λh' c' kp e=>fin CW r' hz h' c' kp e) (by simp only[BA]<;>lia)
theorem Ix:CallR X (.type "tuple") (λxs H Q=>∃p ys,xs=[.ref p]/\((SqL X.K H p ys/\∀l,H l=AL->Q (.ref l) (DZ H l (.tup ys)))\/(SqT X.K H p ys/\Q (.ref p) H))):=by
 intro AJ s σ H xs us Q I r h;have{p,ys,rfl,h}:=h;have{u,rfl,rx}:=Y6 r;cases rx;rcases h with⟨hq,q⟩|⟨hq,q⟩
 .have{CW,r',pl,hz}:=I.list hq;have EV:=r'.length;refine call_tuple_list pl.isList (λh' kp=>?_) (by simp only[BA]<;>lia);have I1:=I.kept (t':=s.toks) kp;have I2 :=
   I1.laid (t':=s.toks) (λb o e=>AF _ e) (AM _) (show ObjOk X.prog X.w _ _ _ (.tup ys) from{hz,CW,r',IsTupP.new _ _})
  exact{.ref h'.objs.size,_,I2,rfl,q _ (I1.hok.fresh (AM _))}
 .have{CW,r',pl,hz}:=I.tuple hq;exact call_tuple_same pl {.ref p,H,I,rfl,q}
def Ck(K:AC)(T:String)(x:V)(H:Hp):Prop:=match x with
 |.str _=>T="str"
 |.int _=>T="int"
 |.ref p=>(T="list"/\∃xs,SqL K H p xs)\/(T="tuple"/\∃o,K.lookup p=AA o/\o.cls=.type "tuple"/\o.dict=AL) \/
   (T="dict"/\((∃kvs,H p=AA (.dK kvs))\/∃kvs,H p=AA (.dT kvs)))\/(T="set"/\∃S n,H p=AA (.set S n))
 |_=>False
theorem Qx{x:V}(I:Inv X AJ σ H s)(r:RelV x v)(ty:Ck X.K T x H) : s.TypeIs v T/\∀a,v=.ref a->∃ob,s.heap.get? a=AA ob/\ob.dict=AL:=by
 cases x with
 |str z=>have{t,rfl}:=r;cases(ty);exact{typeIs_str s z t,λ_ e=>nomatch e}
 |int i=>have{t,rfl}:=r;cases(ty);exact{typeIs_int s i t,λ_ e=>nomatch e}
 |ref p =>
  cases r;rcases ty with⟨rfl,xs,hq⟩|⟨rfl,o,hk,hc,hd⟩|⟨rfl,hk⟩|⟨rfl,S,n,hk⟩
  .have{CW,_,pl,_}:=I.list hq;refine{pl.isList.typeIs,λa e=>?_};cases e;have{o,n,e,c,hd,_}:=pl;exact{o,e,hd}
  .refine{{o,I.kIn p o hk,hc},λa e=>?_};cases e;exact{o,I.kIn _ o hk,hd}
  .have z:∃o,s.heap.get? p=AA o/\o.ExactDict:=by
    rcases hk with⟨kvs,hk⟩|⟨kvs,hk⟩
    .have{_,_,_,_,o,_,_,e,ex,_}:=I.hok p _ hk;exact{o,e,ex}
    .have{_,_,_,_,o,_,_,e,ex,_}:=I.hok p _ hk;exact{o,e,ex}
   have{o,e,ex}:=z;refine{{o,e,ex.1},λa e2=>?_};cases e2;exact{o,e,ex.2.1}
  .have{o,_,_,_,e,ex,_}:=I.hok p _ hk;refine{{o,e,ex.1},λa e2=>?_};cases e2;exact{o,e,ex.2.1}
 |_=>exact IH ty
def yKF(K:AC)(T:String)(r:V->List V->Hp->VK->Prop)(to:TE):TE:=λσ H Q=>to σ H λx H1=>Ck K T x H1/\r x [] H1 Q
def tBM(K:AC)(T:String)(r:V->List V->Hp->VK->Prop)(to:TE)(t:TA):TE:=λσ H Q=>to σ H λx H1=>Ck K T x H1/\t σ H1 λxs H2=>r x xs H2 Q
variable{to:TE}{t:TA}{MS:Pos}{id:String}{r:V->List V->Hp->VK->Prop}
theorem yD5(pa:PlainAttrs T)(slot:Slot T name id)(Ni:typeOf (.builtin id)=pure (.type "method_descriptor"))(hm:Da X id r)(ho:PE X o to) (TL:SS o name X.env (eval o X.env)=eval o X.env:=by rfl) (TK:(YF.endLine==MS.line)=AQ:=by rfl):PE X (.Call (.Attribute o name YF) [] [] MS) (yKF X.K T r to):=by intro AJ s σ H Q I h;refine wpAny_Call_method0_late TL TK (HE (ho AJ s σ H _ I h) λv s1 ⟨x,H1,I1,r1,ty,q1⟩=>?_);have{h1,h2}:=Qx I1 r1 ty;exact{T,id,pa,slot,Ni,h1,h2,YJ rfl (PySem.evalArgs_none (hm AJ s1 σ H1 x [] v [] Q I1 r1 .nil q1))}
theorem nY(pa:PlainAttrs T)(slot:Slot T name id)(Ni:typeOf (.builtin id)=pure (.type "method_descriptor"))(hm:Da X id r)(ho:PE X o to)(ha:PA X (e::es) t) (TL:SS o name X.env (eval o X.env)=eval o X.env:=by rfl) (fR:((EW MS (AW (e::es) X.env)).all (λx=>!x.1)&&(backToKw MS (k6 [] X.env)).all (λx=>x.1.isSome) && decide ((e::es).length+([]:List UZ).length+(if([]:List UZ).isEmpty then 0 else 1)<30))=AQ:=by rfl) (TK:(YF.endLine==MS.line)=AQ:=by rfl) (hs:AW (e::es) X.env=(AE,eval e X.env)::AW es X.env:=by rfl) (TJ:(EW MS (AW es X.env)).any (·.1)=AE:=by rfl) : PE X (.Call (.Attribute o name YF) (e::es) [] MS) (tBM X.K T r to t):=by intro AJ s σ H Q I h;refine wpAny_Call_method_late TL fR TK rfl (HE (ho AJ s σ H _ I h) λv s1 ⟨x,H1,I1,r1,ty,q1⟩=>?_);have{h1,h2}:=Qx I1 r1 ty;refine{T,id,pa,slot,Ni,h1,h2,?_};have hA:=ha MS AJ s1 σ H1 _ I1 q1;rw[hs] at hA ⊢;refine YJ (by show(AE||(EW MS (AW es X.env)).any (·.1))=AE;rw[TJ]<;>rfl) (Calls.evalArgs_plain ?_);exact HE hA (λus s2 q0=>by have{vs,H2,I2,r2,q2}:=q0;exact hm AJ s2 σ H2 x vs v us Q I2 r1 r2 q2)
/- xs.append(e),list.index on a module's tuple .. are Da facts of 06m -/
end
def Kt(X:Cx)(id:String)(r:V->List V->Hp->VK->Prop):Prop :=∀(AJ:List (AV×JF)) (s:AN) (σ:St) (H:Hp) (x:V) (xs:List V) (v:AI) (us:List AI) (Q:VK),Inv X AJ σ H s->RelV x v->Vals xs us->r x xs H Q ->BE (A9 X.prog X.w) X.A (call (.builtin id) (v::us)) (EP X AJ σ Q) X.xe s
theorem Vals.one:∀{x:V} {us:List AI},Vals [x] us->∃u,us=[u]/\RelV x u
 |_,_,.cons r .nil=>{_,rfl,r}
theorem Vals.zero:∀{us:List AI},Vals [] us->us=[]
 |_,.nil=>rfl
theorem Vals.dropLast{xs:List V}{us:List AI}(h:Vals xs us):Vals xs.dropLast us.dropLast:=by
 induction h with
 |nil=>exact .nil
 |cons r t ih =>
  cases t with
  |nil=>exact .nil
  |cons q t'=>exact .cons r ih
theorem Vals.eraseIdx:∀{xs:List V} {us:List AI} (i:Nat),Vals xs us->Vals (xs.eraseIdx i) (us.eraseIdx i)
 |_,_,_,.nil=>.nil
 |_,_,0,.cons _ t=>t
 |_,_,i+1,.cons r t=>.cons r (Vals.eraseIdx i t)
theorem Vals.reverse{xs:List V}{us:List AI}(h:Vals xs us):Vals xs.reverse us.reverse:=by
 induction h with
 |nil=>exact .nil
 |cons r t ih=>rw[JU,JU];exact Vals.append ih (.cons r .nil)
theorem Vals.rep{xs:List V}{us:List AI}(h:Vals xs us):∀k:Nat,Vals (BP k xs).flatten (BP k us).flatten
 |0=>.nil
 |k+1=>by rw[ES,ES,GQ,GQ];exact Vals.append h (Vals.rep h k)
theorem zQW(l:List α):l.eraseIdx (l.length-1)=l.dropLast:=by
 induction l with
 |nil=>rfl
 |cons a r ih =>
  cases r with
  |nil=>rfl
  |cons b r =>
   have e:(a::b::r).length-1=((b::r).length-1)+1:=by have h1:(a::b::r).length=r.length+2:=rfl;have h2:(b::r).length=r.length+1:=rfl;lia
   rw[e,YH,ih];all_goals rfl
theorem Wq{α:Type}:∀(l:List α) (i:Nat),(l.eraseIdx i).length<=l.length
 |[],_=>AM _
 |_::_,0=>HF _
 |_::r,i+1=>Nat.succ_le_succ (Wq r i)
theorem Wp(CW:List AI):∀(k:Nat) (B0:List AI),List.foldl (λx1 x2=>x1++x2) B0.toArray (BP k CW.toArray)=(B0++(BP k CW).flatten).toArray
 |0,B0=>by simp
 |k+1,B0=>by
  have e:B0.toArray++CW.toArray=(B0++CW).toArray:=by simp
  have e2:(B0++CW)++(BP k CW).flatten=B0++(BP (k+1) CW).flatten:=by rw[ES,GQ,C0]
  rw[<-e2,<-Wp CW k (B0++CW),<-e,ES,N4]
section
variable{l:AV}{zs:List V}
theorem Inv.lset{RS:List AI}{f:Array AI->Array AI}(I:Inv X AJ σ H s)(hH:H l=AA (.lst xs)) (e:s.heap.get? l=AA { cls:=.type "list",data:=.seq CW.toArray n }) (hf:f CW.toArray=RS.toArray) (hv:Vals ys RS) (hz:ys.length<=sizeLine) : Inv X AJ σ (DZ H l (.lst ys)) { s with heap:=s.heap.update l (D4 f),toks:=t' }:=by have q:=PySem.IsL.update e f;rw[hf] at q;refine I.write (by rw[hH];exact trivial) (.inl rfl) (λb' u hb hu=>(YY s.heap (D4 f) (CT hb)).trans hu) {_,q} ?_;exact{hz,RS,_,hv,q}
theorem Inv.lnew(I:Inv X AJ σ H s)(hv:Vals ys CW)(hz:ys.length<=sizeLine) : Inv X AJ σ (DZ H s.heap.objs.size (.lst ys)) { s with heap:=s.heap.push { cls:=.type "list",data:=.seq CW.toArray },toks:=t' } :=I.laid (λ_ _ q=>AF _ q) (AM _) {hz,CW,0,hv,AT _ rfl}
theorem Inv.fresh(I:Inv X AJ σ H s):H s.heap.objs.size=AL:=I.hok.fresh (AM _)
theorem Inv.lstM(I:Inv X AJ σ H s)(hH:H l=AA (.lst xs)):xs.length<=sizeLine/\∃(CW:List AI) (n:Nat),Vals xs CW/\xs.length=CW.length/\s.heap.get? l=AA { cls:=.type "list",data:=.seq CW.toArray n }:=by have{z,CW,n,r,e}:=I.hok l _ hH;exact{z,CW,n,r,r.length,e}
theorem zVT(h:n<=sizeLine):K0 n=AE:=by unfold K0;exact decide_eq_false (lB h)
end
def Tk:V->List V->Hp->VK->Prop:=λx vs H Q=>∃l xs y,x=.ref l/\vs=[y]/\H l=AA (.lst xs)/\xs.length<sizeLine/\Q .non (DZ H l (.lst (xs++[y])))
theorem rQ:Kt X "list.append" Tk:=by intro AJ s σ H x vs v us Q I rx rv h;have{l,xs,y,rfl,rfl,hH,hz,q}:=h;cases rx;have{u,rfl,ru}:=rv.one;have{z,CW,n,r,hl,e}:=I.lstM hH;refine OY F.slot_list_append {_,e,rfl} F.entry_list_append (F.args_list_append_2 _ _) (PySem.list_append l CW.toArray n u (by rw[BA];lia)) {e,?_};refine{.non,_,I.lset hH e 'S' (r.append (.cons ru .nil)) ?_,rfl,q};rw[BG,CV];exact MX hz
def yKG:V->List V->Hp->VK->Prop:=λx vs H Q=>∃l xs y,x=.ref l/\vs=[]/\H l=AA (.lst xs)/\xs[xs.length-1]?=AA y/\Q y (DZ H l (.lst xs.dropLast))
theorem yD6:Kt X "list.pop" yKG:=by
 intro AJ s σ H x vs v us Q I rx rv h;have{l,xs,y,rfl,rfl,hH,hy,q}:=h;cases rx;have hus:=rv.zero;subst hus;have{z,CW,n,r,hl,e}:=I.lstM hH;have{u,hu,ru}:=r.get hy;have hy':CW.toArray[CW.toArray.size-1]?=AA u:=by show CW.toArray[CW.length-1]?=AA u;rw[<-DF,<-hl];exact hu
 refine OY F.slot_list_pop {_,e,rfl} F.entry_list_pop (F.args_list_pop_1 _) (MeetsSeq.list_pop_last l CW.toArray n u hy' (by rw[BA];lia)) {e,?_};refine{y,_,I.lset hH e ?_ r.dropLast ?_,ru,q}
 .rw[BA,R9,zQW]
 .rw[List.length_dropLast];exact A0 (DJ _ _) z
def Qw:V->List V->Hp->VK->Prop:=λx vs H Q=>∃l xs i k y,x=.ref l/\vs=[.int i]/\H l=AA (.lst xs)/\-(2 ^ 63)<=i/\i<2 ^ 63/\seqIndex? i xs.length=AA k/\xs[k]?=AA y/\Q y (DZ H l (.lst (xs.eraseIdx k)))
theorem zVU:Kt X "list.pop" Qw:=by
 intro AJ s σ H x vs v us Q I rx rv h;have{l,xs,i,k,y,rfl,rfl,hH,h1,h2,hk,hy,q}:=h;cases rx;have{u,rfl,ru}:=rv.one;have{t,rfl}:=ru;have{z,CW,n,r,hl,e}:=I.lstM hH;have{w,hw,MO}:=r.get hy;refine OY F.slot_list_pop {_,e,rfl} F.entry_list_pop (F.args_list_pop_2 _ _)
  (MeetsSeq.list_pop_at l CW.toArray n i t k w (fitsIndex_both h1 h2) (by rw[BA,<-hl];exact hk) (by rw[<-DF];exact hw) (by rw[BA];lia)) {e,?_}
 refine{y,_,I.lset hH e ?_ (r.eraseIdx k) ?_,MO,q}
 .rw[R9]
 .have:=Wq xs k;exact A0 this z
def yKH:R2:=λx y H Q=>∃l k xs,x=.ref l/\y=.int k/\H l=AA (.lst xs)/\-(2 ^ 63)<=k/\k<2 ^ 63/\xs.length * k.toNat<=sizeLine /\ ∀p,H p=AL->Q (.ref p) (DZ H p (.lst (BP k.toNat xs).flatten))
theorem zZS(xs:List α)(k:Nat):(BP k xs).flatten.length=k * xs.length:=by
 induction k with
 |zero=>simp
 |succ k ih=>rw[ES,GQ,BG,ih,Nat.succ_mul,R8]
theorem yD7:OpR X (HI .Mult) yKH:=by
 intro AJ s σ H x y v u Q I rx ry h;have{l,k,xs,rfl,rfl,hH,h1,h2,hz,q}:=h;cases rx;have{t,rfl}:=ry;have{z,CW,n,r,hl,e}:=I.lstM hH;have EV:CW.toArray.size * k.toNat<=sizeLine:=by rw[BA,<-hl];exact hz
 have qB:¬CW.toArray.size * k.toNat>(2 ^ 63-1) / 8:=by
  have:sizeLine<=(2 ^ 63-1) / 8:=by decide
  exact lB (A0 EV this)
 have Om:¬(!Builtin.List.listFitsIndex k)=AQ:=by rw[fitsIndex_both h1 h2];exact BH
 have yE:¬K0 (CW.toArray.size * k.toNat)=AQ:=by rw[zVT EV];exact BH
 have ZJ:List.foldl (λx1 x2=>x1++x2) #[] (BP (if CW.toArray.isEmpty=AQ then 0 else k.toNat) CW.toArray)=(BP k.toNat CW).flatten.toArray:=by
  have f0:=λm=>by have:=Wp CW m [];rw[GJ] at this;exact this
  rw[f0];cases CW with
  |nil=>simp
  |cons a r'=>rw[if_neg 'S']
 refine wpAny_binaryOp_repeat_ref 'D' {_,e,rfl} (λs'=>typeIs_int s' k t) noFill_list_mul F.fills_int_mul F.slot_int_rmul repeat_list F.slot_int_index.lookup
  (OY F.slot_int_rmul (typeIs_int s k t) F.entry_int_rmul (F.args_int_rmul_2 _ _) (int___rmul___int_list k t l CW.toArray n)
   {e,rfl,{_,e,rfl},OY F.slot_list_mul {_,e,rfl} F.entry_list_mul (F.args_list_mul_2 _ _) (AutoListH.list___mul___list_int_3 l CW.toArray n k t Om qB yE) {e,?_}})
 rw[ZJ];exact{.ref _,_,I.lnew (r.rep k.toNat) (by rw[zZS,Nat.mul_comm];exact hz),rfl,q _ I.fresh}
section
variable[DecidableEq κ]
noncomputable def Q1(kvs:List (κ×V))(k:κ):Option V:=(kvs.find? λkv=>decide (kv.1=k)).map (·.2)
noncomputable def UC(kvs:List (κ×V))(k:κ)(v:V):List (κ×V) :=if(kvs.any λkv=>decide (kv.1=k))=AQ then kvs.map (λkv=>if kv.1=k then(kv.1,v) else kv) else kvs++[(k,v)]
theorem Hg{p:κ×V}{r:List (κ×V)}{k:κ}(e:p.1=k):Q1 (p::r) k=AA p.2:=by simp[Q1,e]
theorem Gy{p:κ×V}{r:List (κ×V)}{k:κ}(e:¬p.1=k):Q1 (p::r) k=Q1 r k:=by simp[Q1,e]
theorem Us(k:κ):∀kvs:List (κ×V),(kvs.any λkv=>decide (kv.1=k))=(Q1 kvs k).isSome
 |[]=>rfl
 |p::r=>by
  rw[EK];by_cases e:p.1=k
  .simp only[Hg e,decide_eq_true e,Bool.true_or,Option.isSome_some]
  .rw[Gy e,decide_eq_false e,Bool.false_or];exact Us k r
theorem Iq(kvs:List (κ×V))(k:κ)(v:V):(UC kvs k v).length<=kvs.length+1:=by
 unfold UC;split
 .rw[AK];lia
 .rw[BG,A8,GK];lia
theorem RelO.isSome_eq{o:Option V}{u:Option AI}(r:RelO o u):o.isSome=u.isSome:=by
 cases o with
 |none=>cases u with
  |none=>rfl
  |some _=>exact(r).elim
 |some _=>cases u with
  |none=>exact(r).elim
  |some _=>rfl
theorem KV.val{kvs:List (κ×V)}{vs:List (κ×AI)}(r:KV kvs vs)(k:κ):RelO (Q1 kvs k) (YU vs k):=by
 unfold KV at r;induction r with
 |nil=>exact NO
 |@cons p q ps qs h t ih =>
  have{h1,h2}:=h;by_cases e:p.1=k
  .have e':=h1.symm.trans e;have b:YU (q::qs) k=AA q.2:=by simp[YU,e']
   rw[Hg e,b];exact h2
  .have e':¬q.1=k:=λz=>e (h1.trans z);have b:YU (q::qs) k=YU qs k:=by simp[YU,e']
   rw[Gy e,b];exact ih
theorem KV.any{kvs:List (κ×V)}{vs:List (κ×AI)}(r:KV kvs vs)(k:κ):(kvs.any λkv=>decide (kv.1=k))=vs.any λkv=>decide (kv.1=k):=by
 unfold KV at r;induction r with
 |nil=>rfl
 |cons h t ih=>rw[EK,EK,ih,h.1]
theorem KV.repl{kvs:List (κ×V)}{vs:List (κ×AI)}(r:KV kvs vs)(k:κ)(ry:RelV y u) : KV (kvs.map λkv=>if kv.1=k then(kv.1,y) else kv) (vs.map λkv=>if kv.1=k then(kv.1,u) else kv):=by
 unfold KV at r ⊢;induction r with
 |nil=>exact .nil
 |@cons p q ps qs h t ih =>
  rw[AU,AU];refine .cons ?_ ih;have{h1,h2}:=h;by_cases e:p.1=k
  .rw[if_pos e,if_pos (h1.symm.trans e)];exact{h1,ry}
  .rw[if_neg e,if_neg (λz=>e (h1.trans z))];exact{h1,h2}
theorem KV.put{kvs:List (κ×V)}{vs:List (κ×AI)}(r:KV kvs vs)(k:κ)(ry:RelV y u):KV (UC kvs k y) (stored vs k u):=by
 unfold UC stored;rw[r.any k];by_cases e:(vs.any λkv=>decide (kv.1=k))=AQ
 .rw[if_pos e,if_pos e];exact r.repl k ry
 .rw[if_neg e,if_neg e];exact Paired.snoc r {rfl,ry}
theorem KV.keys{kvs:List (κ×V)}{vs:List (κ×AI)}(r:KV kvs vs):kvs.map (·.1)=vs.map (·.1):=by
 unfold KV at r;induction r with
 |nil=>rfl
 |cons h t ih=>rw[AU,AU,ih,h.1]
theorem KV.length{kvs:List (κ×V)}{vs:List (κ×AI)}(r:KV kvs vs):kvs.length=vs.length:=Paired.length r
end
theorem qT{k:Key}(r:RelV (kV k) u):(YO P w).is k u=AQ:=by
 cases k with
 |inl i=>have{t,e}:=(r);subst e;exact zNU P w i t
 |inr x=>have{t,e}:=(r);subst e;exact zNV P w x t
theorem Wo{P:CA}{w:DL}:∀{ks:List Key} {us:List AI},Vals (ks.map kV) us->ItemsAre (YO P w) ks us
 |[],_,r=>by rw[YV] at r;cases r;exact .nil
 |k::ks,_,r=>by
  rw[AU] at r;cases r with
  |cons h t=>exact .cons (qT h) (Wo t)
abbrev KT(H:Hp):List (List Key×V)->List (List Key×AV×AI)->Prop:=Paired λp q=>p.1=q.1/\H q.2.1=AA (.tup (p.1.map kV))/\RelV p.2 q.2.2
theorem KT.val{xs:List (List Key×AV×AI)}(r:KT H kvs xs)(k:List Key):RelO (Q1 kvs k) ((dD xs k).map (·.2)):=by
 induction r with
 |nil=>exact NO
 |@cons p q ps qs h t ih =>
  have{h1,_,h2}:=h;by_cases e:p.1=k
  .have e':=h1.symm.trans e;have b:dD (q::qs) k=AA q.2:=by simp[dD,e']
   rw[Hg e,b];exact h2
  .have e':¬q.1=k:=λz=>e (h1.trans z);have b:dD (q::qs) k=dD qs k:=by simp[dD,e']
   rw[Gy e,b];exact ih
theorem KT.repl{xs:List (List Key×AV×AI)}(r:KT H kvs xs)(k:List Key)(ry:RelV y u) : KT H (kvs.map λkv=>if kv.1=k then(kv.1,y) else kv) (xs.map (putAt k u)):=by
 induction r with
 |nil=>exact .nil
 |@cons p q ps qs h t ih =>
  rw[AU,AU];refine .cons ?_ ih;have{h1,h2,h3}:=h;unfold putAt;by_cases e:p.1=k
  .rw[if_pos e,if_pos (h1.symm.trans e)];exact{h1,h2,ry}
  .rw[if_neg e,if_neg (λz=>e (h1.trans z))];exact{h1,h2,h3}
theorem KT.put{xs:List (List Key×AV×AI)}(r:KT H kvs xs)(k:List Key)(hb:H b=AA (.tup (k.map kV)))(ry:RelV y u) : KT H (UC kvs k y) (storedH xs k b u):=by
 have e:(kvs.any λkv=>decide (kv.1=k))=(dD xs k).isSome:=by rw[Us,(r.val k).isSome_eq,QB]
 unfold UC storedH;rw[e];by_cases q:(dD xs k).isSome=AQ
 .rw[if_pos q,if_pos q];exact r.repl k ry
 .rw[if_neg q,if_neg q];exact Paired.snoc r {rfl,hb,ry}
theorem KT.keeps{xs:List (List Key×AV×AI)}(r:KT H kvs xs)(ht:∀b ys,H b=AA (.tup ys)->H' b=AA (.tup ys)):KT H' kvs xs :=pA0 r λ_ _ z=>{z.1,ht _ _ z.2.1,z.2.2}
theorem yD8{u:HO}(ok:HOk P w H h)(e:Rd H a u):ObjOk P w H h a u:=e.ok ok
theorem nX{kvs:List (Key×V)}(ok:HOk P w H h)(e:Rd H a (.dK kvs)):kvs.length<=sizeLine/\(a==HZ)=AE/\∃vs,KV kvs vs/\h.DictOf (YO P w) a vs :=yD8 ok e
theorem yD9{kvs:List (Key×V)}(ok:HOk P w H h)(e:H a=AA (.dK kvs)):kvs.length<=sizeLine/\(a==HZ)=AE/\∃vs,KV kvs vs/\h.DictOf (YO P w) a vs:=nX ok (.inl e)
theorem rC{ks:List Key}(ok:HOk P w H h)(e:H a=AA (.tup (ks.map kV))):(OI (YO P w)).is h ks a:=by have{_,CW,r,o,h1,h2,_,n,h3}:=(ok a _ e);exact{o,CW.toArray,n,h1,h2,h3,by simpa using Wo r}
theorem uI(ok:HOk P w H h)(e:Rd H a (.dT kvs)):kvs.length<=sizeLine/\(a==HZ)=AE /\ ∃xs,KT H kvs xs/\h.DictOfH (OI (YO P w)) a xs:=by
 have{z,y,xs,r,o,es,ep,h1,h2,h3,h4,h5}:=(yD8 ok e);refine{z,y,xs,r,o,es,ep,h1,h2,h3,h4,λx hx=>?_,h5};have all:∀{l:List (List Key×V)} {m:List (List Key×AV×AI)},KT H l m->∀x∈m,(OI (YO P w)).is h x.1 x.2.1:=by
  intro l m q;induction q with
  |nil=>intro x hx;exact nomatch hx
  |@cons p q ps qs hq t ih =>
   intro x hx;rcases A3.mp hx with e|hx
   .subst e;exact rC ok (by rw[<-hq.1];exact hq.2.1)
   .exact ih x hx
 exact all r x hx
theorem yEA(ok:HOk P w H h)(e:H a=AA (.dT kvs)):kvs.length<=sizeLine/\(a==HZ)=AE /\ ∃xs,KT H kvs xs/\h.DictOfH (OI (YO P w)) a xs:=uI ok (.inl e)
def nO(H:Hp)(a:AV)(y:V)(r:Option V):Prop :=(∃kvs k,Rd H a (.dK kvs)/\y=kV k/\r=Q1 kvs k)\/∃kvs k b,Rd H a (.dT kvs)/\y=.ref b/\H b=AA (.tup (k.map kV))/\r=Q1 kvs k
def DPut(H:Hp)(a:AV)(y v:V)(H':Hp):Prop :=(∃kvs k,H a=AA (.dK kvs)/\y=kV k/\kvs.length<sizeLine/\H'=DZ H a (.dK (UC kvs k v))) \/ ∃kvs k b,H a=AA (.dT kvs)/\y=.ref b/\H b=AA (.tup (k.map kV))/\kvs.length<sizeLine/\H'=DZ H a (.dT (UC kvs k v))
theorem DPut.kk{kvs:List (Key×V)}{k:Key}{v:V}(e:H a=AA (.dK kvs))(hl:kvs.length<sizeLine):DPut H a (kV k) v (DZ H a (.dK (UC kvs k v))):=.inl {kvs,k,e,rfl,hl,rfl}
theorem DPut.t{k:List Key}{v:V}(e:H a=AA (.dT kvs))(eb:H b=AA (.tup (k.map kV)))(hl:kvs.length<sizeLine) : DPut H a (.ref b) v (DZ H a (.dT (UC kvs k v))):=.inr {kvs,k,b,e,rfl,eb,hl,rfl}
section
variable{v:V}{r:AI}{o:Option V}
theorem Inv.big(I:Inv X AJ σ H s):HZ<s.heap.objs.size:=by have h:=(I.mod.glob.keeps I.bk).lt;exact DB 'D' h
theorem zSA(hu:A.units+1<GD)(I:Inv X AJ σ H s)(g:nO H a y (AA v))(ry:RelV y u)(h:∀w' s',Inv X AJ σ H s'->RelV v w'->Q w' s') : BE (A9 X.prog X.w) A (Q9 (.ref a) u) Q E s:=by
 rcases g with⟨kvs,k,e,ey,l⟩|⟨kvs,k,b,e,ey,eb,l⟩
 .subst ey;have{z,hd,vs,OO,dd}:=nX I.hok e;have{w',hw,MO}:=RelO.some_of (by rw[l];exact OO.val k);exact wpAny_getItem_of (qT ry) dd.mapOf hw (h w' _ (I.tok _) MO)
 .subst ey;cases(ry);have{z,hd,xs,OO,dd}:=uI I.hok e;have{w',hw,MO}:=RelO.some_of (by rw[l];exact OO.val k);have{p,hp,ZI}:=BU.mp hw;refine wpAny_getItem_heap (HY hu) (rC I.hok eb) dd hp ?_;rw[ZI];exact h w' _ (I.tok _) MO
theorem yKI(hu:A.units+1<GD)(I:Inv X AJ σ H s)(g:nO H a y o)(ry:RelV y u)(h:∀s',Inv X AJ σ H s'->Q (.bool o.isSome) s') : BE (A9 X.prog X.w) A (EL .In u (.ref a)) Q E s:=by
 rcases g with⟨kvs,k,e,ey,l⟩|⟨kvs,k,b,e,ey,eb,l⟩
 .subst ey;have{z,hd,vs,OO,dd}:=nX I.hok e;refine wpAny_in_of (qT ry) hd dd.mapOf ?_;rw[<-(OO.val k).isSome_eq,<-l];exact h _ (I.tok _)
 .subst ey;cases(ry);have{z,hd,xs,OO,dd}:=uI I.hok e;refine wpAny_in_heap (HY hu) (rC I.hok eb) hd dd ?_;have q:=(OO.val k).isSome_eq;rw[QB] at q;rw[<-q,<-l];exact h _ (I.tok _)
theorem zZU(hu:A.units+1<GD)(I:Inv X AJ σ H s)(g:nO H a y o)(ry:RelV y u)(h:∀s',Inv X AJ σ H s'->Q (.bool (!o.isSome)) s') : BE (A9 X.prog X.w) A (EL .NotIn u (.ref a)) Q E s:=by
 rcases g with⟨kvs,k,e,ey,l⟩|⟨kvs,k,b,e,ey,eb,l⟩
 .subst ey;have{z,hd,vs,OO,dd}:=nX I.hok e;refine wpAny_notIn_of (qT ry) hd dd.mapOf ?_;rw[<-(OO.val k).isSome_eq,<-l];exact h _ (I.tok _)
 .subst ey;cases(ry);have{z,hd,xs,OO,dd}:=uI I.hok e;refine wpAny_notIn_heap (HY hu) (rC I.hok eb) hd dd ?_;have q:=(OO.val k).isSome_eq;rw[QB] at q;rw[<-q,<-l];exact h _ (I.tok _)
theorem Ar{ob:HO}(I:Inv X AJ σ H s)(mu:wI (H a))(hs:CQ a s.heap h')(he:∃q,h'.get? a=AA q)(new:ObjOk X.prog X.w (DZ H a ob) h' a ob) : Inv X AJ σ (DZ H a ob) { s with heap:=h',toks:=t' } :=I.write mu (.inl rfl) (λb q hb z=>(hs.2 b hb).trans z) he new
theorem Qv{kvs:List (Key×V)}{vs:List (Key×AI)}(z:kvs.length<=sizeLine)(hd:(a==HZ)=AE)(OO:KV kvs vs)(dd:h'.DictOf (YO P w) a vs) : ObjOk P w H' h' a (.dK kvs):={z,hd,vs,OO,dd}
theorem zSB{Q:Unit->AN->Prop}(hu:A.units+1<GD)(I:Inv X AJ σ H s)(g:DPut H a y v H')(ry:RelV y u)(rv:RelV v r)(h:∀s',Inv X AJ σ H' s'->Q () s') : BE (A9 X.prog X.w) A (setItem (.ref a) u r) Q E s:=by
 rcases g with⟨kvs,k,e,ey,l,eH⟩|⟨kvs,k,b,e,ey,eb,l,eH⟩
 .subst ey eH;have{z,hd,vs,OO,dd}:=yD9 I.hok e;have hz:vs.length<=sizeLine:=by rw[<-OO.length];exact z
  have hl:(UC kvs k v).length<=sizeLine:=by have:=Iq kvs k v;lia
  refine wpAny_setItem_pairs (qT ry) dd λh' qL hs=>h _ ?_;have he:∃q,h'.get? a=AA q:=let ⟨q,_,_,hq,_⟩:=qL;{q,hq};exact Ar I (by rw[e];exact NO) hs he (Qv hl hd (OO.put k rv) qL)
 .subst ey eH;cases(ry);have{z,hd,xs,OO,dd}:=yEA I.hok e;have hz:xs.length<=sizeLine:=by rw[<-Paired.length OO];exact z
  have hl:(UC kvs k v).length<=sizeLine:=by have:=Iq kvs k v;lia
  refine wpAny_setItem_heap (HY hu) (rC I.hok eb) dd λh' qL hs=>h _ ?_;have{q,es,ep,hq,h2,h3,h4,_,h5}:=qL;refine Ar I (by rw[e];exact NO) hs {q,hq} {hl,hd,_,(OO.put k eb rv).keeps λc ys ec=>?_,q,es,ep,hq,h2,h3,h4,h5};rw[EH (zY ec e (λz=>nomatch z))];exact ec
end
section
variable{kvs:List (Key×V)}{k:Key}
theorem yHH(I:Inv X AJ σ H s)(e:Rd H a (.dK kvs))(h:∀t s',Inv X AJ σ H s'->Q (.int kvs.length t) s'):BE (A9 X.prog X.w) A (call (.builtin "len") [.ref a]) Q E s:=by have{z,hd,vs,OO,dd}:=nX I.hok e;refine call_len_dict hd dd (by rw[<-OO.length];rw[FM] at z;lia) ?_;rw[<-OO.length];exact h _ _ (I.tok _)
end
theorem zN3{o:Option V}(I:Inv X AJ σ H s)(g:nO H a y o):s.TypeIs (.ref a) "dict":=by
 rcases g with⟨kvs,k,e,_,_⟩|⟨kvs,k,b,e,_,_,_⟩
 .have{_,_,vs,_,dd}:=nX I.hok e;exact dd.typeIs
 .have{_,_,xs,_,dd}:=uI I.hok e;exact dd.typeIs
def yHI(td ty tv:TE):TS:=λD σ H=>tv σ H λv H1=>td σ H1 λx H2=>ty σ H2 λy H3=>∃a H4,x=.ref a/\DPut H3 a y v H4/\D.nx σ H4
section
variable{i JJ:EU}{S8:Pos}{td ty tv:TE}
theorem Tb(hu:X.A.units+1<GD)(ho:PE X o td)(hi:PE X i ty)(hv:PE X JJ tv)(hs:J3 JJ (AA (.Subscript o i OU)) pos.line X.env=pure AE) : PS X (.Assign [.Subscript o i OU] JJ pos) (yHI td ty tv):=by intro AJ s σ H D I h;refine wpAny_Assign_Subscript (HE (hv AJ s σ H _ I h) λr s1 ⟨v,H1,I1,rv,q1⟩=>HE (ho AJ s1 σ H1 _ I1 q1) λu s2 ⟨x,H2,I2,rx,q2⟩=>HE (hi AJ s2 σ H2 _ I2 q2) λiv s3 ⟨y,H3,I3,ry,a,H4,ex,g,q3⟩=>?_) hs;subst ex;obtain rfl:u=FU a:=rx;exact zSB hu I3 g ry rv λs4 I4=>{σ,H4,I4,q3}
end
theorem Ur(h:CN)(hb:HZ<h.objs.size):ObjOk P w H (h.push { cls:=.type "dict",data:=.dict #[] }) h.objs.size (.dK []) :={BN _,beq_eq_false_iff_ne.mpr (CT (CC hb)),[],.nil,Heap.DictOf.new h}
theorem zVV(h:CN)(hb:HZ<h.objs.size):ObjOk P w H (h.push { cls:=.type "dict",data:=.dict #[] }) h.objs.size (.dT []) :={BN _,beq_eq_false_iff_ne.mpr (CT (CC hb)),[],.nil,_,#[],0,AT _ rfl,{rfl,rfl,rfl},rfl,rfl,G5}
def yEB:TE:=λ_ H Q=>∀p,H p=AL->Q (.ref p) (DZ H p (.dT []))
theorem eE:PE X (.Dict [] [] pos) yEB:=λAJ s σ H Q I h =>
 wpAny_Dict_empty {.ref s.heap.objs.size,_,I.laid (λ_ _ q=>AF _ q) (AM _) (zVV s.heap I.big),rfl,h _ (I.hok.fresh (AM _))}
end _L
variable{q:CA}
namespace Att
open PySem PySem.W PySem.Calls PyProof.Rows
theorem zHH{P:Params}:∀(ns:List Int) (vs:List AI),WellAll P h vs (ns.map WData.int)->IA vs ns:=by
 intro ns;induction ns with
 |nil=>intro vs w;rw[YV] at w;cases w;exact .nil
 |cons n ns ih =>
  intro vs w;rw[AU] at w;cases w with
  |cons a b=>cases a;exact .cons _ _ (ih _ b)
theorem zSD{l:OpenLaw}(hn:l.most=AA n){P:Params}{args:List WData}{pD:List AI} (UK:l.row.toRowW.claim.pre args=AQ) (Dn:WellAll P h pD args) : ∃a vs ns,pD=[FU a]/\args=[WData.list (ns.map WData.int)]/\h.get? a=AA { cls:=.type "list",data:=.seq vs.toArray }/\IA vs ns/\ns.length<=n:=by
 have hsh:=(pre_splitW UK).1;have hc:l.pre.holds [] { args:=args }=AQ:=(pre_splitW UK).2;have{d,r,rfl,h1,h2}:=hasAllW_cons hsh;obtain rfl:=hasAllW_nil h2;have{xs,rfl,h3}:=hasW_list h1;have{ns,rfl}:=items_int h3;have EV:ns.length<=n:=by
  unfold OpenLaw.pre at hc;have h4:(WTm.not (.lt (.lit (.int n)) (.len (.arg 0)))).holds [] { args:=[.list (ns.map .int)] }=AQ:=by have h4:=(holds_andW hc).1;rw[hn] at h4;exact h4
  have h5:=condW_of h4 (w_not (w_lt w_lit (w_len_list (w_arg rfl))));rw[AK] at h5;refine IU λq=>?_;have q':n<(ns.length:Int):=by lia
  first
   |(rw[decide_eq_true q'] at h5;exact absurd h5 'D')
   |(simp at h5;lia)
 cases Dn with
 |cons w1 w2 =>
  cases w2;cases w1 with
  |list ho WD=>exact{_,_,ns,rfl,rfl,ho,zHH ns _ WD,EV}
theorem zSE(l:OpenLaw)(args:List WData):l.row.toRowW.claim.post args (.bool AQ) args=AQ :=postW_of (show WShape.has [] (.bool AQ) .bool=AQ by first|rfl|decide|simp[WShape.armsAll]) (w_eq_bool (w_res rfl) w_lit) rfl
theorem attach_call{l:OpenLaw}{X0:List C7}{XP:(C7->Option AI)->CN->Prop}{YP:DL->CN->Prop}{d:DefRec} (hn:l.most=AA n) (yR:d.params.defaults=[]) (call:∀(w:DL) (s₀ EO:AN) (mg mb:C7->Option AI) (fa:AV) (o:JF) (pm cd UN:AI) (a:AV) (vs:List AI) (ns:List Int),Ground q X0 [] XP w s₀ mg mb EO.heap->YP w EO.heap ->EO.heap.get? fa=AA o->o.data=.func (docDef d.name d.params d.body d.scope pm cd UN)->EO.heap.CodeRec cd d.name->mg d.name=AA (.ref fa) ->EO.heap.get? a=AA { cls:=.type "list",data:=.seq vs.toArray }->IA vs ns->ns.length<=n->EO.gens=#[] ->JD (A9 l.prog w) RC (.call (.ref fa) {[.ref a],[]}) (λr s'=>r=.ok (.ret (.bool AQ))/\OldK EO.heap s'.heap/\s'.os=EO.os/\OZ s'.gens) EO) : WalkO q X0 XP YP l.row.toRowW d [] (λf vs=>cC f vs):=by intro w s₀ EO mg mb G Y fa o pm cd UN dV kV ho hd OG hD yA hg args pD as UK hlay hrd Dn hlo;obtain rfl:dV=.none:=Dflts.none hD yR;obtain rfl:kV=.none:=Dflts.noKw hD;have{a,vs,ns,rfl,rfl,fM,fQ,EV}:=zSD hn UK Dn;refine enter_call (US (call w s₀ EO mg mb fa o pm cd UN a vs ns G Y ho (fd_plain hd) OG yA fM fQ EV hg) λr s' hq=>?_);have{rfl,h2,h3,h4}:=hq;exact{.inl {.bool AQ,.bool AQ,[],rfl,λ_=>rfl,.bool AQ,zSE l _,λ_=>{KQ,λ_ hm=>(nomatch hm)}},h2,h3,h4}
section
variable{K:Frag}
noncomputable def yJA(h:CN)(L d:AV):List (AV×JF):=(DM h.objs.size).filterMap λa=>if a=L\/a=d then AL else(h.get? a).map λo=>(a,o)
end
end Att
variable{CX:_L.CXT}{sp:_L.Sp}
namespace _L
open PySem PySem.Spec PyProof.Rows
theorem Wn:∀{vs:List AI} {ns:List Int},IA vs ns->Vals (ns.map V.int) vs
 |_,_,.nil=>.nil
 |_,_,.cons n t h=>.cons {t,rfl} (Wn h)
def Jl(H:Hp):Prop:=∀b,H b=AL\/(∃o xs,H b=AA (.frz o (.lst xs)))\/∃q,H b=AA (.tbl q #[])
structure Tabs(K:AC)(q:CA):Prop where
 rcs:∀x∈j4,∀c T,ET K x=AA (c,T)->∃d,(PyProof.Rows.recsOf q).find? (λe=>e.name==x)=AA d
 out:∀x∈j4,∀c T,ET K x=AA (c,T)->K.lookup T=AL
 uni:∀x∈j4,∀y∈j4,∀c c' T,ET K x=AA (c,T)->ET K y=AA (c',T)->x=y
def CB(K:AC)(base:CN):Prop:=∀x∈j4,∀c T,ET K x=AA (c,T)->K7 base c T
theorem Tabs.uq{K:AC}(t:Tabs K q){T:AV}{u v:C7}(a:TB K T u)(b:TB K T v):u=v:=by have{x,c,h1,h2,rfl}:=a;have{y,c',g1,g2,rfl}:=b;rw[t.uni x h1 y g1 c c' T h2 g2]
open Classical in
noncomputable def lT(K:AC)(H:Hp):Hp:=λb=>if h:∃q,TB K b q then AA (.tbl h.choose #[]) else H b
theorem zZV{K:AC}(t:Tabs K q){T:AV}{u:C7}(a:TB K T u):lT K H T=AA (.tbl u #[]):=by have h:∃q,TB K T q:={u,a};unfold lT;rw[dif_pos h,t.uq h.choose_spec a]
theorem zZW{K:AC}(a:∀q,¬TB K b q):lT K H b=H b:=by unfold lT;rw[dif_neg (λq0=>by have{q,z}:=q0;exact a q z)]
theorem zVW{K:AC}{mb:C7->Option AI}{fa:AV}{EO:AN}{vs:List AI} (KX:K.In EO.heap) (kR:EO.heap.Ns C3 mg) (hb:EO.heap.Ns JX mb) (Dz:∀x:C7,x≠"__name__"->mb x=H9 x) (Nz:EO.heap.NoLimit) (Dx:∃bm ob,mg "__builtins__"=AA (.ref bm)/\bm≠JX/\EO.heap.get? bm=AA ob/\ob.cls=.type "module"/\ob.dict=AA JX/\ob.data=.plain) (hg:EO.gens=#[]) (tK:Tabs K q) (tT:∀x∈j4,∀c T,ET K x=AA (c,T)->K7 EO.heap c T/\EO.heap.get? T=AA (K6 #[])) (ha:EO.heap.get? a=AA { cls:=.type "list",data:=.seq vs.toArray }) (hi:IA vs ns) (hl:ns.length<=sizeLine) (hr:Room k RC) (F:∀base:CN,K.In base->base.Ns C3 mg->CB K base->FnOk P w K mg base CX k fa fd [x] sp) (PX:∀(s:AN) (u:AI),Y0 s fd {[u],[]} [(x,u)]) (iP:∀H:Hp,Jl H->SqL K H a (ns.map V.int)->sp [.ref a] H (λv _=>v=.bl AQ) λ_ _ _=>False) (Oy:∀H e s',CX [] H EO (λ_ _ _=>False) e s'->False) : JD (A9 P w) RC (.call (.ref fa) {[.ref a],[]}) (λr s'=>r=.ok (.ret (.bool AQ))/\OldK EO.heap s'.heap/\s'.os=EO.os/\OZ s'.gens) EO:=by
 have rv:=Wn hi;have Mu:=hi.length;have XY:∀{T u},TB K T u->EO.heap.get? T=AA (K6 #[])/\dF EO.heap T/\K.lookup T=AL:=λ{T u} h=>by have{x,c,h1,h2,_}:=h;have{z1,z2}:=tT x h1 c T h2;exact{z2,(z1.tab z2).isCodeTable,tK.out x h1 c T h2}
 have sT:∀{u},¬TB K a u:=λ{u} h=>by have e:=(XY h).1;rw[ha] at e;cases e
 -- from an abstract heap in which nothing but the script and the tables is V4
 have zB:∀H0:Hp,(∀b,H0 b=AL\/∃o xs,H0 b=AA (.frz o (.lst xs)))->SqL K H0 a (ns.map V.int)->HOk P w H0 EO.heap->(∀b,H0 b≠AL->b=a)->(H0 a≠AL->K.lookup a=AL) ->
   JD (A9 P w) RC (.call (.ref fa) {[.ref a],[]}) (λr s'=>r=.ok (.ret (.bool AQ))/\OldK EO.heap s'.heap/\s'.os=EO.os/\OZ s'.gens) EO:=by
  intro H0 hO0 hS0 Nr hA0 hK0;have hT:∀{T u},TB K T u->lT K H0 T=AA (.tbl u #[]):=λh=>zZV tK h;have hN:∀b,(∀u,¬TB K b u)->lT K H0 b=H0 b:=λb h=>zZW h;have gr:∀b u,H0 b=AA u->lT K H0 b=AA u:=λb u e=>by have:b=a:=hA0 b (by rw[e];simp);rw[hN b λu=>by rw[this];exact sT,e]
  generalize hH:lT K H0=H at hT hN gr;have hO:Jl H:=λb=>by
   by_cases h:∃u,TB K b u
   .have{u,h}:=h;exact .inr (.inr {u,hT h})
   .rw[hN b λu z=>h {u,z}];exact(hO0 b).imp_right .inl
  have hS:SqL K H a (ns.map V.int):=hS0.imp (λz=>z.imp (gr _ _) (λq0=>by have{o,z}:=q0;exact{o,gr _ _ z})) id;have hok:HOk P w H EO.heap:=λb u e=>by
   by_cases h:∃u,TB K b u
   .have{v,h}:=h;rw[hT h] at e;cases e;exact{(XY h).1,trivial,λpos cv z=>by cases z}
   .rw[hN b λu z=>h {u,z}] at e;refine(Nr b u e).stay (λc v _ q=>q) (λc q=>gr _ _ q) (λc xs q=>gr _ _ q) λc o x q=>gr _ _ q
  have hA:∀b,H b≠AL->b=a\/∃u,TB K b u:=λb z=>by
   by_cases h:∃u,TB K b u
   .exact .inr h
   .rw[hN b λu z=>h {u,z}] at z;exact .inl (hA0 b z)
  have hK:H a≠AL->K.lookup a=AL:=λz=>hK0 (by rw[<-hN a λu=>sT];exact z);have SN:∀{b:AV} {o:JF},EO.heap.get? b=AA o->H b=AL->(g7 EO.heap H).get? b=AA o:=λe n=>zVJ e n;have xC:∀{b:AV} {o:JF} {es:Array RK} {ep:Nat},EO.heap.get? b=AA o->o.data=.dict es ep->H b=AL:=λ{b o es ep} e d=>by
   cases q:H b with
   |none=>rfl
   |some u =>
    rcases hA b (by rw[q];simp) with e'|⟨v,h⟩
    .subst e';rw[ha] at e;cases e;have d':nN vs.toArray _=Data.dict es ep:=d;cases d'
    .rw[(XY h).1] at e;cases e;have d':bE #[]=Data.dict es ep:=d;cases d'
  have Df:∀{b:AV} {m:C7->Option AI},EO.heap.Ns b m->(g7 EO.heap H).Ns b m:=λ{b m} ⟨o,es,ep,e,d,r⟩=>{o,es,ep,SN e (xC e d),d,r};have hKb:K.In (g7 EO.heap H):=λb o e=>SN (KX b o e) (by
   cases q:H b with
   |none=>rfl
   |some u =>
    rcases hA b (by rw[q];simp) with e'|⟨v,h⟩
    .subst e';rw[hK (by rw[q];simp)] at e;cases e
    .rw[(XY h).2.2] at e;cases e)
  have hM:Mod K mg (g7 EO.heap H):={hKb,Df kR,{mb,Df hb,Dz},let ⟨mc,h1,h2⟩:=Nz;{mc,Df h1,h2},by
   have{bm,ob,b1,b2,b3,b4,b5,b6}:=Dx;refine{bm,ob,b1,b2,SN b3 ?_,b4,b5,b6};cases q:H bm with
   |none=>rfl
   |some u =>
    rcases hA bm (by rw[q];simp) with e'|⟨v,h⟩
    .subst e';rw[ha] at b3;cases b3;injection b4 with z;exact absurd z 'D'
    .rw[(XY h).1] at b3;cases b3;cases b4}
  have e0:Env0 P w K mg (g7 EO.heap H) RC [] EO H:={λT u h=>{_,hT h},rfl,hM,λb o e=>zZH e,DG (zRQ _ _),trivial,λb hb=>absurd (show b∈([]:List AV) from hb) 'S',hok,.of_eq hg};have hCB:CB K (g7 EO.heap H):=λx hx c T e=>by
   have{zz',_}:=tT x hx c T e;have{o,pB,Pa,tf,y6,tg,inF,Ls,tt,e1,e2,r}:=zz';refine{o,pB,Pa,tf,y6,tg,inF,Ls,tt,SN e1 ?_,e2,r};cases q:H c with
   |none=>rfl
   |some u =>
    rcases hA c (by rw[q];simp) with e'|⟨v,h⟩
    .subst e';rw[ha] at e1;cases e1;injection e2 with z;exact absurd z 'D'
    .rw[(XY h).1] at e1;cases e1;cases e2
  refine US ((F _ hKb (Df kR) hCB).run RC [] EO H {[.ref a],[]} [.ref a] [.ref a] _ _ hr e0 (PX EO (.ref a)) (.cons rfl .nil) (iP H hO hS)) λr s' h=>?_;cases r with
  |error e=>exact(Oy H e s' h).elim
  |ok fl =>
   cases fl with
   |next=>exact IH h
   |brk=>exact IH h
   |cont=>exact IH h
   |ret u =>
    have{v,H',os,bare,un,xY,r',q}:=h;have q':v=.bl AQ:=q;subst q';obtain rfl:u=Value.bool AQ:=r';have GR:∀b o,EO.heap.get? b=AA o->s'.heap.get? b=AA o\/(dF EO.heap b/\o=K6 #[]/\∃ps,s'.heap.get? b=AA (K6 ps)):=λb o e=>by
     cases q:H b with
     |none=>exact .inl (un.keep b o e q (by intro z;exact absurd (show b∈([]:List AV) from z) 'S') 'S')
     |some u =>
      rcases hO b with z|⟨ob,xs,z⟩|⟨v,z⟩
      .rw[q] at z;cases z
      .have z2:=un.frzs b ob _ z;have{e1,_}:=hok b _ z;have{e2,_}:=xY b _ z2;rw[e] at e1;cases e1;exact .inl e2
      .have{m,z2}:=un.tbls b v _ z;have{e2,_}:=xY b _ z2;by_cases h:∃u,TB K b u
       .have{w',h}:=h;rw[(XY h).1] at e;cases e;exact .inr {(XY h).2.1,rfl,_,e2}
       .rw[hN b λu z=>h {u,z}] at z;rcases hO0 b with y|⟨ob,xs,y⟩
        .rw[z] at y;cases y
        .rw[z] at y;cases y
    refine{rfl,{λb o e=>?_,λb o e=>?_},os,bare}
    .rcases GR b o e with z|⟨ht,rfl,ps,hP⟩
     .exact .inl z
     .exact .inr (.inl {ht,rfl,#[],ps,rfl,by rw[Array.empty_append];exact hP})
    .rcases GR b o e with z|⟨_,_,ps,hP⟩
     .exact{o,z}
     .exact{_,hP}
 cases hk:K.lookup a with
 |some o =>
  -- the script is one of the module's own objects
  have e:=KX a o hk;rw[ha] at e;cases e;refine zB (λ_=>AL) (λ_=>.inl rfl) (.inr {_,vs.toArray,_,hk,rfl,rfl,rfl,by rw[BA,Mu];exact hl,by simpa using rv}) (λb u z=>by have z':(AL:Option HO)=AA u:=z;cases z') (λb z=>absurd rfl z) λz=>absurd rfl z
 |none =>
  refine zB (λb=>if b=a then AA (.frz { cls:=.type "list",data:=.seq vs.toArray } (.lst (ns.map V.int))) else AL) (λb=>?_) (.inl (.inr {{ cls:=.type "list",data:=.seq vs.toArray },if_pos rfl})) (λb u z=>?_) (λb z=>?_) λ_=>hk
  .by_cases hb:b=a
   .exact .inr {_,_,if_pos hb}
   .exact .inl (if_neg hb)
  .by_cases hb:b=a
   .have z':=(if_pos hb).symm.trans z;cases z';subst hb;exact{ha,by rw[AK];exact hl,vs,_,rv,ha}
   .have z':=(if_neg hb).symm.trans z;cases z'
  .by_cases hb:b=a
   .exact hb
   .exact absurd (if_neg hb) z
theorem walk_of{l:RZ}{X0:List C7}{XP:(C7->Option AI)->CN->Prop}{YP:DL->CN->Prop}{d:DefRec}{K:Params->AC}{CX:DL->CXT}{sp:DL->Sp} (hn:l.most=AA n) (bR:n<=sizeLine) (yR:d.params.defaults=[]) (hr:Room k RC) (hY:∀(w:DL) (h:CN),YP w h->(K w.params).In h) (tK:∀w:DL,Tabs (K w.params) q) (F:∀(w:DL) (mg:C7->Option AI) (fa:AV) (h:CN),(K w.params).In h->h.Ns C3 mg->mg d.name=AA (.ref fa) ->∃fd:CM,(∀(s:AN) (u:AI),Y0 s fd {[u],[]} [(x,u)]) /\ ∀base:CN,(K w.params).In base->base.Ns C3 mg->CB (K w.params) base->FnOk l.prog w (K w.params) mg base (CX w) k fa fd [x] (sp w)) (iP:∀(w:DL) (H:Hp) (a:AV) (ns:List Int),ns.length<=n->Jl H->SqL (K w.params) H a (ns.map V.int)->sp w [.ref a] H (λv _=>v=.bl AQ) λ_ _ _=>False) (Oy:∀(w:DL) (H:Hp) (s:AN) (e:AI) (s':AN),CX w [] H s (λ_ _ _=>False) e s'->False) : i6 q X0 XP YP l.row.toRowW d [] (λf vs=>cC f vs):=by refine Att.attach_call hn yR λw s₀ EO mg mb fa o pm cd UN a vs ns G Y ho hd OG yA fM fQ EV hg=>?_;have KX:=hY w _ Y;have{fd,hb,hF}:=F w mg fa _ KX G.T.g yA;exact zVW KX G.T.g G.T.b G.T.builtins G.T.nolimit G.T.bmain hg (tK w) (λx hx c T e=>let ⟨d,hd⟩:=(tK w).rcs x hx c T e;PySem.W.tab_of G.T KX hd e) fM fQ (A0 EV bR) hr hF hb (λH hO hS=>iP w H a ns EV hO hS) λH e s'=>Oy w H EO e s'
noncomputable def iD(s:FP):ON:=match s with
 |.FunctionDef _ a _ _ _ _ _ _ _ _=>a
 |_=>{ posonlyargs:=[],args:=[],vararg:=AL,kwonlyargs:=[],kw_defaults:=[],kwarg:=AL,defaults:=[] }
noncomputable def aK(s:FP):List FP:=match s with
 |.FunctionDef _ _ b _ _ _ _ _ _ _=>b
 |_=>[]
noncomputable def J4(s:FP):JS:=match s with
 |.FunctionDef _ _ _ _ _ _ sc _ _ _=>sc
 |_=>{ kind:=.function,names:=[],isGenerator:=AE,isCoroutine:=AE }
abbrev KW:CXT:=λ_ _ _ _ _ _=>False
abbrev E0:XK:=λ_ _ _=>False
theorem uF:Fg KW X E0:=λ_ _ _ _ _ _ _ h=>h.elim
structure Fun(K:AC)(x qual:C7)(st:FP)(f:AV)(fd:CM):Prop where
 ex:∃(oc:AI) (od:Option AV) (kV UN pm:AI) (an:Option AV) (HN ct:AI) (eT:Array (Option AI)),
  fd=FL x qual (iD st) (aK st) (J4 st) .none kV UN pm an HN ct/\K.lookup f=AA {oc,od,.func fd,eT}/\JL K HN qual=AQ
 kp:GX K (.ref f)=AQ
section
variable{K:AC}
theorem Fun.ok{st:FP}{f:AV}(F:Fun K x qual st f fd)(S:FnScope N ps (J4 st))(len:∀vs H Q E,sp vs H Q E->vs.length=ps.length) (PV:∀(HN:AI) (A:GL) (outer:List aB) (s:AN) (H:Hp) (vs:List V) (Q:VK) (E:XK),Room k (A.deeper (N0 qual (J4 st) s.heap.objs.size f HN))->sp vs H Q E ->∃t,PSs (jI KW P w K mg base N qual (J4 st) f HN A outer s H E).nox (aK st) t/\t { nx:=λ_ H'=>Q .non H',rt:=Q } (start N vs) H):FnOk P w K mg base KW (k+1) f fd ps sp:=by have{oc,od,kV,UN,pm,an,HN,ct,eT,rfl,lk,OG}:=F.ex;refine yDZ lk OG S len λA outer s H vs Q E hr iP=>?_;have{t,h,q}:=PV HN A outer s H vs Q E hr iP;exact{t,h.nox,q}
theorem Fun.binds{st:FP}{f:AV}(F:Fun K x qual st f fd) (h:∀(kV UN pm:AI) (an:Option AV) (HN ct:AI) (us:List AI),us.length=ps.length->OJ (FL x qual (iD st) (aK st) (J4 st) .none kV UN pm an HN ct) {us,[]}=pure (ps.zip us)):Binds K fd ps []:=by have{oc,od,kV,UN,pm,an,HN,ct,eT,rfl,lk,OG}:=F.ex;exact .all (h kV UN pm an HN ct)
theorem Fd{st:FP}{f:AV}{oc:AI}{od an:Option AV}{eT:Array (Option AI)}{kV UN pm HN ct:AI}(l:K.lookup f=AA {oc,od,.func (FL x qual (iD st) (aK st) (J4 st) .none kV UN pm an HN ct),eT}) (c:JL K HN qual=AQ) (k:GX K (.ref f)=AQ):Fun K x qual st f (FL x qual (iD st) (aK st) (J4 st) .none kV UN pm an HN ct):={{oc,od,kV,UN,pm,an,HN,ct,eT,rfl,l,c},k}
end
theorem Hr(h:n<=1000):n<sizeLine:=AR h 'D'
theorem pv(i:Nat)(hN:X.N[i]?=AA x:=by rfl)(hv:eI X.env.scope x:=by first|exact BM rfl|exact D5 (BM rfl)|exact D5 (D5 rfl))(hd:(x==("__debug__":C7))=AE:=by decide) (OG:(x==("__classdict__":C7))=AE:=by decide):PE X (.Name x pos) (Jo i):=oC hN hv hd OG
theorem yKJ{A B:Prop}(h:B):if AE=AQ then A else B:=by rw[if_neg BH];exact h
theorem yKK{A B:Prop}(h:A):if AQ=AQ then A else B:=by rw[if_pos rfl];exact h
end _L
end
open PySem
namespace _T
open PySem PyProof.Rows
section
variable{E:AI->AN->Prop}
structure SB(CF:Array CO)(kd:Z3)(st:BZ):Prop where
 perm:(A1 st).Perm CF
 kind:kindOf st=kd
 failed:k7 st=AL
theorem SB.size{st:BZ}(h:SB CF kd st):(A1 st).size=CF.size:=h.perm.size_eq
theorem SB.setArr{st:BZ}(h:SB CF kd st)(hp:xs.Perm (A1 st)):SB CF kd (setArr st xs):={hp.trans h.perm,h.kind,h.failed}
theorem SB.mem{st:BZ}(h:SB CF kd st)(hi:i<(A1 st).size):(A1 st)[i]∈CF:=h.perm.mem_iff.mp (AG hi)
theorem rL{st:BZ}{Q:CO->BZ->Prop}(hi:i<IB.size)(h:Q IB[i] st):NX (A9 prog w) A E s (elem' IB i) Q st:=by rw[elem'_eq,getElem?_pos IB i hi];exact BC h
theorem L6{α:Type}{c:Prop}[Decidable c]{x y:StateT BZ dE α}{Q:α->BZ->Prop}{st:BZ}(h1:c->NX (A9 prog w) A E s x Q st)(h2:¬c->NX (A9 prog w) A E s y Q st) : NX (A9 prog w) A E s (if c then x else y) Q st:=by
 by_cases h:c
 .rw[if_pos h];exact h1 h
 .rw[if_neg h];exact h2 h
end
section
variable{E:AI->AN->Prop}
theorem Aq{st:BZ}{Q:PUnit->BZ->Prop}(h:Q ⟨⟩ (setArr st (QU (A1 st) i j ((j-i) / 2)))):NX (A9 prog w) A E s (reverseSlice' i j) Q st:=by rw[reverseSlice'_eq];exact M5 h
def Kp(CF:Array CO)(kd:Z3)(st C5:BZ):Prop:=SB CF kd C5/\DS C5=DS st
theorem Kp.rev{st C5:BZ}(h:Kp CF kd st C5):Kp CF kd st (setArr C5 (QU (A1 C5) i j d)):={h.1.setArr (mirror_perm _ _ _ _),h.2}
end
noncomputable def vF:Bool->CO->Array CO->Nat->Nat->Nat->StateT BZ dE (Option Nat):=sortPriv% PySem.Builtin.gallop
noncomputable def Iw:Nat->StateT BZ dE Unit:=sortPriv% PySem.Builtin.setMinGallop
abbrev uV(st:BZ)(g:Nat):BZ:=aZ (kindOf st) (A1 st) (DS st) g (k7 st)
theorem zGR(g:Nat):Iw g=modify λs=>uV s g:=rfl
noncomputable def zVX:Array CO->Array CO->StateT BZ dE (Array CO):=sortPriv% PySem.Builtin.mergeLo
noncomputable def zVY:Array CO->Array CO->StateT BZ dE (Array CO):=sortPriv% PySem.Builtin.mergeHi
structure Mid(a b out:Array CO)(ia ib:Nat):Prop where
 perm:(out.toList++a.toList.drop ia++b.toList.drop ib).Perm (a.toList++b.toList)
 la:ia<=a.size
 lb:ib<=b.size
 sz:out.size=ia+ib
theorem Mid.pushB(m:Mid a b out ia ib)(h:ib<b.size):Mid a b (out.push b[ib]) ia (ib+1):=by
 refine{?_,m.la,h,by rw[EI,m.sz];lia};have e:b.toList.drop ib=b[ib]::b.toList.drop (ib+1):=by rw[FJ (by simpa using h)];simp
 have p:=m.perm;rw[e] at p;refine KC ?_ p;rw[FH];simp only[C0,Z5];exact JP _ (jA.symm)
theorem Mid.pushA(m:Mid a b out ia ib)(h:ia<a.size):Mid a b (out.push a[ia]) (ia+1) ib:=by
 refine{?_,h,m.lb,by rw[EI,m.sz];lia};have e:a.toList.drop ia=a[ia]::a.toList.drop (ia+1):=by rw[FJ (by simpa using h)];simp
 have p:=m.perm;rw[e] at p;refine KC ?_ p;rw[FH];simp only[C0,NE];exact GT _
theorem Ta(a:Array CO)(i:Nat):(a.extract i a.size).toList=a.toList.drop i:=by rw[KM];exact JT 'S'
theorem Mid.done(m:Mid a b out ia ib):(out++a.extract ia a.size++b.extract ib b.size).Perm (a++b):=by rw[EG];simp only[EQ,Ta];exact m.perm
theorem Mid.lastA(m:Mid a b out ia ib):(out++b.extract ib b.size++a.extract ia a.size).Perm (a++b):=by rw[EG];simp only[EQ,Ta];refine KC ?_ m.perm;simp only[C0];exact JP _ Z6
section
variable{E:AI->AN->Prop}
def Gal(st C5:BZ):Prop:=∃g,C5=uV st g
theorem Gal.refl(st:BZ):Gal st st:={gallopOf st,rfl}
theorem Gal.set{st C5:BZ}(h:Gal st C5)(g:Nat):Gal st (uV C5 g):=by have{g',rfl}:=h;exact{g,rfl}
theorem Gal.kind{st C5:BZ}(h:Gal st C5)(hk:kindOf st=kd):kindOf C5=kd:=by have{g',rfl}:=h;exact hk
theorem zZX{st:BZ}{Q:Unit->BZ->Prop}(h:Q () (uV st g)):NX (A9 prog w) A E s (Iw g) Q st:=by rw[zGR];exact M5 h
end
structure MidH(a b out:Array CO)(na nb:Nat):Prop where
 perm:(a.toList.take na++b.toList.take nb++out.toList.reverse).Perm (a.toList++b.toList)
 la:na<=a.size
 lb:nb<=b.size
 sz:out.size+na+nb=a.size+b.size
theorem Wm(a:Array CO)(n:Nat)(h:n-1<a.size)(h0:1<=n):a.toList.take n=a.toList.take (n-1)++[a[n-1]]:=by
 obtain⟨m,rfl⟩:∃m,n=m+1:={n-1,by lia};have h':m<a.toList.length:=by simpa using h
 rw[CI h'];simp
theorem MidH.pushA(m:MidH a b out na nb)(h0:1<=na)(h:na-1<a.size):MidH a b (out.push a[na-1]) (na-1) nb:=by refine{?_,CS h,m.lb,by rw[EI];have:=m.sz;lia};have p:=m.perm;rw[Wm a na h h0] at p;refine KC ?_ p;rw[FH,cG];simp only[C0,NE];exact JP _ jA
theorem MidH.pushB(m:MidH a b out na nb)(h0:1<=nb)(h:nb-1<b.size):MidH a b (out.push b[nb-1]) na (nb-1):=by refine{?_,m.la,CS h,by rw[EI];have:=m.sz;lia};have p:=m.perm;rw[Wm b nb h h0] at p;rw[FH,cG];simpa only[C0,Z5,JU,List.reverse_nil,GJ,NE] using p
theorem Gh(a:Array CO)(i n:Nat)(h:i<=n):a.toList.take i++(a.extract i n).toList=a.toList.take n:=by
 rw[KM];conv=>rhs;rw[show n=i+(n-i) by lia]
 rw[List.take_add]
theorem Uq(a:Array CO)(i:Nat):(a.extract 0 i).toList=a.toList.take i:=by have:=Gh a 0 i (BN _);simpa using this
theorem MidH.done(m:MidH a b out na nb):(a.extract 0 na++b.extract 0 nb++out.reverse).Perm (a++b):=by rw[EG];simp only[EQ,Uq,OM];exact m.perm
theorem MidH.firstB(m:MidH a b out na nb):(b.extract 0 nb++a.extract 0 na++out.reverse).Perm (a++b):=by rw[EG];simp only[EQ,Uq,OM];refine KC ?_ m.perm;exact UY _ Z6
theorem Sz(c:List CO):∀(a:Array CO) (sa k:Nat),sa+k+c.length<=a.size ->((c.zipIdx k).foldl (λa (p:CO×Nat)=>a.setIfInBounds (sa+p.2) p.1) a).toList=a.toList.take (sa+k)++c++a.toList.drop (sa+k+c.length):=by
 induction c with
 |nil=>intro a sa k h;simp
 |cons x r ih =>
  intro a sa k h;rw[SX,N4];have hl:(x::r).length=r.length+1:=rfl;rw[ih (a.setIfInBounds (sa+k) x) sa (k+1) (by rw[MV];lia)];have IS:sa+k<a.toList.length:=by simp;lia
  rw[U3];rw[show sa+(k+1)=(sa+k)+1 by lia];rw[CI (by simpa using IS),List.take_set_of_le (AM _),List.getElem_set_self,List.drop_set_of_lt (FY (A5 _ _))];rw[show sa+k+1+r.length=sa+k+(x::r).length by rw[hl];lia];simp
theorem zSJ{a c:Array CO}(h1:sa<=sb)(h2:sb+nb<=a.size)(hp:c.Perm (a.extract sa sb++a.extract sb (sb+nb))) : (c.toList.zipIdx.foldl (λa (p:CO×Nat)=>a.setIfInBounds (sa+p.2) p.1) a).Perm a:=by
 have hl:c.toList.length=(sb-sa)+nb:=by have:=hp.size_eq;rw[HV,JG,JG] at this;simp;lia
 rw[EG,Sz c.toList a sa 0 'L'];have fL:=EG.mp hp;rw[EQ] at fL;have e1:=Gh a sa sb h1;have e2:=Gh a sb (sb+nb) (A5 _ _);have e3:=List.take_append_drop (sb+nb) a.toList;have q:(a.toList.take (sa+0)++c.toList++a.toList.drop (sa+0+c.toList.length)).Perm (a.toList.take sa++((a.extract sa sb).toList++(a.extract sb (sb+nb)).toList)++a.toList.drop (sb+nb)):=by rw[Z4 _,show sa+c.toList.length=sb+nb by lia];exact UY _ (JP _ fL)
 refine q.trans ?_;rw[<-C0,e1,e2,e3]
section
variable{E:AI->AN->Prop}
theorem zZY{st st2:BZ}{Q:PUnit->BZ->Prop}(h:Q ⟨⟩ st2):NX (A9 prog w) A E s (set st2:StateT BZ dE PUnit) Q st:=by unfold NX;rw[StateT.run_set];exact wpAny_pure {rfl,h}
end
abbrev Run:=Nat×Nat×Nat
section
variable{E:AI->AN->Prop}
theorem yEC{c:Prop}[Decidable c]{a b n:Nat}(h1:a<=n)(h2:b<=n):(if c then a else b)<=n:=by
 split
 .exact h1
 .exact h2
end
end _T
namespace _L
open PySem PySem.Spec PyProof.Rows
def PTs(X:Cx)(ifs:List EU)(t:TT):Prop :=∀(AJ:List (AV×JF)) (s:AN) (σ:St) (H:Hp) (Q:Bool->Hp->Prop),Inv X AJ σ H s->t σ H Q ->BE (A9 X.prog X.w) X.A (forIn ifs AQ λc r=>if r=AQ then do let ok <-WO c X.env (eval c X.env);pure (QZ ok) else pure (QZ r)) (TP X AJ σ Q) X.xe s
def Zc:TT:=λ_ H Q=>Q AQ H
theorem VV:PTs X [] Zc:=λ_ _ _ H _ I h=>wpAny_tests_nil {H,I,h}
theorem zZZ(h:PT X c t):PTs X [c] t:=λAJ s σ H Q I hw=>wpAny_tests_one (h AJ s σ H Q I hw)
noncomputable def wC(xo:Option C7)(L:AV)(cl:List (C7×AV)):List (C7×AV):=match xo with
 |none=>cl
 |some x=>(x,L)::cl
noncomputable def pC(xo:Option C7)(h:CN):CN:=match xo with
 |none=>h
 |some _=>h.push { cls:=.type "cell",data:=.cell AL }
def MY(X:Cx)(scope:JS)(xo:Option C7)(cl:List (C7×AV))(nm:List C7)(C:AV)(s:AN)(H:Hp)(fp:List AV):Cx where
 prog:=X.prog
 w:=X.w
 K:=X.K
 mg:=X.mg
 base:=X.base
 A:=X.A
 N:=nm
 s₀:=s
 H₀:=H
 env:=Z0 scope (wC xo (C+1) cl) C X.env
 outer:=X.stack
 stack:=X.stack
 ex:=fp
 fn:=λy=>xo==AA y
 calm:=X.calm
 pn:=[]
 xe:=λ_ _=>False
noncomputable def XN(k:Nat)(js:List Nat)(σ:St):St:=BP k AL++js.map λj=>(σ[j]?).getD AL
structure CompNm(X:Cx)(scope:JS)(xo:Option C7)(cl:List (C7×AV))(own CL:List C7)(js:List Nat):Prop where
 clos:Z1 scope X.env=pure cl
 kind:scope.kind=.function
 one:∀n,RB n scope.names cl=wC xo n cl
 push:∀h,pushCells h scope.names=pC xo h
 loc:∀y∈scope.names,y.2=.local->scope.names.lookup y.1=AA .local
 dom:∀y∈scope.names,y.2=.free->y.1∈CL
 domc:∀y∈scope.names,y.2=.cell->xo=AA y.1
 nm:cl.map (·.1)=CL
 cells:∀p∈cl,X.env.cells.lookup p.1=AA p.2
 slot:CL.map AA=js.map λj=>X.N[j]?
 vis:∀x∈CL,X.env.kindOf x=AA .cell\/X.env.kindOf x=AA .free
 fr:∀x∈CL,(gE scope X.env).names.lookup x=AA .cell\/(gE scope X.env).names.lookup x=AA .free
 xc:∀x∈CL,xo≠AA x
theorem vQ{α β:Type}[BEq α][LawfulBEq α]:∀{l:List (α×β)} {x:α} {c:β},l.lookup x=AA c->(x,c)∈l
 |[],_,_,h=>by simp at h
 |(a,b)::r,x,c,h=>by
  rw[G7] at h;cases e:x==a with
  |true=>rw[e] at h;cases h;have:=eq_of_beq e;subst this;exact AZ
  |false=>rw[e] at h;exact A2 _ (vQ h)
theorem Iv{α β:Type}[BEq α][LawfulBEq α]:∀{l:List (α×β)} {x:α},x∈l.map (·.1)->∃c,l.lookup x=AA c
 |[],_,h=>by simp at h
 |(a,b)::r,x,h=>by
  rw[G7];cases e:x==a with
  |true=>exact{b,rfl}
  |false =>
   refine Iv ?_;rcases A3.mp h with q|q
   .have q:x=a:=q;subst q;simp at e
   .exact q
theorem Bx{env:aB}:∀{names:List (C7×UW)} {x:C7} {k:UW},(names.map λ(n,k)=>if(k==gQ&&env.scope.kind==.function&&env.kindOf n==AA .cell) then(n,gR) else(n,k)).lookup x=AA k ->(k=.cell\/k=.free)->∃k',(x,k')∈names/\(k'=.cell\/k'=.free)
 |[],_,_,h,_=>by simp at h
 |(n,k0)::r,x,k,h,hk=>by
  rw[AU,G7] at h;by_cases hc:(k0==gQ&&env.scope.kind==.function&&env.kindOf n==AA .cell)=AQ
  .simp only[hc,if_true] at h;cases e:x==n with
   |true =>
    have:=eq_of_beq e;subst this;have hf:k0=.free:=by have:=(bF.mp (bF.mp hc).1).1;exact eq_of_beq this
    exact{k0,AZ,.inr hf}
   |false=>rw[e] at h;have{k',h1,h2}:=Bx h hk;exact{k',A2 _ h1,h2}
  .simp only[hc,if_false,L1] at h;cases e:x==n with
   |true=>rw[e] at h;have:=eq_of_beq e;subst this;cases h;exact{k0,AZ,hk}
   |false=>rw[e] at h;have{k',h1,h2}:=Bx h hk;exact{k',A2 _ h1,h2}
section
theorem CompNm.cl_of(n:CompNm X scope xo cl own CL js)(h:cl.lookup x=AA c):X.env.cells.lookup x=AA c:=n.cells _ (vQ h)
theorem CompNm.has(n:CompNm X scope xo cl own CL js)(h:x∈CL):∃c,cl.lookup x=AA c:=Iv (by rw[n.nm];exact h)
theorem oB(h:(wC xo L cl).lookup y=AA c):(xo=AA y/\c=L)\/(xo≠AA y/\cl.lookup y=AA c):=by
 cases xo with
 |none=>exact .inr {nofun,h}
 |some x =>
  rw[wC,G7] at h;cases q:y==x with
  |true=>rw[q] at h;cases h;exact .inl {by rw[eq_of_beq q],rfl}
  |false=>rw[q] at h;exact .inr {(λz=>by cases z;rw[beq_self_eq_true] at q;cases q),h}
theorem Up(h:xo≠AA y):(wC xo L cl).lookup y=cl.lookup y:=by
 cases xo with
 |none=>rfl
 |some x =>
  rw[wC,G7];cases q:y==x with
  |true=>exact absurd (by rw[eq_of_beq q]) h
  |false=>rfl
theorem zZ0:(wC (AA y) L cl).lookup y=AA L:=by rw[wC,G7,beq_self_eq_true]
theorem zVZ{E:AI->AN->Prop}{Q:aB->AN->Prop}(one:∀n,RB n scope.names cl=wC xo n cl)(push:∀h,pushCells h scope.names=pC xo h) (h:Q (newEnv scope s.heap.objs.size globals (wC xo (s.heap.objs.size+1) cl) qual AL .none (AA env) JX) { s with heap:=pC xo (s.heap.push { cls:=.type "dict",data:=.dict #[] }) }) : BE M A (ZX scope globals cl [] qual AL .none (AA env)) Q E s:=by refine AB (wpAny_alloc ?_);refine AB (wpAny_layCells _ (λname kind cells=>by cases hkc:kind==gR<;>simp[hkc]) _ _ _ _ ?_);rw[D3 ..,one,push];exact AB (by rw[List.forIn_nil];exact wpAny_pure (wpAny_pure h))
theorem Inv.stk_of(I:Inv X AJ σ H s)(hf:FpOk X AJ H b):b∉bM X.stack:=λz=>by
 rcases A3.mp (I.stkSub b z) with e|e
 .exact hf.2.1 e
 .exact hf.2.2.1 e
theorem zQY{E:AI->AN->Prop}{Q:aB->AN->Prop}(n:CompNm X scope xo cl own CL js)(I:Inv X AJ σ H s)(hf:∀b∈fp,FpOk X AJ H b)(IS:∀b∈fp,b<s.heap.objs.size) (hq:∀HB,Inv (MY X scope xo cl (own++CL) s.heap.objs.size s H fp) [] (XN own.length js σ) H { s with heap:=HB }->(∀b o,s.heap.get? b=AA o->HB.get? b=AA o) ->Q (newEnv scope s.heap.objs.size X.env.globals (wC xo (s.heap.objs.size+1) cl) X.env.qual AL .none (AA X.env) JX) { s with heap:=HB }) : BE (A9 X.prog X.w) X.A (ZX scope X.env.globals cl [] X.env.qual AL .none (AA X.env)) Q E s:=by
 refine zVZ n.one n.push ?_;obtain⟨HB,p8⟩:∃HB,HB=pC xo (s.heap.push { cls:=.type "dict",data:=.dict #[] }):={_,rfl};rw[<-p8];have w8:∀b o,(s.heap.push { cls:=.type "dict",data:=.dict #[] }).get? b=AA o->HB.get? b=AA o:=λb o e=>by
  rw[p8];cases xo with
  |none=>exact e
  |some _=>exact AF _ e
 have GR:∀b o,s.heap.get? b=AA o->HB.get? b=AA o:=λb o e=>w8 b o (AF _ e);have kR:HB.Ns s.heap.objs.size (λ_=>AL):=(Heap.Ns.new s.heap (.type "dict")).keeps λb o e=>w8 b o e;have tR:∀x,xo=AA x->HB.IsCell (s.heap.objs.size+1) AL:=λx hx=>by subst hx;rw[p8];have:=AT (s.heap.push { cls:=.type "dict",data:=.dict #[] }) (o:={ cls:=.type "cell",data:=.cell AL }) rfl;rw[D3] at this;exact{_,this,rfl}
 refine hq HB ?_ GR;have hl:js.length=CL.length:=by have:=congrArg KP n.slot;simpa using this.symm
 have Po:∀{y:C7} {c:AV},cl.lookup y=AA c->c<s.heap.objs.size:=λ{y c} h=>by have{v,z}:=I.cell y c (n.cl_of h);exact z.lt
 have far:∀{y:C7} {c:AV},c=s.heap.objs.size+1->cl.lookup y=AA c->False:=λe h=>absurd (e▸Po h:s.heap.objs.size+1<s.heap.objs.size) (WS.mpr (HF _));refine{{I.tab,I.ok.mod,n.kind,I.ok.glob,I.ok.blt,AM _,λy z c h1 h2=>?_,λy hy=>?_,λy c hy h=>?_,I.ok.hd,I.ok.frames,.inl rfl,λb hb=>{CC (IS b hb),λy c e=>?_},
   I.bs,A0 I.ok.bsz I.sz,λb o e hb=>?_,λb hb=>I.stk_of (hf b hb),I.stack,I.stkFree},
  rfl,I.bare,Un.kept GR,{_,kR,λi y v e1 e2 e3=>?_},λy c e=>?_,I.hok.fresh (AM _),λy c e=>?_,(λp hp=>nomatch hp),I.hok.kept GR,?_}
 .rcases oB h1 with⟨a1,a2⟩|⟨a1,a2⟩
  .rcases oB h2 with⟨b1,b2⟩|⟨b1,b2⟩
   .rw[a1] at b1;cases b1;rfl
   .exact(far a2 b2).elim
  .rcases oB h2 with⟨b1,b2⟩|⟨b1,b2⟩
   .exact(far b2 a2).elim
   .exact I.ok.inj y z c (n.cl_of a2) (n.cl_of b2)
 .have hy:=hy;have KE:∃k',(y,k')∈scope.names/\(k'=.cell\/k'=.free):=by
   rcases hy with h|h
   .exact Bx h (.inl rfl)
   .exact Bx h (.inr rfl)
  have{k',h1,h2}:=KE;rcases h2 with h2|h2
  .obtain rfl:xo=AA y:=n.domc _ h1 h2;exact{_,zZ0}
  .have hc:=n.dom _ h1 h2;have{c,VH}:=n.has hc;exact{c,(Up (n.xc _ hc)).trans VH}
 .rcases oB h with⟨a1,a2⟩|⟨a1,a2⟩
  .rw[a2];exact HF _
  .exact absurd (eq_of_beq hy) a1
 .rcases oB e with⟨a1,a2⟩|⟨a1,a2⟩
  .rw[a2];exact EN (IC (IS b hb))
  .exact(hf b hb).2.2.2.2.1 y c (n.cl_of a2)
 .have{_,_,_,h4,_}:=hf b hb;rcases h4 with h4|h4
  .exact I.ok.noex b o e h4
  .exact absurd (AO (BB e) I.ok.bsz) (WS.mpr h4)
 .have hi:own.length<=i:=by
   rcases Nat.lt_or_ge i own.length with h|h
   .unfold XN at e2;rw[CD (by simpa using h),FG,if_pos h] at e2;cases e2
   .exact h
  have e1:(own++CL)[i]?=AA y:=e1;rw[CZ hi] at e1;unfold XN at e2;rw[CZ (by simpa using hi),DY,AY] at e2;cases ej:js[i-own.length]? with
  |none=>rw[ej] at e2;cases e2
  |some j =>
   rw[ej] at e2;have e2:AA ((σ[j]?).getD AL)=AA (AA v):=e2;have hj:X.N[j]?=AA y:=by have q:=congrArg (λl=>l[i-own.length]?) n.slot;simp only[AY,e1,ej,I9] at q;exact(BJ q).symm
   have hv:σ[j]?=AA (AA v):=by
    cases es:σ[j]? with
    |none=>rw[es] at e2;cases e2
    |some o=>rw[es] at e2;exact e2
   have bQ:y∈CL:=BS e1;have{m0,hn0,tO}:=I.loc;have vis:eI X.env.scope y:=by
    rcases n.vis y bQ with k|k
    .exact .inr (.inl k)
    .exact .inr (.inr k)
   have{u,r,lk}:=tO j y v hj hv vis;refine{u,r,.inr {n.fr y bQ,?_}};have{c,hc}:=n.has bQ;refine{c,(Up (n.xc y bQ)).trans hc,?_};rcases lk with⟨k,_⟩|⟨_,c',VH,z⟩
   .rcases n.vis y bQ with k'|k'
    .rw[k] at k';cases k'
    .rw[k] at k';cases k'
   .rw[n.cl_of hc] at VH;cases VH;have{o,ho,hd}:=z;exact{o,GR _ _ ho,hd}
 .rcases oB e with⟨a1,a2⟩|⟨a1,a2⟩
  .rw[a2];exact{_,tR y a1}
  .have{v,o,ho,hd}:=I.cell y c (n.cl_of a2);exact{v,o,GR _ _ ho,hd}
 .rcases oB e with⟨a1,a2⟩|⟨a1,a2⟩
  .rw[a2];exact I.hok.fresh (HF _)
  .exact I.freeC y c (n.cl_of a2)
 .show(XN own.length js σ).length=(own++CL).length;unfold XN;rw[BG,BG,DY,AK,hl]
end
abbrev TM:=St->Hp->(St->Hp->Prop)->Prop
def PM(X:Cx)(m:dE Unit)(t:TM):Prop :=∀(AJ:List (AV×JF)) (s:AN) (σ:St) (H:Hp) (N:St->Hp->Prop),Inv X AJ σ H s->t σ H N->BE (A9 X.prog X.w) X.A m (λ_ s'=>∃σ' H',Inv X AJ σ' H' s'/\N σ' H') X.xe s
def tWalkC(J:It)(g:TG)(tt:TT)(tm:TM):TM:=λσ H N=>∃W:Nat->Nat->St->Hp->Prop,(∃m,W 0 m σ H)/\∀i m σ H,W i m σ H ->(J.stop i H/\N σ H)\/(J.go i H/\∀x H',J.yld i H x H'->g x σ H' λσ2 H2=>tt σ2 H2 λb H3 =>
  if b=AQ then tm σ2 H3 (λσ4 H4=>∃m',m'<m/\W (i+1) m' σ4 H4) else ∃m',m'<m/\W (i+1) m' σ2 H3)
theorem Qu{tn:Nat->CN->Prop}{N:St->Hp->Prop}{R:gJ->AN->Prop}
  (pR:Y.A.under (.compLoop e d (.ref it) B0 Y.env)=Y.A) (p9:(A9 Y.prog Y.w).den (.compLoop e d (.ref it) B0 Y.env)=(ZZ e d (.ref it) B0 Y.env).onRaise (λx=>do noteFrame x Y.env;theTreesLotGoes x))
  (fH:ZZ e d (.ref it) B0 Y.env=(do
   MT pp
   match <-M7 (.ref it) with
   |none=>pure (.done .next)
   |some v =>
    F7 tg (.ref it) v
    N1 tg Y.env v
    let mut ok:=AQ
    for c in ifs do
     if ok then ok <-WO c Y.env (eval c Y.env)
    if ok then m
    Z2 (.compLoop e d (.ref it) B0 Y.env)))
  (hx:∀x s',Y.xe x s'->notedBy (A9 Y.prog Y.w) Y.A Y.env (λx s'=>R (.error x) s') x s') (hc:Y.calm=AQ) (hg:PG Y tg g) (ht:PTs Y ifs tt) (hm:PM Y m tm) (T:Turn Y.prog Y.w Y.K tg J fp it tn)
  (I:Inv Y AJ σ H s) (st:tn 0 s.heap) (f:∀b∈fp,FpOk Y AJ H b) (h:tWalkC J g tt tm σ H N)
  (hR:∀σ' H' s',Inv Y AJ σ' H' s'->N σ' H'->R (.ok .next) s') :
  JD (A9 Y.prog Y.w) Y.A (.compLoop e d (.ref it) B0 Y.env) R s:=by
 have{W,zz',turn}:=h;have{m0,w0}:=zz';have V8:∀{H':Hp},(∀b∈fp,H' b=AL)->∀b∈fp,FpOk Y AJ H' b:=λhn b hb=>{hn b hb,(f b hb).2};refine codeAny_loop rfl (λk s'=>∃i σ' H',Inv Y AJ σ' H' s'/\tn i s'.heap/\(∀b∈fp,H' b=AL)/\W i k σ' H') (λn s3 hI=>?_) m0 {0,σ,H,I,st,λb hb=>(f b hb).1,w0};have{i,σ3,H3,I3,KY,yZ,w3}:=hI;rw[pR,p9];refine wpAny_noted ?_;rw[fH];refine AB (G8 (AB ?_));rcases turn i n σ3 H3 w3 with⟨stop,qn⟩|⟨go,step⟩
 .refine HE (T.done Y rfl rfl rfl hc i AJ s3 σ3 H3 _ I3 (V8 yZ) KY stop) λr s4 q0=>?_;have{hr,I4}:=q0;subst hr;exact wpAny_pure (hR _ _ _ I4 qn)
 .refine HE (T.item Y rfl rfl rfl hc i AJ s3 σ3 H3 _ I3 (V8 yZ) KY go) λr s4 q0=>?_;have{u,hr,h4}:=q0;subst hr;refine AB (HE h4 λ_ s5 ⟨x,H5,I5,r5,y5,kH,Oz⟩=>?_);have Ps:=I5.pinned (V8 Oz) (T.obj _ _ kH);refine AB (DN (hg _ s5 σ3 H5 x u _ Ps r5 (step x H5 y5)) (λ_ s6 z0=>?_) λx s' z=>hx x s' z);have{σ6,H6,I6,q6}:=z0;have Z2:∀{σ7:St} {H7:Hp} {s7:AN},Inv Y (AJ++uT fp s5.heap) σ7 H7 s7->(∃m',m'<n/\W (i+1) m' σ7 H7)->∃m,m<n/\∃i σ' H',Inv Y AJ σ' H' s7/\tn i s7.heap/\(∀b∈fp,H' b=AL)/\W i m σ' H':=λ{σ7 H7 s7} I7 ⟨m',hm,w7⟩=>by refine{m',hm,i+1,σ7,H7,I7.unpinned,T.keep _ _ _ kH λb hb o e=>(I7.pin (b,o) (CJ _ (CJ _ (Bo hb e)))).1,λb hb=>?_,w7};have{o,e,d}:=T.obj _ _ kH b hb;exact(I7.pin (b,o) (CJ _ (CJ _ (Bo hb e)))).2.1
  refine AB (DN (ht _ s6 σ6 H6 _ I6 q6) (λb s7 z0=>?_) λx s' z=>hx x s' z);have{H7,I7,q7}:=z0;cases b with
  |false=>exact wpAny_pure {rfl,Z2 I7 q7}
  |true=>exact AB (DN (hm _ s7 σ6 H7 _ I7 q7) (λ_ s8 q0=>by have{σ8,H8,I8,q8}:=q0;exact wpAny_pure {rfl,Z2 I8 q8}) λx s' z=>hx x s' z)
section
def oA(wi:TI)(k:Nat)(js:List Nat)(o:HO)(g:Hp->TG)(tt:Hp->TT)(tm:Hp->AV->TM):TE:=λσ H Q=>wi σ H λJ H1=>∀B0,H1 B0=AL ->tWalkC J (g (DZ H1 B0 o)) (tt (DZ H1 B0 o)) (tm (DZ H1 B0 o) B0) (XN k js σ) (DZ H1 B0 o) λ_ H'=>Q (.ref B0) H'
abbrev uD(V:Cx->AI->AN->Prop)(X:Cx)(scope:JS)(xo:Option C7)(cl:List (C7×AV))(nm:List C7)(C:AV)(s:AN)(H:Hp)(fp:List AV):Cx:=(MY X scope xo cl nm C s H fp).wish (V (MY X scope xo cl nm C s H fp))
def wF:Cx->AI->AN->Prop:=λ_ _ _=>False
theorem vP{V:Cx->AI->AN->Prop}{E:AI->AN->Prop}{o:HO}{m:AV->aB->dE Unit}{g:Hp->TG}{tt:Hp->TT}{tm:Hp->AV->TM}{J:It}{it:AV}{tn:Nat->CN->Prop}{Q:VK}
  {RR:AI->AV->gJ->AN->Prop}
  (ZJ:∀{Q:AI->AN->Prop} {s:AN},Q (.ref s.heap.objs.size) { s with heap:=s.heap.push obj }->BE (A9 X.prog X.w) X.A newAcc Q E s)
  (fM:ObjOk X.prog X.w (DZ H1 s2.heap.objs.size o) (s2.heap.push obj) s2.heap.objs.size o)
  (pR:∀B0 env,X.A.under (.compLoop e 0 (.ref it) B0 env)=X.A) (p9:∀B0 env,(A9 X.prog X.w).den (.compLoop e 0 (.ref it) B0 env)=(ZZ e 0 (.ref it) B0 env).onRaise (λx=>do noteFrame x env;theTreesLotGoes x))
  (fH:∀B0 env,ZZ e 0 (.ref it) (.ref B0) env=(do
   MT pp
   match <-M7 (.ref it) with
   |none=>pure (.done .next)
   |some v =>
    F7 tg (.ref it) v
    N1 tg env v
    let mut ok:=AQ
    for c in ifs do
     if ok then ok <-WO c env (eval c env)
    if ok then m B0 env
    Z2 (.compLoop e 0 (.ref it) (.ref B0) env)))
  (pS:∀{B0:AI} {env:aB} {R:gJ->AN->Prop} {s:AN},JD (A9 X.prog X.w) X.A (.compLoop e 0 (.ref it) B0 env) R s->BE (A9 X.prog X.w) X.A (NY (.ref it)) (λpN s'=>JD (A9 X.prog X.w) X.A (.compLoop e 0 pN B0 env) R s')
   (notedBy (A9 X.prog X.w) X.A env λx s'=>R (.error x) s') s->JD (A9 X.prog X.w) X.A (.compStart e 0 (.ref it) B0 env) R s)
  (n:CompNm X scope xo cl own CL js) (hc:X.calm=AQ) (hg:∀C s H fp,PG (uD V X scope xo cl (own++CL) C s H fp) tg (g H)) (ht:∀C s H fp,PTs (uD V X scope xo cl (own++CL) C s H fp) ifs (tt H))
  (hm:∀C s H fp B0,PM (uD V X scope xo cl (own++CL) C s H fp) (m B0 (Z0 scope (wC xo (C+1) cl) C X.env)) (tm H B0))
  (Op:∀{B0:AI} {Hs:Hp} {ss s':AN} {x:AI},Inv X AJ σ Hs ss->(∀b∈fp,FpOk X AJ Hs b)->V (MY X scope xo cl (own++CL) ss.heap.objs.size ss Hs fp) x s'->notedBy (A9 X.prog X.w) X.A (Z0 scope (wC xo (ss.heap.objs.size+1) cl) ss.heap.objs.size X.env) (λx s'=>RR B0 ss.heap.objs.size (.error x) s') x s')
  (I2:Inv X AJ σ H1 s2) (T:Turn X.prog X.w X.K tg J fp it tn) (st2:tn 0 s2.heap) (f2:∀b∈fp,FpOk X AJ H1 b)
  (hW:∀B0,H1 B0=AL->tWalkC J (g (DZ H1 B0 o)) (tt (DZ H1 B0 o)) (tm (DZ H1 B0 o) B0) (XN own.length js σ) (DZ H1 B0 o) λ_ H'=>Q (.ref B0) H')
  (hRR:∀B0 C H' s' m,Inv X AJ σ H' s'->H' C=AL->C≠X.env.locals->X.s₀.heap.objs.size<=C->(∀x c,X.env.cells.lookup x=AA c->c≠C)->(∀p∈X.pn++AJ,p.1≠C)->s'.heap.Ns C m->Q (.ref B0) H'->RR (.ref B0) C (.ok .next) s') :
  BE (A9 X.prog X.w) X.A newAcc (λB0 QL=>BE (A9 X.prog X.w) X.A (ZX scope X.env.globals cl [] X.env.qual AL .none (AA X.env)) (λzE Lu =>
   JD (A9 X.prog X.w) X.A (.compStart e 0 (.ref it) B0 { zE with scope:=gE scope X.env }) (RR B0 zE.locals) Lu) E QL) E s2:=by
 refine ZJ ?_;have I3:Inv X AJ σ (DZ H1 s2.heap.objs.size o) { s2 with heap:=s2.heap.push obj } :=
  I2.laid (t':=s2.toks) (λb u e=>AF _ e) (AM _) fM
 have hWa:=hW s2.heap.objs.size (I2.hok.fresh (AM _));have wZ:∀b o,s2.heap.get? b=AA o->({ s2 with heap:=s2.heap.push obj }:AN).heap.get? b=AA o:=λb o e=>AF _ e;have yD:∀b∈fp,b<s2.heap.objs.size:=λb hb=>by have{o,ho,_}:=T.obj _ _ st2 b hb;exact BB ho
 have MW:({ s2 with heap:=s2.heap.push obj }:AN).heap.objs.size=s2.heap.objs.size+1:=D3 ..;have f3:∀b∈fp,FpOk X AJ (DZ H1 s2.heap.objs.size o) b:=λb hb=>by have{q,r}:=f2 b hb;exact{by rw[EH (CC (yD b hb))];exact q,r}
 generalize ({ s2 with heap:=s2.heap.push obj }:AN)=s3 at I3 wZ MW ⊢;have yC:∀b∈fp,b<s3.heap.objs.size:=λb hb=>by rw[MW];exact IC (yD b hb)
 refine zQY n I3 f3 yC λHB IY Mi=>?_;have stY:tn 0 HB:=T.keep _ _ _ st2 λb hb o e=>Mi b o (wZ b o e);have V8:∀b∈fp,FpOk (uD V X scope xo cl (own++CL) s3.heap.objs.size s3 (DZ H1 s2.heap.objs.size o) fp) [] (DZ H1 s2.heap.objs.size o) b:=λb hb =>
   {(f3 b hb).1,CC (yC b hb),I3.stk_of (f3 b hb),.inl hb,λy c e=>(IY.ok.exf b hb).2 y c e,(λp hp=>nomatch hp)}
 have pL:JD (A9 X.prog X.w) X.A (.compLoop e 0 (.ref it) (.ref s2.heap.objs.size) (Z0 scope (wC xo (s3.heap.objs.size+1) cl) s3.heap.objs.size X.env)) (RR (.ref s2.heap.objs.size) s3.heap.objs.size) { s3 with heap:=HB }:=by
  refine Qu (Y:=uD V X scope xo cl (own++CL) s3.heap.objs.size s3 (DZ H1 s2.heap.objs.size o) fp) (pR _ _) (p9 _ _) (fH _ _) (λx s' z=>Op I3 f3 z) hc (hg _ _ _ _) (ht _ _ _ _) (hm _ _ _ _ _) T (IY.wish _) stY V8 hWa ?_;intro σ6 H6 s6 I6 q;have I7:Inv X AJ σ H6 s6:=I3.call' I6.os I6.base I6.hok I6.bare λb hb=>by have{_,g1,_,g3,g4,g5}:=f3 b hb;exact{g3,g1,g4,g5}
  have{mC,hnC,_}:=I6.loc;exact hRR _ _ H6 s6 mC I7 I6.free (EN I3.lt) I3.sz (λx c e z=>by have{v,zc}:=I3.cell x c e;exact absurd zc.lt (by rw[z];exact F8 _))
   (λp hp z=>absurd (BB (I3.pin p hp).1) (by rw[z];exact F8 _)) hnC q
 exact pS pL (T.self _ 0 _ _ _ stY pL)
end
section
def lS(B0:AV)(te:TE):TM:=λσ H N=>te σ H λy H4=>∃ys,H4 B0=AA (.lst ys)/\ys.length<sizeLine/\N σ (DZ H4 B0 (.lst (ys++[y])))
theorem Gg(he:PE X PY te):PM X (do let _ <-call (.builtin "list.append") [.ref B0,<-eval PY X.env]) (lS B0 te):=by intro AJ s σ H N I h;refine AB (HE (he AJ s σ H _ I h) λyv s10 ⟨y,H10,I10,r10,ys,ha,hz,q⟩=>?_);have:=rQ _ s10 σ H10 (.ref B0) [y] (.ref B0) [yv] (λv H'=>v=.non/\H'=DZ H10 B0 (.lst (ys++[y]))) I10 rfl (.cons r10 .nil) {_,ys,y,rfl,rfl,ha,hz,rfl,rfl};refine AB (DN this (λ_ s11 ⟨v,H11,I11,_,_,eH⟩=>wpAny_pure {σ,H11,I11,?_}) λ_ _ z=>z);subst eH;exact q
theorem zSL{E:AI->AN->Prop}{Q:Unit->AN->Prop}(I:Inv X AJ σ H s)(e:H a=AA (.dK kvs))(l:kvs.length<sizeLine)(ry:RelV (kV k) u)(rv:RelV v r) (h:∀s',Inv X AJ σ (DZ H a (.dK (UC kvs k v))) s'->Q () s'):BE (A9 X.prog X.w) A (dictSet a u r) Q E s:=by
 have{z,hd,vs,OO,dd}:=yD9 I.hok e;have hz:vs.length<=sizeLine:=by rw[<-OO.length];exact z
 have hl:(UC kvs k v).length<=sizeLine:=by have:=Iq kvs k v;lia
 refine wpAny_dictSet_pairs (qT ry) dd λh' qL hs=>h _ ?_;have he:∃q,h'.get? a=AA q:=let ⟨q,_,_,hq,_⟩:=qL;{q,hq};exact Ar I (by rw[e];exact NO) hs he (Qv hl hd (OO.put k rv) qL)
def Ab(B0:AV)(tk tv:TE):TM:=λσ H N=>tk σ H λx H3=>tv σ H3 λy H4=>∃kvs k,H4 B0=AA (.dK kvs)/\x=kV k/\kvs.length<sizeLine/\N σ (DZ H4 B0 (.dK (UC kvs k y)))
theorem Uo(hk:PE X kx tk)(hv:PE X vx tv):PM X (do
 let kv <-eval kx X.env
 let vv <-LC [kv] (eval vx X.env)
 MT pp
 LC [kv,vv] (dictSet B0 kv vv)) (Ab B0 tk tv):=by
 intro AJ s σ H N I h;refine AB (HE (hk AJ s σ H _ I h) λkv s3 ⟨x,H3,I3,r3,q3⟩=>?_);refine AB (DO (HE (hv AJ s3 σ H3 _ I3 q3) λvv s4 ⟨y,H4,I4,r4,kvs,k,e,ek,hz,q⟩=>?_));subst ek;exact AB (G8 (DO (zSL I4 e hz r3 r4 λs' I'=>{σ,_,I',q})))
def Qt(wi:TI)(g:TG)(tt:TT)(tm:TM):TM:=λσ H N=>wi σ H λJ H1=>tWalkC J g tt tm σ H1 N
theorem zD5{R:gJ->AN->Prop} {PY g0 TC iter ifs rest scope pos it B0 env} (h0:JD (A9 prog w) A (.compLoop (.ListComp PY (g0::{TC,iter,ifs,0}::rest) scope pos) 1 it B0 env) R s) (h:BE (A9 prog w) A (NY it) (λpN s'=>JD (A9 prog w) A (.compLoop (.ListComp PY (g0::{TC,iter,ifs,0}::rest) scope pos) 1 pN B0 env) R s') (notedBy (A9 prog w) A env λx s'=>R (.error x) s') s) : JD (A9 prog w) A (.compStart (.ListComp PY (g0::{TC,iter,ifs,0}::rest) scope pos) 1 it B0 env) R s:=by
 refine codeAny_of_tree ?_;refine wpAny_notedAt ?_;refine AB (wpAny_askSetting (wpAny_ite ?_));split
 .first
   |exact AB (wpAny_pure (wpAny_pure (Y2 rfl h0)))
   |exact wpAny_pure (Y2 rfl h0)
 .first
   |exact AB (EM (AB (G8 (AB (DN h (λpN s' h'=>wpAny_pure (Y2 rfl h')) λ_ _ x=>x)))))
   |(refine AB (EM ?_);show BE _ _ (MT iter.pos >>= _) _ _ s;exact AB (G8 (AB (DN h (λpN s' h'=>wpAny_pure (Y2 rfl h')) λ_ _ x=>x))))
theorem zZ1(hx:X.xe=λ_ _=>False)(hc:X.calm=AQ)(hi:PI X tg iter wi)(hg:PG X tg g)(ht:PTs X ifs tt)(he:PE X PY te) (hs:∀x,DK iter X.env x=pure x):PM X (do
    let x <-eval iter X.env
    MT iter.pos
    let x <-DK iter X.env x
    let _ <-runOwn (.compStart (.ListComp PY [g0,⟨tg,iter,ifs,0⟩] sc pos) 1 (<-LC [x] (NY x)) (.ref B0) X.env) X.env) (Qt wi g tt (lS B0 te)):=by
 intro AJ s σ H N I h;refine AB (HE (hi AJ s σ H _ I h) λv s1 h2=>AB (G8 (AB (IZ (hs v) (AB (DO (HE h2 λmN s2 h3=>?_)))))));have{it,fp,tn,J,H2,e,I2,T,st2,f2,hW}:=h3;subst e;refine AB (wpAny_runOwn (zD5 ?_ (T.self _ 0 _ _ _ st2 ?_)));all_goals
  refine Qu rfl rfl rfl (λx s' z=>by rw[hx] at z;exact z.elim) hc hg ht (Gg he) T I2 st2 f2 hW ?_;intro σ' H' s' I' n';exact wpAny_pure {σ',H',I',n'}
theorem zL8(PY tg iter sU PP:EU)(ifs fC:List EU)(scope:JS)(pos:Pos)(it B0:AI)(env:aB) :
  ZZ (.ListComp PY [{tg,iter,ifs,0},{sU,PP,fC,0}] scope pos) 0 it B0 env=(do
   MT iter.pos
   match <-M7 it with
   |none=>pure (.done .next)
   |some v =>
    F7 tg it v
    N1 tg env v
    let mut ok:=AQ
    for c in ifs do
     if ok then ok <-WO c env (eval c env)
    if ok then(do
     let x <-eval PP env
     MT PP.pos
     let x <-DK PP env x
     let _ <-runOwn (.compStart (.ListComp PY [⟨tg,iter,ifs,0⟩,⟨sU,PP,fC,0⟩] scope pos) 1 (<-LC [x] (NY x)) B0 env) env)
    Z2 (.compLoop (.ListComp PY [{tg,iter,ifs,0},{sU,PP,fC,0}] scope pos) 0 it B0 env)):=by
 simp only[bind_assoc,pure_bind];rfl
theorem yGN{wi2:Hp->TI}{g g2:Hp->TG}{tt tt2:Hp->TT}{te:Hp->TE}(n:CompNm X scope xo cl own CL js)(hc:X.calm=AQ)(hi:PI X tg iter wi) (hg:∀C s H fp,PG (MY X scope xo cl (own++CL) C s H fp) tg (g H)) (ht:∀C s H fp,PTs (MY X scope xo cl (own++CL) C s H fp) ifs (tt H)) (Oh:∀C s H fp,PI (MY X scope xo cl (own++CL) C s H fp) sU PP (wi2 H)) (hg2:∀C s H fp,PG (MY X scope xo cl (own++CL) C s H fp) sU (g2 H)) (ht2:∀C s H fp,PTs (MY X scope xo cl (own++CL) C s H fp) fC (tt2 H)) (he:∀C s H fp,PE (MY X scope xo cl (own++CL) C s H fp) PY (te H)) (hs:∀x,DK iter X.env x=pure x:=by intro _;rfl) (M2:∀C x,DK PP (Z0 scope (wC xo (C+1) cl) C X.env) x=pure x:=by intro _ _;rfl) : PE X (.ListComp PY [{tg,iter,ifs,0},{sU,PP,fC,0}] scope pos) (oA wi own.length js (.lst []) g tt λH B0=>Qt (wi2 H) (g2 H) (tt2 H) (lS B0 (te H))):=by
 intro AJ s σ H Q I h;rw[eval_ListComp];refine G9 rfl hs n.clos n.kind n.loc (DN (hi AJ s σ H _ I h) (λxv EO HB=>DN HB (λmN MN J8=>?_) λ_ _ e=>e) λ_ _ e=>e);have{it,fp,tn,J,H2,e,I2,T,st2,f2,hW}:=J8;subst e;refine vP (V:=wF)
  (λ{Q s} h=>C9 h) (show ObjOk _ _ _ _ _ (.lst []) from{BN _,[],0,.nil,AT _ rfl}) (λ_ _=>rfl) (λ_ _=>rfl) (λ_ _=>zL8 _ _ _ _ _ _ _ _ _ _ _ _) (λh0 h1=>OX h0 h1) n hc hg ht
  (λC s H fp B0=>zZ1 rfl hc (Oh C s H fp) (hg2 C s H fp) (ht2 C s H fp) (he C s H fp) (M2 C)) (λ_ _ z=>z.elim) I2 T st2 f2 hW ?_
 intro B0 C H' s' m I' hC h1 h2 h3 h4 hn q;exact{m,hn,λh' sb=>{.ref B0,H',I'.turned (λb o hb e=>sb.extBut b o hb e) hC h1 (.inr h2) h3 h4,rfl,q}}
theorem zV0{wi:TI}{tt:Hp->TT}{tk tv:Hp->TE}(n:CompNm X scope xo cl own CL js)(hc:X.calm=AQ)(hi:PI X tg iter wi) (hg:∀C s H fp,PG (MY X scope xo cl (own++CL) C s H fp) tg (g H)) (ht:∀C s H fp,PTs (MY X scope xo cl (own++CL) C s H fp) ifs (tt H)) (hk:∀C s H fp,PE (MY X scope xo cl (own++CL) C s H fp) kx (tk H)) (hv:∀C s H fp,PE (MY X scope xo cl (own++CL) C s H fp) vx (tv H)) (hs:∀x,DK iter X.env x=pure x:=by intro _;rfl) : PE X (.DictComp kx vx [{tg,iter,ifs,0}] scope pos) (oA wi own.length js (.dK []) g tt λH B0=>Ab B0 (tk H) (tv H)):=by
 intro AJ s σ H Q I h;rw[arm_eval_DictComp];refine G9 rfl hs n.clos n.kind n.loc (DN (hi AJ s σ H _ I h) (λxv EO HB=>DN HB (λmN MN J8=>?_) λ_ _ e=>e) λ_ _ e=>e);have{it,fp,tn,J,H2,e,I2,T,st2,f2,hW}:=J8;subst e;refine vP (V:=wF)
  (λ{Q s} h=>C9 h) (Ur MN.heap I2.big) (λ_ _=>rfl) (λ_ _=>rfl) (λ_ _=>rfl) (λh0 h1=>gG h0 h1) n hc hg ht
  (λC s H fp B0=>Uo (hk C s H fp) (hv C s H fp)) (λ_ _ z=>z.elim) I2 T st2 f2 hW ?_
 intro B0 C H' s' m I' hC h1 h2 h3 h4 hn q;exact{m,hn,λh' sb=>{.ref B0,H',I'.turned (λb o hb e=>sb.extBut b o hb e) hC h1 (.inr h2) h3 h4,rfl,q}}
theorem zZ2{ifs:List EU}{pos:Pos}{g:Hp->TG}{tt:Hp->TT}{te:Hp->TE}(n:CompNm X scope xo cl own CL js)(hc:X.calm=AQ)(hi:PI X tg iter wi) (hg:∀C s H fp,PG (MY X scope xo cl (own++CL) C s H fp) tg (g H)) (ht:∀C s H fp,PTs (MY X scope xo cl (own++CL) C s H fp) ifs (tt H)) (he:∀C s H fp,PE (MY X scope xo cl (own++CL) C s H fp) PY (te H)) (hs:∀x,DK iter X.env x=pure x:=by intro _;rfl):PE X (.ListComp PY [{tg,iter,ifs,0}] scope pos) (oA wi own.length js (.lst []) g tt λH B0=>lS B0 (te H)):=by
 intro AJ s σ H Q I h;rw[eval_ListComp];refine G9 rfl hs n.clos n.kind n.loc (DN (hi AJ s σ H _ I h) (λxv EO HB=>DN HB (λmN MN J8=>?_) λ_ _ e=>e) λ_ _ e=>e);have{it,fp,tn,J,H2,e,I2,T,st2,f2,hW}:=J8;subst e;refine vP (V:=wF)
  (λ{Q s} h=>C9 h) (show ObjOk _ _ _ _ _ (.lst []) from{BN _,[],0,.nil,AT _ rfl}) (λ_ _=>rfl) (λ_ _=>rfl) (λ_ _=>rfl) (λh0 h1=>OX h0 h1) n hc hg ht
  (λC s H fp B0=>Gg (he C s H fp)) (λ_ _ z=>z.elim) I2 T st2 f2 hW ?_
 intro B0 C H' s' m I' hC h1 h2 h3 h4 hn q;exact{m,hn,λh' sb=>{.ref B0,H',I'.turned (λb o hb e=>sb.extBut b o hb e) hC h1 (.inr h2) h3 h4,rfl,q}}
theorem Xc{g:Hp->TG}{tt:Hp->TT}{te:Hp->TE}(n:CompNm X scope xo cl own CL js)(hc:X.calm=AQ)(hi:PI X tg iter wi) (hg:∀C s H fp,PG (MY X scope xo cl (own++CL) C s H fp) tg (g H)) (ht:∀C s H fp,PTs (MY X scope xo cl (own++CL) C s H fp) ifs (tt H)) (he:∀C s H fp,PE (MY X scope xo cl (own++CL) C s H fp) PY (te H)) (hN:X.N.Nodup) (hx:X.N[i]?=AA x) (hl:X.env.scope.names.lookup x=AA .local) (xO:J3 (.ListComp PY [{tg,iter,ifs,0}] scope pos) (AA (.Name x OU)) spos.line X.env=pure AQ) (hs:∀x,DK iter X.env x=pure x:=by intro _;rfl):PS X (.Assign [.Name x OU] (.ListComp PY [{tg,iter,ifs,0}] scope pos) spos) (r9 (oA wi own.length js (.lst []) g tt λH B0=>lS B0 (te H)) (lR i)):=by
 intro AJ s σ H D I h;rw[i4 _ _ _ _ xO];refine AB (G8 (AB ?_));refine AB (DN (G9 (Q:=λ_ s'=>SP X AJ D .next s') rfl hs n.clos n.kind n.loc
  (DN (hi AJ s σ H _ I h) (λxv EO HB=>DN HB (λmN MN J8=>?_) λ_ _ e=>e) λ_ _ e=>e)) (λ_ s' hq=>wpAny_pure (wpAny_pure hq)) λ_ _ e=>e)
 have{it,fp,tn,J,H2,e,I2,T,st2,f2,hW}:=J8;subst e;refine vP (V:=wF) (Q:=λx H1=>lR i x σ H1 D.nx)
  (λ{Q s} h=>C9 h) (show ObjOk _ _ _ _ _ (.lst []) from{BN _,[],0,.nil,AT _ rfl}) (λ_ _=>rfl) (λ_ _=>rfl) (λ_ _=>rfl) (λh0 h1=>OX h0 h1) n hc hg ht
  (λC s H fp B0=>Gg (X:=MY X scope xo cl (own++CL) C s H fp) (he C s H fp)) (λ_ _ z=>z.elim) I2 T st2 f2 hW ?_
 intro B0 C H' s' m I' hC h1 h2 h3 h4 hn q;show BE _ X.A (N1 (.Name x OU) X.env (.ref B0)) _ _ _;refine UP (Hu I' hN hx (.inl hl) (v:=.ref B0) rfl (λcS Pt sb=>?_) (.inr hl));have{a,sb,ha}:=sb;have Ox:C≠a:=by
  rcases ha with ha|ha
  .rw[ha];exact h1
  .exact λz=>h3 x a ha z.symm
 exact{m,hn.sameBut sb Ox,λh' Ma=>{_,H',Pt.turned (t':=cS.toks) (λb o hb e=>Ma.extBut b o hb e) hC h1 (.inr h2) h3 h4,q}}
end
end _L
namespace _T
open PySem PySem.W PyProof.Rows
section
variable{E:AI->AN->Prop}
theorem zL9{xs:Array CO}(h:xs.Perm (IN vs)):(xs.map (·.2)).toList.Perm vs:=by have p:=(EG.mp h).map (·.2);rw[QT] at p;have e:(vs.zip vs).map (·.2)=vs:=List.map_snd_zip (AM _);rw[e] at p;simpa using p
end
end _T
namespace _L
open PySem PySem.Spec PyProof.Rows
theorem Vals.perm(p:ws.Perm us):∀{xs:List V},Vals xs us->∃ys,ys.Perm xs/\Vals ys ws:=by
 induction p with
 |nil=>intro xs r;cases r;exact{[],GT _,.nil}
 |cons a _ ih =>
  intro xs r;cases r with
  |cons h t=>have{ys,q,r'}:=ih t;exact{_::ys,q.cons _,.cons h r'}
 |swap a b l =>
  intro xs r;cases r with
  |cons h t =>
   cases t with
   |cons h' t'=>exact{_::_::_,HR _ _ _,.cons h' (.cons h t')}
 |trans _ _ cT ih2=>intro xs r;have{ys,q,r'}:=ih2 r;have{zs,q',wS}:=cT r';exact{zs,q'.trans q,wS}
def Qs(H:Hp)(y:V):Prop:=∃(p:AV) (n:Int) (ns:List Int),y=.ref p/\H p=AA (.tup ((n::ns).map V.int))
theorem Sy(I:Inv X AJ σ H s):∀{ys:List V} {us:List AI},Vals ys us->(∀y∈ys,Qs H y) ->∃fs:List AI,fs.length=us.length/\R1 s.heap us fs/\(∀v∈fs,∃n t,v=.int n t)/\∀u∈us,∃(p:AV) (CW:List AI) (ns:List Int),u=.ref p/\U1 s.heap p CW.toArray/\IA CW ns
 |_,_,.nil,_=>{[],rfl,SU,(λv hv=>nomatch hv),(λu hu=>nomatch hu)}
 |_,_,.cons r t,h=>by
  have{fs,e1,e2,e3,e4}:=Sy I t λy hy=>h y (A2 _ hy);have{p,n,ns,ey,hp}:=h _ AZ;subst ey;cases r;have{CW,rv,tp,_}:=I.tuple (SqT.of hp);have hi:=l7 rv;have Oi:=hi;cases hi with
  |cons _ tk r' =>
   have{o,ho,hc,k,hd}:=id tp;refine{.int n tk::fs,by rw[A8,A8,e1],PySem.W.KatTups.cons ho hc hd 'S' e2,λv hv=>?_,λu hu=>?_}
   .rcases A3.mp hv with rfl|hv
    .exact{_,_,rfl}
    .exact e3 v hv
   .rcases A3.mp hu with rfl|hu
    .exact{p,_,n::ns,rfl,tp,Oi}
    .exact e4 u hu
theorem Wd(k:∀b o,h.get? b=AA o->h'.get? b=AA o):∀{us fs:List AI},R1 h us fs->R1 h' us fs
 |[],[],_=>SU
 |[],_::_,t=>t.elim
 |_::_,[],t=>t.elim
 |_::_,_::_,t=>by have{zz',t}:=t;have{a,o,xs,n,e,ho,r}:=zz';exact{{a,o,xs,n,e,k _ _ ho,r},Wd k t}
section
variable{E:AI->AN->Prop}{s:AN}
structure RawD(h:CN)(d:AV)(es:Array RK)(ep:Nat):Prop where
 ex:∃o,h.get? d=AA o/\o.ExactDict/\o.data=.dict es ep
 ns:(d==HZ)=AE
theorem RawD.ty(r:RawD s.heap d es ep):s.TypeIs (.ref d) "dict":=let ⟨o,h1,h2,_⟩:=r.ex;{o,h1,h2.1}
theorem zZ3{Q:AI->AN->Prop}(r:RawD s.heap d es ep)(hf:(es.size:Int)<2 ^ 63)(h:∀t tk,Q (.int es.size t) { s with toks:=tk }) : BE (A9 prog w) A (call (.builtin "len") [.ref d]) Q E s:=by
 have{o,ho,hc,hd}:=r.ex;refine VM kind_len plain_len entry_len (args_len1 _) ?_;refine AB (wpAny_pure ?_);refine AB (CU r.ty F.slot_dict_len (CG F.slot_dict_len r.ty F.entry_dict_len ?_ (F.args_dict_len_1 _)));show BE _ _ (dictSize d >>= _) _ _ s;refine AB (AB (IM ho hd (wpAny_pure ?_)));refine AB (wpAny_pendingCount_other r.ns ?_);refine AB (W5 (wpAny_pure {_,rfl,?_}));refine AB (DO (wpAny_pure (AB (LG ?_))));rw[if_neg 'L'];rw[if_neg 'L'];have e0:(es.size+((0:Nat):Int))=(es.size:Int):=by simp
 rw[e0];exact AB (W5 (wpAny_pure {_,rfl,h _ _}))
theorem Az{Q:AI->AN->Prop}(r:RawD s.heap d es ep) (h:∀h',(∀b o,s.heap.get? b=AA o->h'.get? b=AA o)->h'.IsKeyIter s.heap.objs.size d 0 es.size ep->Q (.ref s.heap.objs.size) { s with heap:=h' }):BE (A9 prog w) A (NY (.ref d)) Q E s:=by have{o,ho,hc,hd}:=r.ex;refine KH r.ty F.slot_dict_iter (CG F.slot_dict_iter r.ty F.entry_dict_iter ?_ (F.args_dict_iter_1 _));refine AB (AB (P1 r.ty (wpAny_pure ?_)));show BE _ _ ((if _ then _ else _) >>= _) _ _ s;rw[if_neg (by rw[r.ns];exact BH)];refine AB (wpAny_pure (AB (IM ho hd (AB (O4 ho hd ?_)))));refine AB (C9 (wpAny_pure {_,rfl,"dict_keyiterator",_,{_,AT _ rfl,rfl},F.slot_dict_keyiterator_next.lookup,?_}));exact h _ (λb o e=>AF _ e) {_,AT _ rfl,rfl,by simp[DR]}
theorem Gx{Q:Option AI->AN->Prop}(k:s.heap.IsKeyIter it d i es.size ep)(r:RawD s.heap d es ep)(hi:i<es.size) (h:∀h',h'.IsKeyIter it d (i+1) es.size ep->CQ it s.heap h'->Q (AA es[i].key) { s with heap:=h' }):BE (A9 prog w) A (M7 (.ref it)) Q E s:=by
 have{oi,mS,hci,kX}:=id k;have{o,ho,hc,hd}:=r.ex;refine AB (GC (CU k.typeIs F.slot_dict_keyiterator_next (CG F.slot_dict_keyiterator_next k.typeIs F.entry_dict_keyiterator_next ?_ (F.args_dict_keyiterator_next_1 _))));refine AB (wpAny_pure (AB (AB ?_)));first
  |refine AB (HS k.typeIs (wpAny_pure (AB (QS mS kX ?_))))
  |refine AB (JR k.typeIs (wpAny_pure (AB (QS mS kX ?_))))
 show BE _ _ (if(FU d==JE)=AQ then _ else _) _ _ s;rw[if_neg (show ¬((FU d==JE)=AQ) from BH)];refine AB (wpAny_pure (AB (IM ho hd ?_)));rw[if_neg 'S'];refine AB (wpAny_pure (AB (O4 ho hd ?_)));rw[if_neg 'S'];refine wpAny_pure ?_;simp only[show ¬((i:Int)<0) from by lia,if_false,J1,Array.getElem?_eq_getElem hi];refine AB ?_;first
  |refine AB (HS k.typeIs (wpAny_pure (AB (P2 k.typeIs ?_))))
  |refine AB (JR k.typeIs (wpAny_pure (AB (P2 k.typeIs ?_))))
 show BE _ _ (setField (.ref it) 1 (DR ((i:Int)+1)) >>= _) _ _ s;refine AB (QQ mS kX 'S' ?_);have k':(s.heap.update it (Obj.mapFields (·.setIfInBounds 1 (DR ((i:Int)+1))))).IsKeyIter it d (i+1) es.size ep :=
  {_,HU _ mS (a8 (MC kX _)),(i8 ..).trans hci,by rw[MC kX];simp[DR]}
 refine AB (DO (AB (P2 k'.typeIs ?_)));exact wpAny_pure (wpAny_pure {_,rfl,wpAny_pure (h _ k' (FQ ..))})
theorem Gf{Q:Option AI->AN->Prop}(hh:A.handled=AL)(k:s.heap.IsKeyIter it d i es.size ep)(r:RawD s.heap d es ep)(hi:es.size<=i) (h:∀h',bD it s.heap h'->Q AL { s with heap:=h' }):BE (A9 prog w) A (M7 (.ref it)) Q E s:=by
 have{oi,mS,hci,kX}:=id k;have{o,ho,hc,hd}:=r.ex;refine AB (GC (CU k.typeIs F.slot_dict_keyiterator_next (CG F.slot_dict_keyiterator_next k.typeIs F.entry_dict_keyiterator_next ?_ (F.args_dict_keyiterator_next_1 _))));refine AB (wpAny_pure (AB (AB ?_)));first
  |refine AB (HS k.typeIs (wpAny_pure (AB (QS mS kX ?_))))
  |refine AB (JR k.typeIs (wpAny_pure (AB (QS mS kX ?_))))
 show BE _ _ (if(FU d==JE)=AQ then _ else _) _ _ s;rw[if_neg (show ¬((FU d==JE)=AQ) from BH)];refine AB (wpAny_pure (AB (IM ho hd ?_)));rw[if_neg 'S'];refine AB (wpAny_pure (AB (O4 ho hd ?_)));rw[if_neg 'S'];refine wpAny_pure ?_;simp only[show ¬((i:Int)<0) from by lia,if_false,J1,Array.getElem?_eq_none hi];refine AB ?_;first
  |refine AB (HS k.typeIs (wpAny_pure ?_))
  |refine AB (JR k.typeIs (wpAny_pure ?_))
 show BE _ _ (setField (.ref it) 0 .none >>= _) _ _ s;refine AB (QQ mS kX 'S' ?_);show BE _ _ (newExc (.type "StopIteration") [] >>= _) _ _ _;refine AB ?_;refine AB (C9 ?_ (by size_fits));refine AB (IZ (by first|rfl|(simp only[ZY];rfl)) (C9 ?_ (by size_fits)));refine AB (wpAny_handled ?_);rw[hh];refine AB (wpAny_pure (wpAny_throw ?_));refine AB (OH {_,AT _ rfl,rfl} QV ?_);exact wpAny_pure (h _ (((FQ ..).extBut.push _).push _))
end
theorem n9(x:ObjOk P w H h a (.dT kvs)):∃es ep,RawD h a es ep/\es.size=kvs.length/\kvs.length<=sizeLine /\ ∀(i:Nat) (hi:i<es.size),∃(p:AV) (k:List Key),es[i].key=.ref p/\(kvs.map (·.1))[i]?=AA k/\H p=AA (.tup (k.map kV)):=by
 have{z,y,xs,r,o,es,ep,h1,h2,h3,h4,h5}:=x;have hl:es.size=xs.length:=by have:=congrArg KP h4;simpa using this
 have cY:=Paired.length r;refine{es,ep,{{o,h1,h2,h3},y},by lia,z,λi hi=>?_};have KE:∀{l:List (List Key×V)} {m:List (List Key×AV×AI)},Paired (λp q=>p.1=q.1/\H q.2.1=AA (.tup (p.1.map kV))/\RelV p.2 q.2.2) l m ->
   ∀(i:Nat) q,m[i]?=AA q->∃k,(l.map (·.1))[i]?=AA k/\H q.2.1=AA (.tup (k.map kV)):=by
  intro l m q;induction q with
  |nil=>intro i q e;simp at e
  |@cons p q ps qs hq t ih =>
   intro i z e;cases i with
   |zero=>simp at e;subst e;exact{p.1,by simp,hq.2.1}
   |succ i=>have{k,e1,e2}:=ih i z (by simpa using e);exact{k,by simpa using e1,e2}
 have QA:=AO hi (DG hl);have{k,e1,e2}:=KE r i xs[i] (by simp[QA]);have e3:es[i]=entryOfKey (OI (YO P w)) xs[i]:=by
  have q:es.toList[i]?=AA es[i]:=by simp[hi]
  rw[h4] at q;simp[QA] at q;exact q.symm
 exact{xs[i].2.1,k,by rw[e3];rfl,e1,e2}
section
def Itk(d:AV)(o:JF)(kvs:List (List Key×V)):It :={λi H=>i<kvs.length/\H d=AA (.frz o (.dT kvs)),λi H x H'=>H'=H/\∃p k,x=.ref p/\(kvs.map (·.1))[i]?=AA k/\H p=AA (.tup (k.map kV)),λi H=>kvs.length<=i/\H d=AA (.frz o (.dT kvs))}
theorem Wc{K:AC}(d it:AV)(o:JF)(kvs:List (List Key×V))(es:Array RK)(ep:Nat)(hd:o.data=.dict es ep)(hz:es.size=kvs.length) : Turn P w K tg (Itk d o kvs) [it] it (λi h=>h.IsKeyIter it d i es.size ep) where
 mem:=by simp
 obj:=λi h st b hb=>by
  have e:b=it:=by simpa using hb
  subst e;have{o,e,c,d}:=st;exact{o,e,λv z=>by rw[d] at z;cases z}
 keep:=λi h h' st k=>let ⟨o,e,r⟩:=st;{o,k it 'S' o e,r}
 item:=by intro X hP hw hK hc i AJ s σ H E I hf st hg;subst hP hw hK;have{hi,hk}:=hg;have{ho,hx}:=I.hok d _ hk;have{bT,nC,MO,e1,e2,e3}:=n9 hx;have{o',q1,q2,q3}:=MO.ex;rw[ho] at q1;cases q1;rw[hd] at q3;injection q3 with q4 q5;subst q4;subst q5;have{f0,f1,f2,f3,f4,f5}:=hf it 'S';refine Gx st MO 'L' λh' C5 sb=>?_;have{p,k,p1,p2,p3}:=e3 i 'L';have I1:=I.turned (t':=s.toks) (λb ob hb e=>(sb.2 b hb).trans e) f0 f1 f3 f4 f5;have{oi,e,c,dd}:=id C5;refine{_,rfl,qU e c dd 'D' {.ref p,H,I1,p1,{rfl,p,k,rfl,p2,p3},C5,λb hb=>(hf b hb).1}}
 done:=by intro X hP hw hK hc i AJ s σ H E I hf st hg;subst hP hw hK;have{hi,hk}:=hg;have{ho,hx}:=I.hok d _ hk;have{bT,nC,MO,e1,e2,e3}:=n9 hx;have{o',q1,q2,q3}:=MO.ex;rw[ho] at q1;cases q1;rw[hd] at q3;injection q3 with q4 q5;subst q4;subst q5;have{f0,f1,f2,f3,f4,f5}:=hf it 'S';exact Gf (I.ok.hd hc) st MO (A0 (DG hz) hi) λh' eb=>{rfl,I.turned (λb ob hb e=>eb b ob hb e) f0 f1 f3 f4 f5}
 self:=λ_ _ _ _ _ st h=>QR st h
theorem Inv.freeze(I:Inv X AJ σ H s)(ha:H a=AA (.dT kvs)) : ∃o,s.heap.get? a=AA o/\Inv X AJ σ (DZ H a (.frz o (.dT kvs))) s:=by
 have x:=I.hok a _ ha;obtain⟨es,ep,⟨⟨o,h1,h2,h3⟩,_⟩,_⟩:=n9 x;have kt:∀b ys,H b=AA (.tup ys)->b≠a:=λb ys e z=>by rw[z,ha] at e;cases e
 have ko:∀b y,H b=AA (.own y)->b≠a:=λb y e z=>by rw[z,ha] at e;cases e
 have kf:∀b ob u,H b=AA (.frz ob u)->b≠a:=λb ob u e z=>by rw[z,ha] at e;cases e
 have kb:∀b t ps,H b=AA (.tbl t ps)->b≠a:=λb t ps e z=>by rw[z,ha] at e;cases e
 have kn:∀b,H b=AL->b≠a:=λb e z=>by rw[z,ha] at e;cases e
 refine{o,h1,I.un {λb ob e _ _ _=>e,λb ob e _ _ _=>{ob.slots,e},λb ob e n _=>by rw[EH (kn b n)];exact n,λb ob e _=>{ob,e},λb ys e=>by rw[EH (kt b ys e)];exact e,λb ob u e=>by rw[EH (kf b ob u e)];exact e,λb t ps e=>{#[],by rw[EH (kb b t ps e),e];simp}} λb u e=>?_};by_cases hb:b=a
 .subst hb;rw[GO] at e;cases e;exact{h1,x.stay (λc v _ q=>q) (λc q=>by rw[EH (ko c _ q)];exact q) (λc ys q=>by rw[EH (kt c ys q)];exact q) λc ob x q=>by rw[EH (kf c ob _ q)];exact q}
 .rw[EH hb] at e;exact(I.hok b u e).stay (λc v _ q=>q) (λc q=>by rw[EH (ko c _ q)];exact q) (λc ys q=>by rw[EH (kt c ys q)];exact q) λc ob x q=>by rw[EH (kf c ob _ q)];exact q
theorem Um:CallR X (.type "range") (λxs H Q=>∃j:Int,xs=[.int j]/\∀p,H p=AL->Q (.ref p) (DZ H p (.rng 0 j))):=by intro AJ s σ H xs us Q I r h;have{j,rfl,q}:=h;have{u,rfl,ru}:=Y6 r;have{t,rfl}:=ru;exact call_range_1 {.ref s.heap.objs.size,_,I.laid (o:=.rng 0 j) (λb o e=>AF _ e) (AM _) {_,_,_,AT _ rfl},rfl,q _ I.fresh}
theorem zQZ:∀(n:Nat) (us:List AI),us.length=n->(∀(i:Nat) v,us[i]?=AA v->∃t,v=RX (i:Int) t)->Vals ((DM n).map λi:Nat=>V.int (i:Int)) us:=by
 intro n;induction n with
 |zero=>intro us hl _;have:=JO.mp hl;subst this;exact .nil
 |succ n ih =>
  intro us hl h;have e:us=us.take n++[us[n]'(by lia)]:=by rw[<-CI 'L',JT (DG hl)]
  rw[e,T6,D0];refine Vals.append (ih _ (by rw[F9];lia) λi v hv=>?_) (.cons ?_ .nil)
  .rw[QE] at hv;split at hv
   .exact h i v hv
   .cases hv
  .have{t,et}:=h n (us[n]'(by lia)) 'S';exact{t,et}
theorem zKE(hc:X.calm=AQ):CallR X (.type "list") (λxs H Q=>∃(p:AV) (n:Nat),xs=[.ref p]/\H p=AA (.rng 0 (n:Int))/\n<=1000/\∀l,H l=AL->Q (.ref l) (DZ H l (.lst ((DM n).map λi:Nat=>V.int (i:Int))))):=by
 intro AJ s σ H xs us Q I r h;have{p,n,rfl,hp,hn,q}:=h;have{u,rfl,ru}:=Y6 r;cases ru;have{t,u,v,e}:=(I.hok p _ hp);refine call_list_range (I.ok.hd hc) (e) (small_one 'D' 'D' 'L' 'L') (by rw[b8];first|lia|(split<;>lia)) (A0 hn (DU _ _)) λh' tk B0 c k hS hI=>?_;have{hz,hi}:=hI;have rv:Vals ((DM n).map λi:Nat=>V.int i) B0.toList:=zQZ n _ (by simpa using hz) λi v hv=>by have{t,et}:=hi i v (by rw[<-DF];exact hv);exact{t,by rw[et];simp}
 refine{.ref s.heap.objs.size,_,I.laid (o:=.lst ((DM n).map λi:Nat=>V.int i)) k (AM _) {?_,B0.toList,c,rv,by simpa using hS},rfl,q _ I.fresh};rw[AK,GP,FM];exact A0 hn (DU _ _)
end
section
variable{E:AI->AN->Prop}
theorem Wb{Q:Option JF->AN->Prop}(h:Q (s.heap.get? a) s):BE (A9 prog w) A (loadIfAlive a) Q E s:=λΓ p hΓ=>by show Sem.wp _ Γ (.loadIfAlive a .pure) _ _ p s;rw[Sem.wp_loadIfAlive];exact(wpAny_pure h:BE (A9 prog w) A (pure _) Q E s) Γ p hΓ
theorem oJ{Q:AI->AN->Prop}(k:s.heap.IsTupleIter it t i)(ht:s.heap.IsTuple t items)(hx:items[i]?=AA x) (h:∀h',h'.IsTupleIter it t (i+1)->CQ it s.heap h'->Q x { s with heap:=h' }):BE (A9 prog w) A (DX (.ref it)) Q E s:=by have{o,ho,hc,hd}:=id k;have{ol,Nq,_,nl,tQ}:=ht;refine AB (CU (name:=HJ "__next__") k.typeIs F.slot_tuple_iterator_next (CG F.slot_tuple_iterator_next k.typeIs F.entry_tuple_iterator_next ?_ (F.args_tuple_iterator_next_1 _)));show BE _ _ (SR (.ref it) 0 >>= _) _ _ s;refine AB (CH ho hd (x:=.ref t) rfl ?_);rw[if_neg (show ¬((FU t==JE)=AQ) from BH)];show BE _ _ (SR (.ref it) 1 >>= _) _ _ s;refine AB (CH ho hd (x:=.int i 0) rfl ?_);refine AB (HH Nq tQ ?_);simp only[J1,hx];refine AB (QQ ho hd 'S' (wpAny_pure {x,rfl,wpAny_pure (h _ ?_ (FQ ..))}));exact{_,HU _ ho (a8 (MC hd _)),(i8 ..).trans hc,by rw[MC hd];simp[DR]}
theorem vE{Q:AI->AN->Prop}(hh:A.handled=AL)(k:s.heap.IsTupleIter it t i)(ht:s.heap.IsTuple t items)(hx:items[i]?=AL) (h:∀h' e,bD it s.heap h'->(∃o,h'.get? e=AA o/\o.cls=.type "StopIteration")->E (.ref e) { s with heap:=h' }):BE (A9 prog w) A (DX (.ref it)) Q E s:=by
 have{o,ho,hc,hd}:=id k;have{ol,Nq,_,nl,tQ}:=ht;refine AB (CU (name:=HJ "__next__") k.typeIs F.slot_tuple_iterator_next (CG F.slot_tuple_iterator_next k.typeIs F.entry_tuple_iterator_next ?_ (F.args_tuple_iterator_next_1 _)));show BE _ _ (SR (.ref it) 0 >>= _) _ _ s;refine AB (CH ho hd (x:=.ref t) rfl ?_);rw[if_neg (show ¬((FU t==JE)=AQ) from BH)];refine AB (CH ho hd rfl ?_);show BE _ _ (seqItems? (.ref t) >>= _) _ _ s;refine AB (HH Nq tQ ?_);simp only[J1,hx];refine AB (EM (AB (QQ ho hd 'S' ?_)));refine AB ?_;refine AB (C9 ?_ (by size_fits));refine AB (m:=ZY _ _) (IZ (a:=JE) (by first|rfl|(simp only[ZY];rfl)) (C9 ?_ (by size_fits)));refine AB (wpAny_handled ?_);first|rw[show A.in1.handled=AL from hh]|rw[hh]
 exact AB (wpAny_pure (wpAny_throw (h _ _ (((FQ ..).extBut.push _).push _) {_,AT _ rfl,rfl})))
structure ZipSt(h:CN)(n l1 l2:AV)(i:Nat):Prop where
 zo:∃f0 f1,h.get? (n+4)=AA { cls:=.type "zip",dict:=AL,data:=.fields #[f0,.bool f1,.bool AE,.ref (n+2),.ref (n+3)],slots:=#[] }/\(f0=.none\/∃T:Nat,f0=DR T)
 ti:J0 h (n+2) (.ref n) (.ref (n+1))
 to:∃a b,J0 h (n+3) a b
 k1:h.IsTupleIter n l1 i
 k2:h.IsTupleIter (n+1) l2 i
theorem lY{h h':CN}(x:h.IsTupleIter it t i)(k:∀o,h.get? it=AA o->h'.get? it=AA o):h'.IsTupleIter it t i:=let ⟨o,e,r⟩:=x;{o,k o e,r}
theorem Qr{h h':CN}(x:h.IsTuple t CW)(k:∀o,h.get? t=AA o->h'.get? t=AA o):h'.IsTuple t CW:=let ⟨o,e,r⟩:=x;{o,k o e,r}
theorem ZipSt.keep{h h':CN}(z:ZipSt h n l1 l2 i)(k:∀b∈[n,n+1,n+2,n+3,n+4],∀o,h.get? b=AA o->h'.get? b=AA o):ZipSt h' n l1 l2 i:=by have{f0,f1,e,r}:=z.zo;have{a,b,to}:=z.to;exact{{f0,f1,k _ 'S' _ e,r},k _ 'S' _ z.ti,{a,b,k _ 'S' _ to},lY z.k1 (k _ 'S'),lY z.k2 (k _ 'S')}
def Ge(n:AV)(h h':CN):Prop:=∀c o,c≠n->c≠n+1->c≠n+3->c≠n+4->h.get? c=AA o->h'.get? c=AA o
end
section
variable{E:AI->AN->Prop}
abbrev iN(h:CN)(n:AV)(f0:AI)(f1:Bool):Prop:=h.get? (n+4)=AA { cls:=.type "zip",dict:=AL,data:=.fields #[f0,.bool f1,.bool AE,.ref (n+2),.ref (n+3)],slots:=#[] }
def F0(f0:AI):Prop:=f0=.none\/∃T:Nat,f0=DR T
theorem j1(a:AV)(h:CN):CQ a h h:={rfl,λ_ _=>rfl}
theorem Xb{Q:Bool->AN->Prop}(hz:iN s.heap n f0 f1)(hf:F0 f0) (h:∀b h' f1,iN h' n f0 f1->CQ (n+4) s.heap h'->Q b { s with heap:=h' }):BE (A9 prog w) A (HG (.ref (n+4))) Q E s:=by
 rcases hf with rfl|⟨T,rfl⟩
 .exact AB (CH hz rfl rfl (wpAny_pure (h AQ s.heap f1 hz (j1 _ _))))
 .refine AB (CH hz rfl rfl ?_);refine AB (Wb ?_);cases e:(s.heap.get? (T:Int).toNat).isNone with
  |true=>exact wpAny_pure (h AQ s.heap f1 hz (j1 _ _))
  |false =>
   refine AB (CH hz rfl rfl ?_);cases f1 with
   |true=>exact wpAny_pure (h AE s.heap AQ hz (j1 _ _))
   |false=>exact AB (BW hz 'S' λh' cV PR=>wpAny_pure (h AE h' AQ cV PR))
def v8(n l:AV):Prop:=l≠n/\l≠n+1/\l≠n+3/\l≠n+4
theorem Y7(k:h.IsTuple t CW)(hs:CQ a h h')(ne:t≠a):h'.IsTuple t CW:=Qr k λo e=>hs.extBut _ _ ne e
theorem Q3(k:h.IsTupleIter t l i)(hs:CQ a h h')(ne:t≠a):h'.IsTupleIter t l i:=lY k λo e=>hs.extBut _ _ ne e
theorem bJ{n j k:Nat}(h:j≠k):n+j≠n+k:=by lia
theorem cO(h:k≠0):n≠n+k:=by lia
theorem zV1{Q:Option AI->AN->Prop}(z:ZipSt s.heap n l1 l2 i)(o1:v8 n l1)(o2:v8 n l2) (fN:s.heap.IsTuple l1 xs) (cY:s.heap.IsTuple l2 ys) (hx:xs[i]?=AA x) (hy:ys[i]?=AA y) (hQ:∀h',ZipSt h' n l1 l2 (i+1)->J0 h' s.heap.objs.size x y->h'.objs.size=s.heap.objs.size+1->Ge n s.heap h'->Q (AA (.ref s.heap.objs.size)) { s with heap:=h' }) : BE (A9 prog w) A (M7 (.ref (n+4))) Q E s:=by
 have{f0,f1,hz,hf}:=z.zo;have{a,b,tU}:=z.to;have tW:=z.ti;have k1:=z.k1;have k2:=z.k2;have{p1,p2,p3,p4}:=o1;have{q1,q2,q3,q4}:=o2;have hT:s.TypeIs (.ref (n+4)) "zip":={_,hz,rfl};have iZ:n+3≠n+4:=bJ 'D';have qM:n+2≠n+4:=bJ 'D';have fV:n+1≠n+4:=bJ 'D';have fW:n≠n+4:=cO 'D';have nE:n+1≠n+3:=bJ 'D';have tY:n≠n+3:=cO 'D';have WH:n≠n+1:=cO 'D';have Ph:n+2≠n+3:=bJ 'D';have Eh:n+2≠n+1:=bJ 'D';have Ei:n+2≠n:=(cO 'D').symm;refine AB (GC (CU (name:=HJ "__next__") hT F.slot_zip_next (CG F.slot_zip_next hT F.entry_zip_next ?_ (F.args_zip_next_1 _))));show BE _ _ (SR (.ref (n+4)) 2 >>= _) _ _ _;refine AB (CH hz rfl (x:=.bool AE) rfl ?_);show BE _ _ (SR (.ref (n+4)) 3 >>= _) _ _ _;refine AB (CH hz rfl (x:=.ref (n+2)) rfl ?_);refine AB (HH tW rfl ?_);show BE _ _ (HG (.ref (n+4)) >>= _) _ _ _;refine AB (Xb hz hf λfr kK g1 VC JC=>?_);have ZL:J0 kK (n+3) a b:=JC.extBut _ _ iZ tU;have TH:=Q3 k1 JC fW;have X1:=Q3 k2 JC fV;have TD:=Y7 fN JC p4;have XZ:=Y7 cY JC q4;have hTI₀:J0 kK (n+2) (.ref n) (.ref (n+1)):=JC.extBut _ _ qM tW;cases fr with
 |true =>
  refine AB (EM ?_);refine AB (CH VC rfl (x:=.ref (n+3)) rfl ?_);refine AB (BW VC 'S' λHB Q6 J9=>?_);replace Q6:iN HB n .ellipsis g1:=Q6;refine AB ?_;refine AB (AB (SO ?_));show BE _ _ (DX (.ref n) >>= _) _ _ _;refine AB (oJ (Q3 TH J9 fW) (Y7 TD J9 p4) hx λJ8 X2 GV=>wpAny_pure ?_);have TN:J0 J8 (n+3) a b:=GV.extBut _ _ tY.symm (J9.extBut _ _ iZ ZL);refine AB (HH TN rfl ?_);refine AB (QP TN λKF WF LQ=>?_);replace WF:J0 KF (n+3) x b:=WF;refine AB (LG (wpAny_pure ?_));refine AB (AB (SO ?_));show BE _ _ (DX (.ref (n+1)) >>= _) _ _ _;refine AB (oJ (Q3 (Q3 (Q3 X1 J9 fV) GV WH.symm) LQ nE) (Y7 (Y7 (Y7 XZ J9 q4) GV q1) LQ q3) hy λMP fA K5=>wpAny_pure ?_);have fT:J0 MP (n+3) x b:=K5.extBut _ _ nE.symm WF;refine AB (HH fT rfl ?_);refine AB (QP fT λKS WE Q7=>?_);replace WE:J0 KS (n+3) x y:=WE;refine AB (LG (wpAny_pure (wpAny_pure ?_)));refine AB (HH WE rfl ?_);refine AB (KJ ?_);have MW:KS.objs.size=s.heap.objs.size:=by rw[Q7.1,K5.1,LQ.1,GV.1,J9.1,JC.1]
  have mO:iN KS n .ellipsis g1:=Q7.extBut _ _ iZ.symm (K5.extBut _ _ fV.symm (LQ.extBut _ _ iZ.symm (GV.extBut _ _ fW.symm Q6)));have mU:∀c o,c≠n+4->c≠n+3->c≠n->c≠n+1->s.heap.get? c=AA o->KS.get? c=AA o:=λc o c1 c2 c3 c4 e =>
   Q7.extBut _ _ c2 (K5.extBut _ _ c4 (LQ.extBut _ _ c2 (GV.extBut _ _ c3 (J9.extBut _ _ c1 (JC.extBut _ _ c1 e)))))
  have xH:KS.IsTupleIter n l1 (i+1):=Q3 (Q3 (Q3 X2 LQ tY) K5 WH) Q7 tY;have xG:KS.IsTupleIter (n+1) l2 (i+1):=Q3 fA Q7 nE;have xJ:n+4<KS.objs.size:=BB mO;show BE _ _ (jB (.ref (n+4)) (.ref KS.objs.size) >>= _) _ _ _;refine AB ?_;have xI:iN (KS.push { cls:=.type "tuple",data:=.seq #[x,y] }) n .ellipsis g1:=AF _ mO;refine AB (BW xI 'S' λWC fE fJ=>?_);replace fE:iN WC n (DR KS.objs.size) g1:=fE;refine BW fE 'S' λPQ fD fI=>?_;replace fD:iN PQ n (DR KS.objs.size) AE:=fD;have up:∀c o,c≠n+4->KS.get? c=AA o->PQ.get? c=AA o:=λc o c1 e=>fI.extBut _ _ c1 (fJ.extBut _ _ c1 (AF _ e));have m9:J0 PQ KS.objs.size x y:=fI.extBut _ _ (EN xJ) (fJ.extBut _ _ (EN xJ) (AT _ rfl));have hz8:PQ.objs.size=KS.objs.size+1:=by rw[fI.1,fJ.1,D3]
  have zs:ZipSt PQ n l1 l2 (i+1):={{_,_,fD,.inr {_,rfl}},up _ _ qM (mU _ _ qM Ph Ei Eh tW),{x,y,up _ _ iZ WE},lY xH λo e=>up _ o fW e,lY xG λo e=>up _ o fV e};rw[MW] at m9 hz8;refine wpAny_pure {_,rfl,wpAny_pure ?_};show Q (AA (.ref KS.objs.size)) _;rw[MW];exact hQ PQ zs m9 hz8 λc o c1 c2 c3 c4 e=>up c o c4 (mU c o c4 c3 c1 c2 e)
 |false =>
  refine AB ?_;rw[<-LJ];refine AB (AB (DO ?_));show BE _ _ (DX (.ref n) >>= _) _ _ _;refine AB (oJ TH TD hx λJ8 X2 GV=>wpAny_pure (wpAny_pure ?_));refine AB (AB (DO ?_));show BE _ _ (DX (.ref (n+1)) >>= _) _ _ _;refine AB (oJ (Q3 X1 GV WH.symm) (Y7 XZ GV q1) hy λMP fA K5=>wpAny_pure (wpAny_pure (wpAny_pure ?_)));refine AB (KJ (items:=[x,y]) ?_);have MW:MP.objs.size=s.heap.objs.size:=by rw[K5.1,GV.1,JC.1]
  have fO:∀c o,c≠n+4->c≠n->c≠n+1->s.heap.get? c=AA o->MP.get? c=AA o:=λc o c1 c3 c4 e=>K5.extBut _ _ c4 (GV.extBut _ _ c3 (JC.extBut _ _ c1 e));have zs:ZipSt (MP.push { cls:=.type "tuple",data:=.seq #[x,y] }) n l1 l2 (i+1):=ZipSt.keep (h:=MP) {{f0,g1,K5.extBut _ _ fV.symm (GV.extBut _ _ fW.symm VC),hf},fO _ _ qM Ei Eh tW,{a,b,fO _ _ iZ tY.symm nE.symm tU},Q3 X2 K5 WH,fA}
   λb _ o e=>AF _ e
  refine wpAny_pure {_,rfl,wpAny_pure ?_};show Q (AA (.ref MP.objs.size)) _;have hP:J0 (MP.push { cls:=.type "tuple",data:=.seq #[x,y] }) MP.objs.size x y:=AT _ rfl;have PR:(MP.push { cls:=.type "tuple",data:=.seq #[x,y] }).objs.size=MP.objs.size+1:=D3 ..;rw[MW] at hP PR ⊢;exact hQ _ zs hP PR λc o c1 c2 c3 c4 e=>AF _ (fO c o c4 c1 c2 e)
theorem zZ4{Q:Option AI->AN->Prop}(hh:A.handled=AL)(z:ZipSt s.heap n l1 l2 i)(o1:v8 n l1)(o2:v8 n l2) (fN:s.heap.IsTuple l1 xs) (cY:s.heap.IsTuple l2 ys) (kU:xs[i]?=AL\/ys[i]?=AL) (hQ:∀h',Ge n s.heap h'->Q AL { s with heap:=h' }):BE (A9 prog w) A (M7 (.ref (n+4))) Q E s:=by
 have{f0,f1,hz,hf}:=z.zo;have{a,b,tU}:=z.to;have tW:=z.ti;have k1:=z.k1;have k2:=z.k2;have{p1,p2,p3,p4}:=o1;have{q1,q2,q3,q4}:=o2;have hT:s.TypeIs (.ref (n+4)) "zip":={_,hz,rfl};have iZ:n+3≠n+4:=bJ 'D';have qM:n+2≠n+4:=bJ 'D';have fV:n+1≠n+4:=bJ 'D';have fW:n≠n+4:=cO 'D';have nE:n+1≠n+3:=bJ 'D';have tY:n≠n+3:=cO 'D';have WH:n≠n+1:=cO 'D';have fin:∀{h':CN} {e:AV},(∃o,h'.get? e=AA o/\o.cls=.type "StopIteration")->Ge n s.heap h' ->
   BE (A9 prog w) A (isInstance (.ref e) (.type "StopIteration") >>= λb=>if b=AQ then pure AL else throw (.ref e)) Q E { s with heap:=h' }:=λ{h' e} he hk=>by
  have{o,ho,hc}:=he;exact AB (OH (T:="StopIteration") (b:=AQ) {o,ho,hc} QV (wpAny_pure (hQ _ hk)))
 refine AB (GC (CU (name:=HJ "__next__") hT F.slot_zip_next (CG F.slot_zip_next hT F.entry_zip_next ?_ (F.args_zip_next_1 _))));show BE _ _ (SR (.ref (n+4)) 2 >>= _) _ _ _;refine AB (CH hz rfl rfl ?_);refine AB (CH hz rfl rfl ?_);refine AB (HH tW rfl ?_);refine AB (Xb hz hf λfr kK g1 VC JC=>?_);have ZL:J0 kK (n+3) a b:=JC.extBut _ _ iZ tU;have TH:=Q3 k1 JC fW;have X1:=Q3 k2 JC fV;have TD:=Y7 fN JC p4;have XZ:=Y7 cY JC q4;cases fr with
 |true =>
  refine AB (EM ?_);refine AB (CH VC rfl (x:=.ref (n+3)) rfl ?_);refine AB (BW VC 'S' λHB Q6 J9=>?_);replace Q6:iN HB n .ellipsis g1:=Q6;refine AB ?_;refine AB (AB (SO ?_));show BE _ _ (DX (.ref n) >>= _) _ _ _;cases hx:xs[i]? with
  |none =>
   refine AB (vE hh (Q3 TH J9 fW) (Y7 TD J9 p4) hx λJ8 e GV he=>?_);have{oe,pZ,yU}:=he;have mQ:iN J8 n .ellipsis g1:=GV _ _ fW.symm Q6;have Oo:e≠n+4:=λx=>by subst x;rw[mQ] at pZ;cases pZ;simp at yU
   exact BW mQ 'S' λKF _ LQ=>fin {oe,LQ.extBut _ _ Oo pZ,yU} λc o c1 c2 c3 c4 x=>LQ.extBut _ _ c4 (GV _ _ c1 (J9.extBut _ _ c4 (JC.extBut _ _ c4 x)))
  |some x =>
   have hy:ys[i]?=AL:=by rcases kU with h|h;rw[hx] at h;cases h;exact h
   refine AB (oJ (Q3 TH J9 fW) (Y7 TD J9 p4) hx λJ8 X2 GV=>wpAny_pure ?_);have TN:J0 J8 (n+3) a b:=GV.extBut _ _ tY.symm (J9.extBut _ _ iZ ZL);refine AB (HH TN rfl ?_);refine AB (QP TN λKF WF LQ=>?_);refine AB (LG (wpAny_pure ?_));refine AB (AB (SO ?_));show BE _ _ (DX (.ref (n+1)) >>= _) _ _ _;refine AB (vE hh (Q3 (Q3 (Q3 X1 J9 fV) GV WH.symm) LQ nE) (Y7 (Y7 (Y7 XZ J9 q4) GV q1) LQ q3) hy λMP e K5 he=>?_);have{oe,pZ,yU}:=he;have mP:iN MP n .ellipsis g1:=K5 _ _ fV.symm (LQ.extBut _ _ iZ.symm (GV.extBut _ _ fW.symm Q6));have Oo:e≠n+4:=λx=>by subst x;rw[mP] at pZ;cases pZ;simp at yU
   exact BW mP 'S' λKS _ Q7=>fin {oe,Q7.extBut _ _ Oo pZ,yU} λc o c1 c2 c3 c4 x=>Q7.extBut _ _ c4 (K5 _ _ c2 (LQ.extBut _ _ c3 (GV.extBut _ _ c1 (J9.extBut _ _ c4 (JC.extBut _ _ c4 x)))))
 |false =>
  refine AB ?_;rw[<-LJ];refine AB (AB (DO ?_));cases hx:xs[i]? with
  |none=>refine AB (vE hh TH TD hx λJ8 e GV he=>?_);exact fin he λc o c1 c2 c3 c4 x=>GV _ _ c1 (JC.extBut _ _ c4 x)
  |some x =>
   have hy:ys[i]?=AL:=by rcases kU with h|h;rw[hx] at h;cases h;exact h
   refine AB (oJ TH TD hx λJ8 X2 GV=>wpAny_pure (wpAny_pure ?_));refine AB (AB (DO ?_));refine AB (vE hh (Q3 X1 GV WH.symm) (Y7 XZ GV q1) hy λMP e K5 he=>?_);exact fin he λc o c1 c2 c3 c4 x=>K5 _ _ c2 (GV.extBut _ _ c1 (JC.extBut _ _ c4 x))
end
section
theorem Inv.turnedL{fp:List AV}(I:Inv X AJ σ H s)(hf:∀b∈fp,FpOk X AJ H b)(k:∀b o,b∉fp->s.heap.get? b=AA o->h'.get? b=AA o):Inv X AJ σ H { s with heap:=h',toks:=t' }:=by
 have xD:∀b u,H b=AA u->b∉fp:=λb u e z=>by rw[(hf b z).1] at e;cases e
 refine I.step (λb hb=>?_) (λb o _ _ hc e _=>k b o hc e) (λb o _ _ hc e _=>{o.slots,k b o hc e}) (λ_ _ _ _ n=>n)
  (λb o hc e=>{o,k b o hc e}) (λ_ _ e=>e) (λ_ _ _ e=>e) (λb t ps e=>{#[],by rw[e];simp}) (λm hm=>?_) (λb u e=>?_) I.bare
 .have{f0,f1,f2,f3,f4,f5}:=hf b hb;exact{f3,f1,f4,f5}
 .have{o,es,ep,ho,r}:=hm;exact{o,es,ep,k _ o (λz=>(hf _ z).2.1 rfl) ho,r}
 .refine(I.hok b u e).stay (λc v hc q=>k c v ?_ q) (λ_ q=>q) (λ_ _ q=>q) λ_ _ _ q=>q;rcases hc with z|z
  .rw[z];exact xD b u e
  .exact xD c _ z
theorem FpOk.off{fp:List AV}(I:Inv X AJ σ H s)(hf:∀b∈fp,FpOk X AJ H b)(h:SqT X.K H a xs):a∉fp:=λz=>by
 have{f0,f1,f2,f3,f4,f5}:=hf a z;rcases h with h|⟨o,CW,n,hk,_⟩
 .rcases h with h|⟨o,h⟩
  .rw[f0] at h;cases h
  .rw[f0] at h;cases h
 .have hb:=I.ok.mod.kin a o hk;rcases f3 with f3|f3
  .exact I.ok.noex a o hb f3
  .exact absurd (AO (BB hb) I.ok.bsz) (WS.mpr f3)
end
section
variable{E:AI->AN->Prop}
theorem yEE {Q : Unit → AN → Prop} (z : ZipSt s.heap n l1 l2 i) (h : ∀ h', ZipSt h' n l1 l2 i → CQ (n + 4) s.heap h' → Q () { s with heap := h' }) : BE (A9 prog w) A (F7 tg (.ref (n + 4)) u) Q E s := by
  have hz := h s.heap z (j1 _ _);obtain ⟨f0, f1, e, hf⟩ := id z.zo;cases tg <;> first
    | exact wpAny_pure hz
    | (cases u <;> first
        | exact wpAny_pure hz
        | (
          refine AB (ZV e ?_);dsimp only;split
          · refine AB (EM ?_)
            refine BW e 'S' fun h' cV PR => h h' ?_ PR
            obtain ⟨a, b, tU⟩ := z.to;exact {{.none, f1, cV, .inl rfl}, PR.extBut _ _ (bJ 'D') z.ti, {a, b, PR.extBut _ _ (bJ 'D') tU}, Q3 z.k1 PR (cO 'D'), Q3 z.k2 PR (bJ 'D')}
          · exact wpAny_pure hz))
theorem Ul{Q:AI->AN->Prop}(z:ZipSt s.heap n l1 l2 i)(h:Q (.ref (n+4)) s):BE (A9 prog w) A (NY (.ref (n+4))) Q E s:=by have{f0,f1,e,hf}:=z.zo;have hT:s.TypeIs (.ref (n+4)) "zip":={_,e,rfl};refine KH hT F.slot_zip_iter (CG F.slot_zip_iter hT F.entry_zip_iter ?_ (F.args_zip_iter_1 _));exact wpAny_pure {_,rfl,"zip",_,hT,F.slot_zip_next.lookup,h}
noncomputable abbrev Ay(h:CN)(l1:AV):CN:=h.push { cls:=.type "tuple_iterator",data:=.fields #[.ref l1,.int 0 0] }
abbrev Ax(h:CN)(l1 l2:AV):CN:=(Ay h l1).push { cls:=.type "tuple_iterator",data:=.fields #[.ref l2,.int 0 0] }
abbrev Aw(h:CN)(l1 l2:AV):CN:=(Ax h l1 l2).push { cls:=.type "tuple",data:=.seq #[.ref h.objs.size,.ref (Ay h l1).objs.size] }
abbrev Av(h:CN)(l1 l2:AV):CN:=(Aw h l1 l2).push { cls:=.type "tuple",data:=.seq #[.none,.none] }
abbrev oE(h:CN)(l1 l2:AV):CN:=(Av h l1 l2).push { cls:=.type "zip",data:=.fields #[.none,.bool AE,.bool AE,.ref (Ax h l1 l2).objs.size,.ref (Aw h l1 l2).objs.size] }
theorem zQ0(l1 l2:AV)(xs ys:Array AI) : Meets (YZ.«zip.__new__» {[.type "zip",.ref l1,.ref l2],[]}) (λ_ R s=>s.heap.IsTuple l1 xs/\s.heap.IsTuple l2 ys /\ R (.ok (.ret (.ref (Av s.heap l1 l2).objs.size))) { s with heap:=oE s.heap l1 l2 }) :=
 .of_wp λprog w A R s h=>by
  have{hp,g,d,tk,os}:=s;have{fN,cY,h}:=h;have xP:=sub_zip;have hL1:=fN;have hL2:Heap.IsTuple (Shared.heap {hp.push { cls:=.type "tuple_iterator",data:=.fields #[.ref l1,.int 0 0] },g,d,tk,os}) l2 ys:=Qr cY λo e=>AF _ e
  wp_walk using HX hL1,HX hL2
  exact{_,rfl,h}
theorem zSN{Q:AI->AN->Prop}(fN:s.heap.IsTuple l1 xs)(cY:s.heap.IsTuple l2 ys) (h:∀h',ZipSt h' s.heap.objs.size l1 l2 0->h'.objs.size=s.heap.objs.size+5->(∀c o,s.heap.get? c=AA o->h'.get? c=AA o)->Q (.ref (s.heap.objs.size+4)) { s with heap:=h' }) : BE (A9 prog w) A (call (.type "zip") [.ref l1,.ref l2]) Q E s:=by
 refine gH F.called_zip 'D' (F.typeCall_zip_2 _ _) (F.newCall_zip_2 _ _) (λobj=>F.args_object_init_3 obj _ _) F.entry_zip_new
  (zQ0 l1 l2 xs ys) {fN,cY,?_}
 have z1:(Ay s.heap l1).objs.size=s.heap.objs.size+1:=D3 ..;have z2:(Ax s.heap l1 l2).objs.size=s.heap.objs.size+2:=by rw[D3,z1]
 have z3:(Aw s.heap l1 l2).objs.size=s.heap.objs.size+3:=by rw[D3,z2]
 have z4:(Av s.heap l1 l2).objs.size=s.heap.objs.size+4:=by rw[D3,z3]
 have z5:(oE s.heap l1 l2).objs.size=s.heap.objs.size+5:=by rw[D3,z4]
 have g5:(oE s.heap l1 l2).get? (Av s.heap l1 l2).objs.size=AA _:=AT _ rfl;have g4:(oE s.heap l1 l2).get? (Aw s.heap l1 l2).objs.size=AA _:=AF _ (AT _ rfl);have g3:(oE s.heap l1 l2).get? (Ax s.heap l1 l2).objs.size=AA _:=AF _ (AF _ (AT _ rfl));have g2:(oE s.heap l1 l2).get? (Ay s.heap l1).objs.size=AA _:=AF _ (AF _ (AF _ (AT _ rfl)));have g1:(oE s.heap l1 l2).get? s.heap.objs.size=AA _:=AF _ (AF _ (AF _ (AF _ (AT _ rfl))));show _/\_;rw[z2,z3,z4] at g5;rw[z1,z2] at g3;rw[z3] at g4;rw[z1] at g2;rw[z4];exact{{_,g5,rfl},h _ {{.none,AE,g5,.inl rfl},g3,{_,_,g4},{_,g1,rfl,rfl},{_,g2,rfl,rfl}} z5 λc o x =>
  AF _ (AF _ (AF _ (AF _ (AF _ x))))}
end
def Itz(K:AC)(a b:AV):It :={λi H=>∃xs ys x y,SqT K H a xs/\SqT K H b ys/\xs[i]?=AA x/\ys[i]?=AA y,λi H v H'=>∃p x y,v=.ref p/\H p=AL/\H'=DZ H p (.tup [x,y])/\(∀xs,SqT K H a xs->xs[i]?=AA x)/\(∀ys,SqT K H b ys->ys[i]?=AA y),λi H=>∃xs ys,SqT K H a xs/\SqT K H b ys/\(xs.length<=i\/ys.length<=i)}
abbrev mG(n:AV):List AV:=[n,n+1,n+2,n+3,n+4]
theorem lt5(h:c∈[n,n+1,n+2,n+3,n+4])(IS:n+4<S):c<S:=by simp only[A3,A7,or_false] at h;lia
theorem ge5(h:c∈[n,n+1,n+2,n+3,n+4]):n<=c:=by simp only[A3,A7,or_false] at h;lia
theorem sK(h:a∉mG n):v8 n a:=by simp only[A3,A7,or_false,not_or] at h;exact{h.1,h.2.1,h.2.2.2.1,h.2.2.2.2}
theorem zV2{K:AC}(a b n:AV):Turn P w K tg (Itz K a b) (mG n) (n+4) (λi h=>ZipSt h n a b i) where
 mem:=by simp
 obj:=λi h st c hc=>by
  have{f0,f1,e,_}:=st.zo;have{u,v,e3}:=st.to;have{o0,e0,_,d0}:=st.k1;have{o1,e1,_,d1}:=st.k2;simp only[mG,A3,A7,or_false] at hc;rcases hc with rfl|rfl|rfl|rfl|rfl
  .exact{_,e0,λv z=>by rw[d0] at z;cases z}
  .exact{_,e1,λv z=>by rw[d1] at z;cases z}
  .exact{_,st.ti,λv z=>by have z':nN _ _=YI v:=z;cases z'}
  .exact{_,e3,λv z=>by have z':nN _ _=YI v:=z;cases z'}
  .exact{_,e,λv z=>by have z':=z;cases z'}
 keep:=λi h h' st k=>st.keep k
 item:=by
  intro X hP hw hK hc i AJ s σ H E I hf st hg;subst hP hw hK;have{xs,ys,x,y,W1,cW,hx,hy}:=hg;have{kJ,sY,p1,pO}:=I.tuple W1;have{X3,Dd,p2,cU}:=I.tuple cW;have{u1,Cq,ru1}:=sY.get hx;have{u2,hu2,ru2}:=Dd.get hy;refine zV1 st (sK (FpOk.off I hf W1)) (sK (FpOk.off I hf cW)) (p1) (p2) (by simpa using Cq) (by simpa using hu2) λh' C5 hp MW hk=>?_;refine{_,rfl,yEE C5 λh2 st2 M2=>?_};have{f0,f1,e4,_}:=id st.zo;have IS:∀c∈mG n,c<s.heap.objs.size:=λc hc=>lt5 hc (BB e4);have nin:s.heap.objs.size∉mG n:=λz=>F8 _ (IS _ z);have I1:Inv X AJ σ (DZ H s.heap.objs.size (.tup [x,y])) { s with heap:=s.heap.push { cls:=.type "tuple",data:=.seq #[u1,u2] } } :=
   I.laid (t':=s.toks) (λb u e=>AF _ e) (AM _) {by show 2<=sizeLine;decide,[u1,u2],.cons ru1 (.cons ru2 .nil),{_,AT _ rfl,rfl,rfl,0,rfl}}
  have mZ:∀c∈mG n,FpOk X AJ (DZ H s.heap.objs.size (.tup [x,y])) c:=λc hc=>{by rw[EH (CC (IS c hc))];exact(hf c hc).1,(hf c hc).2};have n4:n+4∈mG n:=by simp
  have I2:Inv X AJ σ (DZ H s.heap.objs.size (.tup [x,y])) { s with heap:=h2 }:=I1.turnedL (t':=s.toks) mZ λc o hc e=>by
   have c4:c≠n+4:=λz=>hc (by rw[z];exact n4);refine M2.extBut _ _ c4 ?_;by_cases Q8:c=s.heap.objs.size
   .subst Q8;rw[AT _ rfl] at e;cases e;exact hp
   .have e':s.heap.get? c=AA o:=by rw[JW _ _ _ Q8] at e;exact e
    have{q0,q1,q3,q4}:=sK hc;exact hk c o q0 q1 q3 q4 e'
  exact{.ref s.heap.objs.size,_,I2,rfl,{_,x,y,rfl,I.fresh,rfl,λzs hz=>by rw[I.tuple_inj hz W1];exact hx,λzs hz=>by rw[I.tuple_inj hz cW];exact hy},st2,λc hc=>(mZ c hc).1}
 done:=by intro X hP hw hK hc i AJ s σ H E I hf st hg;subst hP hw hK;have{xs,ys,W1,cW,hx}:=hg;have{kJ,sY,p1,pO}:=I.tuple W1;have{X3,Dd,p2,cU}:=I.tuple cW;have l1:=sY.length;have l2:=Dd.length;refine zZ4 (I.ok.hd hc) st (sK (FpOk.off I hf W1)) (sK (FpOk.off I hf cW)) (p1) (p2) (hx.imp (λh=>by simp;lia) (λh=>by simp;lia)) λh' hk=>{rfl,I.turnedL hf λc o hc e=>?_};have{q0,q1,q3,q4}:=sK hc;exact hk c o q0 q1 q3 q4 e
 self:=λ_ _ _ _ _ st h=>Ul st h
section
def yKL(K:AC)(ta:TA):TI:=λσ H R=>ta σ H λvs H1=>∃a b,vs=[.ref a,.ref b]/\(∃xs,SqT K H1 a xs)/\(∃ys,SqT K H1 b ys)/\R (Itz K a b) H1
theorem yEF{a b:EU}(hg:Gl X "zip")(hm:X.mg "zip"=AL)(ha:PA X [a,b] ta)(hs:AW [a,b] X.env=[(AE,eval a X.env),(AE,eval b X.env)]:=by rfl)(M2:AW [b] X.env=[(AE,eval b X.env)]:=by rfl) : PI X tg (.Call (.Name "zip" p) [a,b] [] pos) (yKL X.K ta):=by
 intro AJ s σ H R I h;refine Call_ (jW I hg hm (u:=.type "zip") (by decide +kernel) (D9 (HE (ha pos AJ s σ H _ I h) λus s1 ⟨vs,H1,I1,r1,q1⟩=>?_) (by rw[hs,M2]) (by rw[M2];rfl)));obtain⟨c,d,e,⟨xs,W1⟩,⟨ys,cW⟩,q⟩:=q1;subst e;cases r1 with
 |cons r rr =>
  cases rr with
  |cons r' rr=>cases rr;cases r;cases r';have{kJ,sY,p1,pO}:=I1.tuple W1;have{X3,Dd,p2,cU}:=I1.tuple cW;refine zSN (p1) (p2) λh' st MW k=>?_;refine Ul st ?_;refine{s1.heap.objs.size+4,mG s1.heap.objs.size,_,_,H1,rfl,I1.kept k,zV2 c d _,st,λb hb=>?_,q};exact I1.fpOk (ge5 hb) (I1.hok.fresh (ge5 hb))
end
mutual
inductive DV(K:AC)(H:Hp):V->JY->Prop
 |non:DV K H .non .none
 |bl (b:Bool):DV K H (.bl b) (.bool b)
 |int (i:Int):DV K H (.int i) (.int i)
 |str (x:C7):LD (.str x)=AQ->DV K H (.str x) (.str x)
 |tup {a:AV} {xs:List V} {ds:List JY}:SqT K H a xs->DVs K H xs ds->DV K H (.ref a) (.tuple ds)
 |lst {a:AV} {xs:List V} {ds:List JY}:SqL K H a xs->DVs K H xs ds->DV K H (.ref a) (.list ds)
inductive DVs(K:AC)(H:Hp):List V->List JY->Prop
 |nil:DVs K H [] []
 |cons {x:V} {d:JY} {xs:List V} {ds:List JY}:DV K H x d->DVs K H xs ds->DVs K H (x::xs) (d::ds)
end
theorem DV.ind{K:AC}{P:V->JY->Prop}{Q:List V->List JY->Prop}(h1:P .non .none)(h2:∀b,P (.bl b) (.bool b))(h3:∀i,P (.int i) (.int i))(h4:∀x,LD (.str x)=AQ->P (.str x) (.str x)) (h5:∀{a xs ds},SqT K H a xs->DVs K H xs ds->Q xs ds->P (.ref a) (.tuple ds)) (h6:∀{a xs ds},SqL K H a xs->DVs K H xs ds->Q xs ds->P (.ref a) (.list ds)) (q1:Q [] []) (q2:∀{x d xs ds},DV K H x d->DVs K H xs ds->P x d->Q xs ds->Q (x::xs) (d::ds)):(∀{v d},DV K H v d->P v d)/\∀{v d},DVs K H v d->Q v d :={λh=>DV.rec h1 h2 h3 h4 h5 h6 q1 q2 h,λh=>DVs.rec h1 h2 h3 h4 h5 h6 q1 q2 h}
theorem pA1{K:AC}:(∀{v d},DV K H v d->d.canLay0=AQ)/\∀{v d},DVs K H v d->GF d=AQ :=DV.ind rfl (λ_=>rfl) (λ_=>rfl) (λ_ h=>h) (λ_ _ h=>by rw[LD];exact h) (λ_ _ h=>by rw[LD];exact h) rfl (λ_ _ h t=>by rw[GF,h,t];rfl)
theorem DV.can{K:AC}(h:DV K H v d):d.canLay0=AQ:=pA1.1 h
theorem DVs.can{K:AC}(h:DVs K H v d):GF d=AQ:=pA1.2 h
section
theorem pA2(I:Inv X AJ σ H s):(∀{v d},DV X.K H v d->∀u,RelV v u->∃as,lA s.heap u d as)/\∀{v d},DVs X.K H v d->∀u,Vals v u->∃as,k9 s.heap u d as:=by
 refine DV.ind ?_ ?_ ?_ ?_ ?_ ?_ ?_ ?_
 .intro _ r;cases r;exact{_,.none}
 .intro b _ r;cases r;exact{_,.bool b}
 .intro i _ r;have{t,rfl}:=r;exact{_,.int i t}
 .intro x _ _ r;have{t,rfl}:=r;exact{_,.str x t}
 .intro a xs ds hq _ ih _ r;cases r;have{CW,rv,zz',hz}:=I.tuple hq;have{o,ho,hc,n,hd}:=zz';have{as,ra}:=ih _ rv;exact{as,.tuple ho hc hd (by simpa using ra)}
 .intro a xs ds hq _ ih _ r;cases r;have{CW,rv,pl,hz}:=I.list hq;have{o,ho,hc,n,hd}:=pl.isList;have{as,ra}:=ih _ rv;exact{_,.list ho hc hd (by simpa using ra)}
 .intro _ r;cases r;exact{_,.nil}
 .intro x d xs ds _ _ h t _ r;cases r with
  |cons r1 r2=>have{as,ra}:=h _ r1;have{bs,rb}:=t _ r2;exact{_,.cons ra rb}
theorem DV.reads(I:Inv X AJ σ H s)(h:DV X.K H v d)(r:RelV v u):∃as,lA s.heap u d as:=(pA2 I).1 h u r
theorem DVs.reads(I:Inv X AJ σ H s)(h:DVs X.K H v d)(r:Vals v u):∃as,k9 s.heap u d as:=(pA2 I).2 h u r
def Ci(K:AC)(bO:Bool):R2:=λx y H Q=>∃d e,DV K H x d/\DV K H y e/\min d.depth e.depth<=60/\Q (.bl (if bO then !DD d e else DD d e)) H
theorem Qq(hu:X.A.units+64<GD):OpR X (EL .Eq) (Ci X.K AE):=by intro AJ s σ H x y v u Q I rx ry h;have{d,e,hd,he,hm,q}:=h;have{as,ra}:=hd.reads I rx;have{bs,rb}:=he.reads I ry;exact SeqAt.compareEq_reads ra rb hd.can he.can 'L' {.bl _,H,I,rfl,q}
theorem Qp(hu:X.A.units+64<GD):OpR X (EL .NotEq) (Ci X.K AQ):=by intro AJ s σ H x y v u Q I rx ry h;have{d,e,hd,he,hm,q}:=h;have{as,ra}:=hd.reads I rx;have{bs,rb}:=he.reads I ry;exact SeqAt.compareNe_reads ra rb hd.can he.can 'L' {.bl _,H,I,rfl,q}
open Classical in
noncomputable def ZB(h:CN)(e:JY)(y:AI):Bool:=if z:∃(d:JY) (as:List AV),lA h y d as then DD z.choose e else AE
theorem uP(r:lA h y d as):ZB h e y=DD d e:=by have z:∃d as,lA h y d as:={d,as,r};unfold ZB;rw[dif_pos z];have{as',r'}:=z.choose_spec;rw[(lA.unique r _ _ r').1]
theorem Bw:∀{us:List AI} {ds:List JY} {as:List AV},k9 h us ds as->∀u∈us,∃d∈ds,∃bs,lA h u d bs:=by
 intro us;induction us with
 |nil=>intro _ _ _ u hu;cases hu
 |cons v us ih =>
  intro ds as h u hu;cases h with
  |cons r t =>
  rcases A3.mp hu with rfl|hu
  .exact{_,AZ,_,r}
  .have{d,hd,bs,q}:=ih t u hu;exact{d,A2 _ hd,bs,q}
theorem Bs:∀{us:List AI} {ds:List JY} {as:List AV},k9 h us ds as->us.any (ZB h e)=ds.any λd=>DD d e:=by
 intro us;induction us with
 |nil=>intro ds as h;cases h;rfl
 |cons v us ih =>
  intro ds as h;cases h with
  |cons r t=>rw[EK,EK,uP r,ih t]
theorem vD:∀{ds:List JY},GF ds=AQ->∀d∈ds,d.canLay0=AQ
 |[],_,d,hd=>by cases hd
 |x::ds,h,d,hd=>by
  rw[GF,CP] at h;rcases A3.mp hd with rfl|hd
  .exact h.1
  .exact vD h.2 d hd
def sJ(K:AC)(bO:Bool):R2:=λx y H Q=>∃p xs ds e,y=.ref p/\(SqL K H p xs\/SqT K H p xs)/\DVs K H xs ds/\DV K H x e/\e.depth<=60 /\ Q (.bl (if bO then !(ds.any λd=>DD d e) else ds.any λd=>DD d e)) H
theorem Qo(hu:X.A.units+64<GD):OpR X (EL .In) (sJ X.K AE):=by
 intro AJ s σ H x y v u Q I rx ry h;have{p,xs,ds,e,rfl,hq,ZK,hx,hm,q}:=h;cases ry;have{bs,rb}:=hx.reads I rx;have Cq:X.A.in1.units+61<GD:=by
  have:X.A.in1.units<=X.A.units+1:=by first|exact AM _|simp[Around.in1]
  lia
 rcases hq with hq|hq
 .have{CW,r,pl,hz}:=I.list hq;have{as,ra}:=ZK.reads I r;refine i5 (ZB s.heap e) pl.isList (λw hw=>?_) {.bl _,H,I,rfl,?_}
  .have{d,hd,cs,rd}:=Bw ra w (by simpa using hw);rw[uP rd];exact M8 d e _ s w v cs bs rd rb (vD ZK.can d hd) hx.can 'L'
  .rw[show CW.toArray.any (ZB s.heap e)=CW.any (ZB s.heap e) by simp,Bs ra];exact q
 .have{CW,r,pl,hz}:=I.tuple hq;have{as,ra}:=ZK.reads I r;refine gI (ZB s.heap e) pl (λw hw=>?_) {.bl _,H,I,rfl,?_}
  .have{d,hd,cs,rd}:=Bw ra w (by simpa using hw);rw[uP rd];exact M8 d e _ s w v cs bs rd rb (vD ZK.can d hd) hx.can 'L'
  .rw[show CW.toArray.any (ZB s.heap e)=CW.any (ZB s.heap e) by simp,Bs ra];exact q
theorem zSO(hu:X.A.units+64<GD):OpR X (EL .NotIn) (sJ X.K AQ):=by
 intro AJ s σ H x y v u Q I rx ry h;have{p,xs,ds,e,rfl,hq,ZK,hx,hm,q}:=h;cases ry;have{bs,rb}:=hx.reads I rx;have Cq:X.A.in1.units+61<GD:=by
  have:X.A.in1.units<=X.A.units+1:=by first|exact AM _|simp[Around.in1]
  lia
 rcases hq with hq|hq
 .have{CW,r,pl,hz}:=I.list hq;have{as,ra}:=ZK.reads I r;refine SeqAt.notIn_listAt (ZB s.heap e) pl.isList (λw hw=>?_) {.bl _,H,I,rfl,?_}
  .have{d,hd,cs,rd}:=Bw ra w (by simpa using hw);rw[uP rd];exact M8 d e _ s w v cs bs rd rb (vD ZK.can d hd) hx.can 'L'
  .rw[show CW.toArray.any (ZB s.heap e)=CW.any (ZB s.heap e) by simp,Bs ra];exact q
 .have{CW,r,pl,hz}:=I.tuple hq;have{as,ra}:=ZK.reads I r;refine SeqAt.notIn_tupleAt (ZB s.heap e) pl (λw hw=>?_) {.bl _,H,I,rfl,?_}
  .have{d,hd,cs,rd}:=Bw ra w (by simpa using hw);rw[uP rd];exact M8 d e _ s w v cs bs rd rb (vD ZK.can d hd) hx.can 'L'
  .rw[show CW.toArray.any (ZB s.heap e)=CW.any (ZB s.heap e) by simp,Bs ra];exact q
theorem DVs.ints{K:AC}:∀ns:List Int,DVs K H (ns.map V.int) (ns.map O5)
 |[]=>.nil
 |n::ns=>.cons (.int n) (DVs.ints ns)
theorem Xs:∀ns ms:List Int,VL (ns.map O5) (ms.map O5)=decide (ns=ms)
 |[],[]=>rfl
 |[],_::_=>rfl
 |_::_,[]=>rfl
 |n::ns,m::ms=>by
  rw[AU,AU,VL,Xs ns ms,DD];by_cases h:n=m
  .subst h;simp
  .simp[h]
theorem zV3(ns ms:List Int):DD (.tuple (ns.map .int)) (.tuple (ms.map .int))=decide (ns=ms):=by rw[DD];exact Xs ns ms
theorem any_pairs(x y:Int):∀ps:List (Int×Int),((ps.map λp=>XD [.int p.1,.int p.2]).any λd=>DD d (.tuple [.int x,.int y]))=decide ((x,y)∈ps)
 |[]=>rfl
 |p::ps=>by
  rw[AU,EK,any_pairs x y ps,show DD (.tuple [.int p.1,.int p.2]) (.tuple [.int x,.int y])=decide ([p.1,p.2]=[x,y]) from zV3 [_,_] [_,_]];have{a,b}:=p;by_cases h:a=x/\b=y
  .have{rfl,rfl}:=h;simp
  .have h':¬((x,y)=(a,b)):=λz=>h (by cases z;exact{rfl,rfl});simp only[A3,h',false_or];have:¬([a,b]=[x,y]):=λz=>h (by cases z;exact{rfl,rfl});simp[this]
theorem Gw(x:Int):∀ns:List Int,((ns.map O5).any λd=>DD d (.int x))=decide (x∈ns)
 |[]=>rfl
 |n::ns=>by
  rw[AU,EK,Gw x ns,DD];by_cases h:n=x
  .subst h;simp
  .have h':¬x=n:=λz=>h z.symm;simp[h,h']
end
def Gr(H H':Hp):Prop:=∀b u,H b=AA u->H' b=AA u
theorem Gr.trans(g:Gr H H1)(g':Gr H1 H2):Gr H H2:=λb u e=>g' b u (g b u e)
theorem Gr.new(hp:H p=AL):Gr H (DZ H p o):=λb u e=>by rw[EH (SF e hp)];exact e
theorem SqT.gr{K:AC}(h:SqT K H a xs)(g:Gr H H'):SqT K H' a xs:=by
 rcases h with h|h
 .rcases h with h|⟨o,h⟩
  .exact .inl (.inl (g _ _ h))
  .exact .inl (.inr {o,g _ _ h})
 .exact .inr h
section
variable{E:AI->AN->Prop}
theorem zE8{lo hi:Option Int}{Q:AI->AN->Prop}(ht:U1 s.heap t items)(hs:s.heap.IsSliceOf sl vl vu .none)(pl:QY vl lo)(pu:QY vu hi) (hw:HT.sIx items.size 0 lo=0/\HT.sIx items.size items.size hi=items.size) (h:Q (.ref t) s):BE (A9 prog w) A (Q9 (.ref t) (.ref sl)) Q E s:=by
 have{os,pY,Q8,ZK}:=id hs;have Ow:s.TypeIs (.ref sl) "slice":={os,pY,Q8};unfold Q9
 try with_reducible refine DO ?_
 first|refine AB (wpAny_pure ?_)|skip
 refine AB (wpAny_sequenceKey ht.typeIs 'D' ?_)
 refine AB (CU ht.typeIs EC
  (CG EC ht.typeIs nH ?_ (args_tuple_getitem _ _)))
 show BE _ _ (P5 (.ref t) >>= _) _ _ s;refine AB (tupleItemsOf_ ht ?_);refine AB (fZ Ow ?_);rw[if_pos 'D'];refine AB (HT.sliceApplied_gen hs pl pu ?_);rw[hw.1,hw.2];have e:(((0:Nat):Int)==0&&(1:Int)==1&&(items.size-0)==items.size)=AQ:=by simp
 show BE _ _ (if(((0:Nat):Int)==0&&1==1&&(items.size-0)==items.size)=AQ then _ else _) _ _ s;rw[if_pos e];refine AB (AB (fZ ht.typeIs (wpAny_pure ?_)));rw[if_pos 'D'];exact AB (EM (wpAny_pure {_,rfl,wpAny_pure h}))
theorem zZ5{Q:AI->AN->Prop}(ht:U1 s.heap t vs.toArray)(hb:U1 s.heap b ws.toArray) (h0:vs=[]->Q (.ref b) s) (h1:vs≠[]->ws=[]->Q (.ref t) s) (h2:vs≠[]->ws≠[]->Q (.ref s.heap.objs.size) { s with heap:=s.heap.push { cls:=.type "tuple",data:=.seq (vs++ws).toArray } }) (MW:vs.length+ws.length<=sizeLine):BE (A9 prog w) A (HI .Add (.ref t) (.ref b)) Q E s:=by
 by_cases hv:vs=[]
 .have{zz',ho,hc,n,hd}:=id ht;have{cls,dd,data,sl}:=zz';have{zz',cX,iW,n2,kY}:=id hb;have{zD,nD,data2,mI}:=zz';subst hc hd iW kY;exact UR {_,ho,rfl} {_,cX,rfl} WN b7 M9 MU (MB _ _)
   (tuple_addW0 t b vs.toArray ws.toArray n n2 dd nD sl mI (by simp[hv])) {ho,cX,h0 hv}
 .exact HT.cat_tup ht hb hv (h1 hv) (h2 hv) MW
end
section
theorem zSP{lo hi:Option Int}(h:HT.sIx xs.length 0 lo=0/\HT.sIx xs.length xs.length hi=xs.length):Y4 xs lo hi=xs:=by unfold Y4;rw[h.1,h.2,L0,Nat.sub_zero,G4]
end
section
variable{E:AI->AN->Prop}
abbrev WV(h:CN)(n:AV)(f0:AI)(f1:Bool)(i:Int)(GR:AI):Prop :=h.get? (n+1)=AA { cls:=.type "enumerate",dict:=AL,data:=.fields #[f0,.bool f1,.ref n,DR i,.none,GR],slots:=#[] }
structure EnSt(h:CN)(n l:AV)(i:Nat):Prop where
 eo:∃f0 f1 GR,WV h n f0 f1 i GR/\F0 f0
 k1:h.IsTupleIter n l i
theorem EnSt.keep(z:EnSt h n l i)(k:∀b∈[n,n+1],∀o,h.get? b=AA o->h'.get? b=AA o):EnSt h' n l i:=by have{f0,f1,GR,e,r}:=z.eo;exact{{f0,f1,GR,k _ 'S' _ e,r},lY z.k1 (k _ 'S')}
theorem Wa{Q:Bool->AN->Prop}(hz:WV s.heap n f0 f1 i GR)(hf:F0 f0) (h:∀b h' f1,WV h' n f0 f1 i GR->CQ (n+1) s.heap h'->Q b { s with heap:=h' }):BE (A9 prog w) A (HG (.ref (n+1))) Q E s:=by
 rcases hf with rfl|⟨T,rfl⟩
 .exact AB (CH hz rfl rfl (wpAny_pure (h AQ s.heap f1 hz (j1 _ _))))
 .refine AB (CH hz rfl rfl ?_);refine AB (Wb ?_);cases e:(s.heap.get? (T:Int).toNat).isNone with
  |true=>exact wpAny_pure (h AQ s.heap f1 hz (j1 _ _))
  |false =>
   refine AB (CH hz rfl rfl ?_);cases f1 with
   |true=>exact wpAny_pure (h AE s.heap AQ hz (j1 _ _))
   |false=>exact AB (BW hz 'S' λh' cV PR=>wpAny_pure (h AE h' AQ cV PR))
theorem zZ6{Q:Option AI->AN->Prop}(z:EnSt s.heap n l i)(o1:l≠n)(o2:l≠n+1)(hl:s.heap.IsTuple l xs)(hx:xs[i]?=AA x) (hQ:∀h' t,EnSt h' n l (i+1)->J0 h' s.heap.objs.size (.int i t) x->h'.objs.size=s.heap.objs.size+1->(∀b o,b≠n->b≠n+1->s.heap.get? b=AA o->h'.get? b=AA o)->Q (AA (.ref s.heap.objs.size)) { s with heap:=h',toks:=s.toks+1 }) : BE (A9 prog w) A (M7 (.ref (n+1))) Q E s:=by
 have{f0,f1,GR,he,hf}:=z.eo;have k1:=z.k1;have hT:s.TypeIs (.ref (n+1)) "enumerate":={_,he,rfl};have WH:n≠n+1:=cO 'D';refine AB (GC (CU (name:=HJ "__next__") hT C6 (CG C6 hT HC ?_ (G3 _))));show BE _ _ (SR (.ref (n+1)) 2 >>= _) _ _ _;refine AB (CH he rfl (x:=.ref n) rfl ?_);refine AB (oJ k1 hl hx λHB pM EO=>?_);have ZS:WV HB n f0 f1 i GR:=EO.extBut _ _ WH.symm he;show BE _ _ (SR (.ref (n+1)) 3 >>= _) _ _ _;refine AB (CH ZS rfl (x:=DR i) rfl ?_);refine AB (CH ZS rfl rfl ?_);refine AB (W5 ?_);refine AB (BW ZS 'S' λJ8 ZR MN=>?_);replace ZR:WV J8 n f0 f1 (i+1) GR:=ZR;replace MN:CQ (n+1) HB J8:=MN;refine AB (BW ZR 'S' λKF ZQ QL=>?_);replace ZQ:WV KF n f0 f1 (i+1) GR:=ZQ;replace QL:CQ (n+1) J8 KF:=QL;refine AB (KJ (items:=[.int i s.toks,x]) ?_);have MW:KF.objs.size=s.heap.objs.size:=by rw[QL.1,MN.1,EO.1]
 have fU:WV (KF.push { cls:=.type "tuple",data:=.seq #[.int i s.toks,x] }) n f0 f1 ((i:Int)+1) GR:=AF _ ZQ;have eS:J0 (KF.push { cls:=.type "tuple",data:=.seq #[.int i s.toks,x] }) s.heap.objs.size (.int i s.toks) x:=by rw[<-MW];exact AT _ rfl
 have ZD:(KF.push { cls:=.type "tuple",data:=.seq #[.int i s.toks,x] }).objs.size=s.heap.objs.size+1:=by rw[D3,MW]
 have eQ:∀b o,b≠n->b≠n+1->s.heap.get? b=AA o->(KF.push { cls:=.type "tuple",data:=.seq #[.int i s.toks,x] }).get? b=AA o:=λb o b1 b2 e=>AF _ (QL.extBut b o b2 (MN.extBut b o b2 (EO.extBut b o b1 e)));have eW:(KF.push { cls:=.type "tuple",data:=.seq #[.int i s.toks,x] }).IsTupleIter n l (i+1):=lY (Q3 (Q3 pM MN WH) QL WH) λo e=>AF _ e;have PY:n+1<s.heap.objs.size:=BB he;rw[show(FU KF.objs.size)=FU s.heap.objs.size by rw[MW]];generalize KF.push { cls:=.type "tuple",data:=.seq #[.int i s.toks,x] }=MP at fU eS ZD eQ eW ⊢;refine AB (Wa (s:={ s with heap:=MP,toks:=s.toks+1 }) fU hf λb KS g1 ZP OT=>?_);replace OT:CQ (n+1) MP KS:=OT;have eV:=Q3 eW OT WH;have eR:=OT.extBut _ _ (EN PY) eS;have eP:=λb o b1 b2 e=>OT.extBut b o b2 (eQ b o b1 b2 e);cases b with
 |false=>exact wpAny_pure {_,rfl,wpAny_pure (hQ KS _ {{_,_,_,ZP,hf},eV} eR (OT.1.trans ZD) eP)}
 |true=>refine AB (EM ?_);refine AB (CH ZP rfl rfl ?_);refine AB (BW ZP 'S' λZH ZO V7=>?_);replace ZO:WV ZH n f0 g1 (i+1) x:=ZO;replace V7:CQ (n+1) KS ZH:=V7;refine AB ?_;refine AB (BW ZO 'S' λWC ZN V6=>?_);replace ZN:WV WC n (DR s.heap.objs.size) g1 (i+1) x:=ZN;replace V6:CQ (n+1) ZH WC:=V6;refine BW ZN 'S' λPQ ZM V5=>?_;replace ZM:WV PQ n (DR s.heap.objs.size) AE (i+1) x:=ZM;replace V5:CQ (n+1) WC PQ:=V5;have up:=λb o hb e=>V5.extBut b o hb (V6.extBut b o hb (V7.extBut b o hb e));exact AB (LG (wpAny_pure {_,rfl,wpAny_pure (hQ PQ _ {{_,_,_,ZM,.inr {_,rfl}},lY eV λo e=>up _ o WH e} (up _ _ (EN PY) eR) (V5.1.trans (V6.1.trans (V7.1.trans (OT.1.trans ZD)))) λb o b1 b2 e=>up b o b2 (eP b o b1 b2 e))}))
theorem yEG{Q:Option AI->AN->Prop}(hh:A.handled=AL)(z:EnSt s.heap n l i)(hl:s.heap.IsTuple l xs)(hx:xs[i]?=AL) (hQ:∀h',(∀b o,b≠n->s.heap.get? b=AA o->h'.get? b=AA o)->Q AL { s with heap:=h' }):BE (A9 prog w) A (M7 (.ref (n+1))) Q E s:=by have{f0,f1,GR,he,hf}:=z.eo;have hT:s.TypeIs (.ref (n+1)) "enumerate":={_,he,rfl};refine AB (GC (CU hT C6 (CG C6 hT HC ?_ (G3 _))));show BE _ _ (SR (.ref (n+1)) 2 >>= _) _ _ _;refine AB (CH he rfl rfl ?_);refine AB (vE hh z.k1 hl hx λh' e hs yO=>?_);have{o,ho,hc}:=yO;exact AB (OH {o,ho,hc} QV (wpAny_pure (hQ _ hs)))
theorem yHK {Q : Unit → AN → Prop} (z : EnSt s.heap n l i) (h : ∀ h', EnSt h' n l i → CQ (n + 1) s.heap h' → Q () { s with heap := h' }) : BE (A9 prog w) A (F7 tg (.ref (n + 1)) u) Q E s := by
  have hz := h s.heap z (j1 _ _);obtain ⟨f0, f1, GR, e, hf⟩ := id z.eo;cases tg <;> first
    | exact wpAny_pure hz
    | (cases u <;> first
        | exact wpAny_pure hz
        | (
          refine AB (ZV e ?_);dsimp only;split
          · refine AB (EM ?_)
            exact BW e 'S' fun h' cV PR => h h' {{.none, f1, GR, cV, .inl rfl}, Q3 z.k1 PR (cO 'D')} PR
          · exact wpAny_pure hz))
theorem Sx{Q:AI->AN->Prop}(z:EnSt s.heap n l i)(h:Q (.ref (n+1)) s):BE (A9 prog w) A (NY (.ref (n+1))) Q E s:=by have{f0,f1,GR,e,hf}:=z.eo;have hT:s.TypeIs (.ref (n+1)) "enumerate":={_,e,rfl};refine KH hT HP (CG HP hT R7 ?_ (RE _));exact wpAny_pure {_,rfl,"enumerate",_,hT,C6.lookup,h}
noncomputable abbrev Ct(h:CN)(l:AV):CN:=h.push { cls:=.type "tuple_iterator",data:=.fields #[.ref l,.int 0 0] }
abbrev Kn(h:CN)(l:AV):CN:=(Ct h l).push { cls:=.type "enumerate",data:=.fields #[.none,.bool AE,.ref h.objs.size,DR 0,.none,.none] }
theorem zSR(l:AV)(xs:Array AI) : Meets (YZ.«enumerate.__new__» {[.type "enumerate",.ref l],[]}) (λ_ R s=>s.heap.IsTuple l xs/\R (.ok (.ret (.ref (Ct s.heap l).objs.size))) { s with heap:=Kn s.heap l }) :=
 .of_wp λprog w A R s h=>by
  have{hp,g,d,tk,os}:=s;have{hl,h}:=h;have xP:=sub_enumerate;have hL:=hl
  wp_walk
  refine wpAny_stack_any λst=>wpAny_pure ?_;split
  .rename_i c _ _ _ _ _;cases(c==cA "enumerate")
   .wp_walk using HX hL
    exact{_,rfl,h}
   .wp_walk using HX hL
    exact{_,rfl,h}
  .wp_walk using HX hL
   exact{_,rfl,h}
theorem zV4{Q:AI->AN->Prop}(hl:s.heap.IsTuple l xs) (h:∀h',EnSt h' s.heap.objs.size l 0->(∀b o,s.heap.get? b=AA o->h'.get? b=AA o)->Q (.ref (s.heap.objs.size+1)) { s with heap:=h' }) : BE (A9 prog w) A (call (.type "enumerate") [.ref l]) Q E s:=by refine gH UU 'D' (R6 _) (SV _) (λobj=>TV obj _) SW (zSR l xs) {hl,?_};have z1:(Ct s.heap l).objs.size=s.heap.objs.size+1:=D3 ..;have g2:(Kn s.heap l).get? (Ct s.heap l).objs.size=AA _:=AT _ rfl;have g1:(Kn s.heap l).get? s.heap.objs.size=AA _:=AF _ (AT _ rfl);rw[z1] at g2;rw[z1];exact{{_,g2,rfl},h _ {{.none,AE,.none,g2,.inl rfl},{_,g1,rfl,rfl}} λb o e=>AF _ (AF _ e)}
end
def Ite(K:AC)(a:AV):It :={λi H=>∃xs x,SqT K H a xs/\xs[i]?=AA x,λi H v H'=>∃p x,v=.ref p/\H p=AL/\H'=DZ H p (.tup [.int i,x])/\∀xs,SqT K H a xs->xs[i]?=AA x,λi H=>∃xs,SqT K H a xs/\xs.length<=i}
theorem lt2(h:c∈[n,n+1])(IS:n+1<S):c<S:=by simp only[A3,A7,or_false] at h;lia
theorem Cr(h:c∈[n,n+1]):n<=c:=by simp only[A3,A7,or_false] at h;lia
theorem zSS{K:AC}(a n:AV):Turn P w K tg (Ite K a) [n,n+1] (n+1) (λi h=>EnSt h n a i) where
 mem:=by simp
 obj:=λi h st c hc=>by
  have{f0,f1,GR,e,_}:=st.eo;have{o0,e0,_,d0}:=st.k1;simp only[A3,A7,or_false] at hc;rcases hc with rfl|rfl
  .exact{_,e0,λv z=>by rw[d0] at z;cases z}
  .exact{_,e,λv z=>by have z':bE _=YI v:=z;cases z'}
 keep:=λi h h' st k=>st.keep k
 item:=by
  intro X hP hw hK hc i AJ s σ H E I hf st hg;subst hP hw hK;have{xs,x,hq,hx}:=hg;have{CW,rv,p,hz}:=I.tuple hq;have{u,hu,ru}:=rv.get hx;have pH:=FpOk.off I hf hq;simp only[A3,A7,or_false,not_or] at pH;refine zZ6 st pH.1 pH.2 (show s.heap.IsTuple a CW.toArray from p) (x:=u) (by simpa using hu) λh' t C5 hp MW hk=>?_;refine{_,rfl,yHK (s:={ s with heap:=h',toks:=s.toks+1 }) C5 λh2 st2 M2=>?_};have{f0,f1,GR,e4,_}:=id st.eo;have IS:∀c∈[n,n+1],c<s.heap.objs.size:=λc hc=>lt2 hc (BB e4);have I1:Inv X AJ σ (DZ H s.heap.objs.size (.tup [.int i,x])) { s with heap:=s.heap.push { cls:=.type "tuple",data:=.seq #[.int i t,u] } } :=
   I.laid (t':=s.toks) (λb u e=>AF _ e) (AM _) {by show 2<=sizeLine;decide,[.int i t,u],.cons {t,rfl} (.cons ru .nil),{_,AT _ rfl,rfl,rfl,0,rfl}}
  have mZ:∀c∈[n,n+1],FpOk X AJ (DZ H s.heap.objs.size (.tup [.int i,x])) c:=λc hc=>{by rw[EH (CC (IS c hc))];exact(hf c hc).1,(hf c hc).2};have I2:=I1.turnedL (t':=s.toks+1) mZ λc o hc e=>by
   simp only[A3,A7,or_false,not_or] at hc;refine M2.extBut _ _ hc.2 ?_;by_cases Q8:c=s.heap.objs.size
   .subst Q8;rw[AT _ rfl] at e;cases e;exact hp
   .have e':s.heap.get? c=AA o:=by rw[JW _ _ _ Q8] at e;exact e
    exact hk c o hc.1 hc.2 e'
  exact{.ref s.heap.objs.size,_,I2,rfl,{_,x,rfl,I.fresh,rfl,λzs hz=>by rw[I.tuple_inj hz hq];exact hx},st2,λc hc=>(mZ c hc).1}
 done:=by intro X hP hw hK hc i AJ s σ H E I hf st hg;subst hP hw hK;have{xs,hq,hx}:=hg;have{CW,rv,p,hz}:=I.tuple hq;have hl:=rv.length;refine yEG (I.ok.hd hc) st (show s.heap.IsTuple a CW.toArray from p) (by simp;lia) λh' hk=>{rfl,I.turnedL (t':=s.toks) hf λc o hc e=>?_};simp only[A3,A7,or_false,not_or] at hc;exact hk c o hc.1 e
 self:=λ_ _ _ _ _ st h=>Sx st h
section
def yHL(K:AC)(ta:TA):TI:=λσ H R=>ta σ H λvs H1=>∃a,vs=[.ref a]/\(∃xs,SqT K H1 a xs)/\R (Ite K a) H1
theorem zZ7{a:EU}(hg:Gl X "enumerate")(hm:X.mg "enumerate"=AL)(ha:PA X [a] ta)(hs:AW [a] X.env=[(AE,eval a X.env)]:=by rfl):PI X tg (.Call (.Name "enumerate" p) [a] [] pos) (yHL X.K ta):=by
 intro AJ s σ H R I h;refine Call_ (jW I hg hm (u:=.type "enumerate") (by decide +kernel) (D9 (HE (ha pos AJ s σ H _ I h) λus s1 ⟨vs,H1,I1,r1,q1⟩=>?_) hs rfl));have{c,e,zz',q}:=q1;have{xs,W1}:=zz';subst e;cases r1 with
 |cons r rr=>cases rr;cases r;have{kJ,sY,p1,pO}:=I1.tuple W1;refine zV4 (p1) λh' st k=>?_;refine Sx st ?_;exact{s1.heap.objs.size+1,[s1.heap.objs.size,s1.heap.objs.size+1],_,_,H1,rfl,I1.kept k,zSS c _,st,λb hb=>I1.fpOk (Cr hb) (I1.hok.fresh (Cr hb)),q}
end
def PairsAt(K:AC)(H:Hp)(zs:List V)(ps:List (Int×Int)):Prop:=Paired (λ(z:V) (p:Int×Int)=>∃q,z=.ref q/\SqT K H q [.int p.1,.int p.2]) zs ps
theorem PairsAt.gr{K:AC}(h:PairsAt K H zs ps)(g:Gr H H'):PairsAt K H' zs ps:=pA0 h (λ_ _ q0=>by have{q,e,k}:=q0;exact{q,e,k.gr g})
theorem yHM:isSubtype (.type "range_iterator") (.type "reversed")=pure AE:=by rw[isSubtype_type];kernel_rfl
section
variable{E:AI->AN->Prop}
theorem zIY{n:Nat}{Q:AI->AN->Prop}(hn:n<=1000)(hp:s.heap.get? p=AA { cls:=.type "range",data:=.fields #[.int 0 t,.int (n:Int) u,.int 1 v] }) (h:Q (.ref s.heap.objs.size) { s with heap:=s.heap.push { cls:=.type "range_iterator",data:=.fields #[DR ((n:Int)-1),DR (n:Int),DR (-1)] } }):BE (A9 prog w) A (call (.builtin "range.__reversed__") [.ref p]) Q E s:=by
 have hT:s.TypeIs (.ref p) "range":={_,hp,rfl};have hz:RL 0 (n:Int) 1=(n:Int):=by rw[b8];first|lia|(split<;>lia)
 refine CG KU hT PySem.F.entry_range_reversed ?_ (PySem.F.args_range_reversed_1 _);refine AB (IZ (a:=FU p) rfl ?_);have hf:BE (A9 prog w) A.in1 (Builtin.Range.rangeFields (.ref p)) (λr s'=>r=(0,(n:Int),1)/\s'=s) E s:=by refine AB (CH hp rfl (x:=.int 0 t) rfl ?_);refine AB (wpAny_pure ?_);refine AB (CH hp rfl rfl ?_);refine AB (wpAny_pure ?_);refine AB (CH hp rfl rfl ?_);refine AB (wpAny_pure ?_);exact wpAny_pure {rfl,rfl}
 refine AB (DN hf (λr s' ⟨e1,e2⟩=>?_) λ_ _ e=>e);subst e1 e2;dsimp only;rw[hz];have hs:(DT 0&&DT n&&DT 1&&DT (-1)&&DT (0-1)&&DT n)=AQ:=by
  have h1:DT n=AQ:=by unfold DT;simp only[CP,decide_eq_true_eq];lia
  rw[h1];decide
 rw[hs];have e:(0:Int)+((n:Int)-1) * 1=(n:Int)-1:=by lia
 rw[e];exact AB (C9 (wpAny_pure {_,rfl,h}))
theorem zIZ{p:AV}{n:Nat}{t u v:k8}{Q₁:AI->AN->Prop}(hn:n<=1000)(hp:s.heap.get? p=AA { cls:=.type "range",data:=.fields #[.int 0 t,.int (n:Int) u,.int 1 v] }) (h:Q₁ (.ref s.heap.objs.size) { s with heap:=s.heap.push { cls:=.type "range_iterator",data:=.fields #[DR ((n:Int)-1),DR (n:Int),DR (-1)] } }) : JD (A9 prog w) A (.call (.builtin "reversed.__new__") {[.type "reversed",.ref p],[]}) (wants Q₁ E) s:=by
 have hT:s.TypeIs (.ref p) "range":={_,hp,rfl};refine codeAny_of_tree ?_;refine AB (IZ (PySem.F.newCall_reversed_1 _) (wpAny_pure {plainId_quiet TU _,codeAny_builtin PySem.F.entry_reversed_new ?_}));rw[Around.under_plainId TU _];refine AB (IZ (newClass_reversed _) ?_)
 try dsimp only
 refine AB (IZ (by first|rfl|kernel_rfl) ?_);refine AB (IZ (by first|rfl|kernel_rfl) ?_)
 try dsimp only
 refine AB (wpAny_specialOf hT KU.lookup ?_)
 try dsimp only
 refine AB (IZ (KU.bind _) ?_)
 try dsimp only
 rw[if_neg (show ¬((Value.builtin "range.__reversed__"==JE)=AQ) from BH)];refine AB (EM ?_);refine AB (zIY hn hp ?_)
 first
 |exact wpAny_pure h
 |exact AB (wpAny_pure (wpAny_pure h))
theorem zI0{p:AV}{n:Nat}{t u v:k8}{Q:AI->AN->Prop}(hn:n<=1000)(hp:s.heap.get? p=AA { cls:=.type "range",data:=.fields #[.int 0 t,.int (n:Int) u,.int 1 v] }) (h:Q (.ref s.heap.objs.size) { s with heap:=s.heap.push { cls:=.type "range_iterator",data:=.fields #[DR ((n:Int)-1),DR (n:Int),DR (-1)] } }):BE (A9 prog w) A (call (.type "reversed") [.ref p]) Q E s:=by refine callType_other (Q₁:=λobj EO=>obj=.ref s.heap.objs.size/\EO={ s with heap:=s.heap.push { cls:=.type "range_iterator",data:=.fields #[DR (n-1),DR n,DR (-1)] } }) (by decide +kernel) PySem.F.create_reversed {_,_,PySem.F.mro_reversed} PySem.F.made_reversed yHM (PySem.F.typeCall_reversed_1 _) (zIZ hn hp {rfl,rfl}) ?_;intro obj EO zz';have{rfl,rfl}:=zz';exact{{_,AT _ rfl,rfl},h}
end
noncomputable def Ku(n:Nat):It:={λi _=>i<n,λi H x H'=>H'=H/\x=.int ((n:Int)-1-i),λi _=>n<=i}
theorem zST{K:AC}(it:AV)(n:Nat):Turn P w K tg (Ku n) [it] it (λi h=>lE h it (((n:Int)-1)+(i:Nat) * (-1)) ((n:Int)-(i:Nat)) (-1)) where
 mem:=by simp
 obj:=λi h st b hb=>by
  have e:b=it:=by simpa using hb
  subst e;exact{_,st,λv z=>by have z':=z;cases z'}
 keep:=λi h h' st k=>k it 'S' _ st
 item:=by intro X hP hw hK hc i AJ s σ H E I hf st hg;subst hP hw hK;have{f0,f1,f2,f3,f4,f5}:=hf it 'S';have W:=Walks.range (prog:=X.prog) (w:=X.w) (I.ok.hd hc) it ((n:Int)-1) (-1) n;refine W.item i s _ _ hg st λv h' tk hv C5 kk=>?_;have{t,rfl}:=hv;have I1:Inv X AJ σ H { s with heap:=h',toks:=tk }:=I.turned (λb o hb e=>kk b o (by simpa using hb) e) f0 f1 f3 f4 f5;refine{_,rfl,qU C5 rfl rfl 'D' {.int (n-1-i),H,I1,{t,?_},{rfl,rfl},C5,λb hb=>(hf b hb).1}};congr 1;lia
 done:=by intro X hP hw hK hc i AJ s σ H E I hf st hg;subst hP hw hK;have{f0,f1,f2,f3,f4,f5}:=hf it 'S';exact gA (I.ok.hd hc) st (by have:n<=i:=hg;lia) λh' eb=>{rfl,I.turned (λb o hb e=>eb b o hb e) f0 f1 f3 f4 f5}
 self:=λ_ _ _ _ _ st h=>OW st h
section
def yKM(ta:TA):TI:=λσ H R=>ta σ H λvs H1=>∃(p:AV) (n:Nat),vs=[.ref p]/\H1 p=AA (.rng 0 (n:Int))/\n<=1000/\R (Ku n) H1
theorem yEH{a:EU}{ta:TA}{p pos:Pos}(hg:Gl X "reversed")(hm:X.mg "reversed"=AL)(ha:PA X [a] ta)(hs:AW [a] X.env=[(AE,eval a X.env)]:=by rfl):PI X tg (.Call (.Name "reversed" p) [a] [] pos) (yKM ta):=by
 intro AJ s σ H R I h;refine Call_ (jW I hg hm (u:=.type "reversed") (by decide +kernel) (D9 (HE (ha pos AJ s σ H _ I h) λus s1 ⟨vs,H1,I1,r1,q1⟩=>?_) hs rfl));have{c,n,e,hq,hn,q}:=q1;subst e;cases r1 with
 |cons r rr =>
  cases rr;cases r;have{t,u,v,e}:=(I1.hok c _ hq);refine zI0 hn e ?_;have st:lE (s1.heap.push { cls:=.type "range_iterator",data:=.fields #[DR ((n:Int)-1),DR (n:Int),DR (-1)] }) s1.heap.objs.size (((n:Int)-1)+((0:Nat):Int) * (-1)) ((n:Int)-((0:Nat):Int)) (-1):=by
   have e1:((n:Int)-1)+((0:Nat):Int) * (-1)=(n:Int)-1:=by lia
   have e2:(n:Int)-((0:Nat):Int)=n:=by lia
   rw[e1,e2];exact AT _ rfl
  refine OW st ?_;refine{s1.heap.objs.size,[s1.heap.objs.size],_,_,H1,rfl,I1.kept λb o e=>AF _ e,zST _ n,st,λb hb=>?_,q};have e:b=s1.heap.objs.size:=by simpa using hb
  subst e;exact I1.fpOk (AM _) (I1.hok.fresh (AM _))
theorem zSU(hc:X.calm=AQ):CallR X (.builtin "min") (λxs H Q=>∃(l:AV) (ns:List Int),xs=[.ref l]/\SqL X.K H l (ns.map V.int)/\ns≠[]/\∀m,m∈ns->(∀x∈ns,m<=x)->Q (.int m) H):=by
 intro AJ s σ H xs us Q I r h;have{l,ns,rfl,hl,SK,q}:=h;have{u,rfl,ru}:=Y6 r;cases ru;have{CW,rv,pl,hz}:=I.list hl;have hi:=l7 rv;have EV:=rv.length;rw[AK] at EV;have pW:0<ns.length:=by cases ns with|nil=>exact absurd rfl SK|cons _ _=>simp
 have IS:l<s.heap.objs.size:=by have{o,ho,_}:=pl.isList;exact BB ho
 refine call_min_walk (KI pl.isList ?_);refine{_,_,_,_,_,_,_,rfl,Walks.list (by have:=I.ok.hd hc;simp[this]) _ l (CC IS) CW.toArray,{{_,AT _ rfl,rfl,rfl},pl.isList.push _},?_,by simp;lia,CmpOf.ints_lt (λi=>ns.getD i 0) (λi v hv=>TX hi i v (by simpa using hv)),λv h' tk hP hk=>?_}
 .intro b hb;rw[D3];rcases A3.mp hb with rfl|hb
  .exact C4 _
  .rw[AS.mp hb];exact IC IS
 .have{b1,b2}:=argBest_lt (λi=>ns.getD i 0) (CW.toArray.size-1);have{t,rfl}:=TX hi _ v (Z7.symm.trans hP);have MW:CW.toArray.size=ns.length:=by simpa using EV.symm
  have Dy:argBest (λi j=>decide (ns.getD i 0<ns.getD j 0)) (CW.toArray.size-1)<ns.length:=by lia
  have gd:∀j,(hj:j<ns.length)->ns.getD j 0=ns[j]:=λj hj=>by rw[List.getD_eq_getElem?_getD,BD hj];rfl
  refine{.int _,H,I.kept λb o e=>hk b o ?_ (AF _ e),{t,rfl},q _ ?_ λx hx=>?_}
  .simp only[AS];exact CC (BB e)
  .rw[gd _ Dy];exact IP Dy
  .have{j,hj,rfl}:=a9.mp hx;have:=b2 j 'L';rw[gd j hj] at this;exact this
end
theorem zSV(pp:l1.Perm l2):∀ns:List Int,l2=ns.map V.int->∃ms:List Int,l1=ms.map V.int/\ms.Perm ns:=by
 induction pp with
 |nil=>intro ns e;cases ns with|nil=>exact{[],rfl,GT _}|cons _ _=>cases e
 |cons a _ ih =>
  intro ns e;cases ns with
  |nil=>cases e
  |cons b ns=>rw[AU] at e;injection e with e1 e2;have{ms,h1,h2}:=ih ns e2;exact{b::ms,by rw[AU,e1,h1],h2.cons b}
 |swap a b l =>
  intro ns e;match ns,e with
  |c::d::ns,e=>rw[AU,AU] at e;injection e with e1 e2;injection e2 with e2 e3;exact{d::c::ns,by rw[AU,AU,e1,e2,e3],HR _ _ _}
 |trans _ _ cT ih2=>intro ns e;have{ms,h1,h2}:=ih2 ns e;have{ks,h3,h4}:=cT ms h1;exact{ks,h3,h4.trans h2}
theorem vC(x:ObjOk P w H h a (.dK kvs)):∃es ep,RawD h a es ep/\es.size=kvs.length/\kvs.length<=sizeLine /\ ∀(i:Nat) (hi:i<es.size),∃k:Key,(kvs.map (·.1))[i]?=AA k/\RelV (kV k) es[i].key:=by
 have{z,y,vs,r,o,es,ep,h1,h2,h3,h4,h5,h6}:=x;have hl:es.size=vs.length:=by rw[<-h5.length];simp
 have cY:=r.length;refine{es,ep,{{o,h1,h2,h3},y},by lia,z,λi hi=>?_};have QA:=AO hi (DG hl);have{e1,_}:=h5.get? (i:=i) (e:=es[i]) (k:=vs[i].1) (v:=vs[i].2) (by simp[hi]) (by simp[QA]);refine{vs[i].1,by rw[r.keys];simp[QA],?_};rw[Xf] at e1;rcases dY e1 with⟨j,t,z1,z2⟩|⟨y,t,z1,z2⟩
 .rw[z1,z2];exact{t,rfl}
 .rw[z1,z2];exact{t,rfl}
section
def ItK(d:AV)(o:JF)(kvs:List (Key×V)):It :={λi H=>i<kvs.length/\H d=AA (.frz o (.dK kvs)),λi H x H'=>H'=H/\∃k,x=kV k/\(kvs.map (·.1))[i]?=AA k,λi H=>kvs.length<=i/\H d=AA (.frz o (.dK kvs))}
theorem Xa{K:AC}(d it:AV)(o:JF)(kvs:List (Key×V))(es:Array RK)(ep:Nat)(hd:o.data=.dict es ep)(hz:es.size=kvs.length) : Turn P w K tg (ItK d o kvs) [it] it (λi h=>h.IsKeyIter it d i es.size ep) where
 mem:=by simp
 obj:=λi h st b hb=>by
  have e:b=it:=by simpa using hb
  subst e;have{o,e,c,d}:=st;exact{o,e,λv z=>by rw[d] at z;cases z}
 keep:=λi h h' st k=>let ⟨o,e,r⟩:=st;{o,k it 'S' o e,r}
 item:=by intro X hP hw hK hc i AJ s σ H E I hf st hg;subst hP hw hK;have{hi,hk}:=hg;have{ho,hx}:=I.hok d _ hk;have{bT,nC,MO,e1,e2,e3}:=vC hx;have{o',q1,q2,q3}:=MO.ex;rw[ho] at q1;cases q1;rw[hd] at q3;injection q3 with q4 q5;subst q4;subst q5;have{f0,f1,f2,f3,f4,f5}:=hf it 'S';refine Gx st MO 'L' λh' C5 sb=>?_;have{k,p2,p3}:=e3 i 'L';have I1:=I.turned (t':=s.toks) (λb ob hb e=>(sb.2 b hb).trans e) f0 f1 f3 f4 f5;have{oi,e,c,dd}:=id C5;refine{_,rfl,qU e c dd 'D' {kV k,H,I1,p3,{rfl,k,rfl,p2},C5,λb hb=>(hf b hb).1}}
 done:=by intro X hP hw hK hc i AJ s σ H E I hf st hg;subst hP hw hK;have{hi,hk}:=hg;have{ho,hx}:=I.hok d _ hk;have{bT,nC,MO,e1,e2,e3}:=vC hx;have{o',q1,q2,q3}:=MO.ex;rw[ho] at q1;cases q1;rw[hd] at q3;injection q3 with q4 q5;subst q4;subst q5;have{f0,f1,f2,f3,f4,f5}:=hf it 'S';exact Gf (I.ok.hd hc) st MO (A0 (DG hz) hi) λh' eb=>{rfl,I.turned (λb ob hb e=>eb b ob hb e) f0 f1 f3 f4 f5}
 self:=λ_ _ _ _ _ st h=>QR st h
theorem Inv.freezeK(I:Inv X AJ σ H s)(ha:H a=AA (.dK kvs)) : ∃o,s.heap.get? a=AA o/\Inv X AJ σ (DZ H a (.frz o (.dK kvs))) s:=by
 have x:=I.hok a _ ha;obtain⟨es,ep,⟨⟨o,h1,h2,h3⟩,_⟩,_⟩:=vC x;have kt:∀b ys,H b=AA (.tup ys)->b≠a:=λb ys e z=>by rw[z,ha] at e;cases e
 have ko:∀b y,H b=AA (.own y)->b≠a:=λb y e z=>by rw[z,ha] at e;cases e
 have kf:∀b ob u,H b=AA (.frz ob u)->b≠a:=λb ob u e z=>by rw[z,ha] at e;cases e
 have kb:∀b t ps,H b=AA (.tbl t ps)->b≠a:=λb t ps e z=>by rw[z,ha] at e;cases e
 have kn:∀b,H b=AL->b≠a:=λb e z=>by rw[z,ha] at e;cases e
 refine{o,h1,I.un {λb ob e _ _ _=>e,λb ob e _ _ _=>{ob.slots,e},λb ob e n _=>by rw[EH (kn b n)];exact n,λb ob e _=>{ob,e},λb ys e=>by rw[EH (kt b ys e)];exact e,λb ob u e=>by rw[EH (kf b ob u e)];exact e,λb t ps e=>{#[],by rw[EH (kb b t ps e),e];simp}} λb u e=>?_};by_cases hb:b=a
 .subst hb;rw[GO] at e;cases e;exact{h1,x.stay (λc v _ q=>q) (λc q=>by rw[EH (ko c _ q)];exact q) (λc ys q=>by rw[EH (kt c ys q)];exact q) λc ob x q=>by rw[EH (kf c ob _ q)];exact q}
 .rw[EH hb] at e;exact(I.hok b u e).stay (λc v _ q=>q) (λc q=>by rw[EH (ko c _ q)];exact q) (λc ys q=>by rw[EH (kt c ys q)];exact q) λc ob x q=>by rw[EH (kf c ob _ q)];exact q
end
end _L
namespace _T
open PySem PyProof.Rows
section
variable{E:AI->AN->Prop}
def XJ(prog:CA)(w:DL)(A:GL)(s:AN)(kd:Z3)(CF:Array CO)(L:CO->CO->Bool):Prop :=∀x y:CO,x∈CF->y∈CF->∀(Q:Bool->AN->Prop) (E:AI->AN->Prop),Q (L x y) s->BE (A9 prog w) A (keyLt' kd x.1 y.1) Q E s
theorem Ap{st:BZ}{Q:Option Bool->BZ->Prop}(hA:XJ prog w A s kd CF L)(hk:kindOf st=kd)(hx:x∈CF)(hy:y∈CF)(h:Q (AA (L x y)) st) : NX (A9 prog w) A E s (lt' x y) Q st:=by rw[lt'_eq];refine BI (NN ?_);rw[hk];refine BI (QO (GC (hA x y hx hy _ _ {rfl,?_})));exact BC h
def Cut(B:Nat->Bool)(n k:Nat):Prop:=k<=n/\(∀i<k,B i=AQ)/\∀i,k<=i->i<n->B i=AE
theorem Kf{α β γ:Type}{T:β->γ->StateT BZ dE α}{E:AI->AN->Prop}{Q:α->BZ->Prop}{st:BZ}{NU:Prop}(P:β->γ->Prop)(h1:(∀x y,P x y->NX M A E s (T x y) Q st)->NU)(h2:∀x y,P x y->NX M A E s (T x y) Q st):NU:=h1 h2
theorem Wz{st:BZ}{base n hint:Nat}{Q:Option Nat->BZ->Prop}(hA:XJ prog w A s kd CF L)(hk:kindOf st=kd)(MQ:KE∈CF)(QM:∀x∈IB,x∈CF) (hb:base+n<=IB.size) (hh:hint<n) (hB:∀i (hi:base+i<IB.size),B i=if left then L IB[base+i] KE else !L KE IB[base+i]) (mono:∀i j,i<=j->j<n->B j=AQ->B i=AQ) (h:∀k,Cut B n k->Q (AA k) st):NX (A9 prog w) A E s (vF left KE IB base n hint) Q st:=by
 have hm:∀(i:Nat) (hi:base+i<IB.size),IB[base+i]∈CF:=λi hi=>QM _ (AG hi)
 have qS:∀i j,i<=j->j<n->B i=AE->B j=AE:=λi j MR hj hi=>by
  cases e:B j with
  |false=>rfl
  |true=>rw[mono i j MR hj e] at hi;cases hi
 have Ej:∀(i:Nat) (hi:i<n) {Q:Option Bool->BZ->Prop},Q (AA (B i)) st->NX (A9 prog w) A E s (do let x <-elem' IB (base+i);if left=AQ then lt' x KE else return (<-lt' KE x).map (!·)) Q st:=λi hi {Q} q=>by
  have QA:base+i<IB.size:=AO (A6 hi _) hb;have eB:=hB i QA;refine BI (rL QA (L6 (λhl=>Ap hA hk (hm _ QA) MQ ?_) λhl=>BI (Ap hA hk MQ (hm _ QA) (BC ?_))))
  .rw[if_pos hl] at eB;rw[<-eB];exact q
  .rw[if_neg hl] at eB;show Q (AA (!_)) st;rw[<-eB];exact q
 refine Kf (M:=A9 prog w) (A:=A) (E:=E) (s:=s) (λlo hi:Nat=>lo<=hi/\hi<=n/\(∀i<lo,B i=AQ)/\∀i,hi<=i->i<n->B i=AE) (λK=>by
  refine BI (Ej hint hh ?_)
  cases e:B hint with
  |true =>
   refine BI (JQ (FV (I:=λx c C5=>C5=st/\∃l o,c=(AL,l,o)/\B (hint+l)=AQ/\hint+l<n/\l<o/\x+1<=o)
    (Q:=λc C5=>C5=st/\∃l o,c=(AL,l,o)/\B (hint+l)=AQ/\hint+l<n/\l<o/\(n-hint<=o\/hint+o<n/\B (hint+o)=AE)) ?step ((λc C5 q0=>by have{e,l,o,e1,e2,e3,e4,e5}:=q0;exact{e,l,o,e1,e2,e3,e4,.inl 'O'})) {rfl,0,1,rfl,e,hh,C4 _,AM _}) ?post)
   case step =>
    intro x c C5 _ _ zz';have{rfl,l,o,rfl,h1,h2,h3,h4}:=zz'
    try dsimp only
    refine L6 (λq=>BC {rfl,l,o,rfl,h1,h2,h3,.inl q}) (λq=>?_);refine BI (Ej (hint+o) 'O' ?_)
    cases e:B (hint+o) with
    |true=>exact BC {rfl,o,2 * o+1,rfl,e,by omega,by omega,by omega}
    |false=>exact BC {rfl,l,o,rfl,h1,h2,h3,.inr {by omega,e}}
   case post =>
    intro c C5 zz';have{rfl,l,o,rfl,h1,h2,h3,h4}:=zz'
    have hP:hint+l+1<=hint+min o (n-hint)/\hint+min o (n-hint)<=n/\(∀i<hint+l+1,B i=AQ)/\∀i,hint+min o (n-hint)<=i->i<n->B i=AE:={by omega,by omega,λi hi=>mono i (hint+l) (ID hi) h2 h1,λi hi hn=>by
     rcases h4 with h4|⟨h4,h5⟩
     .omega
     .exact qS (hint+o) i 'O' hn h5}
    revert hP
    dsimp only;generalize hint+l+1=lo',hint+min o (n-hint)=QA;exact λhP=>K lo' QA hP
  |false =>
   refine BI (JQ (FV (I:=λx c C5=>C5=st/\∃l o,c=(AL,l,o)/\B (hint-l)=AE/\l<=hint/\l<o/\x+1<=o)
    (Q:=λc C5=>C5=st/\∃l o,c=(AL,l,o)/\B (hint-l)=AE/\l<=hint/\l<o/\(hint+1<=o\/o<=hint/\B (hint-o)=AQ)) ?step ((λc C5 q0=>by have{e,l,o,e1,e2,e3,e4,e5}:=q0;exact{e,l,o,e1,e2,e3,e4,.inl 'O'})) {rfl,0,1,rfl,e,BN _,C4 _,AM _}) ?post)
   case step =>
    intro x c C5 _ _ zz';have{rfl,l,o,rfl,h1,h2,h3,h4}:=zz'
    try dsimp only
    refine L6 (λq=>BC {rfl,l,o,rfl,h1,h2,h3,.inl q}) (λq=>?_);refine BI (Ej (hint-o) (AR (DJ _ _) hh) ?_)
    cases e:B (hint-o) with
    |true=>exact BC {rfl,l,o,rfl,h1,h2,h3,.inr {ID (lD q),e}}
    |false=>exact BC {rfl,o,2 * o+1,rfl,e,ID (lD q),by omega,by omega}
   case post =>
    intro c C5 zz';have{rfl,l,o,rfl,h1,h2,h3,h4}:=zz'
    exact K (hint+1-min o (hint+1)) (hint-l) {by omega,CS (AR (DJ _ _) hh),λi hi=>by
     rcases h4 with h4|⟨h4,h5⟩
     .omega
     .exact mono i (hint-o) 'O' (AR (DJ _ _) hh) h5,λi hi hn=>qS (hint-l) i hi hn h1}) ?_
 intro lo hi zz';have{p1,p2,p3,p4}:=zz'
 refine BI (JQ (FV (I:=λx c st2=>st2=st/\∃l r,c=(AL,l,r)/\l<=r/\r<=n/\(∀i<l,B i=AQ)/\(∀i,r<=i->i<n->B i=AE)/\r-l+x<=n)
  (Q:=λc st2=>st2=st/\∃l r,c=(AL,l,r)/\Cut B n r) ?st2 ((λc st2 q0=>by have{e,l,r,e1,e2,e3,e4,e5,e6}:=q0;exact{e,l,r,e1,e3,λi hi=>e4 i 'O',e5})) {rfl,lo,hi,rfl,p1,p2,p3,p4,by omega}) ?po2)
 case po2=>intro c st2 zz';have{rfl,l,r,rfl,hr}:=zz';exact BC (h r hr)
 case st2 =>
  intro x c st2 _ _ zz';have{rfl,l,r,rfl,q1,q2,q3,q4,q5}:=zz'
  try dsimp only
  refine L6 (λq=>BC {rfl,l,r,rfl,q2,λi hi=>q3 i 'O',q4}) (λq=>?_);refine BI (Ej (l+(r-l) / 2) 'O' ?_)
  cases e:B (l+(r-l) / 2) with
  |true=>exact BC {rfl,l+(r-l) / 2+1,r,rfl,by omega,q2,λi hi=>mono i (l+(r-l) / 2) (ID hi) 'O' e,q4,by omega}
  |false=>exact BC {rfl,l,l+(r-l) / 2,rfl,A5 _ _,by omega,q3,λi hi hn=>qS (l+(r-l) / 2) i hi hn e,by omega}
end
structure Ord(L:CO->CO->Bool)(CF:Array CO):Prop where
 asym:∀x y,x∈CF->y∈CF->L x y=AQ->L y x=AE
 trans:∀x y z,x∈CF->y∈CF->z∈CF->L y x=AE->L z y=AE->L z x=AE
def SA(L:CO->CO->Bool)(a:Array CO):Prop:=∀(i j:Nat) (hj:j<a.size) (MR:i<j),L a[j] (a[i]'(DB MR hj))=AE
theorem Ord.refl(O:Ord L CF)(hx:x∈CF):L x x=AE:=by
 cases e:L x x with
 |false=>rfl
 |true=>rw[O.asym x x hx hx e] at e;cases e
theorem SA.le(O:Ord L CF)(ha:∀x∈a,x∈CF)(s:SA L a)(hj:j<a.size)(MR:i<=j):L a[j] (a[i]'(AR MR hj))=AE:=by
 rcases DQ MR with h|h
 .exact s i j hj h
 .subst h;exact O.refl (ha _ (AG _))
section
variable{E:AI->AN->Prop}
theorem Vz{st:BZ}{IB:Array CO}{Q:Option Nat->BZ->Prop}(hA:XJ prog w A s kd CF L)(O:Ord L CF)(hk:kindOf st=kd)(MQ:KE∈CF)(QM:∀x∈IB,x∈CF) (hb:base+n<=IB.size) (hh:hint<n) (sl:∀(i j:Nat) (hj:base+j<IB.size) (MR:i<j),j<n->L IB[base+j] (IB[base+i]'(DB (A6 MR _) hj))=AE) (h:∀k,k<=n->(∀(i:Nat) (hi:base+i<IB.size),i<k->L KE IB[base+i]=AE)->(∀(i:Nat) (hi:base+i<IB.size),k<=i->i<n->L KE IB[base+i]=AQ)->Q (AA k) st):NX (A9 prog w) A E s (vF AE KE IB base n hint) Q st:=by
 refine Wz (B:=λi=>if hi:base+i<IB.size then !L KE IB[base+i] else AE) hA hk MQ QM hb hh (λi hi=>by simp[hi]) (λi j MR hj e=>?_) λk ⟨c1,c2,c3⟩=>h k c1 (λi hi mV=>?_) (λi hi Od VF=>?_)
 .rcases DQ MR with h'|h'
  .have cZ:=AO (A6 hj _) hb;have QA:=AR (EY (AM _) MR) cZ;rw[dif_pos cZ] at e;rw[dif_pos QA];have e':L KE IB[base+j]=AE:=by simpa using e
   rw[O.trans _ _ _ (QM _ (AG QA)) (QM _ (AG cZ)) MQ (sl i j cZ h' hj) e'];rfl
  .subst h';exact e
 .have:=c2 i mV;simpa[hi] using this
 .have:=c3 i Od VF;simpa[hi] using this
theorem Vy{st:BZ}{IB:Array CO}{Q:Option Nat->BZ->Prop}(hA:XJ prog w A s kd CF L)(O:Ord L CF)(hk:kindOf st=kd)(MQ:KE∈CF)(QM:∀x∈IB,x∈CF) (hb:base+n<=IB.size) (hh:hint<n) (sl:∀(i j:Nat) (hj:base+j<IB.size) (MR:i<j),j<n->L IB[base+j] (IB[base+i]'(DB (A6 MR _) hj))=AE) (h:∀k,k<=n->(∀(i:Nat) (hi:base+i<IB.size),i<k->L IB[base+i] KE=AQ)->(∀(i:Nat) (hi:base+i<IB.size),k<=i->i<n->L IB[base+i] KE=AE)->Q (AA k) st):NX (A9 prog w) A E s (vF AQ KE IB base n hint) Q st:=by
 refine Wz (B:=λi=>if hi:base+i<IB.size then L IB[base+i] KE else AE) hA hk MQ QM hb hh (λi hi=>by simp[hi]) (λi j MR hj e=>?_) λk ⟨c1,c2,c3⟩=>h k c1 (λi hi mV=>?_) (λi hi Od VF=>?_)
 .rcases DQ MR with h'|h'
  .have cZ:=AO (A6 hj _) hb;have QA:=AR (EY (AM _) MR) cZ;rw[dif_pos cZ] at e;rw[dif_pos QA];cases ei:L IB[base+i] KE with
   |true=>rfl
   |false=>rw[O.trans _ _ _ MQ (QM _ (AG QA)) (QM _ (AG cZ)) ei (sl i j cZ h' hj)] at e;cases e
  .subst h';exact e
 .have:=c2 i mV;simpa[hi] using this
 .have:=c3 i Od VF;simpa[hi] using this
end
structure MidO(L:CO->CO->Bool)(a b out:Array CO)(ia ib:Nat):Prop where
 m:Mid a b out ia ib
 so:out.toList.Pairwise λx y=>L y x=AE
 oa:∀x∈out,∀(i:Nat) (hi:i<a.size),ia<=i->L a[i] x=AE
 ob:∀x∈out,∀(i:Nat) (hi:i<b.size),ib<=i->L b[i] x=AE
section
variable{L:CO->CO->Bool}{a b out:Array CO}
theorem Sw(h:out.toList.Pairwise λx y=>L y x=AE)(hx:∀y∈out,L x y=AE):(out.push x).toList.Pairwise λx y=>L y x=AE:=by rw[FH,FR];refine{h,JM _ _,λy hy z hz=>?_};rw[AS.mp hz];exact hx y (II.mp hy)
theorem MidO.pushB(m:MidO L a b out ia ib)(sb:SA L b)(h:ib<b.size)(VD:∀(i:Nat) (hi:i<a.size),ia<=i->L a[i] b[ib]=AE):MidO L a b (out.push b[ib]) ia (ib+1) where
 m:=m.m.pushB h
 so:=Sw m.so λy hy=>m.ob y hy ib h (AM _)
 oa:=λx hx i hi PU=>by
  rcases G2.mp hx with hx|rfl
  .exact m.oa x hx i hi PU
  .exact VD i hi PU
 ob:=λx hx i hi SL=>by
  rcases G2.mp hx with hx|rfl
  .exact m.ob x hx i hi (A0 (A5 _ _) SL)
  .exact sb ib i hi (FY SL)
theorem MidO.pushA(m:MidO L a b out ia ib)(sa:SA L a)(h:ia<a.size)(VD:∀(i:Nat) (hi:i<b.size),ib<=i->L b[i] a[ia]=AE):MidO L a b (out.push a[ia]) (ia+1) ib where
 m:=m.m.pushA h
 so:=Sw m.so λy hy=>m.oa y hy ia h (AM _)
 oa:=λx hx i hi PU=>by
  rcases G2.mp hx with hx|rfl
  .exact m.oa x hx i hi (A0 (A5 _ _) PU)
  .exact sa ia i hi (FY PU)
 ob:=λx hx i hi SL=>by
  rcases G2.mp hx with hx|rfl
  .exact m.ob x hx i hi SL
  .exact VD i hi SL
theorem Gv(a:Array CO)(h:i+k<a.size):out++a.extract i (i+(k+1))=(out++a.extract i (i+k)).push a[i+k]:=by apply Array.ext';rw[EQ,FH,EQ,KM,KM,C0];congr 1;show(a.toList.drop i).take (i+(k+1)-i)=(a.toList.drop i).take (i+k-i)++[a[i+k]];rw[NK _ _,NK _ _,CI (by simp;lia)];simp
theorem MidO.manyA(sa:SA L a):∀{k:Nat},MidO L a b out ia ib->ia+k<=a.size->(∀(i:Nat) (hi:i<a.size),ia<=i->i<ia+k->∀(j:Nat) (hj:j<b.size),ib<=j->L b[j] a[i]=AE)->MidO L a b (out++a.extract ia (ia+k)) (ia+k) ib
 |0,m,_,_=>by
  have e:out++a.extract ia (ia+0)=out:=by simp<;>lia
  rw[e];exact m
 |k+1,m,h,VD=>by have z:=MidO.manyA sa m 'L' λi hi h1 h2=>VD i hi h1 (DB h2 (A6 (C4 _) _));rw[Gv a (AO (A6 (C4 _) _) h)];exact z.pushA sa (AO (A6 (C4 _) _) h) λj hj yJ=>VD (ia+k) (AO (A6 (C4 _) _) h) (A5 _ _) (A6 (C4 _) _) j hj yJ
theorem MidO.manyB(sb:SA L b):∀{k:Nat},MidO L a b out ia ib->ib+k<=b.size->(∀(i:Nat) (hi:i<b.size),ib<=i->i<ib+k->∀(j:Nat) (hj:j<a.size),ia<=j->L a[j] b[i]=AE)->MidO L a b (out++b.extract ib (ib+k)) ia (ib+k)
 |0,m,_,_=>by
  have e:out++b.extract ib (ib+0)=out:=by simp<;>lia
  rw[e];exact m
 |k+1,m,h,VD=>by have z:=MidO.manyB sb m 'L' λi hi h1 h2=>VD i hi h1 (DB h2 (A6 (C4 _) _));rw[Gv b (AO (A6 (C4 _) _) h)];exact z.pushB sb (AO (A6 (C4 _) _) h) λj hj yK=>VD (ib+k) (AO (A6 (C4 _) _) h) (A5 _ _) (A6 (C4 _) _) j hj yK
theorem MidO.doneB(m:MidO L a b out ia ib)(sa:SA L a)(h:ib=b.size):(out++a.extract ia a.size++b.extract ib b.size).toList.Pairwise λx y=>L y x=AE:=by
 have la:=m.m.la;have z:=m.manyA sa (k:=a.size-ia) 'L' λi hi h1 h2 j hj yJ=>by lia
 rw[show ia+(a.size-ia)=a.size by lia] at z;have e:b.extract ib b.size=#[]:=by rw[h];simp
 rw[e,cH];exact z.so
theorem MidO.doneA(m:MidO L a b out ia ib)(sb:SA L b)(h:ia=a.size):(out++a.extract ia a.size++b.extract ib b.size).toList.Pairwise λx y=>L y x=AE:=by
 have lb:=m.m.lb;have z:=m.manyB sb (k:=b.size-ib) 'L' λi hi h1 h2 j hj yK=>by lia
 rw[show ib+(b.size-ib)=b.size by lia] at z;have e:a.extract ia a.size=#[]:=by rw[h];simp
 rw[e,cH];exact z.so
theorem MidO.lastA(m:MidO L a b out ia ib)(sa:SA L a)(sb:SA L b)(h:ia+1=a.size)(hl:∀(j:Nat) (hj:j<b.size),L (a[a.size-1]'(by lia)) b[j]=AE):(out++b.extract ib b.size++a.extract ia a.size).toList.Pairwise λx y=>L y x=AE:=by
 have lb:=m.m.lb;have z:=m.manyB sb (k:=b.size-ib) 'L' λi hi h1 h2 j hj yK=>by
  have e:j=a.size-1:=by lia
  subst e;exact hl i hi
 rw[show ib+(b.size-ib)=b.size by lia] at z;have z2:=z.manyA sa (DG h) λi hi h1 h2 j hj yJ=>by lia
 rw[h] at z2;exact z2.so
end
@[elab_as_elim] theorem Ch{K:Prop}{α0 α1 α2 α3 γ:Type}{f:α0->α1->α2->α3->γ}{P:α0->α1->α2->α3->Prop}{G:γ->Prop}{c:γ}(H:K/\∃x0 x1 x2 x3,c=f x0 x1 x2 x3/\P x0 x1 x2 x3)(k:K->∀x0 x1 x2 x3,P x0 x1 x2 x3->G (f x0 x1 x2 x3)):G c:=by have{g,x0,x1,x2,x3,rfl,p}:=H;exact k g x0 x1 x2 x3 p
@[elab_as_elim] theorem sI{K:Prop}{α0 α1 α2 α3 α4 γ:Type}{f:α0->α1->α2->α3->α4->γ}{P:α0->α1->α2->α3->α4->Prop}{G:γ->Prop}{c:γ}(H:K/\∃x0 x1 x2 x3 x4,c=f x0 x1 x2 x3 x4/\P x0 x1 x2 x3 x4)(k:K->∀x0 x1 x2 x3 x4,P x0 x1 x2 x3 x4->G (f x0 x1 x2 x3 x4)):G c:=by have{g,x0,x1,x2,x3,x4,rfl,p}:=H;exact k g x0 x1 x2 x3 x4 p
@[elab_as_elim] theorem sH{K:Prop}{α0 α1 α2 α3 α4 α5 γ:Type}{f:α0->α1->α2->α3->α4->α5->γ}{P:α0->α1->α2->α3->α4->α5->Prop}{G:γ->Prop}{c:γ}(H:K/\∃x0 x1 x2 x3 x4 x5,c=f x0 x1 x2 x3 x4 x5/\P x0 x1 x2 x3 x4 x5)(k:K->∀x0 x1 x2 x3 x4 x5,P x0 x1 x2 x3 x4 x5->G (f x0 x1 x2 x3 x4 x5)):G c:=by have{g,x0,x1,x2,x3,x4,x5,rfl,p}:=H;exact k g x0 x1 x2 x3 x4 x5 p
@[elab_as_elim] theorem Zb{K:Prop}{α0 α1 α2 α3 α4 α5 α6 γ:Type}{f:α0->α1->α2->α3->α4->α5->α6->γ}{P:α0->α1->α2->α3->α4->α5->α6->Prop}{G:γ->Prop}{c:γ}(H:K/\∃x0 x1 x2 x3 x4 x5 x6,c=f x0 x1 x2 x3 x4 x5 x6/\P x0 x1 x2 x3 x4 x5 x6)(k:K->∀x0 x1 x2 x3 x4 x5 x6,P x0 x1 x2 x3 x4 x5 x6->G (f x0 x1 x2 x3 x4 x5 x6)):G c:=by have{g,x0,x1,x2,x3,x4,x5,x6,rfl,p}:=H;exact k g x0 x1 x2 x3 x4 x5 x6 p
section
variable{E:AI->AN->Prop}{β:Type}{Q:β->BZ->Prop}{st:BZ}
theorem WW(hi:i<IB.size)(h:NX (A9 prog w) A E s (f IB[i]) Q st):NX (A9 prog w) A E s (elem' IB i >>= f) Q st:=BI (rL hi h)
theorem Cg(h:NX (A9 prog w) A E s (f ()) Q (uV st g)):NX (A9 prog w) A E s (Iw g >>= f) Q st:=BI (zZX h)
theorem Za(hA:XJ prog w A s kd CF L)(hk:kindOf st=kd)(hx:x∈CF)(hy:y∈CF)(h:NX (A9 prog w) A E s (f (AA (L x y))) Q st):NX (A9 prog w) A E s (lt' x y >>= f) Q st:=BI (Ap hA hk hx hy h)
theorem rB{γ:Type}{f:Nat->γ->StateT BZ dE (ForInStep γ)}{k:γ->StateT BZ dE β}(I:Nat->γ->BZ->Prop)(R:γ->BZ->Prop) (xQ:∀i c st,a<=i->i<b->I i c st->NX (A9 prog w) A E s (f i c) (λr C5=>match r with|.done c'=>R c' C5|.yield c'=>I (i+1) c' C5) st) (kU:∀c st,I (max a b) c st->R c st) {c:γ} (h:I a c st) (hp:∀c C5,R c C5->NX (A9 prog w) A E s (k c) Q C5):NX (A9 prog w) A E s (forIn [a:b] c f >>= k) Q st:=BI (JQ (FV I xQ kU h) hp)
theorem Yz{IB:Array CO}(hA:XJ prog w A s kd CF L)(O:Ord L CF)(hk:kindOf st=kd)(MQ:KE∈CF)(QM:∀x∈IB,x∈CF) (hb:base+n<=IB.size) (hh:hint<n) (sl:∀(i j:Nat) (hj:base+j<IB.size) (MR:i<j),j<n->L IB[base+j] (IB[base+i]'(DB (A6 MR _) hj))=AE) (h:∀k,k<=n->(∀(i:Nat) (hi:base+i<IB.size),i<k->L KE IB[base+i]=AE)->(∀(i:Nat) (hi:base+i<IB.size),k<=i->i<n->L KE IB[base+i]=AQ)->NX (A9 prog w) A E s (f (AA k)) Q st):NX (A9 prog w) A E s (vF AE KE IB base n hint >>= f) Q st:=BI (Vz hA O hk MQ QM hb hh sl h)
theorem Yy{IB:Array CO}(hA:XJ prog w A s kd CF L)(O:Ord L CF)(hk:kindOf st=kd)(MQ:KE∈CF)(QM:∀x∈IB,x∈CF) (hb:base+n<=IB.size) (hh:hint<n) (sl:∀(i j:Nat) (hj:base+j<IB.size) (MR:i<j),j<n->L IB[base+j] (IB[base+i]'(DB (A6 MR _) hj))=AE) (h:∀k,k<=n->(∀(i:Nat) (hi:base+i<IB.size),i<k->L IB[base+i] KE=AQ)->(∀(i:Nat) (hi:base+i<IB.size),k<=i->i<n->L IB[base+i] KE=AE)->NX (A9 prog w) A E s (f (AA k)) Q st):NX (A9 prog w) A E s (vF AQ KE IB base n hint >>= f) Q st:=BI (Vy hA O hk MQ QM hb hh sl h)
end
section
variable{E:AI->AN->Prop}
theorem Yx{α β:Type}{T:β->StateT BZ dE α}{E:AI->AN->Prop}{Q:α->BZ->Prop}{st:BZ}{NU:Prop}(h1:(∀x,NX M A E s (T x) Q st)->NU)(h2:∀x,NX M A E s (T x) Q st):NU:=h1 h2
theorem zN8{st:BZ}{a b:Array CO}{Q:Array CO->BZ->Prop}(hA:XJ prog w A s kd CF L)(O:Ord L CF)(hk:kindOf st=kd)(ha:∀x∈a,x∈CF)(hb:∀x∈b,x∈CF)(na:1<=a.size)(nb:1<=b.size)(sa:SA L a)(sb:SA L b)(hf:∀(i:Nat) (hi:i<a.size),L a[i] (b[0]'(FY nb))=AE)(hl:∀(j:Nat) (hj:j<b.size),L (a[a.size-1]'(by lia)) b[j]=AE) (h:∀c C5,Gal st C5->c.Perm (a++b)->(c.toList.Pairwise λx y=>L y x=AE)->Q c C5):NX (A9 prog w) A E s (zVX a b) Q st:=by
 refine BI (QO (EM {rfl,?_}));refine WW (FY nb) ?_;have m0:MidO L a b #[b[0]] 0 1:=by have z:MidO L a b #[] 0 0:={{by simp,BN _,BN _,rfl},KQ,λx hx=>by simp at hx,λx hx=>by simp at hx};exact z.pushB sb (FY nb) λi hi _=>hf i hi
 refine L6 (λe1=>BC (h _ _ (Gal.refl st) m0.m.done (m0.doneB sa (beq_iff_eq.mp e1)))) (λe1=>?_);replace e1:¬1=b.size:=λz=>e1 (beq_iff_eq.mpr z);refine L6 (λe2=>BC (h _ _ (Gal.refl st) m0.m.lastA (m0.lastA sa sb (beq_iff_eq.mp e2) hl))) (λe2=>?_);replace e2:¬0+1=a.size:=λz=>e2 (beq_iff_eq.mpr z);refine BI (NN ?_);refine rB
  (I:=λi c C5=>Gal st C5/\∃out ia ib g,c=(AL,out,ia,ib,g)/\MidO L a b out ia ib/\ia+1<a.size/\ib<b.size/\i+1<=out.size)
  (R:=λc C5=>Gal st C5/\∃r out ia ib g,c=(AA r,out,ia,ib,g)/\(r.Perm (a++b)/\r.toList.Pairwise λx y=>L y x=AE)) ?step ?fin ?init ?post
 case init=>exact{Gal.refl st,_,_,_,_,rfl,m0,GB na e2,GB nb e1,by simp}
 case post=>intro c C5 H;refine sI (c:=c) H λg r out ia ib gg p=>?_;exact BC (h _ _ g p.1 p.2)
 case fin=>intro c C5 H;refine Ch (c:=c) H λg out ia ib gg P=>?_;have m:=P.1;have h1:=P.2.1;have h2:=P.2.2.1;have h3:=P.2.2.2;exfalso;have:=m.m.sz;lia
 case step =>
  intro i c C5 _ hi H;refine Ch (c:=c) H λg out ia ib gg P=>?_;have m:=P.1;have h1:=P.2.1;have h2:=P.2.2.1;have h3:=P.2.2.2;have Lr:0<a.size+b.size:=AR (BN _) hi
  -- one by one
  refine rB
   (I:=λ_ c st2=>Gal st st2/\∃out ia ib ac bc,c=(AL,out,ia,ib,ac,bc)/\MidO L a b out ia ib/\ia+1<a.size/\ib<b.size/\i+1<=out.size)
   (R:=λc st2=>Gal st st2/\∃r out ia ib ac bc,c=(r,out,ia,ib,ac,bc)/\(match r with
    |some r=>(r.Perm (a++b)/\r.toList.Pairwise λx y=>L y x=AE)
    |none=>MidO L a b out ia ib/\ia+1<a.size/\ib<b.size/\i+1<=out.size)) ?step1 ?fin1 {g,_,_,_,_,_,rfl,m,h1,h2,h3} ?post1
  case fin1=>intro c st2 H;refine sI (c:=c) H λg2 out ia ib ac bc P=>?_;have m:=P.1;have h1:=P.2.1;have h2:=P.2.2.1;have h3:=P.2.2.2;exact{g2,AL,_,_,_,_,_,rfl,m,h1,h2,h3}
  case step1 =>
   intro j c st2 _ hj H;refine sI (c:=c) H λg2 out ia ib ac bc P=>?_;have m:=P.1;have h1:=P.2.1;have h2:=P.2.2.1;have h3:=P.2.2.2;refine WW h2 (WW (AR (A5 _ _) h1) (Za hA (g2.kind hk) (hb _ (AG h2)) (ha _ (AG _)) ?_));have PU:ia<a.size:=AR (A5 _ _) h1;refine L6 (λew=>?_) (λew=>?_)
   .refine WW h2 ?_;have m2:=m.pushB sb h2 λi hi yL=>O.trans _ _ _ (hb _ (AG h2)) (ha _ (AG PU)) (ha _ (AG hi)) (O.asym _ _ (hb _ (AG h2)) (ha _ (AG PU)) ew) (sa.le O ha hi yL);have M2:i+1<=(out.push b[ib]).size:=by rw[EI];lia
    refine L6 (λq=>BC {g2,AA _,_,_,_,_,_,rfl,m2.m.done,m2.doneB sa (beq_iff_eq.mp q)}) (λq=>?_);have UM:ib+1<b.size:=GB h2 λz=>q (beq_iff_eq.mpr z);refine L6 (λ_=>?_) (λ_=>?_)
    .exact BC {g2,AL,_,_,_,_,_,rfl,m2,h1,UM,M2}
    .exact BC {g2,_,_,_,_,_,rfl,m2,h1,UM,M2}
   .refine WW PU ?_;have m2:=m.pushA sa PU λi hi yL=>O.trans _ _ _ (ha _ (AG PU)) (hb _ (AG h2)) (hb _ (AG hi)) (gT.mpr ew) (sb.le O hb hi yL);have M2:i+1<=(out.push a[ia]).size:=by rw[EI];lia
    refine L6 (λq=>BC {g2,AA _,_,_,_,_,_,rfl,m2.m.lastA,m2.lastA sa sb (beq_iff_eq.mp q) hl}) (λq=>?_);have WG:ia+1+1<a.size:=GB h1 λz=>q (beq_iff_eq.mpr z);refine L6 (λ_=>?_) (λ_=>?_)
    .exact BC {g2,AL,_,_,_,_,_,rfl,m2,WG,h2,M2}
    .exact BC {g2,_,_,_,_,_,rfl,m2,WG,h2,M2}
  case post1 =>
   intro c st2 H;refine sH (c:=c) H λg2 r out ia ib ac bc hr=>?_;cases r with
   |some r=>exact BC {g2,r,_,_,_,_,rfl,hr}
   |none =>
    have m:=hr.1;have h1:=hr.2.1;have h2:=hr.2.2.1;have h3:=hr.2.2.2;refine BI (QO (EM {rfl,?_}));refine rB
     (I:=λj c KY=>Gal st KY/\∃out ia ib gg ac bc,c=(AL,out,ia,ib,gg,ac,bc)/\MidO L a b out ia ib/\ia+1<a.size/\ib<b.size/\i+1+(if j=0 then 0 else 1)<=out.size)
     (R:=λc KY=>Gal st KY/\∃r out ia ib gg ac bc,c=(r,out,ia,ib,gg,ac,bc)/\(match r with
      |some r=>(r.Perm (a++b)/\r.toList.Pairwise λx y=>L y x=AE)
      |none=>MidO L a b out ia ib/\ia+1<a.size/\ib<b.size/\i+2<=out.size)) ?step2 ?fin2 {g2,_,_,_,_,_,_,rfl,m,h1,h2,by simpa using h3} ?post2
    case fin2=>intro c KY H;refine sH (c:=c) H λg3 out ia ib gg ac bc P=>?_;have m:=P.1;have h1:=P.2.1;have h2:=P.2.2.1;have h3:=P.2.2.2;rw[if_neg (EN (AO Lr (NJ _ _)))] at h3;exact{g3,AL,_,_,_,_,_,_,rfl,m,h1,h2,h3}
    case step2 =>
     intro j c KY _ hj H;refine sH (c:=c) H λg3 out ia ib gg ac bc P=>?_;clear H;have m:=P.1;have h1:=P.2.1;have h2:=P.2.2.1;have h3:=P.2.2.2;clear P;replace h3:i+1<=out.size:=by split at h3<;>lia
     dsimp only;refine Yx (M:=A9 prog w) (A:=A) (E:=E) (s:=s) (λK=>by
      refine L6 (λhg=>?gpos) (λhg=>?gneg)
      case gneg=>generalize gg=g';exact K g'
      case gpos=>exact K (gg-1)) (λgg=>?_)
     refine Cg ?_;refine WW h2 (Yz hA O ((g3.set _).kind hk) (hb _ (AG h2)) ha 'L' 'L' (λi j hj MR _=>sa (ia+i) (ia+j) hj (A6 MR _)) λk aU c1 c2=>?_);have qR:∀(i:Nat) (hi:i<a.size),ia+k<=i->L a[i] b[ib]=AE:=λi hi mV=>O.asym _ _ (hb _ (AG h2)) (ha _ (AG hi)) (by have z:=c2 (i-ia) 'L' 'L' 'L';simpa[show ia+(i-ia)=i by lia] using z);dsimp only;refine Kf (λ(out:Array CO) (ia:Nat)=>MidO L a b out ia ib/\ia+1<a.size/\i+1<=out.size/\∀(i:Nat) (hi:i<a.size),ia<=i->L a[i] b[ib]=AE) (λK=>by
      by_cases p6:¬(k>0)
      .rw[if_neg p6];have hP:MidO L a b out ia ib/\ia+1<a.size/\i+1<=out.size/\∀(i:Nat) (hi:i<a.size),ia<=i->L a[i] b[ib]=AE:={m,h1,h3,λi hi mV=>qR i hi 'L'};revert hP;generalize out=ZG,ia=ia';exact λhP=>K ZG ia' hP
      .rw[if_pos (LF.mp p6)];replace m:=m.manyA sa (k:=k) 'L' λi hi WG UM j hj yJ=>O.trans _ _ _ (ha _ (AG hi)) (hb _ (AG h2)) (hb _ (AG hj)) (by have z:=c1 (i-ia) 'L' 'L';simpa[show ia+(i-ia)=i by lia] using z) (sb.le O hb hj yJ);refine L6 (λq1=>BC {g3.set _,AA _,_,_,_,_,_,_,rfl,m.m.lastA,m.lastA sa sb (beq_iff_eq.mp q1) hl}) (λq1=>?_);replace q1:¬(ia+k+1=a.size):=λz=>q1 (beq_iff_eq.mpr z);refine L6 (λq2=>BC {g3.set _,AA _,_,_,_,_,_,_,rfl,m.m.done,m.doneA sb (beq_iff_eq.mp q2)}) (λq2=>?_);replace q2:¬(ia+k=a.size):=λz=>q2 (beq_iff_eq.mpr z);exact K _ _ {m,by lia,by rw[HV];lia,qR}) ?_
     clear c1 c2 qR m h1 h3 aU;intro out ia P;have m:=P.1;have h1:=P.2.1;have h3:=P.2.2.1;have qR:=P.2.2.2;clear P;refine WW h2 ?_;have W0:=m.m.sz;replace m:=m.pushB sb h2 qR;have hs:=m.m.sz;refine L6 (λq3=>BC {g3.set _,AA _,_,_,_,_,_,_,rfl,m.m.done,m.doneB sa (beq_iff_eq.mp q3)}) (λq3=>?_);replace q3:¬(ib+1=b.size):=λz=>q3 (beq_iff_eq.mpr z);refine WW (AR (A5 _ _) h1) (Yy hA O ((g3.set _).kind hk) (ha _ (AG _)) hb 'L' 'L' (λi j hj MR _=>sb (ib+1+i) (ib+1+j) hj (A6 MR _)) λk2 iU d1 d2=>?_);dsimp only;refine Kf (λ(out:Array CO) (ib:Nat)=>MidO L a b out ia ib/\ib<b.size/\i+2<=out.size/\∀(i:Nat) (hi:i<b.size),ib<=i->L b[i] (a[ia]'(AR (A5 _ _) h1))=AE) (λK=>by
      by_cases yI:¬(k2>0)
      .rw[if_neg yI];have hP:MidO L a b (out.push b[ib]) ia (ib+1)/\ib+1<b.size/\i+2<=(out.push b[ib]).size/\∀(i:Nat) (hi:i<b.size),ib+1<=i->L b[i] (a[ia]'(AR (A5 _ _) h1))=AE:={m,GB (MX h2) q3,by rw[EI];lia,λi hi yL=>by have z:=d2 (i-(ib+1)) 'L' 'L' 'L';simpa[show ib+1+(i-(ib+1))=i by lia] using z};revert hP;generalize out.push b[ib]=ZG,ib+1=ib';exact λhP=>K ZG ib' hP
      .rw[if_pos (LF.mp yI)];replace m:=m.manyB sb (k:=k2) 'L' λi hi WG UM j hj yK=>O.trans _ _ _ (hb _ (AG hi)) (ha _ (AG _)) (ha _ (AG hj)) (O.asym _ _ (hb _ (AG hi)) (ha _ (AG _)) (by have z:=d1 (i-(ib+1)) 'L' 'L';simpa[show ib+1+(i-(ib+1))=i by lia] using z)) (sa.le O ha hj yK);refine L6 (λq4=>BC {g3.set _,AA _,_,_,_,_,_,_,rfl,m.m.done,m.doneB sa (beq_iff_eq.mp q4)}) (λq4=>?_);replace q4:¬(ib+1+k2=b.size):=λz=>q4 (beq_iff_eq.mpr z);exact K _ _ {m,by lia,by rw[HV];lia,λi hi yL=>by have z:=d2 (i-(ib+1)) 'L' 'L' 'L';simpa[show ib+1+(i-(ib+1))=i by lia] using z}) ?_
     intro out ib P;have m:=P.1;have h2:=P.2.1;have h3:=P.2.2.1;have d2:=P.2.2.2;refine WW (AR (A5 _ _) h1) ?_;have M2:=m.m.sz;replace m:=m.pushA sa (AR (A5 _ _) h1) d2;have hs3:=m.m.sz;refine L6 (λq5=>?_) (λq5=>?_)
     .exact BC {g3.set _,AA _,_,_,_,_,_,_,rfl,m.m.lastA,m.lastA sa sb (beq_iff_eq.mp q5) hl}
     .have q5':¬(_=_):=λz=>q5 (beq_iff_eq.mpr z);refine L6 (λq6=>?_) (λq6=>?_)
      .exact BC {g3.set _,AL,_,_,_,_,_,_,rfl,m,GB (MX h1) q5',h2,by lia}
      .exact BC {g3.set _,_,_,_,_,_,_,rfl,m,GB (MX h1) q5',h2,by rw[if_neg (EN (N3 _))];lia}
    case post2 =>
     intro c KY H;refine Zb (c:=c) H λg3 r out ia ib gg ac bc hr=>?_;cases r with
     |some r=>exact BC {g3,r,_,_,_,_,rfl,hr}
     |none=>have m:=hr.1;have h1:=hr.2.1;have h2:=hr.2.2.1;have h3:=hr.2.2.2;exact Cg (BC {g3.set _,_,_,_,_,rfl,m,h1,h2,h3})
end
structure MidHO(L:CO->CO->Bool)(a b out:Array CO)(na nb:Nat):Prop where
 m:MidH a b out na nb
 so:out.toList.Pairwise λx y=>L x y=AE
 oa:∀x∈out,∀(i:Nat) (hi:i<a.size),i<na->L x a[i]=AE
 ob:∀x∈out,∀(i:Nat) (hi:i<b.size),i<nb->L x b[i]=AE
section
variable{L:CO->CO->Bool}{a b out:Array CO}
theorem Uk(h:out.toList.Pairwise λx y=>L x y=AE)(hx:∀y∈out,L y x=AE):(out.push x).toList.Pairwise λx y=>L x y=AE:=by rw[FH,FR];refine{h,JM _ _,λy hy z hz=>?_};rw[AS.mp hz];exact hx y (II.mp hy)
theorem MidHO.pushA(m:MidHO L a b out na nb)(sa:SA L a)(h0:1<=na)(h:na-1<a.size)(VD:∀(j:Nat) (hj:j<b.size),j<nb->L a[na-1] b[j]=AE):MidHO L a b (out.push a[na-1]) (na-1) nb where
 m:=m.m.pushA h0 h
 so:=Uk m.so λy hy=>m.oa y hy (na-1) h 'L'
 oa:=λx hx i hi PU=>by
  rcases G2.mp hx with hx|rfl
  .exact m.oa x hx i hi (AO PU (DJ _ _))
  .exact sa i (na-1) h (PU)
 ob:=λx hx i hi SL=>by
  rcases G2.mp hx with hx|rfl
  .exact m.ob x hx i hi SL
  .exact VD i hi SL
theorem MidHO.pushB(m:MidHO L a b out na nb)(sb:SA L b)(h0:1<=nb)(h:nb-1<b.size)(VD:∀(j:Nat) (hj:j<a.size),j<na->L b[nb-1] a[j]=AE):MidHO L a b (out.push b[nb-1]) na (nb-1) where
 m:=m.m.pushB h0 h
 so:=Uk m.so λy hy=>m.ob y hy (nb-1) h 'L'
 oa:=λx hx i hi PU=>by
  rcases G2.mp hx with hx|rfl
  .exact m.oa x hx i hi PU
  .exact VD i hi PU
 ob:=λx hx i hi SL=>by
  rcases G2.mp hx with hx|rfl
  .exact m.ob x hx i hi (AO SL (DJ _ _))
  .exact sb i (nb-1) h (SL)
theorem Sv(a:Array CO)(h:i<n)(hn:n-1<a.size):out++(a.extract i n).reverse=(out.push a[n-1])++(a.extract i (n-1)).reverse:=by
 have e:a.extract i n=(a.extract i (n-1)).push a[n-1]:=by have z:=Gv (out:=#[]) a (i:=i) (k:=n-1-i) 'L';rw[show i+(n-1-i+1)=n by lia] at z;simpa[show i+(n-1-i)=n-1 by lia] using z
 rw[e];generalize a.extract i (n-1)=x;generalize a[n-1]=y;apply Array.ext';simp
theorem MidHO.manyA(sa:SA L a)(m:MidHO L a b out na nb)(h:i0<=na)(VD:∀(i:Nat) (hi:i<a.size),i0<=i->i<na->∀(j:Nat) (hj:j<b.size),j<nb->L a[i] b[j]=AE):MidHO L a b (out++(a.extract i0 na).reverse) i0 nb:=by
 obtain⟨d,hd⟩:∃d,na=i0+d:={na-i0,by lia};induction d generalizing na out with
 |zero =>
  have e0:na=i0:=by lia
  subst e0;have e:out++(a.extract na na).reverse=out:=by
   have:a.extract na na=#[]:=by simp<;>lia
   rw[this];simp
  rw[e];exact m
 |succ d ih=>have la:=m.m.la;rw[Sv a (show i0<na by lia) 'L'];exact ih (m.pushA sa 'L' 'L' λj hj W4=>VD (na-1) 'L' 'L' 'L' j hj W4) 'L' (λi hi h1 h2=>VD i hi h1 (AO h2 (DJ _ _))) 'L'
theorem MidHO.manyB(sb:SA L b)(m:MidHO L a b out na nb)(h:i0<=nb)(VD:∀(i:Nat) (hi:i<b.size),i0<=i->i<nb->∀(j:Nat) (hj:j<a.size),j<na->L b[i] a[j]=AE):MidHO L a b (out++(b.extract i0 nb).reverse) na i0:=by
 obtain⟨d,hd⟩:∃d,nb=i0+d:={nb-i0,by lia};induction d generalizing nb out with
 |zero =>
  have e0:nb=i0:=by lia
  subst e0;have e:out++(b.extract nb nb).reverse=out:=by
   have:b.extract nb nb=#[]:=by simp<;>lia
   rw[this];simp
  rw[e];exact m
 |succ d ih=>have lb:=m.m.lb;rw[Sv b (show i0<nb by lia) 'L'];exact ih (m.pushB sb 'L' 'L' λj hj W4=>VD (nb-1) 'L' 'L' 'L' j hj W4) 'L' (λi hi h1 h2=>VD i hi h1 (AO h2 (DJ _ _))) 'L'
theorem Fc(h:out.toList.Pairwise λx y=>L x y=AE):out.reverse.toList.Pairwise λx y=>L y x=AE:=by rw[OM,List.pairwise_reverse];exact h
theorem MidHO.doneA(m:MidHO L a b out na nb)(sb:SA L b)(h:na=0):(a.extract 0 na++b.extract 0 nb++out.reverse).toList.Pairwise λx y=>L y x=AE:=by have z:=Fc (m.manyB sb (BN _) λi hi h1 h2 j hj W4=>by lia).so;subst h;simpa using z
theorem MidHO.doneB(m:MidHO L a b out na nb)(sa:SA L a)(h:nb=0):(a.extract 0 na++b.extract 0 nb++out.reverse).toList.Pairwise λx y=>L y x=AE:=by have z:=Fc (m.manyA sa (BN _) λi hi h1 h2 j hj W4=>by lia).so;subst h;simpa using z
theorem MidHO.firstB(m:MidHO L a b out na nb)(sa:SA L a)(sb:SA L b)(h:nb=1)(hf:∀(i:Nat) (hi:i<a.size),L a[i] (b[0]'(by have:=m.m.lb;lia))=AE):(b.extract 0 nb++a.extract 0 na++out.reverse).toList.Pairwise λx y=>L y x=AE:=by
 have z1:=m.manyA sa (BN _) λi hi h1 h2 j hj W4=>by
  have e:j=0:=by lia
  subst e;exact hf i hi
 have z:=Fc (z1.manyB sb (BN _) λi hi h1 h2 j hj W4=>by lia).so;simpa using z
end
section
variable{E:AI->AN->Prop}
theorem Yw{α β γ δ:Type}{T:β->γ->δ->StateT BZ dE α}{E:AI->AN->Prop}{Q:α->BZ->Prop}{st:BZ}{NU:Prop}(P:β->γ->Prop)(h1:(∀x y z,P x y->NX M A E s (T x y z) Q st)->NU)(h2:∀x y z,P x y->NX M A E s (T x y z) Q st):NU:=h1 h2
theorem zN9{st:BZ}{a b:Array CO}{Q:Array CO->BZ->Prop}(hA:XJ prog w A s kd CF L)(O:Ord L CF)(hk:kindOf st=kd)(ha:∀x∈a,x∈CF)(hb:∀x∈b,x∈CF)(na:1<=a.size)(nb:1<=b.size)(sa:SA L a)(sb:SA L b)(hf:∀(i:Nat) (hi:i<a.size),L a[i] (b[0]'(FY nb))=AE)(hl:∀(j:Nat) (hj:j<b.size),L (a[a.size-1]'(by lia)) b[j]=AE) (h:∀c C5,Gal st C5->c.Perm (a++b)->(c.toList.Pairwise λx y=>L y x=AE)->Q c C5):NX (A9 prog w) A E s (zVY a b) Q st:=by
 refine BI (QO (EM {rfl,?_}));refine WW 'L' ?_;have m0:MidHO L a b #[a[a.size-1]] (a.size-1) b.size:=by have z:MidHO L a b #[] a.size b.size:={{by rw[JT 'S',JT 'S'];simp,AM _,AM _,by simp},KQ,λx hx=>by simp at hx,λx hx=>by simp at hx};exact z.pushA sa (na) 'L' λj hj _=>hl j hj
 refine L6 (λe1=>?_) (λe1=>?_)
 .exact BC (h _ _ (Gal.refl st) m0.m.done (m0.doneA sb (beq_iff_eq.mp e1)))
 refine L6 (λe2=>?_) (λe2=>?_)
 .exact BC (h _ _ (Gal.refl st) m0.m.firstB (m0.firstB sa sb (beq_iff_eq.mp e2) hf))
 have y8:¬(a.size-1=0):=λz=>e1 (beq_iff_eq.mpr z);have y7:¬(b.size=1):=λz=>e2 (beq_iff_eq.mpr z);refine BI (NN ?_);refine rB
  (I:=λi c C5=>Gal st C5/\∃na nb out g,c=(AL,na,nb,out,g)/\MidHO L a b out na nb/\1<=na/\2<=nb/\i+1<=out.size)
  (R:=λc C5=>Gal st C5/\∃r na nb out g,c=(AA r,na,nb,out,g)/\(r.Perm (a++b)/\r.toList.Pairwise λx y=>L y x=AE)) ?step ?fin ?init ?post
 case init=>exact{Gal.refl st,_,_,_,_,rfl,m0,by lia,by lia,by simp}
 case post=>intro c C5 H;refine sI (c:=c) H λg r ia ib out gg p=>?_;exact BC (h _ _ g p.1 p.2)
 case fin=>intro c C5 H;refine Ch (c:=c) H λg na nb out gg P=>?_;have m:=P.1;have h1:=P.2.1;have h2:=P.2.2.1;have h3:=P.2.2.2;exfalso;have:=m.m.sz;lia
 case step =>
  intro i c C5 _ hi H;refine Ch (c:=c) H λg na nb out gg P=>?_;have m:=P.1;have h1:=P.2.1;have h2:=P.2.2.1;have h3:=P.2.2.2;have Lr:0<a.size+b.size:=AR (BN _) hi;refine rB
   (I:=λ_ c st2=>Gal st st2/\∃na nb out ac bc,c=(AL,na,nb,out,ac,bc)/\MidHO L a b out na nb/\1<=na/\2<=nb/\i+1<=out.size)
   (R:=λc st2=>Gal st st2/\∃r na nb out ac bc,c=(r,na,nb,out,ac,bc)/\(match r with
    |some r=>(r.Perm (a++b)/\r.toList.Pairwise λx y=>L y x=AE)
    |none=>MidHO L a b out na nb/\1<=na/\2<=nb/\i+1<=out.size)) ?step1 ?fin1 {g,_,_,_,_,_,rfl,m,h1,h2,h3} ?post1
  case fin1=>intro c st2 H;refine sI (c:=c) H λg2 na nb out ac bc P=>?_;clear H;have m:=P.1;have h1:=P.2.1;have h2:=P.2.2.1;have h3:=P.2.2.2;clear P;exact{g2,AL,_,_,_,_,_,rfl,m,h1,h2,h3}
  case step1 =>
   intro j c st2 _ hj H;refine sI (c:=c) H λg2 na nb out ac bc P=>?_;clear H;have m:=P.1;have h1:=P.2.1;have h2:=P.2.2.1;have h3:=P.2.2.2;clear P;dsimp only;have la:=m.m.la;have lb:=m.m.lb;refine WW 'L' (WW 'L' (Za hA (g2.kind hk) (hb _ (AG _)) (ha _ (AG _)) ?_));have PU:na-1<a.size:=by lia
   have SL:nb-1<b.size:=by lia
   refine L6 (λew=>?_) (λew=>?_)
   .refine WW PU ?_;have m2:=m.pushA sa h1 PU λj hj W4=>O.trans _ _ _ (hb _ (AG hj)) (hb _ (AG SL)) (ha _ (AG PU)) (sb.le O hb SL 'L') (O.asym _ _ (hb _ (AG SL)) (ha _ (AG PU)) ew);have M2:i+1<=(out.push a[na-1]).size:=by rw[EI];lia
    refine L6 (λq=>BC {g2,AA _,_,_,_,_,_,rfl,m2.m.done,m2.doneA sb (beq_iff_eq.mp q)}) (λq=>?_);have WG:1<=na-1:=Nat.pos_of_ne_zero λz=>q (beq_iff_eq.mpr z);refine L6 (λq=>?_) (λq=>?_)
    .exact BC {g2,AL,_,_,_,_,_,rfl,m2,WG,h2,M2}
    .exact BC {g2,_,_,_,_,_,rfl,m2,WG,h2,M2}
   .refine WW SL ?_;have m2:=m.pushB sb (A0 (DU _ _) h2) SL λj hj W4=>O.trans _ _ _ (ha _ (AG hj)) (ha _ (AG PU)) (hb _ (AG SL)) (sa.le O ha PU 'L') (gT.mpr ew);have M2:i+1<=(out.push b[nb-1]).size:=by rw[EI];lia
    refine L6 (λq=>BC {g2,AA _,_,_,_,_,_,rfl,m2.m.firstB,m2.firstB sa sb (beq_iff_eq.mp q) hf}) (λq=>?_);have UM:2<=nb-1:=by have q':¬(nb-1=1):=λz=>q (beq_iff_eq.mpr z);lia
    refine L6 (λq=>?_) (λq=>?_)
    .exact BC {g2,AL,_,_,_,_,_,rfl,m2,h1,UM,M2}
    .exact BC {g2,_,_,_,_,_,rfl,m2,h1,UM,M2}
  case post1 =>
   intro c st2 H;refine sH (c:=c) H λg2 r na nb out ac bc hr=>?_;clear H;cases r with
   |some r=>exact BC {g2,r,_,_,_,_,rfl,hr}
   |none =>
    have m:=hr.1;have h1:=hr.2.1;have h2:=hr.2.2.1;have h3:=hr.2.2.2;clear hr;dsimp only;refine BI (QO (EM {rfl,?_}));refine rB
     (I:=λj c KY=>Gal st KY/\∃na nb out gg ac bc,c=(AL,na,nb,out,gg,ac,bc)/\MidHO L a b out na nb/\1<=na/\2<=nb/\i+1+(if j=0 then 0 else 1)<=out.size)
     (R:=λc KY=>Gal st KY/\∃r na nb out gg ac bc,c=(r,na,nb,out,gg,ac,bc)/\(match r with
      |some r=>(r.Perm (a++b)/\r.toList.Pairwise λx y=>L y x=AE)
      |none=>MidHO L a b out na nb/\1<=na/\2<=nb/\i+2<=out.size)) ?step2 ?fin2 {g2,_,_,_,_,_,_,rfl,m,h1,h2,by simpa using h3} ?post2
    case fin2=>intro c KY H;refine sH (c:=c) H λg3 na nb out gg ac bc P=>?_;clear H;have m:=P.1;have h1:=P.2.1;have h2:=P.2.2.1;have h3:=P.2.2.2;clear P;rw[if_neg (EN (AO Lr (NJ _ _)))] at h3;exact{g3,AL,_,_,_,_,_,_,rfl,m,h1,h2,h3}
    case step2 =>
     intro j c KY _ hj H;refine sH (c:=c) H λg3 na nb out gg ac bc P=>?_;clear H;have m:=P.1;have h1:=P.2.1;have h2:=P.2.2.1;have h3:=P.2.2.2;clear P;replace h3:i+1<=out.size:=by split at h3<;>lia
     dsimp only;have la:=m.m.la;have lb:=m.m.lb;refine Yx (λK=>by
      refine L6 (λhg=>?gpos) (λhg=>?gneg)
      case gneg=>generalize gg=g';exact K g'
      case gpos=>exact K (gg-1)) (λgg=>?_)
     refine Cg ?_;refine WW 'L' (Yz hA O ((g3.set _).kind hk) (hb _ (AG _)) ha (A0 (DG (FB _)) la) 'L' (λi j hj MR _=>sa (0+i) (0+j) hj (A6 MR _)) λk aU c1 c2=>?_);have SL:nb-1<b.size:=by lia
     have k4:∀(i:Nat) (hi:i<a.size),i<k->L b[nb-1] a[i]=AE:=λi hi mV=>by have z:=c1 i (AR (DG (FB _)) hi) mV;simpa using z
     dsimp only;refine Yw (λ(out:Array CO) (na:Nat)=>MidHO L a b out na nb/\1<=na/\i+1<=out.size/\∀(i:Nat) (hi:i<a.size),i<na->L b[nb-1] a[i]=AE) (λK=>by
      by_cases p6:¬(na-k>0)
      .rw[if_neg p6];have hP:MidHO L a b out na nb/\1<=na/\i+1<=out.size/\∀(i:Nat) (hi:i<a.size),i<na->L b[nb-1] a[i]=AE:={m,h1,h3,λi hi mV=>k4 i hi 'L'};revert hP;generalize na-k=ac';generalize out=ZG,na=tB;exact λhP=>K ZG tB ac' hP
      .rw[if_pos (LF.mp p6)];replace m:=m.manyA sa aU λi hi WG UM j hj W4=>O.trans _ _ _ (hb _ (AG hj)) (hb _ (AG SL)) (ha _ (AG hi)) (sb.le O hb SL 'L') (O.asym _ _ (hb _ (AG SL)) (ha _ (AG hi)) (by have z:=c2 i (AR (DG (FB _)) hi) WG UM;simpa using z));refine L6 (λq1=>BC {g3.set _,AA _,_,_,_,_,_,_,rfl,m.m.done,m.doneA sb (beq_iff_eq.mp q1)}) (λq1=>?_);replace q1:¬(k=0):=λz=>q1 (beq_iff_eq.mpr z);exact K _ _ _ {m,by lia,by rw[HV];lia,k4}) ?_
     clear c1 c2 k4 m h1 h3 aU la;intro out na ac P;have m:=P.1;have h1:=P.2.1;have h3:=P.2.2.1;have k4:=P.2.2.2;clear P;refine WW (SL) ?_;have W0:=m.m.sz;have la:=m.m.la;replace m:=m.pushB sb (A0 (DU _ _) h2) (SL) k4;have hs:=m.m.sz;refine L6 (λq3=>BC {g3.set _,AA _,_,_,_,_,_,_,rfl,m.m.firstB,m.firstB sa sb (beq_iff_eq.mp q3) hf}) (λq3=>?_);have q3':¬(nb-1=1):=λz=>q3 (beq_iff_eq.mpr z);refine WW 'L' (Yy hA O ((g3.set _).kind hk) (ha _ (AG _)) hb 'L' 'L' (λi j hj MR _=>sb (0+i) (0+j) hj (A6 MR _)) λk2 iU d1 d2=>?_);have PU:na-1<a.size:=by lia
     have qN:∀(j:Nat) (hj:j<b.size),j<k2->L a[na-1] b[j]=AE:=λj hj W4=>O.asym _ _ (hb _ (AG hj)) (ha _ (AG _)) (by have z:=d1 j (AR (DG (FB _)) hj) W4;simpa using z);dsimp only;refine Yw (λ(out:Array CO) (nb:Nat)=>MidHO L a b out na nb/\2<=nb/\i+2<=out.size/\∀(j:Nat) (hj:j<b.size),j<nb->L a[na-1] b[j]=AE) (λK=>by
      by_cases yI:¬(nb-1-k2>0)
      .rw[if_neg yI];have hP:MidHO L a b (out.push b[nb-1]) na (nb-1)/\2<=nb-1/\i+2<=(out.push b[nb-1]).size/\∀(j:Nat) (hj:j<b.size),j<nb-1->L a[na-1] b[j]=AE:={m,by lia,by rw[EI];lia,λj hj W4=>qN j hj 'L'};revert hP;generalize nb-1-k2=bc';generalize out.push b[nb-1]=ZG;generalize nb-1=nb';exact λhP=>K ZG nb' bc' hP
      .rw[if_pos (LF.mp yI)];replace m:=m.manyB sb iU λi hi WG UM j hj W4=>O.trans _ _ _ (ha _ (AG hj)) (ha _ (AG PU)) (hb _ (AG hi)) (sa.le O ha PU 'L') (by have z:=d2 i (AR (DG (FB _)) hi) WG UM;simpa using z);refine L6 (λq4=>BC {g3.set _,AA _,_,_,_,_,_,_,rfl,m.m.firstB,m.firstB sa sb (beq_iff_eq.mp q4) hf}) (λq4=>?_);replace q4:¬(k2=1):=λz=>q4 (beq_iff_eq.mpr z);refine L6 (λq5=>BC {g3.set _,AA _,_,_,_,_,_,_,rfl,m.m.done,m.doneB sa (beq_iff_eq.mp q5)}) (λq5=>?_);replace q5:¬(k2=0):=λz=>q5 (beq_iff_eq.mpr z);exact K _ _ _ {m,by lia,by rw[HV,EI];lia,qN}) ?_
     intro out nb' bc P;have m:=P.1;have UM:=P.2.1;have h3:=P.2.2.1;have qN:=P.2.2.2;refine WW (PU) ?_;have M2:=m.m.sz;replace m:=m.pushA sa (h1) (PU) qN;have hs3:=m.m.sz;refine L6 (λq6=>BC {g3.set _,AA _,_,_,_,_,_,_,rfl,m.m.done,m.doneA sb (beq_iff_eq.mp q6)}) (λq6=>?_);have q6':¬(na-1=0):=λz=>q6 (beq_iff_eq.mpr z);refine L6 (λq7=>?_) (λq7=>?_)
     .exact BC {g3.set _,AL,_,_,_,_,_,_,rfl,m,by lia,UM,by lia}
     .exact BC {g3.set _,_,_,_,_,_,_,rfl,m,by lia,UM,by rw[if_neg (EN (N3 _))];lia}
    case post2 =>
     intro c KY H;refine Zb (c:=c) H λg3 r na nb out gg ac bc hr=>?_;cases r with
     |some r=>exact BC {g3,r,_,_,_,_,rfl,hr}
     |none=>have m:=hr.1;have h1:=hr.2.1;have h2:=hr.2.2.1;have h3:=hr.2.2.2;exact Cg (BC {g3.set _,_,_,_,_,rfl,m,h1,h2,h3})
end
def Seg(L:CO->CO->Bool)(a:Array CO)(i n:Nat):Prop:=∀(p q:Nat) (hq:q<a.size) (OF:p<q),i<=p->q<i+n->L a[q] (a[p]'(DB OF hq))=AE
theorem zZ8{a c:Array CO}(h:sa+c.size<=a.size):(c.toList.zipIdx.foldl (λa (p:CO×Nat)=>a.setIfInBounds (sa+p.2) p.1) a).size=a.size /\ ∀(p:Nat) (hp:p<(c.toList.zipIdx.foldl (λa (p:CO×Nat)=>a.setIfInBounds (sa+p.2) p.1) a).size) (fL:p<a.size),(c.toList.zipIdx.foldl (λa (p:CO×Nat)=>a.setIfInBounds (sa+p.2) p.1) a)[p]=if h:sa<=p/\p-sa<c.size then c[p-sa]'h.2 else a[p]:=by
 have e:=Sz c.toList a sa 0 (by simpa using h);generalize c.toList.zipIdx.foldl (λa p=>a.setIfInBounds (sa+p.2) p.1) a=r at e ⊢;rw[Z4 _] at e;have hs:r.size=a.size:=by have:=congrArg KP e;simp at this;lia
 refine{hs,λp hp fL=>?_};have e2:r.toList[p]?=(a.toList.take sa++c.toList++a.toList.drop (sa+c.toList.length))[p]?:=by rw[e]
 rw[DF,getElem?_pos r p hp] at e2;have hl:(a.toList.take sa).length=sa:=by simp;lia
 by_cases h1:p<sa
 .rw[dif_neg 'L'];rw[C0,CD 'L',XF h1,DF,getElem?_pos a p fL] at e2;exact BJ e2
 .by_cases h2:p-sa<c.size
  .rw[dif_pos {IU h1,h2}];rw[C0,CZ 'L',hl,CD (by simpa using h2),DF,getElem?_pos c (p-sa) h2] at e2;exact BJ e2
  .rw[dif_neg 'L'];rw[C0,CZ 'L',hl,CZ (by simp;lia),FN] at e2;rw[show sa+c.toList.length+(p-sa-c.toList.length)=p by simp;lia,DF,getElem?_pos a p fL] at e2;exact BJ e2
section
variable{E:AI->AN->Prop}
theorem Fy{a:Array CO}(hx:x∈a.extract i j):∃(p:Nat) (hp:p<a.size),i<=p/\p<j/\x=a[p]:=by rw[Array.mem_iff_getElem] at hx;have{k,hk,rfl}:=hx;rw[JG] at hk;exact{i+k,by lia,A5 _ _,by lia,by simp}
theorem yKN{P NU:Prop}(h1:P->NU)(h2:P):NU:=h1 h2
theorem zOB{st:BZ}{i sa na sb nb pa pb:Nat}{Q:Bool->BZ->Prop}(hA:XJ prog w A s kd CF L)(O:Ord L CF)(hB:SB CF kd st)(e1:(DS st)[i]?=AA (sa,na,pa))(e2:(DS st)[i+1]?=AA (sb,nb,pb)) (h1:1<=na) (h2:1<=nb) (xS:sb=sa+na) (hz:sb+nb<=CF.size) (ga:Seg L (A1 st) sa na) (gb:Seg L (A1 st) sb nb) (h:∀C5,SB CF kd C5->DS C5=((DS st).setIfInBounds i (sa,na+nb,pa)).eraseIdxIfInBounds (i+1)->Seg L (A1 C5) sa (na+nb) ->(∀(p:Nat) (hp:p<(A1 C5).size) (fL:p<(A1 st).size),p<sa\/sa+(na+nb)<=p->(A1 C5)[p]=(A1 st)[p])->Q AQ C5) : NX (A9 prog w) A E s (mergeAt' i) Q st:=by
 refine BI (NN ?_);rw[e1,e2];have MW:=hB.size;have WD:∀x∈A1 st,x∈CF:=λx hx=>hB.perm.mem_iff.mp hx;have mm:∀(p:Nat) (hp:p<(A1 st).size),(A1 st)[p]∈CF:=λp hp=>WD _ (AG hp);refine BI (zZY ?_);have tX:SB CF kd (setPending st (((DS st).setIfInBounds i (sa,na+nb,pa)).eraseIdxIfInBounds (i+1))):={hB.perm,hB.kind,hB.failed};have fK:sb<(A1 st).size:=by lia
 -- b's first is at EA the others of b;a's last is at Zu the others of a
 have b0:∀(q:Nat) (hq:q<(A1 st).size),sb<=q->q<sb+nb->L (A1 st)[q] (A1 st)[sb]=AE:=λq hq h3 h4=>by
  rcases DQ h3 with z|z
  .exact gb sb q hq z (AM _) h4
  .subst z;exact O.refl (mm _ _)
 have Ed:sa+na-1<(A1 st).size:=by lia
 have aL:∀(p:Nat) (hp:p<(A1 st).size),sa<=p->p<sa+na->L (A1 st)[sa+na-1] (A1 st)[p]=AE:=λp hp h3 h4=>by
  rcases DQ (show p<=sa+na-1 by lia) with z|z
  .exact ga p (sa+na-1) Ed z h3 'L'
  .subst z;exact O.refl (mm _ _)
 refine BI (rL (IB:=A1 st) (fK) (BI (Vz (IB:=A1 st) hA O tX.kind (WD _ (AG _)) WD 'L' (FY h1) (λi j hj MR W4=>ga (sa+i) (sa+j) hj (A6 MR _) (A5 _ _) (A6 W4 _)) λk hk c1 c2=>?_)));have k4:∀(p:Nat) (hp:p<(A1 st).size),sa<=p->p<sa+k->L (A1 st)[sb] (A1 st)[p]=AE:=λp hp h3 h4=>by have z:=c1 (p-sa) 'L' 'L';simpa[show sa+(p-sa)=p by lia] using z
 have qR:∀(p:Nat) (hp:p<(A1 st).size),sa+k<=p->p<sa+na->L (A1 st)[sb] (A1 st)[p]=AQ:=λp hp h3 h4=>by have z:=c2 (p-sa) 'L' 'L' 'L';simpa[show sa+(p-sa)=p by lia] using z
 refine L6 (λq=>?_) (λq=>?_)
 .have q':na-k=0:=beq_iff_eq.mp q;refine BC (h _ tX rfl (λp r hr W3 h3 h4=>?_) λp hp fL _=>rfl);by_cases yX:r<sa+na
  .exact ga p r hr W3 h3 yX
  .by_cases X8:sb<=p
   .exact gb p r hr W3 X8 'L'
   .exact O.trans _ _ _ (mm p (DB W3 hr)) (mm sb fK) (mm r hr) (k4 p (DB W3 hr) h3 'L') (b0 r hr 'L' 'L')
 have q':¬(na-k=0):=λz=>q (beq_iff_eq.mpr z);refine BI (rL (IB:=A1 st) 'L' (BI (Vy (IB:=A1 st) hA O tX.kind (WD _ (AG _)) WD 'L' 'L' (λi j hj MR W4=>gb (sb+i) (sb+j) hj (A6 MR _) (A5 _ _) (A6 W4 _)) λm hm d1 d2=>?_)));have eal:sa+k+(na-k)-1=sa+na-1:=by lia
 have qN:∀(r:Nat) (hr:r<(A1 st).size),sb<=r->r<sb+m->L (A1 st)[r] (A1 st)[sa+na-1]=AQ:=λr hr h3 h4=>by have z:=d1 (r-sb) 'L' 'L';simpa[show sb+(r-sb)=r by lia,eal] using z
 have d2':∀(r:Nat) (hr:r<(A1 st).size),sb+m<=r->r<sb+nb->L (A1 st)[r] (A1 st)[sa+na-1]=AE:=λr hr h3 h4=>by have z:=d2 (r-sb) 'L' 'L' 'L';simpa[show sb+(r-sb)=r by lia,eal] using z
 refine L6 (λr=>?_) (λr=>?_)
 .have r':m=0:=beq_iff_eq.mp r;refine BC (h _ tX rfl (λp r hr W3 h3 h4=>?_) λp hp fL _=>rfl);by_cases yX:r<sa+na
  .exact ga p r hr W3 h3 yX
  .by_cases X8:sb<=p
   .exact gb p r hr W3 X8 'L'
   .exact O.trans _ _ _ (mm p (DB W3 hr)) (mm _ Ed) (mm r hr) (aL p (DB W3 hr) h3 'L') (d2' r hr 'L' 'L')
 have r':¬(m=0):=λz=>r (beq_iff_eq.mpr z);have ex:∀i j x,x∈(A1 st).extract i j->x∈CF:=λi j x hx=>by have{p,hp,_,_,rfl}:=Fy hx;exact mm p hp
 have zx:((A1 st).extract (sa+k) sb).size=na-k:=by rw[JG];lia
 have zy:((A1 st).extract sb (sb+m)).size=m:=by rw[JG];lia
 have sx:SA L ((A1 st).extract (sa+k) sb):=λi j hj MR=>by rw[zx] at hj;simpa using ga (sa+k+i) (sa+k+j) 'L' (A6 MR _) 'L' 'L'
 have sy:SA L ((A1 st).extract sb (sb+m)):=λi j hj MR=>by rw[zy] at hj;simpa using gb (sb+i) (sb+j) 'L' (A6 MR _) (A5 _ _) (A6 (AO hj hm) _)
 have hf:∀(i:Nat) (hi:i<((A1 st).extract (sa+k) sb).size),L ((A1 st).extract (sa+k) sb)[i] (((A1 st).extract sb (sb+m))[0]'(by lia))=AE:=λi hi=>by have z:=O.asym _ _ (mm sb fK) (mm (sa+k+i) 'L') (qR (sa+k+i) 'L' (A5 _ _) 'L');simpa using z
 have hl:∀(j:Nat) (hj:j<((A1 st).extract sb (sb+m)).size),L (((A1 st).extract (sa+k) sb)[((A1 st).extract (sa+k) sb).size-1]'(by lia)) ((A1 st).extract sb (sb+m))[j]=AE:=λj hj=>by have z:=O.asym _ _ (mm (sb+j) 'L') (mm (sa+na-1) Ed) (qN (sb+j) 'L' (A5 _ _) 'L');simpa[zx,show sa+k+(na-k-1)=sa+na-1 by lia] using z
 refine yKN (λK=>L6 (λ_=>BI (zN8 (a:=(A1 st).extract (sa+k) sb) (b:=(A1 st).extract sb (sb+m)) hA O tX.kind (ex _ _) (ex _ _) 'L' 'L' sx sy hf hl K)) (λ_=>BI (zN9 (a:=(A1 st).extract (sa+k) sb) (b:=(A1 st).extract sb (sb+m)) hA O tX.kind (ex _ _) (ex _ _) 'L' 'L' sx sy hf hl K))) ?_;rintro c C5 ⟨g,rfl⟩ hp pV;refine BI (M5 (BI (NN (BC ?_))));have hn:(k7 st).isNone=AQ:=by rw[hB.failed];rfl
 show Q (k7 st).isNone _;rw[hn];have Q8:c.size=na-k+m:=by rw[hp.size_eq,HV,zx,zy]
 have{os,Mo}:=zZ8 (a:=A1 st) (c:=c) (sa:=sa+k) 'L';have zC:∀(j:Nat) (hj:j<c.size),(∃(p:Nat) (hp:p<(A1 st).size),sa+k<=p/\p<sb/\c[j]=(A1 st)[p])\/∃(p:Nat) (hp:p<(A1 st).size),sb<=p/\p<sb+m/\c[j]=(A1 st)[p]:=λj hj=>by
  have hx:c[j]∈(A1 st).extract (sa+k) sb++(A1 st).extract sb (sb+m):=hp.mem_iff.mp (AG hj);rcases Array.mem_append.mp hx with hx|hx
  .exact .inl (Fy hx)
  .exact .inr (Fy hx)
 refine h _ {(zSJ 'L' 'L' hp).trans hB.perm,hB.kind,hB.failed} rfl (λp r hr W3 h3 h4=>?_) λp hpp Nn hor=>?_
 .have X4:r<(A1 st).size:=by rw[<-os];exact hr
  show L (_:Array CO)[r] (_:Array CO)[p]=AE;rw[Mo r hr X4,Mo p (DB W3 hr) (DB W3 X4)];by_cases iQ:p<sa+k
  .rw[dif_neg (show ¬(sa+k<=p/\p-(sa+k)<c.size) by lia)];by_cases Dq:r<sa+k
   .rw[dif_neg (show ¬(sa+k<=r/\r-(sa+k)<c.size) by lia)];exact ga p r X4 W3 h3 (AO Dq (EY (AM _) hk))
   .by_cases xV:r-(sa+k)<c.size
    .rw[dif_pos (show sa+k<=r/\r-(sa+k)<c.size from{IU Dq,xV})];rcases zC _ xV with⟨u,hu,u1,u2,eu⟩|⟨u,hu,u1,u2,eu⟩
     .rw[eu];exact ga p u hu (AO iQ u1) h3 (AO u2 (DG xS))
     .rw[eu];exact O.trans _ _ _ (mm p (DB W3 X4)) (mm sb fK) (mm u hu) (k4 p (DB W3 X4) h3 iQ) (b0 u hu u1 (AO u2 (EY (AM _) hm)))
    .rw[dif_neg (show ¬(sa+k<=r/\r-(sa+k)<c.size) by lia)];exact O.trans _ _ _ (mm p (DB W3 X4)) (mm sb fK) (mm r X4) (k4 p (DB W3 X4) h3 iQ) (b0 r X4 'L' 'L')
  .by_cases ZI:p-(sa+k)<c.size
   .rw[dif_pos (show sa+k<=p/\p-(sa+k)<c.size from{IU iQ,ZI})];by_cases xV:r-(sa+k)<c.size
    .rw[dif_pos (show sa+k<=r/\r-(sa+k)<c.size from{by lia,xV})];have z:=B9.mp pV (p-(sa+k)) (r-(sa+k)) (by simpa using ZI) (by simpa using xV) 'L';simpa using z
    .rw[dif_neg (show ¬(sa+k<=r/\r-(sa+k)<c.size) by lia)];rcases zC _ ZI with⟨u,hu,u1,u2,eu⟩|⟨u,hu,u1,u2,eu⟩
     .rw[eu];exact O.trans _ _ _ (mm u hu) (mm _ Ed) (mm r X4) (aL u hu (A0 (A5 _ _) u1) (AO u2 (DG xS))) (d2' r X4 'L' 'L')
     .rw[eu];exact gb u r X4 'L' u1 'L'
   .rw[dif_neg (show ¬(sa+k<=p/\p-(sa+k)<c.size) by lia),dif_neg (show ¬(sa+k<=r/\r-(sa+k)<c.size) by lia)];exact gb p r X4 W3 'L' 'L'
 .show(_:Array CO)[p]=_;rw[Mo p hpp Nn,dif_neg (show ¬(sa+k<=p/\p-(sa+k)<c.size) by lia)]
end
theorem seg_iff:Seg L a i n↔∀p q x y,p<q->i<=p->q<i+n->a[p]?=AA x->a[q]?=AA y->L y x=AE:=by
 constructor
 .intro h p q x y OF hi hq ex ey;have{h1,rfl}:=CY.mp ex;have{h2,rfl}:=CY.mp ey;exact h p q h2 OF hi hq
 .intro h p q hq OF hi hn;exact h p q _ _ OF hi hn (getElem?_pos a p (DB OF hq)) (getElem?_pos a q hq)
section
variable{E:AI->AN->Prop}
theorem rP{st:BZ}{Q:Option Bool->BZ->Prop}(hA:XJ prog w A s kd CF L)(hB:SB CF kd st)(hi:i<(A1 st).size)(hj:j<(A1 st).size)(h:Q (AA (L (A1 st)[i] (A1 st)[j])) st) : NX (A9 prog w) A E s (ltAt' i j) Q st:=by rw[ltAt'_eq];refine BI (NN ?_);exact BI (rL hi (BI (rL hj (Ap hA hB.kind (hB.mem hi) (hB.mem hj) h))))
theorem zI1{st:BZ}{lo n ok:Nat}{Q:Bool->BZ->Prop}(hA:XJ prog w A s kd CF L)(O:Ord L CF)(hn:lo+n<=CF.size)(hok:ok<=n)(h1:1<=n)(hB:SB CF kd st)(hs:Seg L (A1 st) lo ok) (h:∀C5,SB CF kd C5->DS C5=DS st->Seg L (A1 C5) lo n->(∀p,p<lo->(A1 C5)[p]?=(A1 st)[p]?)->Q AQ C5):NX (A9 prog w) A E s (binarySort' lo n ok) Q st:=by
 rw[binarySort'_eq];refine BI (JQ (FV (I:=λk c C5=>c=(AL,())/\SB CF kd C5/\DS C5=DS st/\Seg L (A1 C5) lo k/\∀p,p<lo->(A1 C5)[p]?=(A1 st)[p]?)
  (Q:=λc C5=>c=(AL,())/\SB CF kd C5/\DS C5=DS st/\Seg L (A1 C5) lo n/\∀p,p<lo->(A1 C5)[p]?=(A1 st)[p]?) ?step ?fin {rfl,hB,rfl,?ini,λ_ _=>rfl}) ?post)
 case ini=>intro p q hq OF hp pU;exact hs p q hq OF hp 'O'
 case fin=>intro c C5 zz';have{e,nB,hp,PR,ho}:=zz';refine{e,nB,hp,λp q hq OF hp pU=>PR p q hq OF hp ?_,ho};omega
 case post=>intro c C5 zz';have{rfl,nB,hp,PR,ho}:=zz';exact BC (h C5 nB hp PR ho)
 case step =>
  intro k c C5 hak hkn zz';have{rfl,nB,hp,PR,ho}:=zz';have MW:=nB.size;have aU:lo+k<(A1 C5).size:=by omega
  have mm:∀(p:Nat) (hp:p<(A1 C5).size),(A1 C5)[p]∈CF:=λp hp=>nB.mem hp;refine BI (JQ (FV (I:=λx c PK=>PK=C5/\∃l r,c=(AL,l,r)/\l<=r/\r<=k/\(∀(p:Nat) (hp:lo+p<(A1 C5).size),p<l->L (A1 C5)[lo+k] (A1 C5)[lo+p]=AE)/\(∀(p:Nat) (hp:lo+p<(A1 C5).size),r<=p->p<k->L (A1 C5)[lo+k] (A1 C5)[lo+p]=AQ)/\r-l+x<=k)
   (Q:=λc PK=>PK=C5/\∃l r,c=(AL,l,r)/\l<=k/\(∀(p:Nat) (hp:lo+p<(A1 C5).size),p<l->L (A1 C5)[lo+k] (A1 C5)[lo+p]=AE)/\(∀(p:Nat) (hp:lo+p<(A1 C5).size),l<=p->p<k->L (A1 C5)[lo+k] (A1 C5)[lo+p]=AQ)) ?istep
   ((λc PK q0=>by have{e,l,r,e2,q1,q2,q3,q4,q5}:=q0;exact{e,l,r,e2,A0 q1 q2,q3,λp hp h1 h2=>q4 p hp 'O' h2})) {rfl,0,k,rfl,BN _,AM _,λp hp h=>by omega,λp hp h1 h2=>by omega,by omega}) ?ipost)
  case istep =>
   intro x c PK _ hxk zz';have{rfl,l,r,rfl,q1,q2,q3,q4,q5}:=zz';by_cases bS:l>=r
   .rw[if_pos bS];exact BC {rfl,l,r,rfl,A0 q1 q2,q3,λp hp h1 h2=>q4 p hp 'O' h2}
   .rw[if_neg bS];have hm:lo+(l+r) / 2<(A1 PK).size:=by omega
    refine BI (rP hA nB aU hm ?_);cases e:L (A1 PK)[lo+k] (A1 PK)[lo+(l+r) / 2] with
    |true =>
     refine BC {rfl,l,(l+r) / 2,rfl,by omega,by omega,q3,λp hp h1 h2=>?_,by omega};cases e3:L (A1 PK)[lo+k] (A1 PK)[lo+p] with
     |true=>rfl
     |false =>
      rcases DQ h1 with z|z
      .rw[O.trans _ _ _ (mm _ hm) (mm _ hp) (mm _ aU) (PR (lo+(l+r) / 2) (lo+p) hp (A6 z _) (A5 _ _) (A6 h2 _)) e3] at e;cases e
      .subst z;rw[e] at e3;cases e3
    |false =>
     refine BC {rfl,(l+r) / 2+1,r,rfl,by omega,q2,λp hp h1=>?_,q4,by omega};rcases DQ (show p<=(l+r) / 2 from ID h1) with z|z
     .exact O.trans _ _ _ (mm _ hp) (mm _ hm) (mm _ aU) (PR (lo+p) (lo+(l+r) / 2) hm (A6 z _) (A5 _ _) 'O') e
     .subst z;exact e
  case ipost =>
   intro c PK zz';have{rfl,l,r,rfl,hl,q3,q4}:=zz';show NX _ _ _ _ (do moveDown' (lo+k) (lo+l);pure (QZ (AL,()))) _ _;rw[moveDown'_eq];have bu:=getElem?_bubble (xs:=A1 PK) aU (lo+k-(lo+l)) (DJ _ _);refine BI (M5 (BC {rfl,nB.setArr (bubble_perm _ _ _),hp,?_,λp ZI=>?_}))
   .show Seg L (bubble (A1 PK) (lo+k) (lo+k-(lo+l))) lo (k+1);have Nm:=seg_iff.mp PR;rw[seg_iff];intro p q x y OF hlp pU ex ey;rw[bu] at ex ey;rw[show lo+k-(lo+k-(lo+l))=lo+l by omega] at ex ey;by_cases iQ:p=lo+l
    .rw[if_pos iQ] at ex;rw[if_neg 'O',if_pos 'O'] at ey;have{z1,rfl}:=CY.mp ex;have{z2,rfl}:=CY.mp ey;have z:=q4 (q-1-lo) 'O' 'O' 'O';have e:lo+(q-1-lo)=q-1:=by omega
     simp only[e] at z;exact O.asym _ _ (mm _ z1) (mm _ z2) z
    .rw[if_neg iQ] at ex;by_cases W1:q=lo+l
     .rw[if_pos W1] at ey;rw[if_neg 'O'] at ex;have{z1,rfl}:=CY.mp ex;have{z2,rfl}:=CY.mp ey;have z:=q3 (p-lo) 'O' 'O';have e:lo+(p-lo)=p:=by omega
      simp only[e] at z;exact z
     .rw[if_neg W1] at ey;by_cases ZI:lo+l<p/\p<=lo+k
      .rw[if_pos ZI] at ex;rw[if_pos 'O'] at ey;exact Nm (p-1) (q-1) x y 'O' 'O' 'O' ex ey
      .rw[if_neg ZI] at ex;by_cases cW:lo+l<q/\q<=lo+k
       .rw[if_pos cW] at ey;exact Nm p (q-1) x y 'O' (hlp) 'O' ex ey
       .rw[if_neg cW] at ey;exact Nm p q x y (OF) (hlp) 'O' ex ey
   .show(bubble (A1 PK) (lo+k) (lo+k-(lo+l)))[p]?=_;rw[bu,if_neg 'O',if_neg 'O'];exact ho p ZI
end
section
def Desc(L:CO->CO->Bool)(a:Array CO)(i n:Nat):Prop:=∀p q x y,p<q->i<=p->q<i+n->a[p]?=AA x->a[q]?=AA y->L x y=AE
def Blk(L:CO->CO->Bool)(a:Array CO)(i j:Nat):Prop:=∀p q x y,i<=p->p<j->i<=q->q<j->a[p]?=AA x->a[q]?=AA y->L x y=AE
theorem mir(hj:j<=xs.size)(k:Nat):(QU xs i j ((j-i) / 2))[k]?=if i<=k/\k<j then xs[i+j-1-k]? else xs[k]?:=getElem?_mirror_all hj k
theorem Desc.blk{lo n i:Nat}(d:Desc L a lo n)(hi:lo<=i)(hj:lo+n<=a.size)(b:Blk L a i (lo+n)):Desc L (QU a i (lo+n) ((lo+n-i) / 2)) lo n:=by
 intro p q x y OF hp hq ex ey;rw[mir hj] at ex ey;by_cases iQ:i<=p/\p<lo+n
 .rw[if_pos iQ] at ex;rw[if_pos 'L'] at ey;exact b _ _ x y 'L' 'L' 'L' 'L' ex ey
 .rw[if_neg iQ] at ex;by_cases W1:i<=q/\q<lo+n
  .rw[if_pos W1] at ey;exact d p _ x y 'L' hp 'L' ex ey
  .rw[if_neg W1] at ey;exact d p q x y OF hp hq ex ey
theorem Desc.rev{lo n:Nat}(d:Desc L a lo n)(hj:lo+n<=a.size):Seg L (QU a lo (lo+n) ((lo+n-lo) / 2)) lo n:=by rw[seg_iff];intro p q x y OF hp hq ex ey;rw[mir hj] at ex ey;rw[if_pos 'L'] at ex ey;exact d _ _ y x 'L' 'L' 'L' ey ex
theorem Seg.more{lo n:Nat}(O:Ord L CF)(hm:∀x∈a,x∈CF)(s:Seg L a lo n)(h1:1<=n)(hs:lo+n<a.size)(h:L a[lo+n] (a[lo+n-1]'(AR (DJ _ _) hs))=AE):Seg L a lo (n+1):=by
 intro p q hq OF hp pU;rcases DQ (show q<=lo+n by lia) with z|z
 .exact s p q hq OF hp z
 .subst z;rcases DQ (show p<=lo+n-1 by lia) with z|z
  .exact O.trans _ _ _ (hm _ (AG _)) (hm _ (AG _)) (hm _ (AG hs)) (s p (lo+n-1) (AR (DJ _ _) hs) z hp 'L') h
  .subst z;exact h
theorem Desc.snoc{lo n:Nat}(d:Desc L a lo n)(h:∀p z,lo<=p->p<lo+n->a[p]?=AA z->L z y=AE)(e:a[lo+n]?=AA y):Desc L a lo (n+1):=λp q x y' OF hp hq ex ey=>by
 rcases DQ (show q<=lo+n by lia) with z|z
 .exact d p q x y' OF hp z ex ey
 .subst z;rw[e] at ey;cases ey;exact h p x hp (OF) ex
theorem Su{lo n i:Nat}{P:CO->Prop}(hj:lo+n<=a.size)(hi:lo<=i)(h:∀p z,lo<=p->p<lo+n->a[p]?=AA z->P z):∀p z,lo<=p->p<lo+n->(QU a i (lo+n) ((lo+n-i) / 2))[p]?=AA z->P z:=λp z h1 h2 e=>by
 rw[mir hj] at e;split at e
 .exact h _ z 'L' 'L' e
 .exact h p z h1 h2 e
theorem Blk.mir(b:Blk L a i j)(hj:j<=a.size):Blk L (QU a i j ((j-i) / 2)) i j:=λp q x y h1 h2 h3 h4 ex ey=>by rw[_T.mir hj,if_pos {h1,h2}] at ex;rw[_T.mir hj,if_pos {h3,h4}] at ey;exact b _ _ x y 'L' 'L' 'L' 'L' ex ey
theorem Blk.one(O:Ord L CF)(hm:∀x∈a,x∈CF):Blk L a i (i+1):=λp q x y h1 h2 h3 h4 ex ey=>by
 have e1:p=i:=by lia
 have e2:q=i:=by lia
 subst e1;subst e2;rw[ex] at ey;cases ey;exact O.refl (hm _ (Array.mem_of_getElem? ex))
theorem Seg.one{lo:Nat}:Seg L a lo 1:=λp q hq OF hp pU=>by lia
end
section
variable{E:AI->AN->Prop}
def KpO(CF:Array CO)(kd:Z3)(lo:Nat)(st C5:BZ):Prop:=Kp CF kd st C5/\∀p,p<lo->(A1 C5)[p]?=(A1 st)[p]?
theorem KpO.rev{st C5:BZ}{lo i j:Nat}(h:KpO CF kd lo st C5)(hi:lo<=i)(hj:j<=CF.size):KpO CF kd lo st (setArr C5 (QU (A1 C5) i j ((j-i) / 2))):=by refine{h.1.rev,λp hp=>?_};rw[mir (by rw[h.1.1.size];exact hj),if_neg 'L'];exact h.2 p hp
theorem Yv{α:Type}{T:StateT BZ dE α}{E:AI->AN->Prop}{Q:α->BZ->Prop}{NU:Prop}(P:BZ->Prop)(h1:(∀st,P st->NX M A E s T Q st)->NU)(h2:∀st,P st->NX M A E s T Q st):NU:=h1 h2
theorem zMI{st:BZ}{lo RQ:Nat}{Q:Option Nat->BZ->Prop}(hA:XJ prog w A s kd CF L)(O:Ord L CF)(hn:lo+RQ<=CF.size)(h1:1<=RQ)(hB:SB CF kd st) (h:∀m C5,KpO CF kd lo st C5->1<=m->m<=RQ->Seg L (A1 C5) lo m->Q (AA m) C5):NX (A9 prog w) A E s (countRun' lo RQ) Q st:=by
 have k0:KpO CF kd lo st st:={{hB,rfl},λ_ _=>rfl};have MW:=hB.size;have mm:∀x∈A1 st,x∈CF:=λx hx=>hB.perm.mem_iff.mp hx;refine BI (JQ (FV (I:=λx c C5=>C5=st/\c=(AL,x)/\Seg L (A1 st) lo x) (Q:=λc C5=>C5=st/\∃n,c=(AL,n)/\1<=n/\n<=RQ/\Seg L (A1 st) lo n/\(n=RQ\/∃(hx:lo+n<(A1 st).size),L (A1 st)[lo+n] ((A1 st)[lo+n-1]'(AR (DJ _ _) hx))=AQ)) ?s1 ?f1 {rfl,rfl,Seg.one}) ?p1)
 case f1=>intro c C5 zz';have{rfl,rfl,sg}:=zz';have e:(if 1<=RQ then RQ else 1)=RQ:=if_pos h1;exact{rfl,_,rfl,nL _ _,by lia,sg,.inl 'L'}
 case s1 =>
  intro x c C5 qF xL zz';have{rfl,rfl,sg}:=zz';have RT:lo+x<(A1 C5).size:=by lia
  refine BI (rP hA hB RT (show lo+x-1<(A1 C5).size from AR (DJ _ _) RT) ?_);cases e:L (A1 C5)[lo+x] ((A1 C5)[lo+x-1]'(AR (DJ _ _) RT)) with
  |true=>exact BC {rfl,x,rfl,qF,CS xL,sg,.inr {RT,e}}
  |false=>exact BC {rfl,rfl,sg.more O mm qF RT e}
 case p1 =>
  intro c C5 zz';have{rfl,n,rfl,hn1,bR,sg,hor}:=zz';refine L6 (λq=>?_) (λq=>?_)
  .exact BC (h n _ k0 hn1 bR sg)
  have q':¬(n=RQ):=λz=>q (beq_iff_eq.mpr z);obtain⟨RT,yF⟩:∃(hx:lo+n<(A1 C5).size),L (A1 C5)[lo+n] ((A1 C5)[lo+n-1]'(AR (DJ _ _) hx))=AQ:=by
   rcases hor with z|z
   .exact absurd z q'
   .exact z
  -- the first n are alike,and the next is below
  have start:∀st1,KpO CF kd lo C5 st1->Blk L (A1 st1) lo (lo+n)->(∀p x,lo<=p->p<lo+n->(A1 st1)[p]?=AA x->L x (A1 C5)[lo+n]=AE)->(A1 st1)[lo+n]?=(A1 C5)[lo+n]?->Desc L (A1 st1) lo (n+1):=λst1 k1 bl WD he p q x y OF hp hq ex ey=>by
   rcases DQ (show q<=lo+n by lia) with z|z
   .exact bl p q x y hp (DB OF z) (CS (AR hp OF)) z ex ey
   .subst z;rw[he,getElem?_pos (A1 C5) (lo+n) RT] at ey;cases ey;exact WD p x hp (OF) ex
  have Pn:∀(Dr:n=1\/L ((A1 C5)[lo]'(AR (A5 _ _) RT)) ((A1 C5)[lo+n-1]'(AR (DJ _ _) RT))=AE),Blk L (A1 C5) lo (lo+n):=λDr p q x y hp ZI hq cW ex ey=>by
   have{z1,rfl}:=CY.mp ex;have{z2,rfl}:=CY.mp ey;have le:∀(u v:Nat) (hv:v<(A1 C5).size) (Nh:u<=v),lo<=u->v<lo+n->L (A1 C5)[v] ((A1 C5)[u]'(AR Nh hv))=AE:=λu v hv Nh h3 h4=>by
    rcases DQ Nh with z|z
    .exact sg u v hv z h3 h4
    .subst z;exact O.refl (mm _ (AG _))
   rcases Dr with z|z
   .have e1:p=lo:=by lia
    have e2:q=lo:=by lia
    subst e1;subst e2;exact O.refl (mm _ (AG _))
   ·-- y<=last<=first<=x turned: y at EA x
    have a1:=le q (lo+n-1) (AR (DJ _ _) RT) 'L' hq 'L';have a2:=le lo p z1 hp (AM _) ZI;exact O.trans _ _ _ (mm _ (AG z2)) (mm _ (AG (show lo<(A1 C5).size from AR (A5 _ _) RT))) (mm _ (AG z1))
     (O.trans _ _ _ (mm _ (AG z2)) (mm _ (AG (show lo+n-1<(A1 C5).size from AR (DJ _ _) RT))) (mm _ (AG (show lo<(A1 C5).size from AR (A5 _ _) RT))) a1 z) a2
  have zH:Blk L (A1 C5) lo (lo+n)->∀p x,lo<=p->p<lo+n->(A1 C5)[p]?=AA x->L x (A1 C5)[lo+n]=AE:=λbl p x hp ZI ex=>by have{z1,rfl}:=CY.mp ex;have a1:=O.asym _ _ (mm _ (AG RT)) (mm _ (AG (show lo+n-1<(A1 C5).size from AR (DJ _ _) RT))) yF;have a2:=bl p (lo+n-1) _ _ hp ZI 'L' 'L' (getElem?_pos (A1 C5) p z1) (getElem?_pos (A1 C5) (lo+n-1) (AR (DJ _ _) RT));exact O.trans _ _ _ (mm _ (AG RT)) (mm _ (AG (show lo+n-1<(A1 C5).size from AR (DJ _ _) RT))) (mm _ (AG z1)) a1 a2
  refine Yv (λst1=>KpO CF kd lo C5 st1/\Desc L (A1 st1) lo (n+1)) (λK=>by
   refine L6 (λq1=>?_) (λq1=>?_)
   case refine_2=>exact K _ {k0,start _ k0 (Pn (.inl 'L')) (zH (Pn (.inl 'L'))) rfl}
   case refine_1 =>
    refine BI (rP hA hB (show lo<(A1 C5).size from AR (A5 _ _) RT) (show lo+n-1<(A1 C5).size from AR (DJ _ _) RT) ?_);cases eq1:L ((A1 C5)[lo]'(AR (A5 _ _) RT)) ((A1 C5)[lo+n-1]'(AR (DJ _ _) RT))
    case true=>exact BC (h n _ k0 hn1 bR sg)
    refine BI (Aq ?_);have bl:=Pn (.inr eq1);have k1:=k0.rev (i:=lo) (j:=lo+n) (AM _) (A0 (EY (AM _) bR) hn);exact K _ {k1,start _ k1 (Blk.mir (i:=lo) (j:=lo+n) bl (CS RT)) (Su (CS RT) (AM _) (zH bl)) (by show(QU (A1 C5) lo (lo+n) ((lo+n-lo) / 2))[lo+n]?=_;rw[mir (CS RT),if_neg 'L'])}) ?_
  intro st1 zz';have{k1,D1}:=zz';refine BI (QO (EM {rfl,?_}));have mk:∀st2,KpO CF kd lo C5 st2->∀x∈A1 st2,x∈CF:=λst2 k x hx=>k.1.1.perm.mem_iff.mp hx;refine BI (JQ (FV (I:=λx c st2=>∃WZ,c=(AL,x,WZ)/\KpO CF kd lo C5 st2/\Desc L (A1 st2) lo x/\WZ+1<=x/\Blk L (A1 st2) (lo+x-(WZ+1)) (lo+x))
   (Q:=λc st2=>∃m WZ,c=(AL,m,WZ)/\KpO CF kd lo C5 st2/\n+1<=m/\m<=RQ/\Desc L (A1 st2) lo m/\WZ+1<=m/\Blk L (A1 st2) (lo+m-(WZ+1)) (lo+m)) ?s2 ?f2 {0,rfl,k1,D1,DU _ _,Blk.one O (mk _ k1)}) ?p2)
  case f2=>intro c st2 zz';have{WZ,rfl,k,D,SK,bk}:=zz';exact{_,WZ,rfl,k,nL _ _,by lia,D,SK,bk}
  case s2 =>
   intro x c st2 qF xL zz';have{WZ,rfl,k,D,SK,bk}:=zz';have cU:=k.1.1.size;have m2:=mk _ k;have UJ:lo+x<(A1 st2).size:=by lia
   have pP:lo+x-1<(A1 st2).size:=AR (DJ _ _) UJ;have all1:L (A1 st2)[lo+x-1] (A1 st2)[lo+x]=AE->∀p z,lo<=p->p<lo+x->(A1 st2)[p]?=AA z->L z (A1 st2)[lo+x]=AE:=λe p z hp ZI ez=>by
    have{z1,rfl}:=CY.mp ez;rcases DQ (show p<=lo+x-1 by lia) with u|u
    .exact O.trans _ _ _ (m2 _ (AG UJ)) (m2 _ (AG pP)) (m2 _ (AG z1)) e (D p (lo+x-1) _ _ u hp 'L' ez (getElem?_pos (A1 st2) (lo+x-1) pP))
    .subst u;exact e
   refine BI (rP hA k.1.1 UJ pP ?_);cases e:L (A1 st2)[lo+x] (A1 st2)[lo+x-1] with
   |true =>
    have al:=all1 (O.asym _ _ (m2 _ (AG UJ)) (m2 _ (AG pP)) e);simp only[if_true];refine L6 (λ_=>?_) (λ_=>?_)
    .have k':=k.rev (i:=lo+x-(WZ+1)) (j:=lo+x) 'L' 'L';refine BI (Aq (BC {0,rfl,k',?_,DU _ _,Blk.one O (mk _ k')}));refine Desc.snoc (y:=(A1 st2)[lo+x]) (D.blk 'L' (CS UJ) bk) (Su (CS UJ) 'L' al) ?_;show(QU (A1 st2) (lo+x-(WZ+1)) (lo+x) ((lo+x-(lo+x-(WZ+1))) / 2))[lo+x]?=_;rw[mir (CS UJ),if_neg 'L'];exact getElem?_pos (A1 st2) (lo+x) UJ
    .exact BC {0,rfl,k,D.snoc al (getElem?_pos (A1 st2) (lo+x) UJ),DU _ _,Blk.one O m2}
   |false =>
    refine BI (rP hA k.1.1 pP UJ ?_);cases e2:L (A1 st2)[lo+x-1] (A1 st2)[lo+x] with
    |true=>exact BC {x,WZ,rfl,k,qF,CS xL,D,SK,bk}
    |false =>
     have al:=all1 e2;refine BC {WZ+1,rfl,k,D.snoc al (getElem?_pos (A1 st2) (lo+x) UJ),EY SK (AM _),λp q u v WG UM qI h4' eu ev=>?_};by_cases hp:p<lo+x
     .by_cases hq:q<lo+x
      .exact bk p q u v 'L' hp 'L' hq eu ev
      .have e3:q=lo+x:=by lia
       subst e3;rw[getElem?_pos (A1 st2) (lo+x) UJ] at ev;cases ev;exact al p u 'L' hp eu
     .have e3:p=lo+x:=by lia
      subst e3;rw[getElem?_pos (A1 st2) (lo+x) UJ] at eu;cases eu;by_cases hq:q<lo+x
      .have{z1,rfl}:=CY.mp ev;have a1:=bk (lo+x-1) q _ _ 'L' 'L' 'L' hq (getElem?_pos (A1 st2) (lo+x-1) pP) ev;exact O.trans _ _ _ (m2 _ (AG z1)) (m2 _ (AG pP)) (m2 _ (AG UJ)) a1 e
      .have e4:q=lo+x:=by lia
       subst e4;rw[getElem?_pos (A1 st2) (lo+x) UJ] at ev;cases ev;exact O.refl (m2 _ (AG UJ))
  case p2 =>
   intro c st2 zz';have{m,WZ,rfl,k2,aT,aS,D,SK,bk}:=zz';have cU:=k2.1.1.size;dsimp only;refine Yv (λst1=>KpO CF kd lo C5 st1/\Desc L (A1 st1) lo m) (λK=>by
    refine L6 (λ_=>?_) (λ_=>?_)
    case refine_2=>exact K _ {k2,D}
    case refine_1=>exact BI (Aq (K _ {k2.rev (i:=lo+m-(WZ+1)) (j:=lo+m) 'L' (A0 (EY (AM _) aS) hn),D.blk (i:=lo+m-(WZ+1)) 'L' 'L' bk}))) ?_
   intro st2 zz';have{k2,D}:=zz';have hz3:=k2.1.1.size;refine BI (Aq ?_);have sW:=Desc.rev D (by first|exact A0 (A0 (EY (AM _) aS) hn) (DG hz3.symm)|lia);have k3:=k2.rev (i:=lo) (j:=lo+m) (AM _) (A0 (EY (AM _) aS) hn);refine BI (JQ (FV (I:=λx c KY=>KpO CF kd lo C5 KY/\c=(AL,x)/\Seg L (A1 KY) lo x) (Q:=λc KY=>KpO CF kd lo C5 KY/\∃n,c=(AL,n)/\1<=n/\n<=RQ/\Seg L (A1 KY) lo n) ?s3 ?f3 {k3,rfl,sW}) ?p3)
   case f3=>intro c KY zz';have{k,rfl,sg}:=zz';exact{k,_,rfl,A0 h1 (NJ _ _),by lia,sg}
   case s3 =>
    intro x c KY qF xL zz';have{k,rfl,sg}:=zz';have hz4:=k.1.1.size;have UJ:lo+x<(A1 KY).size:=by lia
    refine BI (rP hA k.1.1 UJ (show lo+x-1<(A1 KY).size from AR (DJ _ _) UJ) ?_);cases e:L (A1 KY)[lo+x] ((A1 KY)[lo+x-1]'(AR (DJ _ _) UJ)) with
    |true=>exact BC {k,x,rfl,A0 (A0 (DU _ _) aT) qF,CS xL,sg}
    |false=>exact BC {k,rfl,sg.more O (mk _ k) (A0 (A0 (DU _ _) aT) qF) UJ e}
   case p3=>intro c KY zz';have{k,z,rfl,pO,cU,sg}:=zz';exact BC (h z _ k pO cU sg)
end
section
theorem Seg.keep(s:Seg L x i n)(h:∀q,i<=q->q<i+n->x'[q]?=x[q]?):Seg L x' i n:=by rw[seg_iff] at s ⊢;intro p q u v OF hp hq eu ev;rw[h p hp (DB OF hq)] at eu;rw[h q (CS (AR hp OF)) hq] at ev;exact s p q u v OF hp hq eu ev
def CovO(L:CO->CO->Bool)(x:Array CO):List Run->Nat->Nat->Prop
 |[],a,b=>a=b
 |(st,len,_)::r,a,b=>st=a/\1<=len/\Seg L x a len/\CovO L x r (a+len) b
theorem CovO.le:∀{p:List Run} {a b:Nat},CovO L x p a b->a<=b
 |[],_,_,h=>DG h
 |(_,len,_)::r,a,b,h=>by have:=CovO.le h.2.2.2;lia
theorem CovO.len:∀{p:List Run} {a b:Nat},CovO L x p a b->p.length+a<=b
 |[],_,_,h=>by have h:_=_:=h;simp;lia
 |(_,len,_)::r,a,b,h=>by have:=CovO.len h.2.2.2;have:=h.2.1;rw[A8];lia
theorem CovO.keepIn:∀{p:List Run} {a b:Nat},CovO L x p a b->(∀q,a<=q->q<b->x'[q]?=x[q]?)->CovO L x' p a b
 |[],_,_,h,_=>h
 |(_,len,_)::r,a,b,h,hk=>by have:=CovO.le h.2.2.2;exact{h.1,h.2.1,h.2.2.1.keep λq h1 h2=>hk q h1 (AO h2 this),CovO.keepIn h.2.2.2 λq h1 h2=>hk q (A0 (A5 _ _) h1) h2}
theorem CovO.keep(h:CovO L x p 0 b)(hk:∀q,q<b->x'[q]?=x[q]?):CovO L x' p 0 b:=h.keepIn λq _ hq=>hk q hq
theorem CovO.snoc:∀{p:List Run} {a b n k:Nat},CovO L x p a b->1<=n->Seg L x b n->CovO L x (p++[(b,n,k)]) a (b+n)
 |[],a,b,n,k,h,hn,s=>by have h:a=b:=h;subst h;exact{rfl,hn,s,rfl}
 |(_,len,_)::r,a,b,n,k,h,hn,s=>{h.1,h.2.1,h.2.2.1,CovO.snoc h.2.2.2 hn s}
theorem CovO.modify:∀{p:List Run} {a b i pw:Nat},CovO L x p a b->CovO L x (p.modify i λ(st,len,_)=>(st,len,pw)) a b
 |[],a,b,i,pw,h=>by simpa using h
 |(_,len,_)::r,a,b,0,pw,h=>{h.1,h.2.1,h.2.2.1,h.2.2.2}
 |(_,len,_)::r,a,b,i+1,pw,h=>by rw[List.modify_succ_cons];exact{h.1,h.2.1,h.2.2.1,CovO.modify h.2.2.2}
theorem CovO.last(h:CovO L x p 0 b)(hl:p.length<=1):Seg L x 0 b:=by
 match p,h,hl with
 |[],h,_=>have h:=h;subst h;intro p q hq OF hp pU;lia
 |[(st,len,k)],h,_ =>
  have{_,_,s,e}:=h;have e:0+len=b:=e;have e':b=len:=by lia
  subst e';exact s
theorem CovO.at:∀{p:List Run} {a b i sa na pa sb nb pb:Nat},CovO L x p a b->p[i]?=AA (sa,na,pa)->p[i+1]?=AA (sb,nb,pb) ->(1<=na/\1<=nb/\sb=sa+na/\sb+nb<=b/\a<=sa)/\Seg L x sa na/\Seg L x sb nb /\ ((∀q,q<sa\/sa+(na+nb)<=q->x'[q]?=x[q]?)->Seg L x' sa (na+nb)->CovO L x' ((p.set i (sa,na+nb,pa)).eraseIdx (i+1)) a b)
 |[],a,b,i,_,_,_,_,_,_,h,e,_=>by simp at e
 |[y],a,b,0,_,_,_,_,_,_,h,e,e2=>by simp at e2
 |y::z::r,a,b,0,sa,na,pa,sb,nb,pb,h,e,e2=>by simp at e e2;subst e;subst e2;have{h1,h2,h3,h4,h5,h6,h7}:=h;have:=h7.le;refine{{h2,h5,by lia,by lia,by lia},by rw[h1];exact h3,by rw[h4];exact h6,λhk s=>?_};refine{h1,A0 h2 (A5 _ _),by rw[<-h1];exact s,?_};rw[<-Nat.add_assoc];exact h7.keepIn λq h8 _=>hk q 'L'
 |(_,len,_)::r,a,b,i+1,sa,na,pa,sb,nb,pb,h,e,e2=>by have{zz',s1,s2,q6}:=CovO.at h.2.2.2 (by simpa using e) (by simpa using e2);have{q1,q2,q3,q4,q5}:=zz';exact{{q1,q2,q3,q4,A0 (A5 _ _) q5},s1,s2,λhk s=>{h.1,h.2.1,h.2.2.1.keep λq h8 h9=>hk q 'L',q6 hk s}}
end
section
variable{E:AI->AN->Prop}
structure SRO(L:CO->CO->Bool)(CF:Array CO)(kd:Z3)(lo:Nat)(st:BZ):Prop where
 sb:SB CF kd st
 cov:CovO L (A1 st) (DS st).toList 0 lo
 le:lo<=CF.size
theorem Ya{st:BZ}{i lo:Nat}{Q:Bool->BZ->Prop}(hA:XJ prog w A s kd CF L)(O:Ord L CF)(R:SRO L CF kd lo st)(hi:i+1<(DS st).size) (h:∀C5,SRO L CF kd lo C5->(DS C5).size+1=(DS st).size->(∀q,lo<=q->(A1 C5)[q]?=(A1 st)[q]?)->Q AQ C5) : NX (A9 prog w) A E s (mergeAt' i) Q st:=by
 have Oi:=AR (A5 _ _) hi;obtain⟨⟨sa,na,pa⟩,e1⟩:∃r:Run,(DS st)[i]?=AA r:={_,getElem?_pos _ i Oi};obtain⟨⟨sb,nb,pb⟩,e2⟩:∃r:Run,(DS st)[i+1]?=AA r:={_,getElem?_pos _ (i+1) hi};obtain⟨⟨q1,q2,q3,q4,q5⟩,s1,s2,_⟩:=R.cov.at (x':=A1 st) (i:=i) (by rw[DF];exact e1) (by rw[DF];exact e2);refine zOB hA O R.sb e1 e2 q1 q2 q3 (A0 q4 R.le) s1 s2 λC5 hB hp sg hk=>?_;have pO:=hB.size;have cU:=R.sb.size;have aU:∀q,q<sa\/sa+(na+nb)<=q->(A1 C5)[q]?=(A1 st)[q]?:=λq hq=>by
  by_cases z:q<CF.size
  .rw[getElem?_pos (A1 C5) q 'L',getElem?_pos (A1 st) q 'L',hk q 'L' 'L' hq]
  .rw[getElem?_neg (A1 C5) q 'L',getElem?_neg (A1 st) q 'L']
 have hz:i+1<((DS st).setIfInBounds i (sa,na+nb,pa)).size:=by rw[MV];exact hi
 refine h C5 {hB,?_,R.le} ?_ λq hq=>aU q (.inr 'L')
 .rw[hp,WT,dif_pos hz,Array.toList_eraseIdx,U3];exact(R.cov.at (by rw[DF];exact e1) (by rw[DF];exact e2)).2.2.2 aU sg
 .rw[hp,WT,dif_pos hz,Array.size_eraseIdx,MV];lia
theorem yKO{α:Type}{T:Nat->StateT BZ dE α}{E:AI->AN->Prop}{Q:α->BZ->Prop}{NU:Prop}(P:Nat->BZ->Prop)(h1:(∀n st,P n st->NX M A E s (T n) Q st)->NU)(h2:∀n st,P n st->NX M A E s (T n) Q st):NU:=h1 h2
theorem zMJ{st:BZ}{Q:Unit->BZ->Prop}(hA:XJ prog w A s kd CF L)(O:Ord L CF)(hB:SB CF kd st)(hp:DS st=#[]) (h:∀C5,SB CF kd C5->Seg L (A1 C5) 0 CF.size->Q () C5):NX (A9 prog w) A E s sortRuns' Q st:=by
 rw[sortRuns'_eq];refine BI (NN ?_);dsimp only;rw[hB.size];refine BI (JQ (FV (I:=λx c C5=>∃lo,c=(AL,lo)/\SRO L CF kd lo C5/\x<=lo)
  (Q:=λc C5=>∃lo,c=(AL,lo)/\SRO L CF kd lo C5/\CF.size<=lo) ?step ((λc C5 q0=>by have{lo,e,R,hx}:=q0;exact{lo,e,R,A0 (NJ _ _) hx})) {0,rfl,{hB,by rw[hp];rfl,BN _},AM _}) ?post)
 case step =>
  intro x c C5 _ hx zz';have{lo,rfl,R,iO}:=zz';refine L6 (λq=>?_) (λq=>?_)
  .exact BC {lo,rfl,R,q}
  refine BI (zMI hA O 'L' 'L' R.sb λm st2 k2 aT aS sg2=>?_);have R2:SRO L CF kd lo st2:={k2.1.1,by rw[k2.1.2];exact R.cov.keep λq hq=>k2.2 q hq,R.le};refine yKO (λm KY=>SRO L CF kd lo KY/\Seg L (A1 KY) lo m/\1<=m/\lo+m<=CF.size) (λK=>by
   refine L6 (λIS=>?_) (λIS=>?_)
   case refine_2=>have hP:SRO L CF kd lo st2/\Seg L (A1 st2) lo m/\1<=m/\lo+m<=CF.size:={R2,sg2,aT,by lia};revert hP;generalize m=m';exact λhP=>K m' _ hP
   case refine_1=>refine BI (QO (EM {rfl,?_}));refine BI (zI1 hA O 'L' 'L' 'L' R2.sb sg2 λKY hB3 hp3 sW ho3=>?_);exact K _ _ {{hB3,by rw[hp3];exact R2.cov.keep λq hq=>ho3 q hq,R2.le},sW,by lia,by lia}) ?_
  intro m KY zz';have{R3,sW,aT,aS}:=zz';refine BI (NN ?_);split
  .rename_i s1 n1 p1 hb;refine BI (JQ (FV (I:=λ_ c C5=>c=(AL,())/\SRO L CF kd lo C5/\Seg L (A1 C5) lo _) (Q:=λc C5=>c=(AL,())/\SRO L CF kd lo C5/\Seg L (A1 C5) lo _) ?st1 (λ_ _ h=>h) {rfl,R3,sW}) ?po1)
   case po1=>intro c pG zz';have{rfl,R4,wO}:=zz';refine BI (M5 (BI (M5 (BC {_,rfl,{{R4.sb.perm,R4.sb.kind,R4.sb.failed},?_,aS},EY iO aT}))));rw[FH];refine CovO.snoc ?_ (aT) wO;rw[Array.toList_modify];exact R4.cov.modify
   case st1 =>
    intro y c pG _ _ zz';have{rfl,R4,wO}:=zz';refine BI (NN ?_);by_cases hz:(DS pG).size>1
    .rw[if_pos hz,getElem?_pos (DS pG) ((DS pG).size-2) 'L'];refine L6 (λ_=>?_) (λ_=>?_)
     .exact BC {rfl,R4,wO}
     refine BI (Ya hA O R4 'L' λkH R5 _ ho5=>?_);exact BC {rfl,R5,wO.keep λq hq _=>ho5 q hq}
    .rw[if_neg hz];exact BC {rfl,R4,wO}
  .refine BI (M5 (BC {_,rfl,{{R3.sb.perm,R3.sb.kind,R3.sb.failed},?_,aS},EY iO aT}));rw[FH];exact R3.cov.snoc (aT) sW
 case post =>
  intro c C5 zz';have{lo,rfl,R,hlo}:=zz';have VD:=R.le;have elo:lo=CF.size:=by lia
  subst elo;have hpz:=R.cov.len;refine BI (JQ (FV (I:=λy c C5=>c=(AL,())/\SRO L CF kd CF.size C5/\(DS C5).size+y<=CF.size+1) (Q:=λc C5=>c=(AL,())/\SRO L CF kd CF.size C5/\(DS C5).size<=1) ?st2 ((λc C5 q0=>by have{e,R,hs}:=q0;exact{e,R,by lia})) {rfl,R,by simp at hpz;lia}) ?po2)
  case po2=>intro c pG zz';have{rfl,R4,h4}:=zz';exact BC (h _ R4.sb (R4.cov.last (by simpa using h4)))
  case st2 =>
   intro y c pG _ _ zz';have{rfl,R4,h4}:=zz';refine BI (NN ?_);refine L6 (λhz=>?_) (λhz=>?_)
   .exact BC {rfl,R4,hz}
   refine BI (Ya hA O R4 ?_ λkH R5 hs5 _=>?_)
   .exact AR (Nat.add_le_add_right (yEC (n:=(DS pG).size-2) (DJ _ _) (AM _)) 1) 'L'
   .exact BC {rfl,R5,by lia}
end
end _T
namespace _T
open PySem PySem.W PyProof.Rows
theorem yEI{LV:AI->AI->Bool}(hp:xs.Perm (IN vs))(sg:Seg (λx y=>LV x.1 y.1) xs 0 (IN vs).size):(xs.map (·.2)).toList.Pairwise λx y=>LV y x=AE:=by
 rw[Array.toList_map,DE,B9];intro i j hi hj MR;have hz:=hp.size_eq;have QA:i<xs.size:=by simpa using hi
 have cZ:j<xs.size:=by simpa using hj
 have z:=sg i j cZ MR (BN _) 'O';have same:=λx hx=>by
  have h1:x∈IN vs:=hp.mem_iff.mp hx;have h2:x∈vs.zip vs:=by rw[<-QT];exact II.mpr h1
  exact(mem_zip_self h2).1
 have e1:=same _ (AG QA);have e2:=same _ (AG cZ);simp only[e1,e2] at z;simpa using z
section
variable{E:AI->AN->Prop}
theorem zV5{R:gP->AN->Prop}{LV:AI->AI->Bool}(O:Ord (λx y=>LV x.1 y.1) (IN vs))(ho:s.heap.get? a=AA (FF "list" vs.toArray n))(hz:vs.length<=sizeLine) (hk:∀h6:CN,(∀b o,b≠a->s.heap.get? b=AA o->h6.get? b=AA o)->2<=vs.length->BE (A9 prog w) A (keyKind' vs.toArray) (λk s'=>s'={ s with heap:=h6 }/\XJ prog w A s' k (IN vs) (λx y=>LV x.1 y.1)) E { s with heap:=h6 }) (h:∀out:List AI,out.Perm vs->(out.Pairwise λx y=>LV y x=AE)->R (.done (.ret .none)) { s with heap:=sortedHeap s.heap a vs out.toArray }):BE (A9 prog w) A (YZ.«list.sort» {[.ref a],[]}) R E s:=by
 have la:a<s.heap.objs.size:=BB ho;have zs:vs.toArray.size<=sizeLine:=by simpa using hz
 rw[list_sort_plain];refine AB (gF ho rfl (AB (NZ ho rfl ?_ zs (BN _))));have g1:=YG ho (λ_=>#[]);generalize p8:s.heap.update a (D4 λ_=>#[])=h1 at g1;have z1:h1.objs.size=s.heap.objs.size:=by rw[<-p8,NF]
 have o1:∀b o,b≠a->s.heap.get? b=AA o->h1.get? b=AA o:=λb o hb e=>by rw[<-p8,O8 _ _ _ _ hb];exact e
 refine AB (W7 g1 rfl (AB (KJ (AB (SQ (DO ?_))) (by simpa using hz))));generalize hh6:(h1.push (FF "tuple" vs.toArray 0)).push (FF "list" #[] 0)=h6;have wY:∀b o,h1.get? b=AA o->h6.get? b=AA o:=λb o e=>by rw[<-hh6];exact AF _ (AF _ e)
 have g6:=wY _ _ g1;have fin:∀C5:BZ,(A1 C5).Perm (IN vs)->Seg (λx y=>LV x.1 y.1) (A1 C5) 0 (IN vs).size->R (.done (.ret .none)) { s with heap:=h6.update a (D4 λ_=>(A1 C5).map (·.2)) }:=λC5 hp sg=>by have q:=h _ (zL9 hp) (yEI hp sg);unfold sortedHeap at q;rw[p8,hh6,Array.toArray_toList] at q;exact q
 have szp:∀C5:BZ,(A1 C5).Perm (IN vs)->((A1 C5).map (·.2)).size<=sizeLine+1:=λC5 hp=>by rw[Array.size_map,hp.size_eq,pairsOf_size];omega
 by_cases h2:vs.toArray.size<2
 .rw[if_pos h2,if_pos h2];refine AB (wpAny_pure ?_);dsimp only;rw[StateT.run_pure];refine AB (wpAny_pure (AB (W7 g6 rfl ?_)));refine AB (NZ g6 rfl ?_ (BN _) (szp (aZ general' (IN vs) #[] 7 AL) (QG _)));simp only[bne_self_eq_false,if_false];exact wpAny_pure (fin (aZ general' (IN vs) #[] 7 AL) (QG _) (λp q hq OF hp pU=>by rw[pairsOf_size] at pU;simp at h2;omega))
 .rw[if_neg h2,if_neg h2];refine AB (DN (hk h6 (λb o hb e=>wY b o (o1 b o hb e)) (by simpa using h2)) (λk s7 ⟨e7,ask⟩=>?_) λ_ _ e=>e);subst e7;refine AB (DN (zMJ (Q:=λ_ C5=>SB (IN vs) k C5/\Seg (λx y=>LV x.1 y.1) (A1 C5) 0 (IN vs).size) ask O {QG _,rfl,rfl} rfl λC5 b sg=>{b,sg}) ?_ λ_ _ e=>e);rintro⟨⟨⟩,C5⟩ s8 ⟨e8,B,sg⟩;subst e8;refine AB (W7 g6 rfl (AB (NZ g6 rfl ?_ (BN _) (szp C5 B.perm))));rw[B.failed];simp only[bne_self_eq_false,L1,if_false];exact wpAny_pure (fin C5 B.perm sg)
theorem sorted_inO{vs:List AI}{Q:AI->AN->Prop}{LV:AI->AI->Bool}(O:Ord (λx y=>LV x.1 y.1) (IN vs))(hl:s.heap.IsList l vs.toArray)(hz:vs.length<=sizeLine) (hk:∀h6:CN,(∀b o,s.heap.get? b=AA o->h6.get? b=AA o)->2<=vs.length->∀E',BE (A9 prog w) A.in1.in1 (keyKind' vs.toArray) (λk s'=>s'={ s with heap:=h6 }/\XJ prog w A.in1.in1 s' k (IN vs) (λx y=>LV x.1 y.1)) E' { s with heap:=h6 }) (h:∀out:List AI,out.Perm vs->(out.Pairwise λx y=>LV y x=AE)->Q (.ref (s.heap.objs.size+1)) { s with heap:=sortedAll s.heap vs out.toArray }):BE (A9 prog w) A (call (.builtin "sorted") [.ref l]) Q E s:=by
 refine VM kind_sorted plain_sorted entry_sorted (args_sorted1 _) ?_;refine AB (wpAny_pure (AB (collect_list hl (AB (SQ ?_ hz)) hz)));have GR:∀b o,s.heap.get? b=AA o->((s.heap.push (FF "list" #[] 0)).update s.heap.objs.size (D4 (·++vs.toArray))).get? b=AA o:=λb o e=>by rw[O8 _ _ _ _ (CC (BB e))];exact AF _ e
 have z2:((s.heap.push (FF "list" #[] 0)).update s.heap.objs.size (D4 (·++vs.toArray))).objs.size=s.heap.objs.size+1:=by rw[NF,ZW]
 generalize hh2:(s.heap.push (FF "list" #[] 0)).update s.heap.objs.size (D4 (·++vs.toArray))=h2 at GR z2;have gL:(h2.push (FF "list" vs.toArray 0)).get? h2.objs.size=AA (FF "list" vs.toArray 0):=AT _ rfl;refine AB (DO (CG slot_list_sort {_,gL,rfl} entry_list_sort (zV5 O gL hz (λh6 o6 UM=>?_) λout ho pV=>{_,rfl,?_}) (args_list_sort _)))
 .exact hk h6 (λb o e=>o6 b o (by rw[z2];exact CC (IC (BB e))) (AF _ (GR b o e))) UM _
 .have q:=h out ho pV;unfold sortedAll at q;rw[hh2,<-z2] at q;exact wpAny_pure {_,rfl,q}
end
end _T
namespace _L
open PySem PySem.Spec PyProof.Rows
theorem zZ9(CF:Array CO):_T.Ord (λx y=>decide (dA x.1<dA y.1)) CF where
 asym:=λx y _ _ h=>by have:=of_decide_eq_true h;exact decide_eq_false 'O'
 trans:=λx y z _ _ _ h1 h2=>by have a:=of_decide_eq_false h1;have b:=of_decide_eq_false h2;exact decide_eq_false 'O'
theorem yAA(h:IA us ns)(p:us.Pairwise λx y=>decide (dA y<dA x)=AE):ns.Pairwise (·<=·):=by rw[<-h.nums,DE];exact p.imp λh=>by have:=of_decide_eq_false h;omega
theorem yEJ{α:Type}:∀{l:List α},2<=l.length->∃a b r,l=a::b::r
 |a::b::r,_=>{a,b,r,rfl}
 |[],h=>by simp at h
 |[_],h=>by simp at h
theorem UI:CallR X (.builtin "sorted") (λxs H Q=>∃(l:AV) (ns:List Int),xs=[.ref l]/\SqL X.K H l (ns.map V.int)/\∀(ms:List Int) (q:AV),ms.Perm ns->ms.Pairwise (·<=·)->H q=AL->Q (.ref q) (DZ H q (.lst (ms.map V.int)))):=by
 intro AJ s σ H xs us Q I r h;have{l,ns,rfl,hl,q}:=h;have{u,rfl,ru}:=Y6 r;cases ru;have{CW,rv,pl,z}:=I.list hl;have EV:=rv.length;have hi:=l7 rv;refine _T.sorted_inO (LV:=λx y=>decide (dA x<dA y)) (zZ9 _) pl.isList (by rw[<-EV];exact z) (λh6 o6 h2 E'=>?_) λout ho pV=>?_
 .have{v1,v2,vr,rfl}:=yEJ h2;rw[keyKind_ints hi];refine wpAny_pure {rfl,λx y hx hy Q' E2 hq=>?_};have mem:∀x:CO,x∈IN (v1::v2::vr)->∃n t,x.1=.int n t:=λx hx=>by
   have:x∈(v1::v2::vr).zip (v1::v2::vr):=by rw[<-QT];exact II.mpr hx
   have{i,QA,ei}:=a9.mp (KZ this).1;have{t,et}:=TX hi i x.1 (by rw[BD QA,ei]);exact{_,t,et}
  have{n1,t1,e1}:=mem x hx;have{n2,t2,e2}:=mem y hy;dsimp only at hq;rw[e1,e2] at hq ⊢;exact PySem.W.kat_lt_int hq
 .have{zs,p,rz}:=Vals.perm ho rv;have{e',kZ}:=sortedAll_at s.heap CW out.toArray;have hf:=I.hok.fresh (HF _);have{ms,rfl,pm}:=zSV p ns rfl;refine{.ref (s.heap.objs.size+1),_,I.laid (o:=.lst (ms.map V.int)) (λb o hb=>sortedAll_old hb) (HF _) {?_,out,e',rz,kZ},rfl,q ms _ pm (yAA (l7 rz) pV) hf};rw[p.length_eq];exact z
noncomputable def lX(h:CN):AI->Int×Int
 |.ref p=>match h.get? p with
  |some o=>match o.data with
   |.seq xs _=>(dA (xs.getD 0 .none),dA (xs.getD 1 .none))
   |_=>(0,0)
  |none=>(0,0)
 |_=>(0,0)
def UH(a b:Int×Int):Bool:=decide (a.1<b.1\/a.1=b.1/\a.2<b.2)
theorem zV6(h:CN)(CF:Array CO):_T.Ord (λx y=>UH (lX h x.1) (lX h y.1)) CF where
 asym:=λx y _ _ e=>by have:=of_decide_eq_true e;exact decide_eq_false 'O'
 trans:=λx y z _ _ _ h1 h2=>by have a:=of_decide_eq_false h1;have b:=of_decide_eq_false h2;exact decide_eq_false 'O'
def Prs(H:Hp)(ys:List V)(ps:List (Int×Int)):Prop:=Paired (λ(z:V) (p:Int×Int)=>∃q,z=.ref q/\H q=AA (.tup [.int p.1,.int p.2])) ys ps
section
theorem zV7{Q:Bool->AN->Prop}(hf:fin=AE)(hq:Q (UH (x1,y1) (x2,y2)) s):PySem.W.KatLex prog w A b fin Q [(.int x1 t1,.int x2 t2),(.int y1 t3,.int y2 t4)] 0 s:=by
 have one:∀{i:Nat} {u v:Int} {t t':k8},Q (decide (u<v)) s->BE (A9 prog w) A (oneLt' (b&&i==0) (.int u t) (.int v t')) Q (λ_ _=>False) s:=λ{i u v t t'} h=>by
  cases hb:(b&&i==0) with
  |true=>exact oneLt_int h
  |false=>exact PySem.W.kat_one _ _ (lt_int h)
 refine cE (WM (gO (λh1=>dG (cE (WM (gO (λh2=>dG (PySem.W.kat_nil ?_)) λh2=>gM (one ?_))))) λh1=>gM (one ?_)))
 .have e1:x1=x2:=by simpa using h1
  have e2:y1=y2:=by simpa using h2
  subst e1;subst e2;rw[hf];have:UH (x1,y1) (x1,y1)=AE:=decide_eq_false 'S';rw[this] at hq;exact hq
 .have e1:x1=x2:=by simpa using h1
  subst e1;have:UH (x1,y1) (x1,y2)=decide (y1<y2):=by unfold UH;simp
  rw[this] at hq;exact hq
 .have e1:¬x1=x2:=by simpa using h1
  have:UH (x1,y1) (x2,y2)=decide (x1<x2):=by unfold UH;simp[e1]
  rw[this] at hq;exact hq
end
theorem Prs.perm(p:zs.Perm ys):∀{ps:List (Int×Int)},Prs H ys ps->∃qs,qs.Perm ps/\Prs H zs qs:=by
 induction p with
 |nil=>intro ps r;cases r;exact{[],GT _,.nil}
 |cons a _ ih =>
  intro ps r;cases r with
  |cons h t=>have{qs,q,r'}:=ih t;exact{_::qs,q.cons _,.cons h r'}
 |swap a b l =>
  intro ps r;cases r with
  |cons h t =>
   cases t with
   |cons h' t'=>exact{_::_::_,HR _ _ _,.cons h' (.cons h t')}
 |trans _ _ cT ih2=>intro ps r;have{qs,q,r'}:=ih2 r;have{us,q',wS}:=cT r';exact{us,q'.trans q,wS}
theorem Qn(I:Inv X AJ σ H s):∀{ys:List V} {us:List AI} {ps:List (Int×Int)},Vals ys us->Prs H ys ps ->(∀y∈ys,Qs H y)/\us.map (lX s.heap)=ps/\∀u∈us,∃(p:AV) (o:JF) (k:Nat) (x y:Int) (t1 t2:k8),u=.ref p/\s.heap.get? p=AA o/\o.data=.seq #[.int x t1,.int y t2] k/\lX s.heap u=(x,y):= by
 intro ys;induction ys with
 |nil=>intro us ps h1 h2;cases h1;cases h2;exact{(λy hy=>nomatch hy),rfl,(λu hu=>nomatch hu)}
 |cons y0 ys ih =>
  intro us ps h1 h2;cases h1 with
  |cons r t =>
  cases h2 with
  |@cons _ pp _ _ pr t' =>
  have{q,e,hq}:=pr;have{i1,i2,i3}:=ih t t';subst e;cases r;have{CW,rv,tp,_}:=I.tuple (SqT.of hq);have hi:=l7 (ns:=[pp.1,pp.2]) rv;have{o,ho,hc,k,hd}:=tp;obtain⟨t1,t2,rfl⟩:∃t1 t2,CW=[.int pp.1 t1,.int pp.2 t2]:=by
   cases hi with
   |cons _ t1 h2 =>
    cases h2 with
    |cons _ t2 h3=>cases h3;exact{t1,t2,rfl}
  have e2:lX s.heap (.ref q)=(pp.1,pp.2):=by unfold lX;simp only[ho,hd];rfl
  refine{λy hy=>?_,?_,λv hv=>?_}
  .rcases A3.mp hy with rfl|hy
   .exact{q,pp.1,[pp.2],rfl,hq}
   .exact i1 y hy
  .rw[AU,i2,e2]
  .rcases A3.mp hv with rfl|hv
   .exact{q,o,k,pp.1,pp.2,t1,t2,rfl,ho,hd,e2}
   .exact i3 v hv
theorem zKI:CallR X (.builtin "sorted") (λxs H Q=>∃(l:AV) (ys:List V) (ps:List (Int×Int)),xs=[.ref l]/\SqL X.K H l ys/\Prs H ys ps/\∀(zs:List V) (qs:List (Int×Int)) (q:AV),zs.Perm ys->Prs H zs qs->qs.Perm ps->(qs.Pairwise λa b=>UH b a=AE)->H q=AL->Q (.ref q) (DZ H q (.lst zs))):=by
 intro AJ s σ H xs us Q I r h;have{l,ys,ps,rfl,hl,aR,q}:=h;have{u,rfl,ru}:=Y6 r;cases ru;have{CW,rv,pl,z}:=I.list hl;have EV:=rv.length;have{ht,e0,at0}:=Qn I rv aR;have{fs,f1,f2,f3,f4}:=Sy I rv ht;refine _T.sorted_inO (LV:=λx y=>UH (lX s.heap x) (lX s.heap y)) (zV6 _ _) pl.isList (by rw[<-EV];exact z) (λh6 o6 h2 E'=>?_) λout ho pV=>?_
 .refine PySem.W.kat_kind (T:=.type "int") (Wd o6 f2) (by rw[f1];omega) (λv hv=>?_) 'D' {rfl,λx y hx hy Q' E2 hq=>?_}
  .have{n,t,rfl}:=f3 v hv;exact PySem.W.Looks.now
  .have mem:=λx hx=>by
    have:x∈CW.zip CW:=by rw[<-QT];exact II.mpr hx
    exact(KZ this).1
   have{p1,o1,k1,x1,y1,t1,t2,e1,Ds,hd1,ep1}:=at0 _ (mem x hx);have{p2,o2,k2,x2,y2,t3,t4,e2,cX,kY,ep2}:=at0 _ (mem y hy);dsimp only at hq;rw[ep1,ep2] at hq;rw[e1,e2];exact PySem.W.kat_lt (o6 _ _ Ds) hd1 (o6 _ _ cX) kY (zV7 rfl hq)
 .have{zs,p,rz}:=Vals.perm ho rv;have{qs,pq,kP}:=Prs.perm p aR;have{_,e3,_}:=Qn I rz kP;have{e',kZ}:=sortedAll_at s.heap CW out.toArray;have hf:=I.hok.fresh (HF _);have pw:qs.Pairwise λa b=>UH b a=AE:=by rw[<-e3,DE];exact pV
  refine{.ref (s.heap.objs.size+1),_,I.laid (o:=.lst zs) (λb o hb=>sortedAll_old hb) (HF _) {?_,out,e',rz,kZ},rfl,q zs qs _ p kP pq pw hf};rw[p.length_eq];exact z
inductive D where
 |non|bl (b:Bool)|int (i:Int)|str (x:C7)|tup (xs:List D)|lst (xs:List D)
 |dk (kvs:List (Key×D))|dt (kvs:List (List Int×D))
inductive Out(α:Type) where
 |ok (a:α)|exc (c:Nat)|bad
noncomputable def Out.bind{α β:Type}:Out α->(α->Out β)->Out β
 |.ok a,f=>f a
 |.exc c,_=>.exc c
 |.bad,_=>.bad
theorem pA3{α β:Type}{x:Out α}{f:α->Out β}{b:β}(h:x.bind f=.ok b):∃a,x=.ok a/\f a=.ok b:=by
 cases x with
 |ok a=>exact{a,rfl,h}
 |exc c=>cases h
 |bad=>cases h
inductive Sl where
 |no|val (d:D)|own (t:Bool) (d:D)
abbrev Ev:=List Sl
def uG:HO->Prop
 |.dK _=>True
 |.dT _=>True
 |_=>False
def Le(F F':Hp):Prop:=∀a u,F a=AA u->F' a=AA u\/(uG u/\∃o,F' a=AA (.frz o u))\/∃t ps bN,u=.tbl t ps/\F' a=AA (.tbl t bN)
theorem Le.refl(F:Hp):Le F F:=λ_ _ h=>.inl h
theorem Le.trans(x:Le F G)(y:Le G H):Le F H:=λa u e=>by
 rcases x a u e with h|⟨hd,o,h⟩|⟨t,ps,bN,rfl,h⟩
 .exact y a u h
 .rcases y a _ h with h|⟨yS,_⟩|⟨_,_,_,z,_⟩
  .exact .inr (.inl {hd,o,h})
  .exact yS.elim
  .cases z
 .rcases y a _ h with h|⟨yS,_⟩|⟨_,_,_,z,h⟩
  .exact .inr (.inr {_,_,_,rfl,h})
  .exact yS.elim
  .cases z;exact .inr (.inr {_,_,_,rfl,h})
theorem Le.rd(l:Le F F')(h:Rd F a u)(hu:∀t ps,u≠.tbl t ps:=by intro _ _ z;cases z):Rd F' a u:=by
 rcases h with h|⟨o,h⟩
 .rcases l a u h with h|⟨_,o,h⟩|⟨_,_,_,z,_⟩
  .exact .inl h
  .exact .inr {o,h}
  .exact absurd z (hu _ _)
 .rcases l a _ h with h|⟨hd,_⟩|⟨_,_,_,z,_⟩
  .exact .inr {o,h}
  .exact hd.elim
  .cases z
theorem Le.tup(l:Le F F')(h:F a=AA (.tup vs)):F' a=AA (.tup vs):=by
 rcases l a _ h with h|⟨hd,_⟩|⟨_,_,_,z,_⟩
 .exact h
 .exact hd.elim
 .cases z
theorem Le.of_gr(g:Gr F F'):Le F F':=λa u e=>.inl (g a u e)
mutual
inductive Rep(K:AC)(F:Hp):V->D->Prop
 |non:Rep K F .non .non
 |bl (b:Bool):Rep K F (.bl b) (.bl b)
 |int (i:Int):Rep K F (.int i) (.int i)
 |str (x:C7):Rep K F (.str x) (.str x)
 |tup {a:AV} {vs:List V} {ds:List D}:F a=AA (.tup vs)->Reps K F vs ds->Rep K F (.ref a) (.tup ds)
 |tupK {a:AV} {xs:List C7}:SqT K (λ_=>AL) a (xs.map V.str)->xs≠[]->Rep K F (.ref a) (.tup (xs.map D.str))
 |lst {a:AV} {vs:List V} {ds:List D}:SqL K F a vs->Reps K F vs ds->Rep K F (.ref a) (.lst ds)
 |dk {a:AV} {kvs:List (Key×V)} {ds:List (Key×D)}:Rd F a (.dK kvs)->RepK K F kvs ds->Rep K F (.ref a) (.dk ds)
 |dt {a:AV} {kvs:List (List Key×V)} {ds:List (List Int×D)}:Rd F a (.dT kvs)->RepT K F kvs ds->Rep K F (.ref a) (.dt ds)
inductive Reps(K:AC)(F:Hp):List V->List D->Prop
 |nil:Reps K F [] []
 |cons {v:V} {d:D} {vs:List V} {ds:List D}:Rep K F v d->Reps K F vs ds->Reps K F (v::vs) (d::ds)
inductive RepK(K:AC)(F:Hp):List (Key×V)->List (Key×D)->Prop
 |nil:RepK K F [] []
 |cons {k:Key} {v:V} {d:D} {vs:List (Key×V)} {ds:List (Key×D)}:Rep K F v d->RepK K F vs ds->RepK K F ((k,v)::vs) ((k,d)::ds)
inductive RepT(K:AC)(F:Hp):List (List Key×V)->List (List Int×D)->Prop
 |nil:RepT K F [] []
 |cons {k:List Int} {v:V} {d:D} {vs:List (List Key×V)} {ds:List (List Int×D)}:Rep K F v d->RepT K F vs ds->RepT K F ((k.map C1,v)::vs) ((k,d)::ds)
end
section
variable{K:AC}
theorem Rep.ind{P:V->D->Prop}{Q:List V->List D->Prop}{R:List (Key×V)->List (Key×D)->Prop}{T:List (List Key×V)->List (List Int×D)->Prop} (h1:P .non .non) (h2:∀b,P (.bl b) (.bl b)) (h3:∀i,P (.int i) (.int i)) (h4:∀x,P (.str x) (.str x)) (h5:∀{a vs ds},F a=AA (.tup vs)->Reps K F vs ds->Q vs ds->P (.ref a) (.tup ds)) (h6:∀{a xs},SqT K (λ_=>AL) a (xs.map V.str)->xs≠[]->P (.ref a) (.tup (xs.map D.str))) (h7:∀{a vs ds},SqL K F a vs->Reps K F vs ds->Q vs ds->P (.ref a) (.lst ds)) (h8:∀{a kvs ds},Rd F a (.dK kvs)->RepK K F kvs ds->R kvs ds->P (.ref a) (.dk ds)) (h9:∀{a kvs ds},Rd F a (.dT kvs)->RepT K F kvs ds->T kvs ds->P (.ref a) (.dt ds)) (q1:Q [] []) (q2:∀{v d vs ds},Rep K F v d->Reps K F vs ds->P v d->Q vs ds->Q (v::vs) (d::ds)) (r1:R [] []) (r2:∀{k v d vs ds},Rep K F v d->RepK K F vs ds->P v d->R vs ds->R ((k,v)::vs) ((k,d)::ds)) (t1:T [] []) (t2:∀{k:List Int} {v d vs ds},Rep K F v d->RepT K F vs ds->P v d->T vs ds->T ((k.map C1,v)::vs) ((k,d)::ds)) : (∀{v d},Rep K F v d->P v d)/\(∀{vs ds},Reps K F vs ds->Q vs ds)/\(∀{vs ds},RepK K F vs ds->R vs ds)/\∀{vs ds},RepT K F vs ds->T vs ds :={λh=>Rep.rec h1 h2 h3 h4 h5 h6 h7 h8 h9 q1 q2 r1 r2 t1 t2 h,λh=>Reps.rec h1 h2 h3 h4 h5 h6 h7 h8 h9 q1 q2 r1 r2 t1 t2 h,λh=>RepK.rec h1 h2 h3 h4 h5 h6 h7 h8 h9 q1 q2 r1 r2 t1 t2 h,λh=>RepT.rec h1 h2 h3 h4 h5 h6 h7 h8 h9 q1 q2 r1 r2 t1 t2 h}
theorem pA4(l:Le F F'):(∀{v d},Rep K F v d->Rep K F' v d)/\(∀{vs ds},Reps K F vs ds->Reps K F' vs ds)/\(∀{vs ds},RepK K F vs ds->RepK K F' vs ds)/\∀{vs ds},RepT K F vs ds->RepT K F' vs ds :=Rep.ind .non .bl .int .str (λh _ r=>.tup (l.tup h) r) (λh n=>.tupK h n) (λh _ r=>.lst (h.imp (λz=>l.rd z) id) r) (λh _ r=>.dk (l.rd h) r) (λh _ r=>.dt (l.rd h) r) .nil (λ_ _ h r=>.cons h r) .nil (λ_ _ h r=>.cons h r) .nil (λ_ _ h r=>.cons h r)
theorem Rep.le(l:Le F F')(r:Rep K F v d):Rep K F' v d:=(pA4 l).1 r
theorem Reps.le(l:Le F F')(r:Reps K F v d):Reps K F' v d:=(pA4 l).2.1 r
theorem RepK.le(l:Le F F')(r:RepK K F v d):RepK K F' v d:=(pA4 l).2.2.1 r
theorem RepT.le(l:Le F F')(r:RepT K F v d):RepT K F' v d:=(pA4 l).2.2.2 r
theorem Rep.vI(r:Rep K F v (.int i)):v=.int i:=by cases r;rfl
theorem Rep.vB(r:Rep K F v (.bl b)):v=.bl b:=by cases r;rfl
theorem Rep.vS(r:Rep K F v (.str x)):v=.str x:=by cases r;rfl
theorem Rep.vN(r:Rep K F v .non):v=.non:=by cases r;rfl
theorem Reps.rec1{Q:List V->List D->Prop}(q1:Q [] [])(q2:∀{v d vs ds},Rep K F v d->Reps K F vs ds->Q vs ds->Q (v::vs) (d::ds))(h:Reps K F vs ds):Q vs ds :=(Rep.ind (P:=λ_ _=>True) (R:=λ_ _=>True) (T:=λ_ _=>True) trivial (λ_=>trivial) (λ_=>trivial) (λ_=>trivial) (λ_ _ _=>trivial) (λ_ _=>trivial) (λ_ _ _=>trivial) (λ_ _ _=>trivial) (λ_ _ _=>trivial) q1 (λh r _ ih=>q2 h r ih) trivial (λ_ _ _ _=>trivial) trivial (λ_ _ _ _=>trivial)).2.1 h
theorem RepK.rec1{R:List (Key×V)->List (Key×D)->Prop}(r1:R [] [])(r2:∀{k v d vs ds},Rep K F v d->RepK K F vs ds->R vs ds->R ((k,v)::vs) ((k,d)::ds))(h:RepK K F vs ds):R vs ds :=(Rep.ind (P:=λ_ _=>True) (Q:=λ_ _=>True) (T:=λ_ _=>True) trivial (λ_=>trivial) (λ_=>trivial) (λ_=>trivial) (λ_ _ _=>trivial) (λ_ _=>trivial) (λ_ _ _=>trivial) (λ_ _ _=>trivial) (λ_ _ _=>trivial) trivial (λ_ _ _ _=>trivial) r1 (λh r _ ih=>r2 h r ih) trivial (λ_ _ _ _=>trivial)).2.2.1 h
theorem RepT.rec1{T:List (List Key×V)->List (List Int×D)->Prop}(t1:T [] [])(t2:∀{k:List Int} {v d vs ds},Rep K F v d->RepT K F vs ds->T vs ds->T ((k.map C1,v)::vs) ((k,d)::ds))(h:RepT K F vs ds):T vs ds :=(Rep.ind (P:=λ_ _=>True) (Q:=λ_ _=>True) (R:=λ_ _=>True) trivial (λ_=>trivial) (λ_=>trivial) (λ_=>trivial) (λ_ _ _=>trivial) (λ_ _=>trivial) (λ_ _ _=>trivial) (λ_ _ _=>trivial) (λ_ _ _=>trivial) trivial (λ_ _ _ _=>trivial) trivial (λ_ _ _ _=>trivial) t1 (λh r _ ih=>t2 h r ih)).2.2.2 h
theorem Reps.length(r:Reps K F vs ds):vs.length=ds.length :=r.rec1 (Q:=λvs ds=>vs.length=ds.length) rfl λ_ _ ih=>congrArg (·+1) ih
theorem Reps.append(r:Reps K F vs ds)(s:Reps K F ws es):Reps K F (vs++ws) (ds++es) :=r.rec1 (Q:=λvs ds=>Reps K F (vs++ws) (ds++es)) s λh _ ih=>.cons h ih
theorem Reps.get{i:Nat}(r:Reps K F vs ds):ds[i]?=AA d->∃v,vs[i]?=AA v/\Rep K F v d :=r.rec1 (Q:=λvs ds=>∀i,ds[i]?=AA d->∃v,vs[i]?=AA v/\Rep K F v d) (λ_ e=>by simp at e) (λh _ ih i e=>by
  cases i with
  |zero=>cases e;exact{_,rfl,h}
  |succ i=>exact ih i e) i
theorem Reps.set(i:Nat)(r:Reps K F vs ds)(h:Rep K F v d):Reps K F (vs.set i v) (ds.set i d) :=r.rec1 (Q:=λvs ds=>∀i,Reps K F (vs.set i v) (ds.set i d)) (λ_=>.nil) (λq r ih i=>by
  cases i with
  |zero=>exact .cons h r
  |succ i=>exact .cons q (ih i)) i
theorem Reps.take(n:Nat)(r:Reps K F vs ds):Reps K F (vs.take n) (ds.take n) :=r.rec1 (Q:=λvs ds=>∀n,Reps K F (vs.take n) (ds.take n)) (λn=>by rw[List.take_nil,List.take_nil];exact .nil) (λq r ih n=>by
  cases n with
  |zero=>exact .nil
  |succ n=>exact .cons q (ih n)) n
theorem Reps.drop(n:Nat)(r:Reps K F vs ds):Reps K F (vs.drop n) (ds.drop n) :=r.rec1 (Q:=λvs ds=>∀n,Reps K F (vs.drop n) (ds.drop n)) (λn=>by rw[List.drop_nil,List.drop_nil];exact .nil) (λq r ih n=>by
  cases n with
  |zero=>exact .cons q r
  |succ n=>exact ih n) n
theorem Reps.reverse(r:Reps K F vs ds):Reps K F vs.reverse ds.reverse :=r.rec1 (Q:=λvs ds=>Reps K F vs.reverse ds.reverse) .nil λh _ ih=>by rw[JU,JU];exact ih.append (.cons h .nil)
theorem Reps.eraseIdx(i:Nat)(r:Reps K F vs ds):Reps K F (vs.eraseIdx i) (ds.eraseIdx i) :=r.rec1 (Q:=λvs ds=>∀n,Reps K F (vs.eraseIdx n) (ds.eraseIdx n)) (λn=>.nil) (λq r ih n=>by
  cases n with
  |zero=>exact r
  |succ n=>exact .cons q (ih n)) i
theorem Reps.rep(n:Nat)(r:Reps K F vs ds):Reps K F (BP n vs).flatten (BP n ds).flatten:=by
 induction n with
 |zero=>exact .nil
 |succ n ih=>rw[ES,GQ,ES,GQ];exact r.append ih
theorem Reps.nil_iff(r:Reps K F vs ds):vs=[]↔ds=[]:=by cases r<;>simp
theorem Reps.ints:∀ns:List Int,Reps K F (ns.map V.int) (ns.map D.int)
 |[]=>.nil
 |n::ns=>.cons (.int n) (Reps.ints ns)
theorem Reps.vint{ns:List Int}(r:Reps K F vs (ns.map D.int)):vs=ns.map V.int :=r.rec1 (Q:=λvs ds=>∀bs:List Int,ds=bs.map D.int->vs=bs.map V.int) (λbs e=>by cases bs with
  |nil=>rfl
  |cons=>cases e) (λh _ ih bs e=>by
  cases bs with
  |nil=>cases e
  |cons b bs=>cases e;rw[h.vI,ih bs rfl];rfl) ns rfl
theorem pA5{bs:List C7}(r:Reps K F vs (bs.map D.str)):vs=bs.map V.str :=r.rec1 (Q:=λvs ds=>∀bs:List C7,ds=bs.map D.str->vs=bs.map V.str) (λbs e=>by cases bs with
  |nil=>rfl
  |cons=>cases e) (λh _ ih bs e=>by
  cases bs with
  |nil=>cases e
  |cons b bs=>cases e;rw[h.vS,ih bs rfl];rfl) bs rfl
end
def Sub(F H:Hp):Prop:=∀a u,F a=AA u->H a=AA u
theorem Sub.rd(s:Sub F H)(h:Rd F a u):Rd H a u:=h.imp (s a u) (λq0=>by have{o,h}:=q0;exact{o,s a _ h})
def OwnAt(K:AC)(F H:Hp)(a:AV):D->Prop
 |.lst ds=>∃vs,H a=AA (.lst vs)/\Reps K F vs ds
 |.dk ds=>∃kvs,H a=AA (.dK kvs)/\RepK K F kvs ds
 |.dt ds=>∃kvs,H a=AA (.dT kvs)/\RepT K F kvs ds
 |_=>False
def lP:HO->Prop
 |.lst _=>True
 |.dK _=>True
 |.dT _=>True
 |_=>False
theorem OwnAt.ho{K:AC}(h:OwnAt K F H a d):∃o,H a=AA o/\lP o:=by
 cases d with
 |lst ds=>have{vs,e,_}:=h;exact{_,e,trivial}
 |dk ds=>have{vs,e,_}:=h;exact{_,e,trivial}
 |dt ds=>have{vs,e,_}:=h;exact{_,e,trivial}
 |_=>exact h.elim
theorem OwnAt.mono{K:AC}(h:OwnAt K F H a d)(l:Le F F')(e:H' a=H a):OwnAt K F' H' a d:=by
 cases d with
 |lst ds=>have{vs,q,r}:=h;exact{vs,e.trans q,r.le l}
 |dk ds=>have{vs,q,r}:=h;exact{vs,e.trans q,r.le l}
 |dt ds=>have{vs,q,r}:=h;exact{vs,e.trans q,r.le l}
 |_=>exact h.elim
theorem OwnAt.rep{K:AC}(h:OwnAt K F H a d)(n:F a=AL)(eo:H a=AA o):Rep K (DZ F a o) (.ref a) d:=by
 have l:Le F (DZ F a o):=.of_gr (Gr.new n);cases d with
 |lst ds=>have{vs,q,r}:=h;rw[eo] at q;cases q;exact .lst (.inl (.inl GO)) (r.le l)
 |dk ds=>have{vs,q,r}:=h;rw[eo] at q;cases q;exact .dk (.inl GO) (r.le l)
 |dt ds=>have{vs,q,r}:=h;rw[eo] at q;cases q;exact .dt (.inl GO) (r.le l)
 |_=>exact h.elim
def EJ(σ:St)(E:Ev)(a:AV):Prop:=∃(i:Nat) (t:Bool) (d:D),E[i]?=AA (Sl.own t d)/\σ[i]?=AA (AA (V.ref a))
structure Sim(K:AC)(H₀:Hp)(τ:AV)(F H:Hp)(σ:St)(E:Ev):Prop where
 sub:Sub F H
 len:E.length=σ.length
 val:∀(i:Nat) d,E[i]?=AA (.val d)->∃v,σ[i]?=AA (AA v)/\Rep K F v d
 own:∀(i:Nat) t d,E[i]?=AA (.own t d)->∃a,σ[i]?=AA (AA (.ref a))/\F a=AL/\OwnAt K F H a d/\(∀o u,H₀ a≠AA (.frz o u))/\(t=AQ->τ=a)
 inj:∀(i j:Nat) t u d e a,E[i]?=AA (.own t d)->E[j]?=AA (.own u e)->σ[i]?=AA (AA (.ref a))->σ[j]?=AA (AA (.ref a))->i=j
def Nw(H:Hp)(a:AV):Prop:=∀o,H a=AA o->¬lP o
theorem Nw.none(h:H a=AL):Nw H a:=λo e=>by rw[h] at e;cases e
structure Stp(ow:AV->Prop)(F H F' H':Hp)(aP:AV->Prop):Prop where
 keep:∀a o,H a=AA o->lP o->F a=AL->¬ow a->H' a=AA o
 dom:∀a,H' a=AL->H a=AL
 le:Le F F'
 new:∀a o,F' a=AA o->F a≠AL\/Nw H a\/ow a
 own:∀a,aP a->ow a\/H a=AL
section
variable{K:AC}{ow TF De:AV->Prop}
theorem Stp.refl:Stp ow F H F H ow:={λ_ _ h _ _ _=>h,λ_ h=>h,.refl _,λa o e=>.inl (by rw[e];exact nofun),λ_ h=>.inl h}
theorem Stp.nF(x:Stp ow F H F1 H1 TF)(hf:F a=AL)(e:H a=AA o)(hw:lP o)(ho:¬ow a):F1 a=AL:=by
 cases e1:F1 a with
 |none=>rfl
 |some u =>
  rcases x.new a u e1 with z|z|z
  .exact absurd hf z
  .exact absurd hw (z o e)
  .exact absurd z ho
theorem Stp.nw(x:Stp ow F H F1 H1 TF)(z:Nw H1 a):F a≠AL\/Nw H a\/ow a:=by
 by_cases h1:F a=AL
 .by_cases h2:ow a
  .exact .inr (.inr h2)
  .exact .inr (.inl λo e hw=>z o (x.keep a o e hw h1 h2) hw)
 .exact .inl h1
theorem Stp.trans(x:Stp ow F H F1 H1 TF)(y:Stp TF F1 H1 F2 H2 De):Stp ow F H F2 H2 De:=by
 have o1:∀a,H a≠AL->¬ow a->¬TF a:=λa hh ho z=>(x.own a z).elim ho hh;refine{λa o e hw hf ho=>?_,λa h=>x.dom a (y.dom a h),x.le.trans y.le,λa o e=>?_,λa h=>?_}
 .have hh:H a≠AL:=by rw[e];exact nofun
  exact y.keep a o (x.keep a o e hw hf ho) hw (x.nF hf e hw ho) (o1 a hh ho)
 .rcases y.new a o e with z|z|z
  .cases e1:F1 a with
   |none=>exact absurd e1 z
   |some u=>exact x.new a u e1
  .exact x.nw z
  .exact(x.own a z).elim (λq=>.inr (.inr q)) λq=>.inr (.inl (.none q))
 .exact(y.own a h).elim (x.own a) λq=>.inr (x.dom a q)
theorem Stp.weak(x:Stp ow F H F1 H1 TF)(h:∀a,De a->TF a):Stp ow F H F1 H1 De:={x.keep,x.dom,x.le,x.new,λa q=>x.own a (h a q)}
def New(F H F' H':Hp):Prop:=Stp (λ_=>False) F H F' H' (λ_=>False)/\Sub F' H'
theorem New.stp(n:New F H F' H'):Stp ow F H F' H' ow :={λa o e hw hf _=>n.1.keep a o e hw hf id,n.1.dom,n.1.le,λa o e=>(n.1.new a o e).elim .inl λz=>z.elim (λz=>.inr (.inl z)) λz=>z.elim,λ_ h=>.inl h}
theorem New.refl(s:Sub F H):New F H F H:={Stp.refl,s}
theorem New.trans(x:New F H F1 H1)(y:New F1 H1 F2 H2):New F H F2 H2:={x.1.trans y.1,y.2}
theorem New.laid(s:Sub F H)(h:H p=AL):New F H (DZ F p o) (DZ H p o):=by
 have hf:F p=AL:=by
  cases e:F p with
  |none=>rfl
  |some u=>rw[s p u e] at h;cases h
 refine{{λa u e _ _ _=>by rw[EH (SF e h)];exact e,λa e=>?_,.of_gr (Gr.new hf),λa u e=>?_,λ_ z=>z.elim},λa u e=>?_}
 .by_cases ha:a=p
  .subst ha;rw[GO] at e;cases e
  .rw[EH ha] at e;exact e
 .by_cases ha:a=p
  .subst ha;exact .inr (.inl (.none h))
  .rw[EH ha] at e;exact .inl (by rw[e];exact nofun)
 .by_cases ha:a=p
  .subst ha;rw[GO] at e ⊢;exact e
  .rw[EH ha] at e ⊢;exact s a u e
theorem Gr.dom(g:Gr H H')(a:AV)(e:H' a=AL):H a=AL:=by
 cases q:H a with
 |none=>rfl
 |some o=>rw[g a o q] at e;cases e
theorem pA6(s:Sub F H)(g:Gr H H'):New F H F H' :={{λa o e _ _ _=>g a o e,g.dom,.refl _,λa o e=>.inl (by rw[e];exact nofun),λ_ z=>z.elim},λa u e=>g a u (s a u e)}
def gro(F H H':Hp):Hp:=λa=>match H a with|none=>H' a|some _=>F a
theorem Fx(h:H a=AL):gro F H H' a=H' a:=by unfold gro;rw[h]
theorem Fw(h:H a=AA o):gro F H H' a=F a:=by unfold gro;rw[h]
theorem New.gro(s:Sub F H)(g:Gr H H'):New F H (gro F H H') H':=by
 refine{{λa o e _ _ _=>g a o e,g.dom,.of_gr λa u e=>by rw[Fw (s a u e)];exact e,λa o e=>?_,λ_ z=>z.elim},λa u e=>?_}
 .cases q:H a with
  |none=>exact .inr (.inl (.none q))
  |some v=>rw[Fw q] at e;exact .inl (by rw[e];exact nofun)
 .cases q:H a with
  |none=>rw[Fx q] at e;exact e
  |some v=>rw[Fw q] at e;exact g a u (s a u e)
theorem Sim.new(S:Sim K H₀ τ F H σ E)(n:New F H F' H'):Sim K H₀ τ F' H' σ E where
 sub:=n.2
 len:=S.len
 val:=λi d e=>let ⟨v,h1,h2⟩:=S.val i d e;{v,h1,h2.le n.1.le}
 own:=λi t d e=>by have{a,h1,h2,h3,h4}:=S.own i t d e;have{o,ho,hw}:=h3.ho;exact{a,h1,n.1.nF h2 ho hw id,h3.mono n.1.le ((n.1.keep a o ho hw h2 id).trans ho.symm),h4}
 inj:=S.inj
theorem Sim.fresh(S:Sim K H₀ τ F H σ E){a:AV}(h:H a=AL):¬EJ σ E a:=λq0=>by have{i,t,d,e,e'}:=q0;have{b,h1,_,h3,_}:=S.own i t d e;rw[e'] at h1;cases h1;have{o,ho,_}:=h3.ho;rw[h] at ho;cases ho
end
abbrev G:=Ev->Out (D×Ev)
def tV(K:AC)(H₀:Hp)(g:G):TE:=λσ H Q=>∃τ F E d E',Sim K H₀ τ F H σ E/\g E=.ok (d,E') /\ ∀v F' H',Stp (EJ σ E) F H F' H' (EJ σ E')->Sim K H₀ τ F' H' σ E'->Rep K F' v d->Q v H'
def tF(K:AC)(H₀:Hp)(g:G):TE:=λσ H Q=>∃τ F E d E',Sim K H₀ τ F H σ E/\g E=.ok (d,E') /\ ∀a F' H',Stp (EJ σ E) F H F' H' (EJ σ E')->Sim K H₀ τ F' H' σ E'->F' a=AL->H a=AL->OwnAt K F' H' a d->¬EJ σ E' a->Q (.ref a) H'
def tT(K:AC)(H₀:Hp)(g:Ev->Out (Bool×Ev)):TT:=λσ H Q=>∃τ F E b E',Sim K H₀ τ F H σ E/\g E=.ok (b,E') /\ ∀F' H',Stp (EJ σ E) F H F' H' (EJ σ E')->Sim K H₀ τ F' H' σ E'->Q b H'
theorem PE.imp(h:PE X e t)(hi:∀σ H Q,t' σ H Q->t σ H Q):PE X e t':=λAJ s σ H Q I q=>h AJ s σ H Q I (hi σ H Q q)
theorem PT.imp(h:PT X e t)(hi:∀σ H Q,t' σ H Q->t σ H Q):PT X e t':=λAJ s σ H Q I q=>h AJ s σ H Q I (hi σ H Q q)
theorem PW.imp(h:PW X e t)(hi:∀σ H Q,t' σ H Q->t σ H Q):PW X e t':=λw AJ s σ H Q I q=>h w AJ s σ H Q I (hi σ H Q q)
theorem PS.imp(h:PS X e t)(hi:∀D σ H,t' D σ H->t D σ H):PS X e t':=λAJ s σ H D I q=>h AJ s σ H D I (hi D σ H q)
theorem PSs.imp(h:PSs X e t)(hi:∀D σ H,t' D σ H->t D σ H):PSs X e t':=λAJ s σ H D I q=>h AJ s σ H D I (hi D σ H q)
abbrev VE(X:Cx)(e:EU)(g:G):Prop:=PE X e (tV X.K X.H₀ g)
abbrev FE(X:Cx)(e:EU)(g:G):Prop:=PE X e (tF X.K X.H₀ g)
abbrev VT(X:Cx)(e:EU)(g:Ev->Out (Bool×Ev)):Prop:=PT X e (tT X.K X.H₀ g)
section
variable{K:AC}
theorem pA7{H:Hp}(h:tV K H₀ g σ H Q):tF K H₀ g σ H Q:=by
 have{τ,F,E,d,E',S,hg,k}:=h;refine{τ,F,E,d,E',S,hg,λp F' H' st S' n n0 ow no=>?_};have{o,ho,hown}:=ow.ho;have nw:Stp (EJ σ E) F H (DZ F' p o) H' (EJ σ E'):={st.keep,st.dom,st.le.trans (.of_gr (Gr.new n)),λa u e=>by
  by_cases ha:a=p
  .subst ha;exact .inr (.inl (.none n0))
  .rw[EH ha] at e;exact st.new a u e,st.own}
 refine k _ _ _ nw {λa u e=>?_,S'.len,λi d e=>?_,λi t d e=>?_,S'.inj} (ow.rep n ho)
 .by_cases ha:a=p
  .subst ha;rw[GO] at e;rw[ho];exact e
  .rw[EH ha] at e;exact S'.sub a u e
 .have{v,h1,h2}:=S'.val i d e;exact{v,h1,h2.le (.of_gr (Gr.new n))}
 .have{b,h1,h2,h3,h4}:=S'.own i t d e;refine{b,h1,?_,h3.mono (.of_gr (Gr.new n)) rfl,h4};rw[EH (λz=>no {i,t,d,e,by rw[<-z];exact h1})];exact h2
theorem pA8(h:FE X e g):VE X e g:=PE.imp h λ_ _ _ q=>pA7 q
noncomputable def AX(i:Nat):G:=λE=>match E[i]? with
 |some (.val d)=>.ok (d,E)
 |some (.own AE d)=>.ok (d,E.set i (.val d))
 |_=>.bad
def gC(d:D):G:=λE=>.ok (d,E)
theorem Sim.share(S:Sim K H₀ τ F H σ E)(e:E[i]?=AA (.own t d)) : ∃a F',σ[i]?=AA (AA (.ref a))/\Stp (EJ σ E) F H F' H (EJ σ (E.set i (.val d)))/\Sim K H₀ τ F' H σ (E.set i (.val d))/\Rep K F' (.ref a) d:=by
 have{a,h1,h2,h3,h4}:=S.own i t d e;have{o,ho,_}:=h3.ho;have hi:=(AH.mp e).1;have l:Le F (DZ F a o):=.of_gr (Gr.new h2);have GR:∀j t d',(E.set i (.val d))[j]?=AA (.own t d')->j≠i/\E[j]?=AA (.own t d'):=λj t d' q=>by
  by_cases hj:i=j
  .subst hj;rw[BQ hi] at q;cases q
  .rw[BK hj] at q;exact{CT hj,q}
 refine{a,DZ F a o,h1,{λ_ _ q _ _ _=>q,λ_ q=>q,l,λb u q=>?_,λb ⟨j,t',d',q1,q2⟩=>.inl {j,t',d',(GR j t' d' q1).2,q2}},{λb u q=>?_,by rw[DI];exact S.len,λj d' q=>?_,λj t' d' q=>?_,λj k t1 t2 d1 d2 b q1 q2=>S.inj j k t1 t2 d1 d2 b (GR _ _ _ q1).2 (GR _ _ _ q2).2},h3.rep h2 ho}
 .by_cases hb:b=a
  .subst hb;exact .inr (.inr {i,t,d,e,h1})
  .rw[EH hb] at q;exact .inl (by rw[q];exact nofun)
 .by_cases hb:b=a
  .subst hb;rw[GO] at q;rw[ho];exact q
  .rw[EH hb] at q;exact S.sub b u q
 .by_cases hj:i=j
  .subst hj;rw[BQ hi] at q;cases q;exact{_,h1,h3.rep h2 ho}
  .rw[BK hj] at q;have{v,z1,z2}:=S.val j d' q;exact{v,z1,z2.le l}
 .have{hj,q}:=GR j t' d' q;have{b,z1,z2,z3,z4}:=S.own j t' d' q;refine{b,z1,?_,z3.mono l rfl,z4};rw[EH (λz=>hj (S.inj j i t' t d' d a q e (by rw[z1,z]) h1))];exact z2
theorem BO(i:Nat)(hN:X.N[i]?=AA x:=by rfl)(hv:eI X.env.scope x:=by first|exact BM rfl|exact D5 (BM rfl)|exact D5 (D5 rfl))(hd:(x==("__debug__":C7))=AE:=by decide) (OG:(x==("__classdict__":C7))=AE:=by decide):VE X (.Name x pos) (AX i):=(oC hN hv hd OG).imp λσ H Q h=>by
 have{τ,F,E,d,E',S,hg,k}:=h;unfold AX at hg;split at hg
 .cases hg;rename_i e;have{v,h1,h2}:=S.val i _ e;exact{v,h1,k v F H .refl S h2}
 .cases hg;rename_i e;have{a,F',h1,h2,h3,h4}:=S.share e;exact{_,h1,k _ F' H h2 h3 h4}
 .cases hg
theorem Jk(r:∀F,Rep K F v d)(h:tV K H₀ (gC d) σ H Q):tC v σ H Q:=by have{τ,F,E,d',E',S,hg,k}:=h;cases hg;exact k v F H .refl S (r F)
theorem GU {i j pos}:VE X (.Constant (.int i) j pos) (gC (.int i)):=VX.imp λ_ _ _ h=>Jk (λ_=>.int i) h
theorem jJ {b j pos}:VE X (.Constant (.bool b) j pos) (gC (.bl b)):=wA.imp λ_ _ _ h=>Jk (λ_=>.bl b) h
theorem hJ {j pos}:VE X (.Constant .none j pos) (gC .non):=oY.imp λ_ _ _ h=>Jk (λ_=>.non) h
def g2(f:D->D->Out D)(ga gb:G):G:=λE=>(ga E).bind λp=>(gb p.2).bind λq=>(f p.1 q.1).bind λd=>.ok (d,q.2)
def g1(f:D->Out D)(ga:G):G:=λE=>(ga E).bind λp=>(f p.1).bind λd=>.ok (d,p.2)
def VB(K:AC)(rd:R2)(f:D->D->Out D):Prop:=∀v u x y F H d Q,Sub F H->Rep K F v x->Rep K F u y->f x y=.ok d->(∀z F' H',New F H F' H'->Rep K F' z d->Q z H')->rd v u H Q
def Kr(K:AC)(rd:V->Hp->VK->Prop)(f:D->Out D):Prop:=∀v x F H d Q,Sub F H->Rep K F v x->f x=.ok d->(∀z F' H',New F H F' H'->Rep K F' z d->Q z H')->rd v H Q
theorem zZ{f:D->D->Out D}(hs:VB K rd f)(h:tV K H₀ (g2 f ga gb) σ H Q):v9 rd (tV K H₀ ga) (tV K H₀ gb) σ H Q:=by have{τ,F,E,d,E',S,hg,k}:=h;have{p,ea,hg}:=pA3 hg;have{q,eb,hg}:=pA3 hg;have{z,ef,hg}:=pA3 hg;cases hg;refine{τ,F,E,p.1,p.2,S,ea,λv F1 H1 st1 S1 r1=>?_};refine{τ,F1,p.2,q.1,q.2,S1,eb,λu F2 H2 st2 S2 r2=>?_};exact hs v u p.1 q.1 F2 H2 d Q S2.sub (r1.le st2.le) r2 ef λz F3 H3 n r3=>k z F3 H3 ((st1.trans st2).trans n.stp) (S2.new n) r3
theorem yHO{rd:V->Hp->VK->Prop}{f:D->Out D}(hs:Kr K rd f){H:Hp}(h:tV K H₀ (g1 f ga) σ H Q):tUn rd (tV K H₀ ga) σ H Q:=by have{τ,F,E,d,E',S,hg,k}:=h;have{p,ea,hg}:=pA3 hg;have{z,ef,hg}:=pA3 hg;cases hg;refine{τ,F,E,p.1,p.2,S,ea,λv F1 H1 st1 S1 r1=>?_};exact hs v p.1 F1 H1 d Q S1.sub r1 ef λz F3 H3 n r3=>k z F3 H3 (st1.trans n.stp) (S1.new n) r3
theorem sG(ho:OpR X (HI op) rd)(hs:VB X.K rd f)(ha:VE X a ga)(hb:VE X b gb):VE X (.BinOp a op b pos) (g2 f ga gb):=(yDO ho ha hb).imp λ_ _ _ h=>zZ hs h
theorem yKP{rd:V->Hp->VK->Prop}(ho:Cz X (unaryOp op) rd)(hs:Kr X.K rd f)(ha:VE X a ga):VE X (.UnaryOp op a pos) (g1 f ga):=(Ek ho ha).imp λ_ _ _ h=>yHO hs h
theorem zV(ho:OpR X (EL op) rd)(hs:VB X.K rd f)(ha:VE X a ga)(hb:VE X b gb)(hm:DP op b=AE):VE X (.Compare a [op] [b] pos) (g2 f ga gb):=(zZQ ho ha hb hm).imp λ_ _ _ h=>zZ hs h
def gB(g:G):Ev->Out (Bool×Ev):=λE=>(g E).bind λp=>match p.1 with|.bl b=>.ok (b,p.2)|_=>.bad
theorem jV{op:CmpOp}{rd:R2}{f:D->D->Out D}(ho:OpR X (EL op) rd)(hs:VB X.K rd f)(ha:VE X a ga)(hb:VE X b gb)(hm:DP op b=AE):VT X (.Compare a [op] [b] pos) (gB (g2 f ga gb)):=(Gd ho ha hb hm).imp λσ H Q h=>by
 have{τ,F,E,b',E',S,hg,k}:=h;have{p,ea,hg}:=pA3 hg;refine zZ hs {τ,F,E,p.1,p.2,S,ea,λv F1 H1 st1 S1 r1=>?_};split at hg
 .rename_i b' eb;cases hg;rw[eb] at r1;cases r1;exact{_,rfl,k F1 H1 st1 S1}
 .cases hg
def hG(t:Ev->Out (Bool×Ev)):Ev->Out (Bool×Ev):=λE=>(t E).bind λp=>.ok (!p.1,p.2)
def cM(t u:Ev->Out (Bool×Ev)):Ev->Out (Bool×Ev):=λE=>(t E).bind λp=>if p.1=AQ then u p.2 else .ok (AE,p.2)
def Cf(t u:Ev->Out (Bool×Ev)):Ev->Out (Bool×Ev):=λE=>(t E).bind λp=>if p.1=AQ then .ok (AQ,p.2) else u p.2
theorem Ff{t:Ev->Out (Bool×Ev)}(h:VT X a t):VT X (.UnaryOp .Not a pos) (hG t):=(yDI h).imp λσ H Q q=>by have{τ,F,E,b',E',S,hg,k}:=q;have{p,ea,hg}:=pA3 hg;cases hg;exact{τ,F,E,p.1,p.2,S,ea,λF1 H1 st1 S1=>k F1 H1 st1 S1}
abbrev VW(X:Cx)(e:EU)(g:Ev->Out (Bool×Ev)):Prop:=PW X e (tT X.K X.H₀ g)
theorem VW.t{t:Ev->Out (Bool×Ev)}(h:VW X a t):VT X a t:=PW.pt h
theorem vA(h:VT X a t):VW X (.BoolOp .And [a] pos) t:=zZJ h
theorem yEK(h:VT X a t):VW X (.BoolOp .Or [a] pos) t:=yDG h
theorem uO{t u:Ev->Out (Bool×Ev)}{rest:List EU}(h:VT X a t)(h':VW X (.BoolOp .And (b::rest) pos) u):VW X (.BoolOp .And (a::b::rest) pos) (cM t u):=(yDH h h').imp λσ H Q q=>by
 have{τ,F,E,b',E',S,hg,k}:=q;have{p,ea,hg}:=pA3 hg;refine{τ,F,E,p.1,p.2,S,ea,λF1 H1 st1 S1=>?_};by_cases hp:p.1=AQ
 .rw[if_pos hp] at hg ⊢;exact{τ,F1,p.2,b',E',S1,hg,λF2 H2 st2 S2=>k F2 H2 (st1.trans st2) S2}
 .rw[if_neg hp] at hg ⊢;cases hg;exact k F1 H1 st1 S1
theorem yHP{t u:Ev->Out (Bool×Ev)}{rest:List EU}(h:VT X a t)(h':VW X (.BoolOp .Or (b::rest) pos) u):VW X (.BoolOp .Or (a::b::rest) pos) (Cf t u):=(yG0 h h').imp λσ H Q q=>by
 have{τ,F,E,b',E',S,hg,k}:=q;have{p,ea,hg}:=pA3 hg;refine{τ,F,E,p.1,p.2,S,ea,λF1 H1 st1 S1=>?_};by_cases hp:p.1=AQ
 .rw[if_pos hp] at hg ⊢;cases hg;exact k F1 H1 st1 S1
 .rw[if_neg hp] at hg ⊢;exact{τ,F1,p.2,b',E',S1,hg,λF2 H2 st2 S2=>k F2 H2 (st1.trans st2) S2}
def yK6(ga gb:G):G:=λE=>(ga E).bind λp=>match p.1 with|.bl AQ=>gb p.2|.bl AE=>.ok (.bl AE,p.2)|_=>.bad
def iL(ga gb:G):G:=λE=>(ga E).bind λp=>match p.1 with|.bl AQ=>.ok (.bl AQ,p.2)|.bl AE=>gb p.2|_=>.bad
theorem Ke {op} (h:VE X a g):VE X (.BoolOp op [a] pos) g:=yDJ h
theorem Jj{rest:List EU}(ha:VE X a ga)(hb:VE X (.BoolOp .Or (b::rest) pos) gb):VE X (.BoolOp .Or (a::b::rest) pos) (iL ga gb):=(yG1 ha hb).imp λσ H Q q=>by
 have{τ,F,E,d,E',S,hg,k}:=q;have{p,ea,hg}:=pA3 hg;refine{τ,F,E,p.1,p.2,S,ea,λv F1 H1 st1 S1 r1=>?_};split at hg
 .rename_i eb;rw[eb] at r1;cases r1;cases hg;exact{AQ,rfl,yKK (k _ F1 H1 st1 S1 (.bl AQ))}
 .rename_i eb;rw[eb] at r1;cases r1;exact{AE,rfl,yKJ {τ,F1,p.2,d,E',S1,hg,λv F2 H2 st2 S2 r2=>k v F2 H2 (st1.trans st2) S2 r2}}
 .cases hg
def wG(t:Ev->Out (Bool×Ev))(ga gb:G):G:=λE=>(t E).bind λp=>if p.1=AQ then ga p.2 else gb p.2
theorem Yu{c:EU}{t:Ev->Out (Bool×Ev)}(hc:VT X c t)(ha:VE X a ga)(hb:VE X b gb):VE X (.IfExp c a b pos) (wG t ga gb):=(zVL hc ha hb).imp λσ H Q q=>by
 have{τ,F,E,d,E',S,hg,k}:=q;have{p,ea,hg}:=pA3 hg;refine{τ,F,E,p.1,p.2,S,ea,λF1 H1 st1 S1=>?_};by_cases hp:p.1=AQ
 .rw[if_pos hp] at hg ⊢;exact{τ,F1,p.2,d,E',S1,hg,λv F2 H2 st2 S2 r=>k v F2 H2 (st1.trans st2) S2 r}
 .rw[if_neg hp] at hg ⊢;exact{τ,F1,p.2,d,E',S1,hg,λv F2 H2 st2 S2 r=>k v F2 H2 (st1.trans st2) S2 r}
end
def Thw(H₀ H H2:Hp):Prop:=∀a,H2 a=H a\/∃o u,H a=AA (.frz o u)/\H2 a=AA u/\uG u/\∀o' u',H₀ a≠AA (.frz o' u')
theorem Inv.thaw(I:Inv X AJ σ H s)(t:Thw X.H₀ H H2):Inv X AJ σ H2 s:=by
 have tn:∀a,H a=AL->H2 a=AL:=λa e=>by
  rcases t a with h|⟨o,u,h,_⟩
  .rw[h,e]
  .rw[e] at h;cases h
 have tk:∀a v,H a=AA v->(∀o u,v≠.frz o u)->H2 a=AA v:=λa v e n=>by
  rcases t a with h|⟨o,u,h,_⟩
  .rw[h,e]
  .rw[e] at h;cases h;exact absurd rfl (n o u)
 refine{I.ok,I.os,I.bare,{I.base.keep,I.base.slot,λb o e n hx=>tn b (I.base.free b o e n hx),I.base.there,λb xs e=>tk b _ (I.base.tups b xs e) (λ_ _ z=>HO.noConfusion z),λb o u e=>?_,λb t' ps e=>?_},I.loc,I.cell,tn _ I.free,λx c e=>tn c (I.freeC x c e),λp hp=>?_,λb u e=>?_,I.len}
 .rcases t b with h|⟨o',u',_,_,_,h⟩
  .rw[h];exact I.base.frzs b o u e
  .exact absurd e (h o u)
 .have{m,h}:=I.base.tbls b t' ps e;exact{m,tk b _ h (λ_ _ z=>HO.noConfusion z)}
 .have{h1,h2,h3}:=I.pin p hp;exact{h1,tn _ h2,h3}
 .have ok:ObjOk X.prog X.w H s.heap b u:=by
   rcases t b with h|⟨o',u',h1,h2,_⟩
   .exact I.hok b u (by rw[<-h];exact e)
   .rw[e] at h2;cases h2;have{_,q}:=I.hok b _ h1;exact q
  exact ok.stay (λc v _ q=>q) (λc q=>tk c _ q (λ_ _ z=>HO.noConfusion z)) (λc ys q=>tk c _ q (λ_ _ z=>HO.noConfusion z)) λc o x q=>(t c).elim (λh=>h.trans q) (λq0=>by have{_,_,h,_,d,_}:=q0;exact by rw[q] at h;cases h;exact d.elim)
mutual
noncomputable def D.flat:D->Bool
 |.tup xs=>pA9 xs
 |.lst _=>AE
 |.dk _=>AE
 |.dt _=>AE
 |_=>AQ
noncomputable def pA9:List D->Bool
 |[]=>AQ
 |d::ds=>d.flat&&pA9 ds
end
mutual
noncomputable def D.nod:D->Bool
 |.tup xs=>pAA xs
 |.lst xs=>pAA xs
 |.dk _=>AE
 |.dt _=>AE
 |_=>AQ
noncomputable def pAA:List D->Bool
 |[]=>AQ
 |d::ds=>d.nod&&pAA ds
end
section
variable{K:AC}
theorem pAB(ht:∀a vs,F a=AA (.tup vs)->F2 a=AA (.tup vs)):(∀{v d},Rep K F v d->d.flat=AQ->Rep K F2 v d)/\(∀{vs ds},Reps K F vs ds->pA9 ds=AQ->Reps K F2 vs ds) /\ (∀{vs ds},RepK K F vs ds->pA9 (ds.map (·.2))=AQ->RepK K F2 vs ds)/\∀{vs ds},RepT K F vs ds->pA9 (ds.map (·.2))=AQ->RepT K F2 vs ds :=Rep.ind (λ_=>.non) (λb _=>.bl b) (λi _=>.int i) (λx _=>.str x) (λh _ ih e=>.tup (ht _ _ h) (ih (by rw[D.flat] at e;exact e))) (λh n _=>.tupK h n) (λ_ _ _ e=>by rw[D.flat] at e;cases e) (λ_ _ _ e=>by rw[D.flat] at e;cases e) (λ_ _ _ e=>by rw[D.flat] at e;cases e) (λ_=>.nil) (λ_ _ h r e=>by rw[pA9,CP] at e;exact .cons (h e.1) (r e.2)) (λ_=>.nil) (λ_ _ h r e=>by rw[AU,pA9,CP] at e;exact .cons (h e.1) (r e.2)) (λ_=>.nil) (λ_ _ h r e=>by rw[AU,pA9,CP] at e;exact .cons (h e.1) (r e.2))
theorem pAC(ht:∀a vs,F a=AA (.tup vs)->F2 a=AA (.tup vs))(r:Rep K F v d):d.flat=AQ->Rep K F2 v d:=(pAB ht).1 r
theorem pAD(ht:∀a vs,F a=AA (.tup vs)->F2 a=AA (.tup vs))(hl:∀a vs,SqL K F a vs->SqL K F2 a vs):(∀{v d},Rep K F v d->d.nod=AQ->Rep K F2 v d)/\(∀{vs ds},Reps K F vs ds->pAA ds=AQ->Reps K F2 vs ds) /\ (∀{vs ds},RepK K F vs ds->True)/\∀{vs ds},RepT K F vs ds->True :=Rep.ind (λ_=>.non) (λb _=>.bl b) (λi _=>.int i) (λx _=>.str x) (λh _ ih e=>.tup (ht _ _ h) (ih (by rw[D.nod] at e;exact e))) (λh n _=>.tupK h n) (λh _ ih e=>.lst (hl _ _ h) (ih (by rw[D.nod] at e;exact e))) (λ_ _ _ e=>by rw[D.nod] at e;cases e) (λ_ _ _ e=>by rw[D.nod] at e;cases e) (λ_=>.nil) (λ_ _ h r e=>by rw[pAA,CP] at e;exact .cons (h e.1) (r e.2)) trivial (λ_ _ _ _=>trivial) trivial (λ_ _ _ _=>trivial)
theorem pAE(ht:∀a vs,F a=AA (.tup vs)->F2 a=AA (.tup vs))(hl:∀a vs,SqL K F a vs->SqL K F2 a vs)(r:Rep K F v d):d.nod=AQ->Rep K F2 v d:=(pAD ht hl).1 r
end
noncomputable def cL(is:List Nat)(j:Nat):Sl->Sl
 |.own _ d=>if is.contains j then .val d else .no
 |s=>s
def jQ(is:List Nat):Nat->Ev->Ev
 |_,[]=>[]
 |j,s::E=>cL is j s::jQ is (j+1) E
abbrev P8(is:List Nat)(E:Ev):Ev:=jQ is 0 E
theorem Vx(is:List Nat):∀(E:Ev) (k j:Nat),(jQ is k E)[j]?=(E[j]?).map (cL is (k+j))
 |[],_,_=>by simp[jQ]
 |s::E,k,0=>by simp[jQ]
 |s::E,k,j+1=>by show(jQ is (k+1) E)[j]?=_;rw[Vx is E (k+1) j,FW,show k+1+j=k+(j+1) by lia]
theorem Uj(is:List Nat)(E:Ev)(j:Nat):(P8 is E)[j]?=(E[j]?).map (cL is j):=by rw[Vx];simp
theorem Vw(is:List Nat):∀(E:Ev) (k:Nat),(jQ is k E).length=E.length
 |[],_=>rfl
 |s::E,k=>by rw[jQ,A8,A8,Vw is E (k+1)]
def sE:Option Sl->Bool
 |some (.own _ (.lst _))=>AQ
 |_=>AE
noncomputable def Ce:Option Sl->Bool
 |some (.own _ (.dk _))=>AQ
 |some (.own _ (.dt _))=>AQ
 |_=>AE
def jU(is:List Nat)(E:Ev)(d:D):Bool:=(!(is.any λi=>sE E[i]?)||d.flat)&&(!(is.any λi=>Ce E[i]?)||d.nod)
def O9(is:List Nat)(g:G):G:=λE=>(g (P8 is E)).bind λp=>if jU is E p.1=AQ then .ok (p.1,E) else .bad
def YL(is:List Nat)(g:Ev->Out (Bool×Ev)):Ev->Out (Bool×Ev):=λE=>(g (P8 is E)).bind λp=>.ok (p.1,E)
section
variable{K:AC}
def Lent(σ:St)(E:Ev)(is:List Nat)(a:AV):Prop:=∃(i:Nat) (t:Bool) (d:D),i∈is/\E[i]?=AA (Sl.own t d)/\σ[i]?=AA (AA (V.ref a))
theorem Lent.ow(h:Lent σ E is a):EJ σ E a:=let ⟨i,t,d,_,e,q⟩:=h;{i,t,d,e,q}
theorem Sim.owned(S:Sim K H₀ τ F H σ E)(h:EJ σ E a):F a=AL/\(∃o,H a=AA o/\lP o)/\∀o u,H₀ a≠AA (.frz o u):=by have{i,t,d,e,q}:=h;have{b,h1,h2,h3,h4,_}:=S.own i t d e;rw[q] at h1;cases h1;exact{h2,h3.ho,h4}
open Classical in
noncomputable def aE(σ:St)(E:Ev)(is:List Nat)(F H:Hp):Hp:=λa=>if Lent σ E is a then H a else F a
open Classical in
noncomputable def Y3(σ:St)(E:Ev)(is:List Nat)(F':Hp):Hp:=λa=>if Lent σ E is a then AL else F' a
open Classical in
noncomputable def gZ(σ:St)(E:Ev)(is:List Nat)(H H':Hp):Hp:=λa=>if Lent σ E is a then H a else H' a
theorem Sim.lend(S:Sim K H₀ τ F H σ E)(is:List Nat):Sim K H₀ τ (aE σ E is F H) H σ (P8 is E)/\∀a,¬EJ σ (P8 is E) a:=by
 have l:Le F (aE σ E is F H):=λa u e=>by
  refine .inl ?_;unfold aE;split
  .exact S.sub a u e
  .exact e
 have no:∀(i:Nat) t d,(P8 is E)[i]?≠AA (.own t d):=λi t d e=>by
  rw[Uj] at e;cases q:E[i]? with
  |none=>rw[q] at e;cases e
  |some s =>
   rw[q] at e;have e:cL is i s=.own t d:=BJ e;cases s with
   |no=>cases e
   |val _=>cases e
   |own t' d' =>
    by_cases hc:is.contains i=AQ
    .rw[show cL is i (.own t' d')=.val d' from if_pos hc] at e;cases e
    .rw[show cL is i (.own t' d')=.no from if_neg hc] at e;cases e
 refine{{λa u e=>?_,by rw[Vw];exact S.len,λi d e=>?_,λi t d e=>absurd e (no i t d),λi j t u d d' a e=>absurd e (no i t d)},(λa q0=>by have{i,t,d,e,_}:=q0;exact no i t d e)}
 .unfold aE at e;split at e
  .exact e
  .exact S.sub a u e
 .rw[Uj] at e;cases q:E[i]? with
  |none=>rw[q] at e;cases e
  |some s =>
   rw[q] at e;have e:cL is i s=.val d:=BJ e;cases s with
   |no=>cases e
   |val d'=>cases e;have{v,h1,h2}:=S.val i d q;exact{v,h1,h2.le l}
   |own t' d' =>
    by_cases hc:is.contains i=AQ
    .rw[show cL is i (.own t' d')=.val d' from if_pos hc] at e;cases e;have{a,h1,h2,h3,_}:=S.own i t' d q;have{o,ho,_}:=h3.ho;refine{.ref a,h1,(h3.rep h2 ho).le λb u e=>.inl ?_};have la:Lent σ E is a:={i,t',d,by simpa using hc,q,h1};by_cases hb:b=a
     .subst hb;rw[GO] at e;unfold aE;rw[if_pos la,ho];exact e
     .rw[EH hb] at e;unfold aE;split
      .exact S.sub b u e
      .exact e
    .rw[show cL is i (.own t' d')=.no from if_neg hc] at e;cases e
theorem Sim.back(S:Sim K H₀ τ F H σ E)(is:List Nat){aP:AV->Prop}(st:Stp (λ_=>False) (aE σ E is F H) H F' H' aP)(sb:Sub F' H') : Thw H₀ H' (gZ σ E is H H')/\Stp (EJ σ E) F H (Y3 σ E is F') (gZ σ E is H H') (EJ σ E)/\Sim K H₀ τ (Y3 σ E is F') (gZ σ E is H H') σ E /\ (∀a u,F' a=AA u->(∀o w,lP o->u≠o/\u≠.frz w o)->Y3 σ E is F' a=AA u) /\ ((is.any λi=>sE E[i]?)=AE->∀a vs,SqL K F' a vs->SqL K (Y3 σ E is F') a vs):=by
 have lh:∀a,Lent σ E is a->∃o,H a=AA o/\lP o/\(F' a=AA o\/(uG o/\∃w,F' a=AA (.frz w o))):=λa h=>by have{_,zz',_}:=S.owned h.ow;have{o,ho,hw}:=zz';refine{o,ho,hw,(st.le a o ?_).imp_right λz=>z.resolve_right (λq0=>by have{_,_,_,y,_}:=q0;exact by subst y;exact hw)};unfold aE;rw[if_pos h];exact ho
 have l2:Le F (Y3 σ E is F'):=λa u e=>by
  have hn:¬Lent σ E is a:=λh=>by rw[(S.owned h.ow).1] at e;cases e
  unfold Y3;rw[if_neg hn];exact st.le a u (by unfold aE;rw[if_neg hn];exact e)
 have kp:∀a o,H a=AA o->lP o->F a=AL->gZ σ E is H H' a=AA o:=λa o e hw n=>by
  unfold gZ;by_cases h:Lent σ E is a
  .rw[if_pos h];exact e
  .rw[if_neg h];exact st.keep a o e hw (by unfold aE;rw[if_neg h];exact n) id
 have nw:∀a o,Y3 σ E is F' a=AA o->F a≠AL\/Nw H a:=λa o e=>by
  unfold Y3 at e;by_cases h:Lent σ E is a
  .rw[if_pos h] at e;cases e
  .rw[if_neg h] at e;rcases st.new a o e with z|z|z
   .unfold aE at z;rw[if_neg h] at z;exact .inl z
   .exact .inr z
   .exact z.elim
 refine{λa=>?_,{λa o e hw n _=>kp a o e hw n,λa e=>?_,l2,λa o e=>(nw a o e).imp_right .inl,λ_ h=>.inl h},{λa u e=>?_,S.len,λi d e=>?_,λi t d e=>?_,S.inj},λa u e hn=>?_,λhl a vs h=>?_}
 .by_cases h:Lent σ E is a
  .obtain⟨o,ho,_,z|⟨id,w,z⟩⟩:=lh a h
   .exact .inl (by unfold gZ;rw[if_pos h,sb a o z,ho])
   .exact .inr {w,o,sb a _ z,by unfold gZ;rw[if_pos h,ho],id,(S.owned h.ow).2.2}
  .exact .inl (by unfold gZ;rw[if_neg h])
 .unfold gZ at e;by_cases h:Lent σ E is a
  .rw[if_pos h] at e;exact e
  .rw[if_neg h] at e;exact st.dom a e
 .unfold Y3 at e;by_cases h:Lent σ E is a
  .rw[if_pos h] at e;cases e
  .rw[if_neg h] at e;unfold gZ;rw[if_neg h];exact sb a u e
 .have{v,h1,h2}:=S.val i d e;exact{v,h1,h2.le l2}
 .have{a,h1,h2,h3,h4}:=S.own i t d e;have{o,ho,hw}:=h3.ho;refine{a,h1,?_,h3.mono l2 ((kp a o ho hw h2).trans ho.symm),h4};cases q:Y3 σ E is F' a with
  |none=>rfl
  |some u =>
   rcases nw a u q with z|z
   .exact absurd h2 z
   .exact absurd hw (z o ho)
 .unfold Y3;by_cases h:Lent σ E is a
  .obtain⟨o,ho,hw,z|⟨_,w,z⟩⟩:=lh a h
   .rw[e] at z;cases z;exact absurd rfl (hn u default hw).1
   .rw[e] at z;cases z;exact absurd rfl (hn o w hw).2
  .rw[if_neg h];exact e
 .rcases h with h|h
  case inr=>exact .inr h
  refine .inl ?_;have hn:¬Lent σ E is a:=λhh=>by
   have{o,ho,hw,z}:=lh a hh;have{i,t,d,hi,e,q}:=id hh;have hld:sE E[i]?=AE:=by have:=RJ.mp hl i hi;simpa using this
   have{b,h1,h2,h3,_}:=S.own i t d e;rw[q] at h1;cases h1;have od:uG o:=by
    cases d with
    |lst ds=>rw[e] at hld;cases hld
    |dk ds=>have{_,q,_}:=h3;rw[ho] at q;cases q;trivial
    |dt ds=>have{_,q,_}:=h3;rw[ho] at q;cases q;trivial
    |_=>exact h3.elim
   rcases h with h|⟨w,h⟩<;>rcases z with z|⟨_,w',z⟩<;>rw[h] at z<;>cases z<;>exact od
  unfold Rd Y3;rw[if_neg hn];exact h
theorem zWB(S:Sim K H₀ τ F H σ E)(is:List Nat){aP:AV->Prop}(st:Stp (λ_=>False) (aE σ E is F H) H F' H' aP)(sb:Sub F' H')(hl:jU is E d=AQ)(r:Rep K F' v d):Rep K (Y3 σ E is F') v d:=by
 have{_,_,_,h1,h2}:=S.back is st sb;have ht:∀a vs,F' a=AA (.tup vs)->Y3 σ E is F' a=AA (.tup vs):=λa vs e=>h1 a _ e λo w ho=>{λz=>by subst z;exact ho,λz=>HO.noConfusion z};unfold jU at hl;rw[CP,lF,lF] at hl;rcases hl.1 with z|z
 .rcases hl.2 with y|y
  ·-- nothing is lent at all
   have no:∀a,¬Lent σ E is a:=λa q0=>by
    have{i,t,d,hi,e,q}:=q0;have e1:sE E[i]?=AE:=by have:=RJ.mp (by simpa using z) i hi;simpa using this
    have e2:Ce E[i]?=AE:=by have:=RJ.mp (by simpa using y) i hi;simpa using this
    have{b,_,_,h3,_}:=S.own i t d e;rw[e] at e1 e2;cases d with
    |lst ds=>cases e1
    |dk ds=>cases e2
    |dt ds=>cases e2
    |_=>exact h3.elim
   exact r.le λa u e=>.inl (by unfold Y3;rw[if_neg (no a)];exact e)
  .exact pAE ht (h2 (by simpa using z)) r y
 .exact pAC ht r z
theorem Stp.toF{ow aP:AV->Prop}(h:∀a,¬ow a)(st:Stp ow F H F' H' aP):Stp (λ_=>False) F H F' H' aP :={λa o e hw n _=>st.keep a o e hw n (h a),st.dom,st.le,λa o e=>(st.new a o e).imp_right λz=>z.imp_right (h a),λa z=>(st.own a z).elim (λz=>absurd z (h a)) .inr}
theorem aG(is:List Nat)(h:VE X e g):VE X e (O9 is g):=by
 intro AJ s σ H Q I zz';have{τ,F,E,d,E',S,hg,k}:=zz';have{p,eg,hg}:=pA3 hg;split at hg
 .rename_i hl;cases hg;have{S1,no}:=S.lend is;refine HE (h AJ s σ H (λv H'=>∃F' aP,Stp (λ_=>False) (aE σ E is F H) H F' H' aP/\Sub F' H'/\Rep X.K F' v p.1) I {τ,_,_,p.1,p.2,S1,eg,λv F' H' st S' r=>{F',_,st.toF no,S'.sub,r}}) λu s' q0=>?_;have{v,H',I',rv,F',aP,st,sb,r}:=q0;have{t1,t2,t3,_}:=S.back is st sb;exact{v,_,I'.thaw t1,rv,k v _ _ t2 t3 (zWB S is st sb hl r)}
 .cases hg
theorem rA(is:List Nat)(h:VT X e g):VT X e (YL is g):=by intro AJ s σ H Q I zz';have{τ,F,E,d,E',S,hg,k}:=zz';have{p,eg,hg}:=pA3 hg;cases hg;have{S1,no}:=S.lend is;refine HE (h AJ s σ H (λb H'=>b=p.1/\∃F' aP,Stp (λ_=>False) (aE σ E is F H) H F' H' aP/\Sub F' H') I {τ,_,_,p.1,p.2,S1,eg,λF' H' st S'=>{rfl,F',_,st.toF no,S'.sub}}) λu s' q0=>?_;have{H',I',eb,F',aP,st,sb}:=q0;have{t1,t2,t3,_}:=S.back is st sb;subst eb;exact{_,I'.thaw t1,k _ _ t2 t3}
end
inductive Fl where
 |nx (E:Ev)|rt (b:Bool) (d:D) (E:Ev)|bk (E:Ev)|ct (E:Ev)
abbrev GS:=Ev->Out Fl
def RetR(K:AC)(ow:AV->Prop)(H:Hp)(F' H':Hp)(σ':St)(E':Ev):Bool->V->D->Prop
 |false,v,d=>Rep K F' v d
 |true,v,d=>∃a,v=.ref a/\F' a=AL/\OwnAt K F' H' a d/\(ow a\/H a=AL)/\∀(i:Nat) d',E'[i]?=AA (.own AQ d')->σ'[i]?≠AA (AA (.ref a))
def FlOk(K:AC)(H₀:Hp)(τ:AV)(ow:AV->Prop)(F H:Hp)(D:Ends):Fl->Prop
 |.nx E'=>∀σ' F' H',Stp ow F H F' H' (EJ σ' E')->Sim K H₀ τ F' H' σ' E'->D.nx σ' H'
 |.bk E'=>∀σ' F' H',Stp ow F H F' H' (EJ σ' E')->Sim K H₀ τ F' H' σ' E'->D.bk σ' H'
 |.ct E'=>∀σ' F' H',Stp ow F H F' H' (EJ σ' E')->Sim K H₀ τ F' H' σ' E'->D.ct σ' H'
 |.rt b d E'=>∀σ' v F' H',Stp ow F H F' H' (EJ σ' E')->Sim K H₀ τ F' H' σ' E'->RetR K ow H F' H' σ' E' b v d->D.rt v H'
def tS(K:AC)(H₀:Hp)(g:GS):TS:=λD σ H=>∃τ F E r,Sim K H₀ τ F H σ E/\g E=.ok r/\FlOk K H₀ τ (EJ σ E) F H D r
abbrev VS(X:Cx)(st:FP)(g:GS):Prop:=PS X st (tS X.K X.H₀ g)
abbrev eJ(X:Cx)(st:List FP)(g:GS):Prop:=PSs X st (tS X.K X.H₀ g)
section
variable{K:AC}{ow TF:AV->Prop}{st:FP}{rest:List FP}
theorem RetR.pre(s:Stp ow F H F1 H1 TF)(h:RetR K TF H1 F' H' σ' E' b v d):RetR K ow H F' H' σ' E' b v d:=by
 cases b with
 |false=>exact h
 |true=>have{a,h1,h2,h3,h4,h5}:=h;exact{a,h1,h2,h3,h4.elim (s.own a) λz=>.inr (s.dom a z),h5}
theorem FlOk.pre(s:Stp ow F H F1 H1 TF)(h:FlOk K H₀ τ ow F H D' r):FlOk K H₀ τ TF F1 H1 D' r:=by
 cases r with
 |nx E'=>exact λσ' F' H' st S=>h σ' F' H' (s.trans st) S
 |bk E'=>exact λσ' F' H' st S=>h σ' F' H' (s.trans st) S
 |ct E'=>exact λσ' F' H' st S=>h σ' F' H' (s.trans st) S
 |rt b d E'=>exact λσ' v F' H' st S q=>h σ' v F' H' (s.trans st) S (q.pre s)
def PJ:GS:=λE=>.ok (.nx E)
def FX(g g':GS):GS:=λE=>(g E).bind λr=>match r with|.nx E1=>g' E1|r=>.ok r
theorem U9:eJ X [] PJ:=aN.imp λD' σ H h=>by have{τ,F,E,r,S,hg,k}:=h;cases hg;exact k σ F H .refl S
theorem yEL(h:tS K H₀ (FX g g') D' σ H):Ze (tS K H₀ g) (tS K H₀ g') D' σ H:=by
 have{τ,F,E,r,S,hg,k}:=h;have{r1,e1,hg}:=pA3 hg;refine{τ,F,E,r1,S,e1,?_};cases r1 with
 |nx E1=>exact λσ' F' H' st S'=>{τ,F',E1,r,S',hg,k.pre st}
 |bk E1=>cases hg;exact k
 |ct E1=>cases hg;exact k
 |rt b d E1=>cases hg;exact k
theorem GY(h1:VS X st g)(h2:eJ X rest g'):eJ X (st::rest) (FX g g'):=(cQ h1 h2).imp λ_ _ _ h=>yEL h
theorem IR(h:VS X st g):eJ X [st] g:=j3 h
def vZ:GS:=λ_=>.bad
theorem Aa:VS X st vZ:=eD.imp λD' σ H h=>by have{τ,F,E,r,S,hg,k}:=h;cases hg
def NR(t:Ev->Out (Bool×Ev))(g g':GS):GS:=λE=>(t E).bind λp=>if p.1=AQ then g p.2 else g' p.2
theorem UF(hc:VT X c t)(ha:eJ X a g)(hb:eJ X b g'):VS X (.If c a b pos) (NR t g g'):=(yDK hc ha hb).imp λD' σ H h=>by
 have{τ,F,E,r,S,hg,k}:=h;have{p,e1,hg}:=pA3 hg;refine{τ,F,E,p.1,p.2,S,e1,λF1 H1 s1 S1=>?_};by_cases hp:p.1=AQ
 .rw[if_pos hp] at hg ⊢;exact{τ,F1,p.2,r,S1,hg,k.pre s1}
 .rw[if_neg hp] at hg ⊢;exact{τ,F1,p.2,r,S1,hg,k.pre s1}
def L3(g:G):GS:=λE=>(g E).bind λp=>.ok (.rt AE p.1 p.2)
theorem NH(h:VE X e ge):VS X (.Return (AA e) pos) (L3 ge):=(uU h).imp λD' σ H q=>by have{τ,F,E,r,S,hg,k}:=q;have{p,e1,hg}:=pA3 hg;cases hg;exact{τ,F,E,p.1,p.2,S,e1,λv F1 H1 s1 S1 r1=>k σ v F1 H1 s1 S1 r1}
def zU(g:G):GS:=λE=>(g E).bind λp=>.ok (.rt AQ p.1 p.2)
theorem Tf(h:FE X e ge):VS X (.Return (AA e) pos) (zU ge):=(uU h).imp λD' σ H q=>by have{τ,F,E,r,S,hg,k}:=q;have{p,e1,hg}:=pA3 hg;cases hg;exact{τ,F,E,p.1,p.2,S,e1,λa F1 H1 s1 S1 n1 n2 ow no=>k σ _ F1 H1 s1 S1 {a,rfl,n1,ow,.inr n2,λi d' z1 z2=>no {i,AQ,d',z1,z2}}}
inductive Tg where
 |nm (i:Nat)|tp (ts:List Tg)
mutual
noncomputable def YQ:Tg->D->Ev->Out Ev
 |.nm i,d,E=>.ok (E.set i (.val d))
 |.tp ts,d,E=>match d with
  |.tup ds=>dP ts ds E
  |_=>.bad
noncomputable def dP:List Tg->List D->Ev->Out Ev
 |[],[],E=>.ok E
 |[],_::_,_=>.bad
 |_::_,[],_=>.bad
 |t::ts,d::ds,E=>(YQ t d E).bind λE1=>dP ts ds E1
end
mutual
noncomputable def Tg.ltn(n:Nat):Tg->Bool
 |.nm i=>decide (i<n)
 |.tp ts=>pAF n ts
noncomputable def pAF(n:Nat):List Tg->Bool
 |[]=>AQ
 |t::ts=>t.ltn n&&pAF n ts
end
theorem Sim.put(S:Sim K H₀ τ F H σ E)(r:Rep K F v d):Sim K H₀ τ F H (σ.set i (AA v)) (E.set i (.val d))/\∀a,EJ (σ.set i (AA v)) (E.set i (.val d)) a->EJ σ E a:=by
 have GR:∀j t d',(E.set i (.val d))[j]?=AA (.own t d')->i≠j/\E[j]?=AA (.own t d'):=λj t d' q=>by
  by_cases hj:i=j
  .subst hj;by_cases hi:i<E.length
   .rw[BQ hi] at q;cases q
   .rw[Z8 (by rw[DI];lia)] at q;cases q
  .rw[BK hj] at q;exact{hj,q}
 refine{{S.sub,by rw[DI,DI];exact S.len,λj d' q=>?_,λj t d' q=>?_,λj k t1 t2 d1 d2 b q1 q2 z1 z2=>?_},λa ⟨j,t,d',q1,q2⟩=>?_}
 .by_cases hj:i=j
  .subst hj;have hi:i<E.length:=by have:=(AH.mp q).1;rw[DI] at this;exact this
   rw[BQ hi] at q;cases q;exact{v,by rw[BQ (by rw[<-S.len];exact hi)],r}
  .rw[BK hj] at q ⊢;exact S.val j d' q
 .have{hj,q}:=GR j t d' q;rw[BK hj];exact S.own j t d' q
 .have{hj,q1}:=GR j _ _ q1;have{hk,q2}:=GR k _ _ q2;rw[BK hj] at z1;rw[BK hk] at z2;exact S.inj j k t1 t2 d1 d2 b q1 q2 z1 z2
 .have{hj,q1}:=GR j t d' q1;rw[BK hj] at q2;exact{j,t,d',q1,q2}
theorem Sim.putO(S:Sim K H₀ τ F H σ E)(h2:F a=AL)(h3:OwnAt K F H a d)(h4:∀o u,H₀ a≠AA (.frz o u))(no:¬EJ σ E a) : Sim K H₀ τ F H (σ.set i (AA (.ref a))) (E.set i (.own AE d))/\∀b,EJ (σ.set i (AA (.ref a))) (E.set i (.own AE d)) b->EJ σ E b\/b=a:=by
 have GR:∀j t d',(E.set i (.own AE d))[j]?=AA (.own t d')->(i=j/\t=AE/\d'=d/\(σ.set i (AA (V.ref a)))[j]?=AA (AA (.ref a)))\/(i≠j/\E[j]?=AA (.own t d')/\(σ.set i (AA (V.ref a)))[j]?=σ[j]?):=λj t d' q=>by
  by_cases hj:i=j
  .subst hj;have hi:i<E.length:=by have:=(AH.mp q).1;rw[DI] at this;exact this
   rw[BQ hi] at q;cases q;exact .inl {rfl,rfl,rfl,by rw[BQ (by rw[<-S.len];exact hi)]}
  .rw[BK hj] at q;exact .inr {hj,q,by rw[BK hj]}
 refine{{S.sub,by rw[DI,DI];exact S.len,λj d' q=>?_,λj t d' q=>?_,λj k t1 t2 d1 d2 b q1 q2 z1 z2=>?_},λb ⟨j,t,d',q1,q2⟩=>?_}
 .by_cases hj:i=j
  .subst hj;have hi:i<E.length:=by have:=(AH.mp q).1;rw[DI] at this;exact this
   rw[BQ hi] at q;cases q
  .rw[BK hj] at q ⊢;exact S.val j d' q
 .rcases GR j t d' q with⟨rfl,rfl,rfl,z⟩|⟨hj,q,z⟩
  .exact{a,z,h2,h3,h4,nofun}
  .rw[z];exact S.own j t d' q
 .rcases GR j t1 d1 q1 with⟨e1,_,_,y1⟩|⟨hj,p1,y1⟩<;>rcases GR k t2 d2 q2 with⟨e2,_,_,y2⟩|⟨hk,p2,y2⟩
  .rw[<-e1,<-e2]
  .rw[y1] at z1;cases z1;rw[y2] at z2;exact absurd {k,t2,d2,p2,z2} no
  .rw[y2] at z2;cases z2;rw[y1] at z1;exact absurd {j,t1,d1,p1,z1} no
  .rw[y1] at z1;rw[y2] at z2;exact S.inj j k t1 t2 d1 d2 b p1 p2 z1 z2
 .rcases GR j t d' q1 with⟨rfl,rfl,rfl,y1⟩|⟨hj,q1,y1⟩
  .rw[y1] at q2;cases q2;exact .inr rfl
  .rw[y1] at q2;exact .inl {j,t,d',q1,q2}
def tG(K:AC)(H₀:Hp)(t:Tg):TG:=λv σ H Q=>∃τ F E d E',Sim K H₀ τ F H σ E/\Rep K F v d/\YQ t d E=.ok E'/\∀σ',Sim K H₀ τ F H σ' E'->(∀a,EJ σ' E' a->EJ σ E a)->(∀n,t.ltn n=AQ->∀j:Nat,n<=j->σ'[j]?=σ[j]?)->Q σ' H
def tGs(K:AC)(H₀:Hp)(ts:List Tg):mH:=λvs σ H Q=>∃τ F E ds E',Sim K H₀ τ F H σ E/\Reps K F vs ds/\dP ts ds E=.ok E'/\∀σ',Sim K H₀ τ F H σ' E'->(∀a,EJ σ' E' a->EJ σ E a)->(∀n,pAF n ts=AQ->∀j:Nat,n<=j->σ'[j]?=σ[j]?)->Q σ' H
theorem PG.imp(h:PG X tg t)(hi:∀v σ H Q,t' v σ H Q->t v σ H Q):PG X tg t':=λAJ s σ H x u Q I r q=>h AJ s σ H x u Q I r (hi _ _ _ _ q)
theorem PGs.imp(h:PGs X tg t)(hi:∀v σ H Q,t' v σ H Q->t v σ H Q):PGs X tg t':=λAJ s σ H x u Q I r q=>h AJ s σ H x u Q I r (hi _ _ _ _ q)
abbrev VG(X:Cx)(tg:EU)(t:Tg):Prop:=PG X tg (tG X.K X.H₀ t)
abbrev Cy(X:Cx)(tg:List EU)(t:List Tg):Prop:=PGs X tg (tGs X.K X.H₀ t)
theorem P9(hN:X.N.Nodup)(hi:X.N[i]?=AA x)(hx:Loc X.env.scope x)(hf:X.fn x=AQ\/X.env.scope.names.lookup x=AA .local:=by first|exact .inl rfl|exact .inr rfl|assumption):VG X (.Name x pos) (.nm i):=(j2 hN hi hx hf).imp λv σ H Q h=>by have{τ,F,E,d,E',S,r,hg,k}:=h;rw[YQ] at hg;cases hg;have{S1,h1}:=S.put r;refine k _ S1 h1 λn hn j hj=>?_;rw[Tg.ltn] at hn;have:i<n:=of_decide_eq_true hn;rw[BK (CC (AO this hj))]
theorem Rep.sqT(s:Sub F H)(r:Rep K F (.ref a) (.tup ds)):∃vs,SqT K H a vs/\Reps K F vs ds:=by
 cases r with
 |tup h r=>exact{_,.inl (.inl (s _ _ h)),r}
 |@tupK _ xs h n =>
  rcases h with h|h
  .rcases h with h|⟨o,h⟩<;>cases h
  .refine{_,.inr h,?_};induction xs with
   |nil=>exact .nil
   |cons x xs ih=>exact .cons (.str x) (by
     clear ih n h;induction xs with
     |nil=>exact .nil
     |cons y ys ih=>exact .cons (.str y) ih)
theorem Rep.isRefT(r:Rep K F v (.tup ds)):∃a,v=.ref a:=by (cases r)<;>exact{_,rfl}
theorem Rep.isRefL(r:Rep K F v (.lst ds)):∃a vs,v=.ref a/\SqL K F a vs/\Reps K F vs ds:=by cases r with|lst h r=>exact{_,_,rfl,h,r}
theorem Ui:∀{ts:List Tg} {ds:List D} {E E':Ev},dP ts ds E=.ok E'->ts.length=ds.length
 |[],[],_,_,_=>rfl
 |[],_::_,_,_,h=>by rw[dP] at h;cases h
 |_::_,[],_,_,h=>by rw[dP] at h;cases h
 |t::ts,d::ds,E,E',h=>by rw[dP] at h;have{E1,_,h}:=pA3 h;rw[A8,A8,Ui h]
theorem XT:Cy X [] []:=SG.imp λv σ H Q h=>by
 have{τ,F,E,d,E',S,r,hg,k}:=h;cases r with
 |nil=>rw[dP] at hg;cases hg;exact{rfl,k σ S (λ_ h=>h) λ_ _ _ _=>rfl}
 |cons _ _=>rw[dP] at hg;cases hg
theorem N7(h1:VG X e t)(h2:Cy X es ts) (hs:(HA (e::es) X.env).map (·.2)=N1 e X.env::(HA es X.env).map (·.2):=by rfl):Cy X (e::es) (t::ts):=(oK h1 h2 hs).imp λv σ H Q h=>by
 have{τ,F,E,ds,E',S,r,hg,k}:=h;cases r with
 |nil=>rw[dP] at hg;cases hg
 |@cons v d vs ds r rs =>
  rw[dP] at hg;have{E1,e1,hg}:=pA3 hg;exact{v,vs,rfl,τ,F,E,d,E1,S,r,e1,λσ1 S1 h1 b1=>{τ,F,E1,ds,E',S1,rs,hg,λσ2 S2 h2 b2=>k σ2 S2 (λa z=>h1 a (h2 a z)) λn hn j hj=>by rw[pAF,CP] at hn;rw[b2 n hn.2 j hj,b1 n hn.1 j hj]}}
theorem XQ(hc:X.calm=AQ)(h:Cy X es ts) (hn:(HA es X.env).length=ts.length:=by rfl) (RU:(HA es X.env).findIdx? (·.1)=AL:=by rfl):VG X (.Tuple es k pos) (.tp ts):=(Af hc h hn RU).imp λv σ H Q h=>by
 have{τ,F,E,d,E',S,r,hg,k}:=h;cases d with
 |tup ds=>have{a,rfl}:=r.isRefT;have{vs,h1,h2}:=r.sqT S.sub;rw[YQ] at hg;exact{a,vs,rfl,h1,by rw[h2.length,<-Ui hg],τ,F,E,ds,E',S,h2,hg,λσ' S' h' b'=>k σ' S' h' λn hn=>b' n (by rw[Tg.ltn] at hn;exact hn)}
 |_=>have hg:=hg;cases hg
def HM(t:Tg)(g:G):GS:=λE=>(g E).bind λp=>(YQ t p.1 p.2).bind λE1=>.ok (.nx E1)
theorem yEN(h:tS K H₀ (HM t ge) D' σ H):r9 (tV K H₀ ge) (tG K H₀ t) D' σ H:=by have{τ,F,E,r,S,hg,k}:=h;have{p,e1,hg}:=pA3 hg;have{E1,e2,hg}:=pA3 hg;cases hg;exact{τ,F,E,p.1,p.2,S,e1,λv F1 H1 s1 S1 r1=>{τ,F1,p.2,p.1,E1,S1,r1,e2,λσ2 S2 h2 _=>k σ2 F1 H1 (s1.weak h2) S2}}
theorem n8(he:VE X e ge)(hg:VG X tg t)(hs:bY [tg] e pos.line X.env=pure AE:=by rfl)(hw:bZ [tg] e X.env=pure AL:=by rfl) (h1:(HA [tg] X.env).map (·.2)=[N1 tg X.env]:=by rfl):VS X (.Assign [tg] e pos) (HM t ge):=(Fi he hg hs hw h1).imp λ_ _ _ h=>yEN h
theorem NM(hN:X.N.Nodup)(hi:X.N[i]?=AA x)(hx:Loc X.env.scope x)(he:VE X e ge)(hs:J3 e (AA (.Name x OU)) pos.line X.env=pure AE:=by rfl)(hf:X.fn x=AQ\/X.env.scope.names.lookup x=AA .local:=by first|exact .inl rfl|exact .inr rfl|assumption) : VS X (.Assign [.Name x OU] e pos) (HM (.nm i) ge):=(rF hN hi hx he hs hf).imp λD' σ H h=>by have{τ,F,E,r,S,hg,k}:=h;have{p,e1,hg}:=pA3 hg;have{E1,e2,hg}:=pA3 hg;cases hg;rw[YQ] at e2;cases e2;refine{τ,F,E,p.1,p.2,S,e1,λv F1 H1 s1 S1 r1=>?_};have{S2,h2}:=S1.put r1;exact k _ F1 H1 (s1.weak h2) S2
def aF(i:Nat)(g:G):GS:=λE=>(g E).bind λp=>.ok (.nx (p.2.set i (.own AE p.1)))
theorem zWD(I:Inv X AJ σ H s)(h:H a=AL):∀o u,X.H₀ a≠AA (.frz o u):=λo u e=>by rw[I.base.frzs a o u e] at h;cases h
theorem yEO(I:Inv X AJ σ H s)(h:tS X.K X.H₀ (aF i ge) D' σ H):r9 (tF X.K X.H₀ ge) (lR i) D' σ H:=by
 have{τ,F,E,r,S,hg,k}:=h;have{p,e1,hg}:=pA3 hg;cases hg;refine{τ,F,E,p.1,p.2,S,e1,λa F1 H1 s1 S1 n1 n0 ow no=>?_};have{S2,h2}:=S1.putO n1 ow (zWD I n0) no;refine k _ F1 H1 {s1.keep,s1.dom,s1.le,s1.new,λb z=>?_} S2;rcases h2 b z with z|rfl
 .exact s1.own b z
 .exact .inr n0
theorem jZ(hN:X.N.Nodup)(hi:X.N[i]?=AA x)(hx:Loc X.env.scope x)(he:FE X e ge)(hs:J3 e (AA (.Name x OU)) pos.line X.env=pure AE:=by rfl)(hf:X.fn x=AQ\/X.env.scope.names.lookup x=AA .local:=by first|exact .inl rfl|exact .inr rfl|assumption) : VS X (.Assign [.Name x OU] e pos) (aF i ge):=λAJ s σ H D' I h=>rF hN hi hx he hs hf AJ s σ H D' I (yEO I h)
def g9(g:G):GS:=λE=>(g E).bind λp=>.ok (.nx p.2)
theorem Ao(he:VE X e ge)(hs:J3 e AL pos.line X.env=pure AE:=by rfl):VS X (.Expr e pos) (g9 ge):=(vH he hs).imp λD' σ H h=>by have{τ,F,E,r,S,hg,k}:=h;have{p,e1,hg}:=pA3 hg;cases hg;exact{τ,F,E,p.1,p.2,S,e1,λv F1 H1 s1 S1 r1=>k σ F1 H1 s1 S1}
def ZA(t:Ev->Out (Bool×Ev))(g:GS):Nat->GS
 |0,_=>.bad
 |n+1,E=>(t E).bind λp=>if p.1=AQ then(g p.2).bind λr=>match r with
   |.nx E1=>ZA t g n E1
   |.ct E1=>ZA t g n E1
   |.bk E1=>.ok (.nx E1)
   |.rt b d E1=>.ok (.rt b d E1)
  else .ok (.nx p.2)
theorem Bj(n:Nat)(hp:WR (A9 X.prog X.w) X.A X.env X.xe)(hc:VT X c t)(hb:eJ X body g):VS X (.While c body [] pos) (ZA t g n):=(Hi hp hc hb).imp λD' σ H h=>by
 have{τ,F,E,r,S,hg,k}:=h;refine{λm σ1 H1=>∃F1 E1,Sim X.K X.H₀ τ F1 H1 σ1 E1/\Stp (EJ σ E) F H F1 H1 (EJ σ1 E1)/\ZA t g m E1=.ok r,{n,F,E,S,.refl,hg},?_};intro m σ1 H1 zz';have{F1,E1,S1,s1,h1}:=zz';cases m with
 |zero=>rw[ZA] at h1;cases h1
 |succ m =>
  rw[ZA] at h1;have{p,e1,h1}:=pA3 h1;refine{τ,F1,E1,p.1,p.2,S1,e1,λF2 H2 s2 S2=>?_};have sX:=s1.trans s2;dsimp only;by_cases hp:p.1=AQ
  .rw[if_pos hp] at h1 ⊢;have{q,e2,h1}:=pA3 h1;refine{λσ3 H3=>∃F3 E3,Sim X.K X.H₀ τ F3 H3 σ3 E3/\Stp (EJ σ E) F H F3 H3 (EJ σ3 E3)/\ZA t g m E3=.ok r,λσ3 H3 ⟨F3,E3,a1,a2,a3⟩=>{m,C4 m,F3,E3,a1,a2,a3},τ,F2,p.2,q,S2,e2,?_};cases q with
   |nx E3=>exact λσ3 F3 H3 s3 S3=>{F3,E3,S3,sX.trans s3,h1}
   |ct E3=>exact λσ3 F3 H3 s3 S3=>{F3,E3,S3,sX.trans s3,h1}
   |bk E3=>cases h1;exact λσ3 F3 H3 s3 S3=>k σ3 F3 H3 (sX.trans s3) S3
   |rt b d E3=>cases h1;exact λσ3 v F3 H3 s3 S3 q=>k σ3 v F3 H3 (sX.trans s3) S3 (q.pre sX)
  .rw[if_neg hp] at h1 ⊢;cases h1;exact k σ1 F2 H2 sX S2
end
def Walks(K:AC)(J:It)(F:Hp)(ds:List D):Prop:=∀(i:Nat) F1 H1,Le F F1->Sub F1 H1->(i<ds.length->J.go i H1)/\(i=ds.length->J.stop i H1)/\∀x H' d,ds[i]?=AA d->J.yld i H1 x H'->∃F',New F1 H1 F' H'/\Rep K F' x d
abbrev GI:=Ev->Out (List D×Ev)
def tI(K:AC)(H₀:Hp)(g:GI):TI:=λσ H R=>∃τ F E ds E',Sim K H₀ τ F H σ E/\g E=.ok (ds,E') /\ ∀J F' H',Stp (EJ σ E) F H F' H' (EJ σ E')->Sim K H₀ τ F' H' σ E'->Walks K J F' ds->R J H'
theorem PI.imp(h:PI X tg e t)(hi:∀σ H Q,t' σ H Q->t σ H Q):PI X tg e t':=λAJ s σ H Q I q=>h AJ s σ H Q I (hi σ H Q q)
abbrev VI(X:Cx)(tg e:EU)(g:GI):Prop:=PI X tg e (tI X.K X.H₀ g)
section
variable{K:AC}{ow TF:AV->Prop}
def gSq(g:G):GI:=λE=>(g E).bind λp=>match p.1 with|.lst ds=>.ok (ds,p.2)|_=>.bad
def gTp(g:G):GI:=λE=>(g E).bind λp=>match p.1 with|.tup ds=>.ok (ds,p.2)|_=>.bad
theorem Wx(h:SqL K F a vs)(r:Reps K F vs ds):Walks K (sS K a) F ds:=λi F1 H1 l s=>by
 have sq:=h.imp (λh=>s.rd (l.rd h)) id;refine{λhi=>?_,λhi=>{vs,sq,by rw[r.length,hi];exact AM _},λx H' d e ⟨e1,y⟩=>?_}
 .have hv:i<vs.length:=by rw[r.length];exact hi
  exact{vs,vs[i],sq,by simp[hv]}
 .subst e1;have{v,h1,h2}:=r.get e;rw[y vs sq] at h1;cases h1;exact{F1,.refl s,h2.le l}
theorem Rep.tupSq(r:Rep K F v (.tup ds)):∃a vs,v=.ref a/\Reps K F vs ds/\∀F1 H1,Le F F1->Sub F1 H1->SqT K H1 a vs:=by
 cases r with
 |tup h r=>exact{_,_,rfl,r,λF1 H1 l s=>.inl (.inl (s _ _ (l.tup h)))}
 |@tupK a xs h n =>
  have{vs,h1,h2}:=Rep.sqT (λ_ _ e=>e) (.tupK h n);refine{a,vs,rfl,h2,λF1 H1 _ _=>?_};rcases h with h|h
  .rcases h with h|⟨o,h⟩<;>cases h
  .have:vs=xs.map V.str:=pA5 h2;subst this;exact .inr h
theorem zS4(sq:∀F1 H1,Le F F1->Sub F1 H1->SqT K H1 a vs)(r:Reps K F vs ds):Walks K (sQ K a) F ds:=λi F1 H1 l s=>by
 have sq:=sq F1 H1 l s;refine{λhi=>?_,λhi=>{vs,sq,by rw[r.length,hi];exact AM _},λx H' d e ⟨e1,y⟩=>?_}
 .have hv:i<vs.length:=by rw[r.length];exact hi
  exact{vs,vs[i],sq,by simp[hv]}
 .subst e1;have{v,h1,h2}:=r.get e;rw[y vs sq] at h1;cases h1;exact{F1,.refl s,h2.le l}
theorem yAC(h:VE X e ge):VI X tg e (gSq ge):=(Ti h).imp λσ H Q h=>by
 have{τ,F,E,ds,E',S,hg,k}:=h;have{p,e1,hg}:=pA3 hg;refine{τ,F,E,p.1,p.2,S,e1,λv F1 H1 s1 S1 r1=>?_};split at hg
 .rename_i YT ed;cases hg;rw[ed] at r1;have{a,vs,rfl,h1,h2}:=r1.isRefL;exact{a,rfl,{vs,h1.imp S1.sub.rd id},k _ F1 H1 s1 S1 (Wx h1 h2)}
 .cases hg
theorem yEP(h:VE X e ge):VI X tg e (gTp ge):=(Qz h).imp λσ H Q h=>by
 have{τ,F,E,ds,E',S,hg,k}:=h;have{p,e1,hg}:=pA3 hg;refine{τ,F,E,p.1,p.2,S,e1,λv F1 H1 s1 S1 r1=>?_};split at hg
 .rename_i YT ed;cases hg;rw[ed] at r1;have{a,vs,rfl,h1,h2}:=r1.tupSq;exact{a,rfl,{vs,h2 F1 H1 (.refl _) S1.sub},k _ F1 H1 s1 S1 (zS4 h2 h1)}
 .cases hg
def Q2:List G->Ev->Out (List D×Ev)
 |[],E=>.ok ([],E)
 |g::gs,E=>(g E).bind λp=>(Q2 gs p.2).bind λq=>.ok (p.1::q.1,q.2)
def iI(K:AC)(H₀:Hp)(gs:List G):TA:=λσ H Q=>∃τ F E ds E',Sim K H₀ τ F H σ E/\Q2 gs E=.ok (ds,E') /\ ∀vs F' H',Stp (EJ σ E) F H F' H' (EJ σ E')->Sim K H₀ τ F' H' σ E'->Reps K F' vs ds->Q vs H'
theorem PA.imp{es:List EU}{t t':TA}(h:PA X es t)(hi:∀σ H Q,t' σ H Q->t σ H Q):PA X es t':=λp AJ s σ H Q I q=>h p AJ s σ H Q I (hi σ H Q q)
abbrev VA(X:Cx)(es:List EU)(gs:List G):Prop:=PA X es (iI X.K X.H₀ gs)
theorem D7:VA X [] []:=FO.imp λσ H Q h=>by have{τ,F,E,ds,E',S,hg,k}:=h;cases hg;exact k [] F H .refl S .nil
theorem yAD{Q:List V->Hp->Prop}(h:iI K H₀ (ge::gs) σ H Q):zX (tV K H₀ ge) (iI K H₀ gs) σ H Q:=by have{τ,F,E,ds,E',S,hg,k}:=h;rw[Q2] at hg;have{p,e1,hg}:=pA3 hg;have{q,e2,hg}:=pA3 hg;cases hg;exact{τ,F,E,p.1,p.2,S,e1,λv F1 H1 s1 S1 r1=>{τ,F1,p.2,q.1,q.2,S1,e2,λvs F2 H2 s2 S2 r2=>k (v::vs) F2 H2 (s1.trans s2) S2 (.cons (r1.le s2.le) r2)}}
theorem CK(ha:VE X e ge)(hr:VA X es gs)(hs:AW (e::es) X.env=(AE,eval e X.env)::AW es X.env:=by rfl):VA X (e::es) (ge::gs):=(PB ha hr hs).imp λ_ _ _ h=>yAD h
theorem lW{n:Nat}(h:n<10000):n<sizeLine:=AO h 'D'
def T4(n:Nat){α:Type}(x:Out α):Out α:=if n<10000 then x else .bad
theorem aJ{n:Nat}{α:Type}{x:Out α}{a:α}(h:T4 n x=.ok a):n<10000/\x=.ok a:=by
 unfold T4 at h;split at h
 .exact{by assumption,h}
 .cases h
def IW(gs:List G):G:=λE=>(Q2 gs E).bind λp=>T4 p.1.length (.ok (.tup p.1,p.2))
def OD(gs:List G):G:=λE=>(Q2 gs E).bind λp=>T4 p.1.length (.ok (.lst p.1,p.2))
theorem N5{es:List EU}{gs:List G} {x1} (h:VA X es gs):VE X (.Tuple es x1 pos) (IW gs):=(yDX h).imp λσ H Q h=>by have{τ,F,E,ds,E',S,hg,k}:=h;have{p,e1,hg}:=pA3 hg;have{hl,hg}:=aJ hg;cases hg;refine{τ,F,E,p.1,p.2,S,e1,λvs F1 H1 s1 S1 r1=>{by rw[r1.length];exact CS (lW hl),λq hq=>?_}};have n:=New.laid (o:=.tup vs) S1.sub hq;exact k _ _ _ (s1.trans n.stp) (S1.new n) (.tup GO (r1.le n.1.le))
theorem Y5{es:List EU}{gs:List G}(h:VA X es gs):FE X (.List es pos) (OD gs):=(rD h).imp λσ H Q h=>by
 have{τ,F,E,ds,E',S,hg,k}:=h;have{p,e1,hg}:=pA3 hg;have{hl,hg}:=aJ hg;cases hg;refine{τ,F,E,p.1,p.2,S,e1,λvs F1 H1 s1 S1 r1=>{by rw[r1.length];exact CS (lW hl),λq hq=>?_}};have n:=pA6 (H':=DZ H1 q (.lst vs)) S1.sub (Gr.new hq);have fq:F1 q=AL:=by
  cases z:F1 q with
  |none=>rfl
  |some o=>rw[S1.sub q o z] at hq;cases hq
 exact k q _ _ (s1.trans n.stp) (S1.new n) fq (s1.dom q hq) {vs,GO,r1} (S1.fresh hq)
def VR(t:Tg)(g:GS):List D->GS
 |[],E=>.ok (.nx E)
 |d::ds,E=>(YQ t d E).bind λE1=>(g E1).bind λr=>match r with
  |.nx E2=>VR t g ds E2
  |.ct E2=>VR t g ds E2
  |.bk E2=>.ok (.nx E2)
  |.rt b d E2=>.ok (.rt b d E2)
def RO(gi:GI)(t:Tg)(g:GS):GS:=λE=>(gi E).bind λp=>VR t g p.1 p.2
theorem hZ(hp:WR (A9 X.prog X.w) X.A X.env X.xe)(hc:X.calm=AQ)(hi:VI X tg iter gi)(hg:VG X tg t)(hb:eJ X body g) (hs:∀x,DK iter X.env x=pure x:=by intro _;rfl):VS X (.For tg iter body [] pos) (RO gi t g):=(Ae hp hc hi hg hb hs).imp λD' σ H h=>by
 have{τ,F,E,r,S,hg,k}:=h;have{p,e1,hg}:=pA3 hg;refine{τ,F,E,p.1,p.2,S,e1,λJ F1 H1 s1 S1 w1=>?_};refine{λi m σ2 H2=>m=p.1.length-i/\i<=p.1.length/\∃F2 E2,Sim X.K X.H₀ τ F2 H2 σ2 E2/\Stp (EJ σ E) F H F2 H2 (EJ σ2 E2)/\Le F1 F2/\VR t g (p.1.drop i) E2=.ok r,{_,rfl,BN _,F1,p.2,S1,s1,.refl _,by rw[L0];exact hg},?_};intro i m σ2 H2 zz';have{rfl,Du,F2,E2,S2,s2,l2,h2}:=zz';have{w2,w3,w4}:=w1 i F2 H2 l2 S2.sub;by_cases hi:i<p.1.length
 .obtain⟨d,hd⟩:∃d,p.1[i]?=AA d:={p.1[i],by simp[hi]};have yQ:p.1.drop i=d::p.1.drop (i+1):=by
   rw[FJ hi];have:p.1[i]=d:=by rw[BD hi] at hd;exact BJ hd
   rw[this]
  rw[yQ,VR] at h2;have{E3,e3,h2}:=pA3 h2;have{q,e4,h2}:=pA3 h2;refine .inr {w2 hi,λσ5 H5=>∃F5 E5,Sim X.K X.H₀ τ F5 H5 σ5 E5/\Stp (EJ σ E) F H F5 H5 (EJ σ5 E5)/\Le F1 F5/\VR t g (p.1.drop (i+1)) E5=.ok r,λσ5 H5 ⟨F5,E5,a1,a2,a3,a4⟩=>{_,by omega,rfl,hi,F5,E5,a1,a2,a3,a4},λx H' y=>?_};have{F3,n3,r3}:=w4 x H' d hd y;refine{τ,F3,E2,d,E3,S2.new n3,r3,e3,λσ4 S4 h4 _=>{τ,F3,E3,q,S4,e4,?_}};have s4:=(s2.trans n3.stp).weak h4;have l3:=l2.trans n3.1.le;cases q with
  |nx E5=>exact λσ5 F5 H5 s5 S5=>{F5,E5,S5,s4.trans s5,l3.trans s5.le,h2}
  |ct E5=>exact λσ5 F5 H5 s5 S5=>{F5,E5,S5,s4.trans s5,l3.trans s5.le,h2}
  |bk E5=>cases h2;exact λσ5 F5 H5 s5 S5=>k σ5 F5 H5 (s4.trans s5) S5
  |rt b d E5=>cases h2;exact λσ5 v F5 H5 s5 S5 q=>k σ5 v F5 H5 (s4.trans s5) S5 (q.pre s4)
 .have hi:i=p.1.length:=by omega
  rw[JV 'O',VR] at h2;cases h2;exact .inl {w3 hi,k σ2 F2 H2 s2 S2}
end
abbrev Mr:=List Sl->Out (Bool×D×D)
noncomputable def jG(sl:Ev)(d:D):Ev:=match sl with
 |.own t _::r=>.own t d::r
 |sl=>sl
noncomputable def fin(sl:Ev)(E':Ev)(b:Bool)(d:D):Out (Bool×D×D):=match sl with
 |.own _ _::_=>match E' with
  |.own AQ d'::_=>.ok (b,d,d')
  |_=>.bad
 |_=>.ok (b,d,.non)
def OC(n:Nat)(gb:GS):Mr:=λsl=>(gb (sl++BP (n-sl.length) .no)).bind λr=>match r with
 |.rt b d E'=>fin sl E' b d
 |.nx E'=>fin sl E' AE .non
 |_=>.bad
def Ks(sl:Ev):Prop:=∀(i:Nat) t d,sl[i]?=AA (.own t d)->i=0/\t=AQ
def yKQ(K:AC)(H F' H':Hp)(ow:AV->Prop):Bool->V->D->Prop
 |false,v,d=>Rep K F' v d
 |true,v,d=>∃a,v=.ref a/\F' a=AL/\OwnAt K F' H' a d/\H a=AL/\¬ow a
def ME(K:AC)(np:Nat)(m:Mr):Sp:=λvs H Q _=>vs.length=np/\∃τ F sl b d d',Sim K H τ F H (vs.map AA) sl/\Ks sl/\m sl=.ok (b,d,d') /\ ∀v F' H',Stp (EJ (vs.map AA) sl) F H F' H' (EJ (vs.map AA) (jG sl d'))->Sim K H τ F' H' (vs.map AA) (jG sl d')->yKQ K H F' H' (EJ (vs.map AA) (jG sl d')) b v d->Q v H'
theorem yEQ(h:fin sl E' b d=.ok (b',d0,d')):b'=b/\d0=d/\∀t x r,sl=.own t x::r->∃r',E'=.own AQ d'::r':=by
 unfold fin at h;split at h
 .split at h
  .cases h;exact{rfl,rfl,λ_ _ _ _=>{_,rfl}}
  .cases h
 .rename_i hn;cases h;refine{rfl,rfl,λt x r e=>?_};exact absurd e (by intro z;exact hn t x r z)
section
variable{K:AC}
theorem Fun.okC{st:FP}(F:Fun K x qual st f fd)(S:FnScope N ps (J4 st))(len:∀vs H Q E,sp vs H Q E->vs.length=ps.length) (PV:∀(HN:AI) (A:GL) (outer:List aB) (s:AN) (H:Hp) (vs:List V) (Q:VK) (E:XK),HN=fd.code->Room k (A.deeper (N0 qual (J4 st) s.heap.objs.size f HN))->sp vs H Q E ->∃t,PSs (jI KW P w K mg base N qual (J4 st) f HN A outer s H E).nox (aK st) t/\t { nx:=λ_ H'=>Q .non H',rt:=Q } (start N vs) H):FnOk P w K mg base KW (k+1) f fd ps sp:=by have{oc,od,kV,UN,pm,an,HN,ct,eT,rfl,lk,OG}:=F.ex;refine yDZ lk OG S len λA outer s H vs Q E hr iP=>?_;have{t,h,q}:=PV HN A outer s H vs Q E rfl hr iP;exact{t,h.nox,q}
theorem yER{st:FP}(Fn:Fun K x qual st f fd)(S:FnScope N ps (J4 st)) (PV:∀(HN:AI) (A:GL) (outer:List aB) (s:AN) (H:Hp) (E:XK),HN=fd.code->Room k (A.deeper (N0 qual (J4 st) s.heap.objs.size f HN)) ->eJ (jI KW P w K mg base N qual (J4 st) f HN A outer s H E).nox (aK st) gb):FnOk P w K mg base KW (k+1) f fd ps (ME K ps.length (OC N.length gb)):=by
 refine Fn.okC S (λvs H Q E h=>h.1) λHN A outer s H vs Q E Dw hr h=>{_,PV HN A outer s H E Dw hr,?_};have{hl,τ,F,sl,b,d,d',Sm,sh,hm,k}:=h;have{r,e1,hm}:=pA3 hm;have lsl:sl.length=vs.length:=by rw[Sm.len,AK]
 have kI:∀(i:Nat) t d,(sl++BP (N.length-sl.length) Sl.no)[i]?=AA (.own t d)->sl[i]?=AA (.own t d):=λi t d q=>by
  by_cases hi:i<sl.length
  .rw[CD hi] at q;exact q
  .rw[CZ (IU hi),FG] at q;split at q<;>cases q
 have Lq:∀(i:Nat) d,(sl++BP (N.length-sl.length) Sl.no)[i]?=AA (.val d)->sl[i]?=AA (.val d):=λi d q=>by
  by_cases hi:i<sl.length
  .rw[CD hi] at q;exact q
  .rw[CZ (IU hi),FG] at q;split at q<;>cases q
 have sV:∀(i:Nat),i<sl.length->(start N vs)[i]?=(vs.map AA)[i]?:=λi hi=>by unfold start;rw[CD (by rw[AK];omega)]
 have Sm0:Sim K H τ F H (start N vs) (sl++BP (N.length-sl.length) .no):=by
  refine{Sm.sub,?_,λi d q=>?_,λi t d q=>?_,λi j t u d d2 a q1 q2 z1 z2=>?_}
  .unfold start;rw[BG,BG,DY,DY,AK,lsl]
  .have q:=Lq i d q;rw[sV i (AH.mp q).1];exact Sm.val i d q
  .have q:=kI i t d q;rw[sV i (AH.mp q).1];exact Sm.own i t d q
  .have q1:=kI i _ _ q1;have q2:=kI j _ _ q2;rw[sV i (AH.mp q1).1] at z1;rw[sV j (AH.mp q2).1] at z2;exact Sm.inj i j t u d d2 a q1 q2 z1 z2
 have Me:∀a,EJ (start N vs) (sl++BP (N.length-sl.length) .no) a↔EJ (vs.map AA) sl a:=λa=>by
  constructor
  .intro zz';have{i,t,d,q1,q2}:=zz';have q:=kI i t d q1;rw[sV i (AH.mp q).1] at q2;exact{i,t,d,q,q2}
  .intro zz';have{i,t,d,q1,q2}:=zz';have hi:=(AH.mp q1).1;exact{i,t,d,by rw[CD hi];exact q1,by rw[sV i hi];exact q2}
 -- the end,from what the body ends with
 have eM:∀{E':Ev} {b0:Bool} {d0:D},fin sl E' b0 d0=.ok (b,d,d')->∀σ' v F' H',Stp (EJ (start N vs) (sl++BP (N.length-sl.length) .no)) F H F' H' (EJ σ' E')->Sim K H τ F' H' σ' E' ->
   RetR K (EJ (start N vs) (sl++BP (N.length-sl.length) .no)) H F' H' σ' E' b0 v d0->Q v H':=by
  intro E' b0 d0 hf σ' v F' H' s1 S1 rr;have{rfl,rfl,h3}:=yEQ hf;have p0:∀(i:Nat) t x,(jG sl d')[i]?=AA (.own t x)->i=0/\t=AQ/\x=d'/\∃x0 r,sl=.own AQ x0::r:=λi t x q=>by
   cases sl with
   |nil=>simp[jG] at q
   |cons y r =>
    have BV:(∀t0 x0,y≠.own t0 x0)->(y::r)[i]?=AA (.own t x)->False:=λhn q=>by have{h0,ht}:=sh i t x q;subst h0;simp at q;exact hn _ _ q
    cases y with
    |no=>exact(BV (λ_ _ z=>Sl.noConfusion z) q).elim
    |val _=>exact(BV (λ_ _ z=>Sl.noConfusion z) q).elim
    |own t0 x0 =>
     cases i with
     |zero=>have{_,ht}:=sh 0 t0 x0 rfl;subst ht;have q:AA (Sl.own AQ d')=AA (.own t x):=q;cases q;exact{rfl,rfl,rfl,x0,r,rfl}
     |succ i=>have:=(sh (i+1) t x q).1;omega
  have pv:∀(i:Nat) x,(jG sl d')[i]?=AA (.val x)->sl[i]?=AA (.val x):=λi x q=>by
   unfold jG at q;split at q
   .cases i with
    |zero=>simp at q
    |succ i=>simpa using q
   .exact q
  have wW:∀x0 r,sl=.own AQ x0::r->∃a,(vs.map AA)[0]?=AA (AA (.ref a))/\τ=a/\σ'[0]?=AA (AA (.ref a))/\F' a=AL/\OwnAt K F' H' a d'/\(∀o u,H a≠AA (.frz o u))/\E'[0]?=AA (.own AQ d'):=λx0 r e=>by
   have{r',e'}:=h3 AQ x0 r e;have q0:E'[0]?=AA (.own AQ d'):=by rw[e'];rfl
   have{a,a1,a2,a3,a4,a5}:=S1.own 0 AQ d' q0;have{c,c1,c2,c3,c4,c5}:=Sm.own 0 AQ x0 (by rw[e];rfl);have:a=c:=by rw[<-a5 rfl,<-c5 rfl]
   subst this;exact{a,c1,c5 rfl,a1,a2,a3,a4,q0}
  refine k v F' H' {λa o e hw n ho=>s1.keep a o e hw n λz=>ho ((Me a).mp z),s1.dom,s1.le,λa o e=>(s1.new a o e).imp_right λz=>z.imp_right (Me a).mp,λa ⟨i,t,x,q1,q2⟩=>?_}
   {S1.sub,?_,λi x q=>?_,λi t x q=>?_,λi j t u x y a q1 q2 _ _=>by rw[(p0 i t x q1).1,(p0 j u y q2).1]} ?_
  .have{rfl,rfl,rfl,x0,r,e}:=p0 i t x q1;exact .inl {0,AQ,x0,by rw[e];rfl,q2}
  .have:(jG sl d').length=sl.length:=by unfold jG;split<;>rfl
   rw[this];exact Sm.len
  .have{v,h1,h2}:=Sm.val i x (pv i x q);exact{v,h1,h2.le s1.le}
  .have{rfl,rfl,rfl,x0,r,e}:=p0 i t x q;have{a,a1,a2,a3,a4,a5,a6,_}:=wW x0 r e;exact{a,a1,a4,a5,a6,λ_=>a2}
  .cases b with
   |false=>exact rr
   |true =>
    have{a,r1,r2,r3,r4,r5}:=rr;have no:¬EJ (vs.map AA) sl a:=by
     intro zz';have{i,t,x,q1,q2}:=zz';have{rfl,rfl}:=sh i t x q1;cases sl with
     |nil=>simp at q1
     |cons y r=>simp at q1;subst q1;have{c,c1,c2,c3,c4,c5,c6,c7}:=wW x r rfl;rw[q2] at c1;cases c1;exact r5 0 d' c7 c3
    refine{a,r1,r2,r3,r4.elim (λz=>absurd ((Me a).mp z) no) id,?_};intro zz';have{i,t,x,q1,q2}:=zz';have{rfl,rfl,rfl,x0,r,e}:=p0 i t x q1;exact no {0,AQ,x0,by rw[e];rfl,q2}
 refine{τ,F,_,r,Sm0,e1,?_};cases r with
 |rt b0 d0 E'=>exact eM hm
 |nx E'=>exact λσ' F' H' s1 S1=>eM hm σ' .non F' H' s1 S1 .non
 |bk E'=>cases hm
 |ct E'=>cases hm
theorem P7{st:FP}(Fn:Fun K x qual st f fd)(S:FnScope N ps (J4 st)) (PV:∀(HN:AI) (A:GL) (outer:List aB) (s:AN) (H:Hp) (E:XK),Room k (A.deeper (N0 qual (J4 st) s.heap.objs.size f HN)) ->eJ (jI KW P w K mg base N qual (J4 st) f HN A outer s H E).nox (aK st) gb):FnOk P w K mg base KW (k+1) f fd ps (ME K ps.length (OC N.length gb)) :=yER Fn S λHN A outer s H E _ hr=>PV HN A outer s H E hr
end
section
variable{K:AC}
def J2(P:CA)(w:DL)(K:AC)(mg:C7->Option AI)(base:CN)(x:C7)(k np:Nat)(m:Mr):Prop :=∃(f:AV) (fd:CM) (ps:List C7),FnOk P w K mg base KW k f fd ps (ME K np m)/\mg x=AA (.ref f)/\GX K (.ref f)=AQ/\Binds K fd ps []
theorem zT{ds:List D}(a:AV):¬EJ σ (ds.map Sl.val) a:=λq0=>by
 have{i,t,d,e,_}:=q0;rw[AY] at e;cases q:ds[i]? with
 |none=>rw[q] at e;cases e
 |some d'=>rw[q] at e;cases e
theorem Sim.args(s:Sub F H)(r:Reps K F vs ds):Sim K H₀ τ F H (vs.map AA) (ds.map Sl.val):=by
 have no:∀(i:Nat) t d,(ds.map Sl.val)[i]?≠AA (.own t d):=λi t d e=>by
  rw[AY] at e;cases q:ds[i]? with
  |none=>rw[q] at e;cases e
  |some d'=>rw[q] at e;cases e
 refine{s,by rw[AK,AK,r.length],λi d e=>?_,λi t d e=>absurd e (no i t d),λi j t u d d' a e=>absurd e (no i t d)};rw[AY] at e;cases q:ds[i]? with
 |none=>rw[q] at e;cases e
 |some d'=>rw[q] at e;cases e;have{v,h1,h2}:=r.get q;exact{v,by rw[AY,h1];rfl,h2}
theorem Gu(ds:List D):Ks (ds.map Sl.val):=λi t d e=>by
 rw[AY] at e;cases q:ds[i]? with
 |none=>rw[q] at e;cases e
 |some d'=>rw[q] at e;cases e
theorem New.share(n:New F1 H1 F2 H2)(h:H1 a=AL)(ho:H2 a=AA o)(hf:F2 a=AL):New F1 H1 (DZ F2 a o) H2:=by
 refine{{n.1.keep,n.1.dom,n.1.le.trans (.of_gr (Gr.new hf)),λb u e=>?_,λ_ z=>z.elim},λb u e=>?_}
 .by_cases hb:b=a
  .subst hb;exact .inr (.inl (.none h))
  .rw[EH hb] at e;exact n.1.new b u e
 .by_cases hb:b=a
  .subst hb;rw[GO] at e;rw[ho];exact e
  .rw[EH hb] at e;exact n.2 b u e
def HD(m:Mr)(gs:List G):G:=λE=>(Q2 gs E).bind λp=>(m (p.1.map Sl.val)).bind λq=>.ok (q.2.1,p.2)
def qZ(m:Mr)(gs:List G):G:=λE=>(Q2 gs E).bind λp=>(m (p.1.map Sl.val)).bind λq=>if q.1=AQ then .ok (q.2.1,p.2) else .bad
theorem vM:∀{gs:List G} {E:Ev} {q:List D×Ev},Q2 gs E=.ok q->q.1.length=gs.length
 |[],_,_,h=>by rw[Q2] at h;cases h;rfl
 |g::gs,E,q,h=>by rw[Q2] at h;have{p,_,h}:=pA3 h;have{r,e2,h}:=pA3 h;cases h;rw[A8,A8,vM e2]
theorem yAE(hn:gs.length=np)(h:tV K H₀ (HD m gs) σ H Q):uH (ME K np m) [] E0 (iI K H₀ gs) σ H Q:=by
 have{τ,F,E,d,E',S,hg,k}:=h;have{p,e1,hg}:=pA3 hg;have{q,e2,hg}:=pA3 hg;cases hg;refine{τ,F,E,p.1,p.2,S,e1,λvs F1 H1 s1 S1 r1=>?_};dsimp only;rw[E4];refine{by rw[r1.length,vM e1,hn],0,F1,_,q.1,q.2.1,q.2.2,Sim.args S1.sub r1,Gu _,e2,λv F2 H2 s2 S2 rr=>?_};have n:New F1 H1 F2 H2:={(s2.toF λa=>zT a).weak λ_ z=>z.elim,S2.sub};cases hb:q.1 with
 |false=>rw[hb] at rr;exact k v F2 H2 (s1.trans n.stp) (S1.new n) rr
 |true=>rw[hb] at rr;have{a,rfl,h1,h2,h3,h4}:=rr;have{o,ho,_}:=h2.ho;have n':=n.share h3 ho h1;exact k _ _ H2 (s1.trans n'.stp) (S1.new n') (h2.rep h1 ho)
theorem zWG(hn:gs.length=np)(h:tF K H₀ (qZ m gs) σ H Q):uH (ME K np m) [] E0 (iI K H₀ gs) σ H Q:=by
 have{τ,F,E,d,E',S,hg,k}:=h;have{p,e1,hg}:=pA3 hg;have{q,e2,hg}:=pA3 hg;split at hg
 .rename_i hb;cases hg;refine{τ,F,E,p.1,p.2,S,e1,λvs F1 H1 s1 S1 r1=>?_};dsimp only;rw[E4];refine{by rw[r1.length,vM e1,hn],0,F1,_,q.1,q.2.1,q.2.2,Sim.args S1.sub r1,Gu _,e2,λv F2 H2 s2 S2 rr=>?_};have n:New F1 H1 F2 H2:={(s2.toF λa=>zT a).weak λ_ z=>z.elim,S2.sub};rw[hb] at rr;have{a,rfl,h1,h2,h3,h4}:=rr;exact k a F2 H2 (s1.trans n.stp) (S1.new n) h1 (s1.dom a h3) h2 (S1.fresh h3)
 .cases hg
theorem LN(C:J2 X.prog X.w X.K X.mg X.base x k np m)(hr:Room k X.A)(ha:VA X (e::es) gs)(hn:gs.length=np:=by rfl)(hg:Gl X x:=by rfl)(UL:(x==("__debug__":C7))=AE:=by decide) (he:AW (e::es) X.env=(AE,eval e X.env)::AW es X.env:=by rfl) (LS:(EW pos (AW es X.env)).any (·.1)=AE:=by rfl):VE X (.Call (.Name x p) (e::es) [] pos) (HD m gs):=by have{f,fd,ps,Fn,hm,hk,hb}:=C;exact(vG Fn hr hg hm hk hb .nil uF ha UL he LS).imp λ_ _ _ h=>yAE hn h
theorem yES(C:J2 X.prog X.w X.K X.mg X.base x k np m)(hr:Room k X.A)(ha:VA X (e::es) gs)(hn:gs.length=np:=by rfl)(hg:Gl X x:=by rfl)(UL:(x==("__debug__":C7))=AE:=by decide) (he:AW (e::es) X.env=(AE,eval e X.env)::AW es X.env:=by rfl) (LS:(EW pos (AW es X.env)).any (·.1)=AE:=by rfl):FE X (.Call (.Name x p) (e::es) [] pos) (qZ m gs):=by have{f,fd,ps,Fn,hm,hk,hb}:=C;exact(vG Fn hr hg hm hk hb .nil uF ha UL he LS).imp λ_ _ _ h=>zWG hn h
def LM(m:Mr)(i:Nat)(gs:List G):G:=λE=>match E[i]? with
 |some (.own _ _)=>(Q2 gs E).bind λp=>match p.2[i]? with
  |some (.own t d)=>(m (.own AQ d::p.1.map Sl.val)).bind λq=>.ok (q.2.1,p.2.set i (.own t q.2.2))
  |_=>.bad
 |_=>.bad
theorem pAG(s:Sub F H)(r:Reps K F vs ds)(h1:F a=AL)(h2:OwnAt K F H a d):Sim K H a F H ((V.ref a::vs).map AA) (.own AQ d::ds.map Sl.val):=by
 have S:=Sim.args (H₀:=H) (τ:=a) s r;have no:∀i t d',(Sl.own AQ d::ds.map Sl.val)[i]?=AA (.own t d')->i=0/\t=AQ/\d'=d:=λi t d' e=>by
  cases i with
  |zero=>cases e;exact{rfl,rfl,rfl}
  |succ i =>
   have e:(ds.map Sl.val)[i]?=AA (.own t d'):=by simpa using e
   rw[AY] at e;cases q:ds[i]? with
   |none=>rw[q] at e;cases e
   |some d'=>rw[q] at e;cases e
 refine{s,by rw[AK,A8,A8,AK,r.length],λi d' e=>?_,λi t d' e=>?_,λi j t u d1 d2 b e1 e2 _ _=>by rw[(no i _ _ e1).1,(no j _ _ e2).1]}
 .cases i with
  |zero=>cases e
  |succ i=>simpa using S.val i d' (by simpa using e)
 .have{rfl,rfl,rfl}:=no i t d' e;have{o,ho,hw}:=h2.ho;exact{a,rfl,h1,h2,λob u z=>by rw[ho] at z;cases z;exact hw,λ_=>rfl}
theorem Ji{ds:List D}:Ks (.own AQ d::ds.map Sl.val):=λi t d' e=>by
 cases i with
 |zero=>cases e;exact{rfl,rfl}
 |succ i =>
  have e:(ds.map Sl.val)[i]?=AA (.own t d'):=by simpa using e
  exact absurd (Gu ds i t d' e) (by
   rw[AY] at e;cases q:ds[i]? with
   |none=>rw[q] at e;cases e
   |some d'=>rw[q] at e;cases e)
theorem mD{ds:List D}(h:EJ ((V.ref a::vs).map AA) (.own AQ d::ds.map Sl.val) b):b=a:=by have{i,t,d',e1,e2}:=h;have{rfl,_}:=Ji i t d' e1;cases e2;rfl
theorem zWH(hn:gs.length+1=np)(h:tV K H₀ (LM m i gs) σ H Q):uH (ME K np m) [] E0 (zX (Jo i) (iI K H₀ gs)) σ H Q:=by
 have{τ,F,E,d,E',S,hg,k}:=h;unfold LM at hg;split at hg
 .rename_i t0 d0 e0;have{p,e1,hg}:=pA3 hg;split at hg
  .rename_i t d1 e3;have{q,e2,hg}:=pA3 hg;cases hg;have{a,a1,_}:=S.own i _ _ e0;refine{_,a1,τ,F,E,p.1,p.2,S,e1,λvs F1 H1 s1 S1 r1=>?_};dsimp only;rw[E4];have{a',b1,b2,b3,b4,b5}:=S1.own i _ _ e3;rw[a1] at b1;cases b1;refine{by rw[A8,r1.length,vM e1,hn],a,F1,_,q.1,q.2.1,q.2.2,pAG S1.sub r1 b2 b3,Ji,e2,λv F2 H2 s2 S2 rr=>?_};have s2:=s2;have S2:=S2;have hi:=(AH.mp e3).1;have GR:∀(j:Nat) t' d',(p.2.set i (.own t q.2.2))[j]?=AA (.own t' d')->(j=i/\t'=t/\d'=q.2.2)\/(j≠i/\p.2[j]?=AA (.own t' d')):=λj t' d' z=>by
    by_cases hj:i=j
    .subst hj;rw[BQ hi] at z;cases z;exact .inl {rfl,rfl,rfl}
    .rw[BK hj] at z;exact .inr {CT hj,z}
   have oin:∀b,EJ σ (p.2.set i (.own t q.2.2)) b->EJ σ p.2 b:=λb q0=>by
    have{j,t',d',z1,z2}:=q0;rcases GR j t' d' z1 with⟨rfl,_,_⟩|⟨_,z1⟩
    .exact{_,_,_,e3,z2}
    .exact{j,t',d',z1,z2}
   have ina:EJ σ p.2 a:={i,t,d1,e3,a1};have KY:Stp (EJ σ p.2) F1 H1 F2 H2 (EJ σ (p.2.set i (.own t q.2.2))):={λb o z hw n ho=>s2.keep b o z hw n λy=>ho (by rw[mD y];exact ina),s2.dom,s2.le,λb o z=>(s2.new b o z).imp_right λy=>y.imp_right λy=>by rw[mD y];exact ina,λb z=>.inl (oin b z)};have Sm:Sim K H₀ τ F2 H2 σ (p.2.set i (.own t q.2.2)):=by
    refine{S2.sub,by rw[DI];exact S1.len,λj d' z=>?_,λj t' d' z=>?_,λj l t1 t2 x y b z1 z2 y1 y2=>?_}
    .by_cases hj:i=j
     .subst hj;rw[BQ hi] at z;cases z
     .rw[BK hj] at z;have{v,h1,h2}:=S1.val j d' z;exact{v,h1,h2.le s2.le}
    .rcases GR j t' d' z with⟨rfl,rfl,rfl⟩|⟨hj,z⟩
     .have{c,c1,c2,c3,_}:=S2.own 0 AQ q.2.2 rfl;cases c1;exact{a,a1,c2,c3,b4,b5}
     .have{c,c1,c2,c3,c4}:=S1.own j t' d' z;have{o,ho,hw}:=c3.ho;have m8:c≠a:=λy=>hj (S1.inj j i t' t d' d1 a z e3 (by rw[c1,y]) a1);refine{c,c1,?_,c3.mono s2.le ((s2.keep c o ho hw c2 λy=>m8 (mD y)).trans ho.symm),c4};cases y:F2 c with
      |none=>rfl
      |some u =>
       rcases s2.new c u y with y|y|y
       .exact absurd c2 y
       .exact absurd hw (y o ho)
       .exact absurd (mD y) m8
    .have f:∀(j:Nat) t' d',(p.2.set i (.own t q.2.2))[j]?=AA (.own t' d')->∃pF Pi,p.2[j]?=AA (.own pF Pi):=λj t' d' z=>by
      rcases GR j t' d' z with⟨rfl,_,_⟩|⟨_,z⟩
      .exact{_,_,e3}
      .exact{_,_,z}
     have{_,_,w1}:=f j _ _ z1;have{_,_,w2}:=f l _ _ z2;exact S1.inj j l _ _ _ _ b w1 w2 y1 y2
   cases hb:q.1 with
   |false=>rw[hb] at rr;exact k v F2 H2 (s1.trans KY) Sm rr
   |true =>
    rw[hb] at rr;have{c,rfl,h1,h2,h3,h4}:=rr;have{o,ho,_}:=h2.ho;have nc:∀b,EJ σ (p.2.set i (.own t q.2.2)) b->b≠c:=λb z y=>by subst y;exact S1.fresh h3 (oin b z)
    refine k _ (DZ F2 c o) H2 (s1.trans {KY.keep,KY.dom,KY.le.trans (.of_gr (Gr.new h1)),λb u z=>?_,KY.own}) {λb u z=>?_,Sm.len,λj d' z=>?_,λj t' d' z=>?_,Sm.inj} (h2.rep h1 ho)
    .by_cases hb:b=c
     .subst hb;exact .inr (.inl (.none h3))
     .rw[EH hb] at z;exact KY.new b u z
    .by_cases hb:b=c
     .subst hb;rw[GO] at z;rw[ho];exact z
     .rw[EH hb] at z;exact Sm.sub b u z
    .have{v,y1,y2}:=Sm.val j d' z;exact{v,y1,y2.le (.of_gr (Gr.new h1))}
    .have{b,y1,y2,y3,y4}:=Sm.own j t' d' z;exact{b,y1,by rw[EH (nc b {j,t',d',z,y1})];exact y2,y3.mono (.of_gr (Gr.new h1)) rfl,y4}
  .cases hg
 .cases hg
theorem XS(i:Nat)(C:J2 X.prog X.w X.K X.mg X.base x k np m)(hr:Room k X.A)(ha:VA X es gs)(hn:gs.length+1=np:=by rfl)(hg:Gl X x:=by rfl)(UL:(x==("__debug__":C7))=AE:=by decide) (he:AW (.Name xn q::es) X.env=(AE,eval (.Name xn q) X.env)::AW es X.env:=by rfl) (LS:(EW pos (AW es X.env)).any (·.1)=AE:=by rfl) (hN:X.N[i]?=AA xn:=by rfl) (hv:eI X.env.scope xn:=by first|exact BM rfl|exact D5 (BM rfl)|exact D5 (D5 rfl)) (hd:(xn==("__debug__":C7))=AE:=by decide) (OG:(xn==("__classdict__":C7))=AE:=by decide):VE X (.Call (.Name x p) (.Name xn q::es) [] pos) (LM m i gs):=by have{f,fd,ps,Fn,hm,hk,hb}:=C;exact(vG Fn hr hg hm hk hb .nil uF (PB (oC hN hv hd OG) ha he) UL he LS).imp λ_ _ _ h=>zWH hn h
end
theorem PTs.imp(h:PTs X es t)(hi:∀σ H Q,t' σ H Q->t σ H Q):PTs X es t':=λAJ s σ H Q I q=>h AJ s σ H Q I (hi σ H Q q)
abbrev wH(X:Cx)(es:List EU)(g:Ev->Out (Bool×Ev)):Prop:=PTs X es (tT X.K X.H₀ g)
def RN:Ev->Out (Bool×Ev):=λE=>.ok (AQ,E)
theorem iC:wH X [] RN:=VV.imp λσ H Q h=>by have{τ,F,E,d,E',S,hg,k}:=h;cases hg;exact k F H .refl S
theorem jY(h:VT X c t):wH X [c] t:=zZZ h
theorem zS5{l:List Nat}(h:l.Nodup){i j x:Nat}(hi:l[i]?=AA x)(hj:l[j]?=AA x):i=j:=by
 have{a1,a2}:=AH.mp hi;have{b1,b2}:=AH.mp hj;have p:=B9.mp h;rcases JZ i j with z|z|z
 .exact absurd (a2.trans b2.symm) (p i j a1 b1 z)
 .exact z
 .exact absurd (b2.trans a2.symm) (p j i b1 a1 z)
noncomputable def VQ(k:Nat)(js:List Nat)(E:Ev):Ev:=BP k .no++js.map λj=>(E[j]?).getD .no
noncomputable def lO(j:Nat):List Nat->Nat->Option Nat
 |[],_=>AL
 |x::xs,n=>if x=j then AA n else lO j xs (n+1)
theorem Ij:∀{js:List Nat} {n0 n:Nat},lO j js n0=AA n->∃m,n=n0+m/\js[m]?=AA j
 |[],_,_,h=>by cases h
 |x::xs,n0,n,h=>by
  rw[lO] at h;split at h
  .rename_i hx;cases h;exact{0,rfl,by simp[hx]}
  .have{m,h1,h2}:=Ij h;exact{m+1,by lia,by simpa using h2}
theorem Ww:∀{js:List Nat} {n0:Nat},lO j js n0=AL->j∉js
 |[],_,_=>by simp
 |x::xs,n0,h=>by
  rw[lO] at h;split at h
  .cases h
  .rename_i hx;have:=Ww h;simp only[A3,not_or];exact{λz=>hx z.symm,this}
def lI(Ec:Ev)(k:Nat)(js:List Nat)(j:Nat):Sl->Sl
 |.own t d=>match lO j js 0 with
  |some n=>(Ec[k+n]?).getD .no
  |none=>.own t d
 |s=>s
def dO(Ec:Ev)(k:Nat)(js:List Nat):Nat->Ev->Ev
 |_,[]=>[]
 |j,s::E=>lI Ec k js j s::dO Ec k js (j+1) E
abbrev V3(E Ec:Ev)(k:Nat)(js:List Nat):Ev:=dO Ec k js 0 E
theorem Gs(Ec:Ev)(k:Nat)(js:List Nat):∀(E:Ev) (j0 j:Nat),(dO Ec k js j0 E)[j]?=(E[j]?).map (lI Ec k js (j0+j))
 |[],_,_=>by simp[dO]
 |s::E,j0,0=>by simp[dO]
 |s::E,j0,j+1=>by show(dO Ec k js (j0+1) E)[j]?=_;rw[Gs Ec k js E (j0+1) j,FW,show j0+1+j=j0+(j+1) by lia]
theorem Uh(Ec:Ev)(k:Nat)(js:List Nat):∀(E:Ev) (j0:Nat),(dO Ec k js j0 E).length=E.length
 |[],_=>rfl
 |s::E,j0=>by rw[dO,A8,A8,Uh Ec k js E (j0+1)]
theorem An(h:(V3 E Ec k js)[j]?=AA s):(E[j]?=AA s/\((∃t d,s=.own t d)->j∉js))\/∃t d n,E[j]?=AA (.own t d)/\js[n]?=AA j/\s=(Ec[k+n]?).getD .no:=by
 rw[Gs,FB] at h;cases q:E[j]? with
 |none=>rw[q] at h;cases h
 |some s0 =>
  rw[q] at h;have h:=BJ h;cases s0 with
  |no=>cases h;exact .inl {rfl,(λq0=>by have{_,_,z}:=q0;exact by cases z)}
  |val d=>cases h;exact .inl {rfl,(λq0=>by have{_,_,z}:=q0;exact by cases z)}
  |own t d =>
   cases f:lO j js 0 with
   |none =>
    have:lI Ec k js j (.own t d)=.own t d:=by unfold lI;rw[f]
    rw[this] at h;exact .inl {by rw[h],λ_=>Ww f}
   |some n =>
    have{m,h1,h2}:=Ij f;have:lI Ec k js j (.own t d)=(Ec[k+n]?).getD .no:=by unfold lI;rw[f]
    rw[this] at h;exact .inr {t,d,m,rfl,h2,by rw[<-h];congr 2;lia}
theorem u0(h:(VQ k js E)[i]?=AA s)(hs:s≠.no):∃n j,i=k+n/\js[n]?=AA j/\E[j]?=AA s:=by
 unfold VQ at h;by_cases hi:i<k
 .rw[CD (by rw[DY];exact hi),FG,if_pos hi] at h;exact absurd (BJ h).symm hs
 .rw[CZ (by rw[DY];lia),DY,AY] at h;cases q:js[i-k]? with
  |none=>rw[q] at h;cases h
  |some j =>
   rw[q] at h;have h:(E[j]?).getD .no=s:=BJ h;refine{i-k,j,by lia,q,?_};cases z:E[j]? with
   |none=>rw[z] at h;exact absurd h.symm hs
   |some s'=>rw[z] at h;rw[<-h];rfl
theorem rO(h:js[n]?=AA j):(XN k js σ)[k+n]?=AA ((σ[j]?).getD AL):=by unfold XN;rw[CZ (by rw[DY];lia),DY,AY,NK _ _,h];rfl
section
variable{K:AC}
theorem Sim.off(S:Sim K H₀ τ F H σ E)(hf:F B0=AL)(no:¬EJ σ E B0):Sim K H₀ τ F (DZ H B0 o) σ E:=by
 refine{λa u e=>?_,S.len,S.val,λi t d e=>?_,S.inj}
 .have:a≠B0:=λz=>by rw[z,hf] at e;cases e
  rw[EH this];exact S.sub a u e
 .have{a,h1,h2,h3,h4}:=S.own i t d e;have:a≠B0:=λz=>no {i,t,d,e,by rw[<-z];exact h1};exact{a,h1,h2,h3.mono (.refl _) (EH this),h4}
theorem pAH(S:Sub F H)(h:H B0=AL):F B0=AL:=by
 cases e:F B0 with
 |none=>rfl
 |some u=>rw[S B0 u e] at h;cases h
theorem Fe(h:EJ (XN k js σ) (VQ k js E) a):∃(n j:Nat) (t:Bool) (d:D),js[n]?=AA j/\E[j]?=AA (.own t d)/\σ[j]?=AA (AA (.ref a)):=by
 have{i,t,d,e1,e2}:=h;have{n,j,rfl,h1,h2}:=u0 e1 (by intro z;cases z);rw[rO h1] at e2;refine{n,j,t,d,h1,h2,?_};cases q:σ[j]? with
 |none=>rw[q] at e2;cases e2
 |some z=>rw[q] at e2;cases e2;rfl
theorem Sim.enter(S:Sim K H₀ τ F H σ E)(k:Nat)(hj:js.Nodup)(ha:H B0=AL):Sim K (DZ H B0 o) τ F (DZ H B0 o) (XN k js σ) (VQ k js E):=by
 have hf:=pAH S.sub ha;refine{λa u e=>?_,by unfold VQ XN;simp,λi d e=>?_,λi t d e=>?_,λi j t u d d' a e1 e2 z1 z2=>?_}
 .have:a≠B0:=λz=>by rw[z,hf] at e;cases e
  rw[EH this];exact S.sub a u e
 .have{n,j,rfl,h1,h2}:=u0 e (by intro z;cases z);have{v,h3,h4}:=S.val j d h2;exact{v,by rw[rO h1,h3];rfl,h4}
 .have{n,j,rfl,h1,h2}:=u0 e (by intro z;cases z);have{a,h3,h4,h5,h6,h7}:=S.own j t d h2;have{ob,ho,hw}:=h5.ho;have:a≠B0:=λz=>by rw[z,ha] at ho;cases ho
  exact{a,by rw[rO h1,h3];rfl,h4,h5.mono (.refl _) (EH this),λw u z=>by rw[EH this,ho] at z;cases z;exact hw,h7}
 .have{n,l,rfl,h1,h2}:=u0 e1 (by intro z;cases z);have{n',l',rfl,WG,UM}:=u0 e2 (by intro z;cases z);rw[rO h1] at z1;rw[rO WG] at z2;have w1:σ[l]?=AA (AA (.ref a)):=by
   cases q:σ[l]? with
   |none=>rw[q] at z1;cases z1
   |some z=>rw[q] at z1;cases z1;rfl
  have w2:σ[l']?=AA (AA (.ref a)):=by
   cases q:σ[l']? with
   |none=>rw[q] at z2;cases z2
   |some z=>rw[q] at z2;cases z2;rfl
  have:=S.inj l l' t u d d' a h2 UM w1 w2;subst this;rw[zS5 hj h1 WG]
theorem Sim.leave(S:Sim K H₀ τ F1 H1 σ E1)(ha:H1 B0=AL)(s:Stp (λa=>EJ (XN k js σ) (VQ k js E1) a\/a=B0) F1 (DZ H1 B0 o) F2 H2 (EJ σ2 E2)) (S2:Sim K (DZ H1 B0 o) τ F2 H2 σ2 E2) (hs:∀j:Nat,k<=j->σ2[j]?=(XN k js σ)[j]?) : Sim K H₀ τ F2 H2 σ (V3 E1 E2 k js)/\Stp (EJ σ E1) F1 H1 F2 H2 (EJ σ (V3 E1 E2 k js)):=by
 have cow:∀a,EJ (XN k js σ) (VQ k js E1) a->EJ σ E1 a:=λa h=>let ⟨n,j,t,d,_,h2,h3⟩:=Fe h;{j,t,d,h2,h3};have ne:∀a u,H1 a=AA u->a≠B0:=λa u e z=>by rw[z,ha] at e;cases e
 have slot:∀(n j:Nat),js[n]?=AA j->σ2[k+n]?=AA ((σ[j]?).getD AL):=λn j h=>by rw[hs (k+n) (A5 _ _),rO h]
 have fB:∀(j:Nat) t d,(V3 E1 E2 k js)[j]?=AA (.own t d)->∃t' d',E1[j]?=AA (.own t' d'):=λj t d e=>by
  rcases An e with⟨h,_⟩|⟨t',d',n,h,_⟩
  .exact{t,d,h}
  .exact{t',d',h}
 have st:Stp (EJ σ E1) F1 H1 F2 H2 (EJ σ (V3 E1 E2 k js)):=by
  refine{λa u e hw n ho=>s.keep a u (by rw[EH (ne a u e)];exact e) hw n λz=>z.elim (λz=>ho (cow a z)) (ne a u e),λa e=>?_,s.le,λa u e=>?_,λa ⟨j,t,d,e1,e2⟩=>?_}
  .have:=s.dom a e;by_cases h:a=B0
   .rw[h];exact ha
   .rw[EH h] at this;exact this
  .rcases s.new a u e with z|z|z|z
   .exact .inl z
   .by_cases h:a=B0
    .rw[h];exact .inr (.inl (.none ha))
    .exact .inr (.inl λo' e'=>z o' (by rw[EH h];exact e'))
   .exact .inr (.inr (cow a z))
   .rw[z];exact .inr (.inl (.none ha))
  .have{t',d',h}:=fB j t d e1;exact .inl {j,t',d',h,e2}
 refine{{S2.sub,by rw[Uh];exact S.len,λj d e=>?_,λj t d e=>?_,λi j t u d d' a e1 e2 z1 z2=>?_},st}
 .rcases An e with⟨h,_⟩|⟨t',d',n,h,h1,h2⟩
  .have{v,h1,h2}:=S.val j d h;exact{v,h1,h2.le s.le}
  .have e2:E2[k+n]?=AA (.val d):=by
    cases q:E2[k+n]? with
    |none=>rw[q] at h2;cases h2
    |some z=>rw[q] at h2;rw[h2];rfl
   have{v,h3,h4}:=S2.val _ d e2;rw[slot n j h1] at h3;refine{v,?_,h4};cases q:σ[j]? with
   |none=>rw[q] at h3;cases h3
   |some z=>rw[q] at h3;cases h3;rfl
 .rcases An e with⟨h,h'⟩|⟨t',d',n,h,h1,h2⟩
  .have hj:=h' {t,d,rfl};have{a,c1,c2,c3,c4}:=S.own j t d h;have{ob,ho,hw}:=c3.ho;have nc:¬(EJ (XN k js σ) (VQ k js E1) a\/a=B0):=λz=>by
    rcases z with z|z
    .have{n,l,t2,d2,y1,y2,y3}:=Fe z;have:=S.inj j l t t2 d d2 a h y2 c1 y3;subst this;exact hj (BS y1)
    .exact ne a ob ho z
   refine{a,c1,?_,c3.mono s.le ((s.keep a ob (by rw[EH (ne a ob ho)];exact ho) hw c2 nc).trans ho.symm),c4};cases y:F2 a with
   |none=>rfl
   |some u =>
    rcases s.new a u y with y|y|y
    .exact absurd c2 y
    .exact absurd hw (y ob (by rw[EH (ne a ob ho)];exact ho))
    .exact absurd y nc
  .have e2:E2[k+n]?=AA (.own t d):=by
    cases q:E2[k+n]? with
    |none=>rw[q] at h2;cases h2
    |some z=>rw[q] at h2;rw[h2];rfl
   have{a,h3,h4,h5,h6,h7}:=S2.own _ t d e2;rw[slot n j h1] at h3;have{a',c1,c2,c3,c4,c5}:=S.own j t' d' h;rw[c1] at h3;cases h3;exact{a,c1,h4,h5,c4,h7}
 .have{_,_,h1}:=fB i t d e1;have{_,_,h2}:=fB j u d' e2;exact S.inj i j _ _ _ _ a h1 h2 z1 z2
end
abbrev GM:=D->Ev->Out (D×Ev)
theorem Stp.more{ow TF:AV->Prop}(x:Stp ow F H F1 H1 TF):Stp (λa=>ow a\/a=B0) F H F1 H1 (λa=>TF a\/a=B0) :={λa o e w f n=>x.keep a o e w f λz=>n (.inl z),x.dom,x.le,λa o e=>(x.new a o e).imp id λz=>z.imp id .inl,λa q=>q.elim (λz=>(x.own a z).imp .inl id) λz=>.inl (.inr z)}
def Cn(K:AC)(H₀:Hp)(B0:AV)(k:Nat)(g:GM):TM:=λσ H N=>∃τ F E d d' E',Sim K H₀ τ F H σ E/\F B0=AL/\¬EJ σ E B0/\OwnAt K F H B0 d/\g d E=.ok (d',E') /\ ∀σ' F' H',Stp (λa=>EJ σ E a\/a=B0) F H F' H' (λa=>EJ σ' E' a\/a=B0)->Sim K H₀ τ F' H' σ' E'->F' B0=AL->¬EJ σ' E' B0->OwnAt K F' H' B0 d'->(∀j:Nat,k<=j->σ'[j]?=σ[j]?)->N σ' H'
def aD(t:Tg)(tt:Ev->Out (Bool×Ev))(gm:GM):List D->GM
 |[],d,E=>.ok (d,E)
 |x::xs,d,E=>(YQ t x E).bind λE1=>(tt E1).bind λb=>if b.1=AQ then(gm d b.2).bind λq=>aD t tt gm xs q.1 q.2 else aD t tt gm xs d b.2
section
variable{K:AC}
theorem zS(st:Stp (EJ σ' Ea) Fa Ha Fb Hb (EJ σ' Eb))(a1:Fa B0=AL)(a2:¬EJ σ' Ea B0)(a3:OwnAt K Fa Ha B0 d):Fb B0=AL/\¬EJ σ' Eb B0/\OwnAt K Fb Hb B0 d:=by
 have{o,ho,hw}:=a3.ho;have hb:=st.keep B0 o ho hw a1 a2;refine{?_,λz=>(st.own B0 z).elim a2 λz=>by (rw[ho] at z;cases z),a3.mono st.le (hb.trans ho.symm)};cases z:Fb B0 with
 |none=>rfl
 |some u =>
  rcases st.new B0 u z with z|z|z
  .exact absurd a1 z
  .exact absurd hw (z _ ho)
  .exact absurd z a2
theorem yHS(IS:t.ltn k=AQ){N:St->Hp->Prop}(S:Sim K H₀ τ F H σ E)(hf:F B0=AL)(no:¬EJ σ E B0)(ho:OwnAt K F H B0 d)(hw:Walks K J F ds) (hg:aD t tt gm ds d E=.ok (d',E')) (htm:∀σ5 F5 H5 E5 N',Stp (λa=>EJ σ E a\/a=B0) F H F5 H5 (λa=>EJ σ5 E5 a\/a=B0)->(∃d5 d6 E6,Sim K H₀ τ F5 H5 σ5 E5/\F5 B0=AL/\¬EJ σ5 E5 B0/\OwnAt K F5 H5 B0 d5/\gm d5 E5=.ok (d6,E6) /\ ∀σ' F' H',Stp (λa=>EJ σ5 E5 a\/a=B0) F5 H5 F' H' (λa=>EJ σ' E6 a\/a=B0)->Sim K H₀ τ F' H' σ' E6->F' B0=AL->¬EJ σ' E6 B0->OwnAt K F' H' B0 d6->(∀j:Nat,k<=j->σ'[j]?=σ5[j]?)->N' σ' H')->tm σ5 H5 N') (hN:∀σ' F' H',Stp (λa=>EJ σ E a\/a=B0) F H F' H' (λa=>EJ σ' E' a\/a=B0)->Sim K H₀ τ F' H' σ' E'->F' B0=AL->¬EJ σ' E' B0->OwnAt K F' H' B0 d'->(∀j:Nat,k<=j->σ'[j]?=σ[j]?)->N σ' H') : tWalkC J (tG K H₀ t) (tT K H₀ tt) tm σ H N:=by
 refine{λi m σ2 H2=>m=ds.length-i/\i<=ds.length/\∃F2 E2 d2,Sim K H₀ τ F2 H2 σ2 E2/\Stp (λa=>EJ σ E a\/a=B0) F H F2 H2 (λa=>EJ σ2 E2 a\/a=B0) /\
   F2 B0=AL/\¬EJ σ2 E2 B0/\OwnAt K F2 H2 B0 d2/\(∀j:Nat,k<=j->σ2[j]?=σ[j]?)/\aD t tt gm (ds.drop i) d2 E2=.ok (d',E'),
  {_,rfl,BN _,F,E,d,S,Stp.refl,hf,no,ho,λ_ _=>rfl,by rw[L0];exact hg},?_}
 intro i m σ2 H2 zz';have{rfl,Du,F2,E2,d2,S2,s2,f2,n2,o2,M2,g2}:=zz';have{w2,w3,w4}:=hw i F2 H2 s2.le S2.sub;by_cases hi:i<ds.length
 .obtain⟨x,hd⟩:∃d,ds[i]?=AA d:={ds[i],by simp[hi]};have yQ:ds.drop i=x::ds.drop (i+1):=by
   rw[FJ hi];have:ds[i]=x:=by rw[BD hi] at hd;exact BJ hd
   rw[this]
  rw[yQ,aD] at g2;have{E3,e3,g2}:=pA3 g2;have{b,e4,g2}:=pA3 g2;refine .inr {w2 hi,λy H' yl=>?_};have{F3,n3,r3}:=w4 y H' x hd yl;have{f3,m3,o3}:=zS (n3.stp) f2 n2 o2;refine{τ,F3,E2,x,E3,S2.new n3,r3,e3,λσ4 S4 o4 b4=>?_};have m4:=λz=>n2 (o4 B0 z);have hs4:∀j:Nat,k<=j->σ4[j]?=σ[j]?:=λj hj=>by rw[b4 k IS j hj,M2 j hj]
  have s4:Stp (λa=>EJ σ E a\/a=B0) F H F3 H' (λa=>EJ σ4 E3 a\/a=B0):=(s2.trans n3.stp).weak λa z=>z.imp (o4 a) id;refine{τ,F3,E3,b.1,b.2,S4,e4,λF5 H5 s5 S5=>?_};have{f5,m5,o5}:=zS s5 f3 m4 o3;have Mb:=s4.trans (s5.more);dsimp only;by_cases hb:b.1=AQ
  .rw[if_pos hb] at g2 ⊢;have{z,e6,g2}:=pA3 g2;refine htm σ4 F5 H5 b.2 _ Mb {d2,z.1,z.2,S5,f5,m5,o5,e6,λσ6 F6 H6 s6 S6 f6 m6 o6 hs6=>?_};exact{_,by lia,rfl,hi,F6,z.2,z.1,S6,Mb.trans s6,f6,m6,o6,λj hj=>by rw[hs6 j hj,hs4 j hj],g2}
  .rw[if_neg hb] at g2 ⊢;exact{_,by lia,rfl,hi,F5,b.2,d2,S5,Mb,f5,m5,o5,hs4,g2}
 .have hi:i=ds.length:=by lia
  rw[JV 'L',aD] at g2;cases g2;exact .inl {w3 hi,hN σ2 F2 H2 s2 S2 f2 n2 o2 M2}
theorem yHT(IS:t.ltn k=AQ){N:St->Hp->Prop}(S:Sim K H₀ τ F H σ E)(hf:F B0=AL)(no:¬EJ σ E B0)(ho:OwnAt K F H B0 d)(hw:Walks K J F ds) (hg:aD t tt gm ds d E=.ok (d',E')) (hN:∀σ' F' H',Stp (λa=>EJ σ E a\/a=B0) F H F' H' (λa=>EJ σ' E' a\/a=B0)->Sim K H₀ τ F' H' σ' E'->F' B0=AL->¬EJ σ' E' B0->OwnAt K F' H' B0 d'->(∀j:Nat,k<=j->σ'[j]?=σ[j]?)->N σ' H') : tWalkC J (tG K H₀ t) (tT K H₀ tt) (Cn K H₀ B0 k gm) σ H N :=yHS IS S hf no ho hw hg (λσ5 F5 H5 E5 N' _ ⟨d5,d6,E6,h⟩=>{τ,F5,E5,d5,d6,E6,h}) hN
theorem yET(s6:Stp (EJ σ E) F H F6 H6 (EJ σ' E')):Stp (λa=>EJ σ E a\/a=B0) F H F6 (DZ H6 B0 o) (λa=>EJ σ' E' a\/a=B0):=by
 have st:=s6.more (B0:=B0);refine{λa u e hw n ho=>by rw[EH (λy=>ho (.inr y))];exact st.keep a u e hw n ho,λa e=>?_,st.le,st.new,st.own};by_cases hac:a=B0
 .rw[hac,GO] at e;cases e
 .rw[EH hac] at e;exact st.dom a e
def Kd(ge:G):GM:=λd E=>(ge E).bind λp=>match d with|.lst ds=>T4 ds.length (.ok (.lst (ds++[p.1]),p.2))|_=>.bad
theorem zWJ{N:St->Hp->Prop}(h:Cn K H₀ B0 k (Kd ge) σ H N):lS B0 (tV K H₀ ge) σ H N:=by
 have{τ,F,E,d,d',E',S,f,n,o,hg,k}:=h;have{p,e1,hg}:=pA3 hg;split at hg
 .rename_i ds;have{hz,hg}:=aJ hg;cases hg;refine{τ,F,E,p.1,p.2,S,e1,λy F6 H6 s6 S6 r6=>?_};have{f6,m6,ys,h6,r2}:=zS s6 f n o;exact{ys,h6,by rw[r2.length];exact lW hz,k σ F6 _ (yET s6) (S6.off f6 m6) f6 m6 {_,GO,r2.append (.cons r6 .nil)} λ_ _=>rfl}
 .cases hg
def n6(gi:GI)(k:Nat)(js:List Nat)(d0:D)(t:Tg)(tt:Ev->Out (Bool×Ev))(gm:GM):G:=λE=>(gi E).bind λp=>(aD t tt gm p.1 d0 (VQ k js p.2)).bind λq=>.ok (q.1,V3 p.2 q.2 k js)
theorem Ug(hd0:∀(F H:Hp) (a:AV),OwnAt K F (DZ H a o) a d0)(IS:t.ltn k=AQ)(hj:js.Nodup)(h:tF K H₀ (n6 gi k js d0 t tt gm) σ H Q) : oA (tI K H₀ gi) k js o (λH=>tG K H t) (λH=>tT K H tt) (λH B0=>Cn K H B0 k gm) σ H Q:=by
 have{τ,F,E,d,E',S,hg,kq}:=h;have{p,e1,hg}:=pA3 hg;have{q,e2,hg}:=pA3 hg;cases hg;refine{τ,F,E,p.1,p.2,S,e1,λJ F1 H1 s1 S1 w1 B0 ha=>?_};have hf:=pAH S1.sub ha;have S0:=S1.enter (o:=o) k hj ha;have no:¬EJ (XN k js σ) (VQ k js p.2) B0:=λz=>by have{n,j,t',d',_,z2,z3}:=Fe z;exact S1.fresh ha {j,t',d',z2,z3}
 refine yHT IS S0 hf no (hd0 _ _ _) w1 e2 λσ2 F2 H2 s2 S2 f2 n2 o2 M2=>?_;have s2':=s2.weak λa z=>.inl z;have{S9,s9}:=S1.leave ha s2' S2 M2;refine kq B0 F2 H2 (s1.trans s9) S9 f2 (s1.dom B0 ha) o2 λz=>?_;exact(s9.own B0 z).elim (λy=>S1.fresh ha y) λy=>S1.fresh ha (by
   have{j,t',d',z1,z2}:=z;rcases An z1 with⟨h,_⟩|⟨pF,Pi,n,h,_⟩
   .exact{j,t',d',h,z2}
   .exact{j,pF,Pi,h,z2})
theorem tWalkC.imp(hi:∀σ H N,tm σ H N->tm' σ H N){N:St->Hp->Prop}(mt:∀(σ:St) (H:Hp) (P P':Bool->Hp->Prop),(∀b H2,P b H2->P' b H2)->tt σ H P->tt σ H P')(mg:∀(x:V) (σ:St) (H:Hp) (P P':St->Hp->Prop),(∀σ2 H2,P σ2 H2->P' σ2 H2)->g x σ H P->g x σ H P')(h:tWalkC J g tt tm σ H N):tWalkC J g tt tm' σ H N:=by
 have{W,w0,turn}:=h;refine{W,w0,λi m σ H w=>(turn i m σ H w).imp id λ⟨go,st⟩=>{go,λx H' y=>mg _ _ _ _ _ (λσ2 H2 q=>mt _ _ _ _ (λb H3 q=>?_) q) (st x H' y)}};cases b with
 |true=>rw[if_pos rfl] at q ⊢;exact hi _ _ _ q
 |false=>rw[if_neg BH] at q ⊢;exact q
theorem Te(σ:St)(H:Hp)(P P':Bool->Hp->Prop)(hp:∀b H2,P b H2->P' b H2)(h:tT K H₀ tt σ H P):tT K H₀ tt σ H P' :=
 let ⟨τ,F,E,b,E',S,hg,k⟩:=h;{τ,F,E,b,E',S,hg,λF' H' s S'=>hp _ _ (k F' H' s S')}
theorem Td(x:V)(σ:St)(H:Hp)(P P':St->Hp->Prop)(hp:∀b H2,P b H2->P' b H2)(h:tG K H₀ t x σ H P):tG K H₀ t x σ H P' :=
 let ⟨τ,F,E,d,E',S,r,hg,k⟩:=h;{τ,F,E,d,E',S,r,hg,λσ' a b c=>hp _ _ (k σ' a b c)}
theorem Sq{R R':It->Hp->Prop}(hp:∀J H2,R J H2->R' J H2)(h:tI K H₀ gi σ H R):tI K H₀ gi σ H R' :=
 let ⟨τ,F,E,ds,E',S,hg,k⟩:=h;{τ,F,E,ds,E',S,hg,λJ F' H' a b c=>hp _ _ (k J F' H' a b c)}
def OE(gi:GI)(k:Nat)(js:List Nat)(t:Tg)(tt:Ev->Out (Bool×Ev))(ge:G):G:=n6 gi k js (.lst []) t tt (Kd ge)
theorem So(IS:t.ltn k=AQ)(hj:js.Nodup)(h:tF K H₀ (OE gi k js t tt ge) σ H Q) : oA (tI K H₀ gi) k js (.lst []) (λH=>tG K H t) (λH=>tT K H tt) (λH B0=>lS B0 (tV K H ge)) σ H Q :=Sq (λJ H2 q B0 ha=>tWalkC.imp (λ_ _ _ z=>zWJ z) (λσ H=>Te σ H) (λx σ H=>Td x σ H) (q B0 ha)) (Ug (d0:=.lst []) (λF H a=>{[],GO,.nil}) IS hj h)
theorem YM(n:CompNm X scope xo cl own CL js)(hc:X.calm=AQ)(hi:VI X tg iter gi) (hg:∀C s H fp,VG (MY X scope xo cl (own++CL) C s H fp) tg t) (ht:∀C s H fp,wH (MY X scope xo cl (own++CL) C s H fp) ifs tt) (he:∀C s H fp,VE (MY X scope xo cl (own++CL) C s H fp) PY ge) (IS:t.ltn own.length=AQ:=by rfl) (hj:js.Nodup:=by decide) (hs:∀x,DK iter X.env x=pure x:=by intro _;rfl):FE X (.ListComp PY [{tg,iter,ifs,0}] scope pos) (OE gi own.length js t tt ge) :=(zZ2 n hc hi hg ht he hs).imp λ_ _ _ h=>So IS hj h
end
mutual
noncomputable def D.py:D->Option JY
 |.non=>AA .none
 |.bl b=>AA (.bool b)
 |.int i=>AA (.int i)
 |.str x=>if LD (.str x)=AQ then AA (.str x) else AL
 |.tup xs=>(pAI xs).map .tuple
 |.lst xs=>(pAI xs).map .list
 |.dk _=>AL
 |.dt _=>AL
noncomputable def pAI:List D->Option (List JY)
 |[]=>AA []
 |d::ds=>match d.py,pAI ds with
  |some p,AA ps=>AA (p::ps)
  |_,_=>AL
end
section
variable{K:AC}
mutual
theorem Rep.dv(s:Sub F H):∀(d:D) {v:V} {p:JY},Rep K F v d->d.py=AA p->DV K H v p
 |.non,_,_,.non,e=>by rw[D.py] at e;cases e;exact .non
 |.bl b,_,_,.bl _,e=>by rw[D.py] at e;cases e;exact .bl b
 |.int i,_,_,.int _,e=>by rw[D.py] at e;cases e;exact .int i
 |.str x,_,_,.str _,e=>by
  rw[D.py] at e;split at e
  .rename_i h;cases e;exact .str x h
  .cases e
 |.tup xs,_,_,r,e=>by rw[D.py] at e;have{ps,h1,h2}:=BU.mp e;subst h2;have{a,vs,rfl,r,sq}:=r.tupSq;exact .tup (sq F H (.refl _) s) (Reps.dv s xs r h1)
 |.lst xs,_,_,.lst h r,e=>by rw[D.py] at e;have{ps,h1,h2}:=BU.mp e;subst h2;exact .lst (h.imp s.rd id) (Reps.dv s xs r h1)
 |.dk _,_,_,_,e=>by rw[D.py] at e;cases e
 |.dt _,_,_,_,e=>by rw[D.py] at e;cases e
theorem Reps.dv(s:Sub F H):∀(d:List D) {v:List V} {p:List JY},Reps K F v d->pAI d=AA p->DVs K H v p
 |[],_,_,.nil,e=>by rw[pAI] at e;cases e;exact .nil
 |d::ds,_,_,.cons h r,e=>by
  rw[pAI] at e;split at e
  .rename_i p ps e1 e2;cases e;exact .cons (Rep.dv s d h e1) (Reps.dv s ds r e2)
  .cases e
end
end
noncomputable def RP(x y:D):Out D:=match x.py,y.py with
 |some p,AA q=>if min p.depth q.depth<=60 then .ok (.bl (DD p q)) else .bad
 |_,_=>.bad
noncomputable def NI(x y:D):Out D:=match x.py,y.py with
 |some p,AA q=>if min p.depth q.depth<=60 then .ok (.bl (!DD p q)) else .bad
 |_,_=>.bad
section
variable{K:AC}
theorem Qm:VB K (Ci K AE) RP:=λv u x y F H d Q s r1 r2 hf k=>by
 unfold RP at hf;split at hf
 .rename_i p q e1 e2;split at hf
  .rename_i hm;cases hf;exact{p,q,r1.dv s _ e1,r2.dv s _ e2,hm,k _ F H (.refl s) (.bl _)}
  .cases hf
 .cases hf
theorem Ql:VB K (Ci K AQ) NI:=λv u x y F H d Q s r1 r2 hf k=>by
 unfold NI at hf;split at hf
 .rename_i p q e1 e2;split at hf
  .rename_i hm;cases hf;exact{p,q,r1.dv s _ e1,r2.dv s _ e2,hm,k _ F H (.refl s) (.bl _)}
  .cases hf
 .cases hf
theorem Kc(hu:X.A.units+64<GD)(ha:VE X a ga)(hb:VE X b gb)(hm:DP .Eq b=AE:=by with_unfolding_all rfl):VT X (.Compare a [.Eq] [b] pos) (gB (g2 RP ga gb)):=jV (Qq hu) Qm ha hb hm
theorem lN(hu:X.A.units+64<GD)(ha:VE X a ga)(hb:VE X b gb)(hm:DP .NotEq b=AE:=by with_unfolding_all rfl):VT X (.Compare a [.NotEq] [b] pos) (gB (g2 NI ga gb)):=jV (Qp hu) Ql ha hb hm
theorem Jh(hu:X.A.units+64<GD)(ha:VE X a ga)(hb:VE X b gb)(hm:DP .Eq b=AE:=by with_unfolding_all rfl):VE X (.Compare a [.Eq] [b] pos) (g2 RP ga gb):=zV (Qq hu) Qm ha hb hm
theorem yKR(hu:X.A.units+64<GD)(ha:VE X a ga)(hb:VE X b gb)(hm:DP .NotEq b=AE:=by with_unfolding_all rfl):VE X (.Compare a [.NotEq] [b] pos) (g2 NI ga gb):=zV (Qp hu) Ql ha hb hm
end
section
variable{κ:Type}[DecidableEq κ]
noncomputable def UE(kvs:List (κ×D))(k:κ):Option D:=(kvs.find? λkv=>decide (kv.1=k)).map (·.2)
noncomputable def UD(kvs:List (κ×D))(k:κ)(v:D):List (κ×D) :=if(kvs.any λkv=>decide (kv.1=k))=AQ then kvs.map (λkv=>if kv.1=k then(kv.1,v) else kv) else kvs++[(k,v)]
end
noncomputable def uB:D->Option Key
 |.int i=>AA (.inl i)
 |.str x=>AA (.inr x)
 |_=>AL
noncomputable def QH:List D->Option (List Int)
 |[]=>AA []
 |.int i::ds=>(QH ds).map (i::·)
 |_::_=>AL
theorem oM:∀{ds:List D} {ns:List Int},QH ds=AA ns->ds=ns.map D.int
 |[],_,h=>by rw[QH] at h;cases h;rfl
 |.int i::ds,_,h=>by rw[QH] at h;have{r,h1,h2}:=BU.mp h;subst h2;rw[oM h1];rfl
 |.non::_,_,h=>by simp[QH] at h
 |.bl _::_,_,h=>by simp[QH] at h
 |.str _::_,_,h=>by simp[QH] at h
 |.tup _::_,_,h=>by simp[QH] at h
 |.lst _::_,_,h=>by simp[QH] at h
 |.dk _::_,_,h=>by simp[QH] at h
 |.dt _::_,_,h=>by simp[QH] at h
theorem Bn:∀ns:List Int,QH (ns.map D.int)=AA ns
 |[]=>rfl
 |n::ns=>by rw[AU,QH,Bn ns];rfl
theorem Am:∀{a b:List Int},a.map (C1:Int->Key)=b.map C1->a=b
 |[],[],_=>rfl
 |[],_::_,h=>by simp at h
 |_::_,[],h=>by simp at h
 |x::a,y::b,h=>by rw[AU,AU] at h;injection h with h1 h2;injection h1 with h1;rw[h1,Am h2]
section
variable{K:AC}
theorem RepK.length(r:RepK K F vs ds):vs.length=ds.length:=r.rec1 (R:=λvs ds=>vs.length=ds.length) rfl λ_ _ ih=>congrArg (·+1) ih
theorem RepT.length(r:RepT K F vs ds):vs.length=ds.length:=r.rec1 (T:=λvs ds=>vs.length=ds.length) rfl λ_ _ ih=>congrArg (·+1) ih
def OpR1(K:AC)(F:Hp):Option V->Option D->Prop
 |some v,AA d=>Rep K F v d
 |none,AL=>True
 |_,_=>False
theorem RepK.get(k:Key)(r:RepK K F vs ds):OpR1 K F (Q1 vs k) (UE ds k):=by
 refine r.rec1 (R:=λvs ds=>OpR1 K F (Q1 vs k) (UE ds k)) trivial ?_
 .intro k' v d vs ds h _ ih;by_cases e:k'=k
  .have e1:Q1 ((k',v)::vs) k=AA v:=by simp[Q1,e]
   have e2:UE ((k',d)::ds) k=AA d:=by simp[UE,e]
   rw[e1,e2];exact h
  .have e1:Q1 ((k',v)::vs) k=Q1 vs k:=by simp[Q1,e]
   have e2:UE ((k',d)::ds) k=UE ds k:=by simp[UE,e]
   rw[e1,e2];exact ih
theorem RepT.get(k:List Int)(r:RepT K F vs ds):OpR1 K F (Q1 vs (k.map C1)) (UE ds k):=by
 refine r.rec1 (T:=λvs ds=>OpR1 K F (Q1 vs (k.map C1)) (UE ds k)) trivial ?_
 .intro k' v d vs ds h _ ih;by_cases e:k'=k
  .have e1:Q1 ((k'.map C1,v)::vs) (k.map C1)=AA v:=by simp[Q1,e]
   have e2:UE ((k',d)::ds) k=AA d:=by simp[UE,e]
   rw[e1,e2];exact h
  .have e':¬k'.map C1=k.map C1:=λz=>e (Am z);have e1:Q1 ((k'.map C1,v)::vs) (k.map C1)=Q1 vs (k.map C1):=by simp[Q1,e']
   have e2:UE ((k',d)::ds) k=UE ds k:=by simp[UE,e]
   rw[e1,e2];exact ih
theorem OpR1.isSome(h:OpR1 K F o p):o.isSome=p.isSome:=by cases o<;>cases p<;>first|rfl|exact h.elim
theorem OpR1.some_of(h:OpR1 K F o (AA d)):∃v,o=AA v/\Rep K F v d:=by
 cases o with
 |none=>exact h.elim
 |some v=>exact{v,rfl,h}
def uA:D->D->Option (Option D)
 |.dk kvs,k=>(uB k).map (UE kvs)
 |.dt kvs,.tup ks=>(QH ks).map (UE kvs)
 |_,_=>AL
theorem pAJ(s:Sub F H)(r1:Rep K F v x)(r2:Rep K F u y)(h:uA x y=AA o):∃a ov,v=.ref a/\nO H a u ov/\OpR1 K F ov o:=by
 cases x with
 |dk kvs =>
  have{k,h1,h2}:=BU.mp (h);subst h2;cases r1 with
  |dk hr r =>
   refine{_,_,rfl,.inl {_,k,s.rd hr,?_,rfl},r.get k};cases y<;>first|cases h1|skip
   .obtain rfl:=r2.vI;rfl
   .obtain rfl:=r2.vS;rfl
 |dt kvs =>
  cases y with
  |tup ks =>
   have{ns,h1,h2}:=BU.mp (h);subst h2;have:=oM h1;subst this;cases r1 with
   |dt hr r =>
    generalize hk:ns.map D.int=kk at r2;cases r2 with
    |tup hb rb=>subst hk;have:=rb.vint;subst this;refine{_,_,rfl,.inr {_,ns.map C1,_,s.rd hr,rfl,?_,rfl},r.get ns};rw[DA];exact s _ _ hb
    |@tupK a xs hb nb =>
     cases xs with
     |nil=>exact absurd rfl nb
     |cons x xs =>
      cases ns with
      |nil=>cases hk
      |cons n ns=>cases hk
  |_=>cases h
 |_=>cases h
end
def MM(x y:D):Out D:=match y with
 |.lst ds=>match pAI ds,x.py with
  |some ps,AA p=>if p.depth<=60 then .ok (.bl (ps.any λd=>DD d p)) else .bad
  |_,_=>.bad
 |.tup ds=>match pAI ds,x.py with
  |some ps,AA p=>if p.depth<=60 then .ok (.bl (ps.any λd=>DD d p)) else .bad
  |_,_=>.bad
 |y=>match uA y x with
  |some o=>.ok (.bl o.isSome)
  |none=>.bad
def UG(x y:D):Out D:=(MM x y).bind λd=>match d with|.bl b=>.ok (.bl (!b))|_=>.bad
section
variable{K:AC}
def sD(bO:Bool):R2:=λx y H Q=>∃a o,y=.ref a/\nO H a x o/\Q (.bl (if bO then !o.isSome else o.isSome)) H
theorem Vv(hu:X.A.units+64<GD):OpR X (EL .In) (sD AE):=λAJ s σ H x y v u Q I rx ry h=>by have{a,o,rfl,g,q}:=h;cases ry;exact yKI 'L' I g rx λs3 I3=>{.bl _,H,I3,rfl,q}
theorem zMR(hu:X.A.units+64<GD):OpR X (EL .NotIn) (sD AQ):=λAJ s σ H x y v u Q I rx ry h=>by have{a,o,rfl,g,q}:=h;cases ry;exact zZU 'L' I g rx λs3 I3=>{.bl _,H,I3,rfl,q}
theorem Sn(bO:Bool)(hf:∀x y d,f x y=.ok d->∃b,MM x y=.ok (.bl b)/\d=.bl (if bO then !b else b)):VB K (λx y H Q=>sJ K bO x y H Q\/sD bO x y H Q) f:=λv u x y F H d Q s r1 r2 h k=>by
 have{b,hi,rfl}:=hf x y d h;have seq:∀ds p (sq:SqL K H p ds\/SqT K H p ds) xs,Reps K F ds xs->u=.ref p->(match pAI xs,x.py with
   |some ps,AA p=>if p.depth<=60 then Out.ok (D.bl (ps.any λd=>DD d p)) else .bad
   |_,_=>.bad)=.ok (.bl b)->sJ K bO v u H Q:=λds p sq xs rr eu hh=>by
  split at hh
  .rename_i ps q e1 e2;split at hh
   .rename_i hd;cases hh;exact{p,ds,ps,q,eu,sq,rr.dv s _ e1,r1.dv s _ e2,hd,k _ F H (.refl s) (.bl _)}
   .cases hh
  .cases hh
 have Pf:(match uA y x with|some o=>Out.ok (D.bl o.isSome)|none=>.bad)=.ok (.bl b)->sD bO v u H Q:=λhh=>by
  split at hh
  .rename_i o eo;cases hh;have{a,ov,rfl,g,ro}:=pAJ s r2 r1 eo;refine{a,ov,rfl,g,?_};rw[ro.isSome];exact k _ F H (.refl s) (.bl _)
  .cases hh
 cases y with
 |lst ds=>have{p,vs,rfl,hr,rr}:=r2.isRefL;exact .inl (seq vs p (.inl (hr.imp s.rd id)) ds rr rfl hi)
 |tup ds=>have{p,vs,rfl,rr,sq}:=r2.tupSq;exact .inl (seq vs p (.inr (sq F H (.refl _) s)) ds rr rfl hi)
 |_=>exact .inr (Pf hi)
theorem Qk(h:MM x y=.ok d):∃b,d=.bl b:=by
 unfold MM at h;split at h
 .split at h
  .split at h
   .cases h;exact{_,rfl}
   .cases h
  .cases h
 .split at h
  .split at h
   .cases h;exact{_,rfl}
   .cases h
  .cases h
 .split at h
  .cases h;exact{_,rfl}
  .cases h
theorem Qj:VB K (λx y H Q=>sJ K AE x y H Q\/sD AE x y H Q) MM:=Sn AE λx y d h=>by have{b,rfl}:=Qk h;exact{b,h,rfl}
theorem zTF:VB K (λx y H Q=>sJ K AQ x y H Q\/sD AQ x y H Q) UG:=Sn AQ λx y d h=>by have{d',h1,h2}:=pA3 h;have{b,rfl}:=Qk h1;cases h2;exact{b,h1,rfl}
theorem lM(hu:X.A.units+64<GD)(ha:VE X a ga)(hb:VE X b gb)(hm:DP .In b=AE:=by with_unfolding_all rfl):VT X (.Compare a [.In] [b] pos) (gB (g2 MM ga gb)):=jV ((Qo hu).or (Vv hu)) Qj ha hb hm
theorem Cd(hu:X.A.units+64<GD)(ha:VE X a ga)(hb:VE X b gb)(hm:DP .In b=AE:=by with_unfolding_all rfl):VE X (.Compare a [.In] [b] pos) (g2 MM ga gb):=zV ((Qo hu).or (Vv hu)) Qj ha hb hm
theorem rK(hu:X.A.units+64<GD)(ha:VE X a ga)(hb:VE X b gb)(hm:DP .NotIn b=AE:=by with_unfolding_all rfl):VT X (.Compare a [.NotIn] [b] pos) (gB (g2 UG ga gb)):=jV ((zSO hu).or (zMR hu)) zTF ha hb hm
noncomputable def cJ(x y:D):Out D:=match y with
 |.non=>match x with
  |.non=>.ok (.bl AQ)
  |_=>.ok (.bl AE)
 |_=>.bad
noncomputable def nU(x y:D):Out D:=match y with
 |.non=>match x with
  |.non=>.ok (.bl AE)
  |_=>.ok (.bl AQ)
 |_=>.bad
theorem Rep.nonV(r:Rep K F v x):v=.non↔x=.non:=by
 constructor
 .intro e;subst e;cases r;rfl
 .intro e;subst e;cases r;rfl
theorem yEU(h:cJ x y=.ok d):y=.non/\d=.bl (open Classical in decide (x=.non)):=by
 cases y with
 |non=>cases x<;>(injection h with h;exact{rfl,by rw[<-h];simp})
 |_=>cases h
theorem yAH(h:nU x y=.ok d):y=.non/\d=.bl (!(open Classical in decide (x=.non))):=by
 cases y with
 |non=>cases x<;>(injection h with h;exact{rfl,by rw[<-h];simp})
 |_=>cases h
theorem yAI:VB K (λx y H Q=>y=.non/\Q (.bl (decide (x=.non))) H) cJ:=λv u x y F H d Q s r1 r2 hf k=>by have h:=yEU hf;refine{r2.nonV.mpr h.1,k _ F H (.refl s) ?_};rw[h.2,decide_eq_decide.mpr r1.nonV];exact .bl _
theorem zWK:VB K (λx y H Q=>y=.non/\Q (.bl (!decide (x=.non))) H) nU:=λv u x y F H d Q s r1 r2 hf k=>by have h:=yAH hf;refine{r2.nonV.mpr h.1,k _ F H (.refl s) ?_};rw[h.2,decide_eq_decide.mpr r1.nonV];exact .bl _
theorem z9(ha:VE X a ga)(hb:VE X b gb)(hm:DP .Is b=AE:=by with_unfolding_all rfl):VT X (.Compare a [.Is] [b] pos) (gB (g2 cJ ga gb)):=jV yDV yAI ha hb hm
theorem Sk(ha:VE X a ga)(hb:VE X b gb)(hm:DP .IsNot b=AE:=by with_unfolding_all rfl):VT X (.Compare a [.IsNot] [b] pos) (gB (g2 nU ga gb)):=jV zZP zWK ha hb hm
def Y9(x y:D):Out D:=match x,y with
 |.int i,.int j=>.ok (.bl (decide (i<j)))
 |.tup xs,.tup ys=>match QH xs,QH ys with
  |some ns,AA ms=>.ok (.bl (HT.lexLt ns ms))
  |_,_=>.bad
 |_,_=>.bad
theorem Rep.intsT(s:Sub F H)(r:Rep K F v (.tup ds))(h:QH ds=AA ns):∃a,v=.ref a/\SqT K H a (ns.map V.int):=by have:=oM h;subst this;have{a,vs,rfl,rr,sq}:=r.tupSq;have:=rr.vint;subst this;exact{a,rfl,sq F H (.refl _) s}
theorem yEV:VB K (λx y H Q=>eC (λi j=>.bl (decide (i<j))) x y H Q\/Zi K x y H Q) Y9:=λv u x y F H d Q s r1 r2 hf k=>by
 unfold Y9 at hf;split at hf
 .cases hf;obtain rfl:=r1.vI;obtain rfl:=r2.vI;exact .inl {_,_,rfl,rfl,k _ F H (.refl s) (.bl _)}
 .split at hf
  .rename_i e1 e2;cases hf;have{a,rfl,h1}:=r1.intsT s e1;have{b,rfl,h2}:=r2.intsT s e2;exact .inr {a,b,_,_,rfl,rfl,h1,h2,k _ F H (.refl s) (.bl _)}
  .cases hf
 .cases hf
noncomputable def Cc(p:Int->Int->Bool)(x y:D):Out D:=match x,y with
 |.int i,.int j=>.ok (.bl (p i j))
 |_,_=>.bad
theorem Fv(p:Int->Int->Bool):VB K (eC λi j=>.bl (p i j)) (Cc p):=λv u x y F H d Q s r1 r2 hf k=>by
 unfold Cc at hf;split at hf
 .cases hf;obtain rfl:=r1.vI;obtain rfl:=r2.vI;exact{_,_,rfl,rfl,k _ F H (.refl s) (.bl _)}
 .cases hf
abbrev bL:=Cc λi j=>decide (j<i)
abbrev Kk:=Cc λi j=>decide (j<=i)
theorem zR(hu:X.A.units+64<GD)(ha:VE X a ga)(hb:VE X b gb)(hm:DP .Lt b=AE:=by with_unfolding_all rfl):VT X (.Compare a [.Lt] [b] pos) (gB (g2 Y9 ga gb)):=jV (wB.or (yD2 (AR (A5 _ _) hu))) yEV ha hb hm
theorem yEW(ha:VE X a ga)(hb:VE X b gb)(hm:DP .Gt b=AE:=by with_unfolding_all rfl):VT X (.Compare a [.Gt] [b] pos) (gB (g2 bL ga gb)):=jV yDU (Fv _) ha hb hm
theorem Yt(ha:VE X a ga)(hb:VE X b gb)(hm:DP .Gt b=AE:=by with_unfolding_all rfl):VE X (.Compare a [.Gt] [b] pos) (g2 bL ga gb):=zV yDU (Fv _) ha hb hm
theorem yHV(ha:VE X a ga)(hb:VE X b gb)(hm:DP .GtE b=AE:=by with_unfolding_all rfl):VT X (.Compare a [.GtE] [b] pos) (gB (g2 Kk ga gb)):=jV yHC (Fv _) ha hb hm
end
theorem Al{h h':CN}(x:h.IsListIter it t i)(k:∀o,h.get? it=AA o->h'.get? it=AA o):h'.IsListIter it t i:=let ⟨o,e,r⟩:=x;{o,k o e,r}
theorem Ak{h h':CN}(k:h.IsListIter t l i)(hs:CQ a h h')(ne:t≠a):h'.IsListIter t l i:=Al k λo e=>hs.extBut _ _ ne e
theorem FpOk.offL{fp:List AV}(I:Inv X AJ σ H s)(hf:∀b∈fp,FpOk X AJ H b)(h:SqL X.K H a xs):a∉fp:=λz=>by
 have{f0,f1,f2,f3,f4,f5}:=hf a z;rcases h with h|⟨o,CW,n,hk,_⟩
 .rcases h with h|⟨o,h⟩
  .rw[f0] at h;cases h
  .rw[f0] at h;cases h
 .have hb:=I.ok.mod.kin a o hk;rcases f3 with f3|f3
  .exact I.ok.noex a o hb f3
  .exact absurd (AO (BB hb) I.ok.bsz) (WS.mpr f3)
section
variable{E:AI->AN->Prop}
structure EnStL(h:CN)(n l:AV)(i:Nat):Prop where
 eo:∃f0 f1 GR,WV h n f0 f1 i GR/\F0 f0
 k1:h.IsListIter n l i
theorem EnStL.keep{h h':CN}(z:EnStL h n l i)(k:∀b∈[n,n+1],∀o,h.get? b=AA o->h'.get? b=AA o):EnStL h' n l i:=by have{f0,f1,GR,e,r}:=z.eo;exact{{f0,f1,GR,k _ 'S' _ e,r},Al z.k1 (k _ 'S')}
theorem zWM{Q:Option AI->AN->Prop}(z:EnStL s.heap n l i)(o1:l≠n)(o2:l≠n+1)(hl:s.heap.IsList l xs)(hx:xs[i]?=AA x) (hQ:∀h' t,EnStL h' n l (i+1)->J0 h' s.heap.objs.size (.int i t) x->h'.objs.size=s.heap.objs.size+1->(∀b o,b≠n->b≠n+1->s.heap.get? b=AA o->h'.get? b=AA o)->Q (AA (.ref s.heap.objs.size)) { s with heap:=h',toks:=s.toks+1 }) : BE (A9 prog w) A (M7 (.ref (n+1))) Q E s:=by
 have{f0,f1,GR,he,hf}:=z.eo;have k1:=z.k1;have hT:s.TypeIs (.ref (n+1)) "enumerate":={_,he,rfl};have WH:n≠n+1:=cO 'D';refine AB (GC (CU (name:=HJ "__next__") hT C6 (CG C6 hT HC ?_ (G3 _))));show BE _ _ (SR (.ref (n+1)) 2 >>= _) _ _ _;refine AB (CH he rfl (x:=.ref n) rfl ?_);refine AB (wpAny_nextOf_list_item k1 hl hx λHB pM EO=>?_);have ZS:WV HB n f0 f1 i GR:=EO.extBut _ _ WH.symm he;show BE _ _ (SR (.ref (n+1)) 3 >>= _) _ _ _;refine AB (CH ZS rfl (x:=DR i) rfl ?_);refine AB (CH ZS rfl rfl ?_);refine AB (W5 ?_);refine AB (BW ZS 'S' λJ8 ZR MN=>?_);replace ZR:WV J8 n f0 f1 (i+1) GR:=ZR;replace MN:CQ (n+1) HB J8:=MN;refine AB (BW ZR 'S' λKF ZQ QL=>?_);replace ZQ:WV KF n f0 f1 (i+1) GR:=ZQ;replace QL:CQ (n+1) J8 KF:=QL;refine AB (KJ (items:=[.int i s.toks,x]) ?_);have MW:KF.objs.size=s.heap.objs.size:=by rw[QL.1,MN.1,EO.1]
 have fU:WV (KF.push { cls:=.type "tuple",data:=.seq #[.int i s.toks,x] }) n f0 f1 ((i:Int)+1) GR:=AF _ ZQ;have eS:J0 (KF.push { cls:=.type "tuple",data:=.seq #[.int i s.toks,x] }) s.heap.objs.size (.int i s.toks) x:=by rw[<-MW];exact AT _ rfl
 have ZD:(KF.push { cls:=.type "tuple",data:=.seq #[.int i s.toks,x] }).objs.size=s.heap.objs.size+1:=by rw[D3,MW]
 have eQ:∀b o,b≠n->b≠n+1->s.heap.get? b=AA o->(KF.push { cls:=.type "tuple",data:=.seq #[.int i s.toks,x] }).get? b=AA o:=λb o b1 b2 e=>AF _ (QL.extBut b o b2 (MN.extBut b o b2 (EO.extBut b o b1 e)));have eW:(KF.push { cls:=.type "tuple",data:=.seq #[.int i s.toks,x] }).IsListIter n l (i+1):=Al (Ak (Ak pM MN WH) QL WH) λo e=>AF _ e;have PY:n+1<s.heap.objs.size:=BB he;rw[show(FU KF.objs.size)=FU s.heap.objs.size by rw[MW]];generalize KF.push { cls:=.type "tuple",data:=.seq #[.int i s.toks,x] }=MP at fU eS ZD eQ eW ⊢;refine AB (Wa (s:={ s with heap:=MP,toks:=s.toks+1 }) fU hf λb KS g1 ZP OT=>?_);replace OT:CQ (n+1) MP KS:=OT;have eV:=Ak eW OT WH;have eR:=OT.extBut _ _ (EN PY) eS;have eP:=λb o b1 b2 e=>OT.extBut b o b2 (eQ b o b1 b2 e);cases b with
 |false=>exact wpAny_pure {_,rfl,wpAny_pure (hQ KS _ {{_,_,_,ZP,hf},eV} eR (OT.1.trans ZD) eP)}
 |true=>refine AB (EM ?_);refine AB (CH ZP rfl rfl ?_);refine AB (BW ZP 'S' λZH ZO V7=>?_);replace ZO:WV ZH n f0 g1 (i+1) x:=ZO;replace V7:CQ (n+1) KS ZH:=V7;refine AB ?_;refine AB (BW ZO 'S' λWC ZN V6=>?_);replace ZN:WV WC n (DR s.heap.objs.size) g1 (i+1) x:=ZN;replace V6:CQ (n+1) ZH WC:=V6;refine BW ZN 'S' λPQ ZM V5=>?_;replace ZM:WV PQ n (DR s.heap.objs.size) AE (i+1) x:=ZM;replace V5:CQ (n+1) WC PQ:=V5;have up:=λb o hb e=>V5.extBut b o hb (V6.extBut b o hb (V7.extBut b o hb e));exact AB (LG (wpAny_pure {_,rfl,wpAny_pure (hQ PQ _ {{_,_,_,ZM,.inr {_,rfl}},Al eV λo e=>up _ o WH e} (up _ _ (EN PY) eR) (V5.1.trans (V6.1.trans (V7.1.trans (OT.1.trans ZD)))) λb o b1 b2 e=>up b o b2 (eP b o b1 b2 e))}))
theorem yAJ{Q:Option AI->AN->Prop}(hh:A.handled=AL)(z:EnStL s.heap n l i)(hl:s.heap.IsList l xs)(hx:xs[i]?=AL) (hQ:∀h',(∀b o,b≠n->s.heap.get? b=AA o->h'.get? b=AA o)->Q AL { s with heap:=h' }):BE (A9 prog w) A (M7 (.ref (n+1))) Q E s:=by have{f0,f1,GR,he,hf}:=z.eo;have hT:s.TypeIs (.ref (n+1)) "enumerate":={_,he,rfl};refine AB (GC (CU hT C6 (CG C6 hT HC ?_ (G3 _))));show BE _ _ (SR (.ref (n+1)) 2 >>= _) _ _ _;refine AB (CH he rfl rfl ?_);refine AB (wpAny_nextOf_list_end hh z.k1 hl hx λh' e hs yO=>?_);have{o,ho,hc}:=yO;exact AB (OH {o,ho,hc} QV (wpAny_pure (hQ _ hs)))
theorem yEX {Q : Unit → AN → Prop} (z : EnStL s.heap n l i) (h : ∀ h', EnStL h' n l i → CQ (n + 1) s.heap h' → Q () { s with heap := h' }) : BE (A9 prog w) A (F7 tg (.ref (n + 1)) u) Q E s := by
  have hz := h s.heap z (j1 _ _);obtain ⟨f0, f1, GR, e, hf⟩ := id z.eo;cases tg <;> first
    | exact wpAny_pure hz
    | (cases u <;> first
        | exact wpAny_pure hz
        | (
          refine AB (ZV e ?_);dsimp only;split
          · refine AB (EM ?_)
            exact BW e 'S' fun h' cV PR => h h' {{.none, f1, GR, cV, .inl rfl}, Ak z.k1 PR (cO 'D')} PR
          · exact wpAny_pure hz))
theorem Uf{Q:AI->AN->Prop}(z:EnStL s.heap n l i)(h:Q (.ref (n+1)) s):BE (A9 prog w) A (NY (.ref (n+1))) Q E s:=by have{f0,f1,GR,e,hf}:=z.eo;have hT:s.TypeIs (.ref (n+1)) "enumerate":={_,e,rfl};refine KH hT HP (CG HP hT R7 ?_ (RE _));exact wpAny_pure {_,rfl,"enumerate",_,hT,C6.lookup,h}
noncomputable abbrev Cs(h:CN)(l:AV):CN:=h.push { cls:=.type "list_iterator",data:=.fields #[.ref l,.int 0 0] }
abbrev Km(h:CN)(l:AV):CN:=(Cs h l).push { cls:=.type "enumerate",data:=.fields #[.none,.bool AE,.ref h.objs.size,DR 0,.none,.none] }
theorem zQ1(l:AV)(xs:Array AI) : Meets (YZ.«enumerate.__new__» {[.type "enumerate",.ref l],[]}) (λ_ R s=>s.heap.IsList l xs/\R (.ok (.ret (.ref (Cs s.heap l).objs.size))) { s with heap:=Km s.heap l }) :=
 .of_wp λprog w A R s h=>by
  have{hp,g,d,tk,os}:=s;have{hl,h}:=h;have xP:=sub_enumerate;have hL:=hl
  wp_walk
  refine wpAny_stack_any λst=>wpAny_pure ?_;split
  .rename_i c _ _ _ _ _;cases(c==cA "enumerate")
   .wp_walk using KI hL
    exact{_,rfl,h}
   .wp_walk using KI hL
    exact{_,rfl,h}
  .wp_walk using KI hL
   exact{_,rfl,h}
theorem zTH{Q:AI->AN->Prop}(hl:s.heap.IsList l xs) (h:∀h',EnStL h' s.heap.objs.size l 0->(∀b o,s.heap.get? b=AA o->h'.get? b=AA o)->Q (.ref (s.heap.objs.size+1)) { s with heap:=h' }) : BE (A9 prog w) A (call (.type "enumerate") [.ref l]) Q E s:=by refine gH UU 'D' (R6 _) (SV _) (λobj=>TV obj _) SW (zQ1 l xs) {hl,?_};have z1:(Cs s.heap l).objs.size=s.heap.objs.size+1:=D3 ..;have g2:(Km s.heap l).get? (Cs s.heap l).objs.size=AA _:=AT _ rfl;have g1:(Km s.heap l).get? s.heap.objs.size=AA _:=AF _ (AT _ rfl);rw[z1] at g2;rw[z1];exact{{_,g2,rfl},h _ {{.none,AE,.none,g2,.inl rfl},{_,g1,rfl,rfl}} λb o e=>AF _ (AF _ e)}
end
def Ys(K:AC)(a:AV):It :={λi H=>∃xs x,SqL K H a xs/\xs[i]?=AA x,λi H v H'=>∃p x,v=.ref p/\H p=AL/\H'=DZ H p (.tup [.int i,x])/\∀xs,SqL K H a xs->xs[i]?=AA x,λi H=>∃xs,SqL K H a xs/\xs.length<=i}
theorem zQ2{K:AC}(a n:AV):Turn P w K tg (Ys K a) [n,n+1] (n+1) (λi h=>EnStL h n a i) where
 mem:=by simp
 obj:=λi h st c hc=>by
  have{f0,f1,GR,e,_}:=st.eo;have{o0,e0,_,d0}:=st.k1;simp only[A3,A7,or_false] at hc;rcases hc with rfl|rfl
  .exact{_,e0,λv z=>by rw[d0] at z;cases z}
  .exact{_,e,λv z=>by have z':bE _=YI v:=z;cases z'}
 keep:=λi h h' st k=>st.keep k
 item:=by
  intro X hP hw hK hc i AJ s σ H E I hf st hg;subst hP hw hK;have{xs,x,hq,hx}:=hg;have{CW,rv,p,hz}:=I.list hq;have{u,hu,ru}:=rv.get hx;have pH:=FpOk.offL I hf hq;simp only[A3,A7,or_false,not_or] at pH;refine zWM st pH.1 pH.2 (show s.heap.IsList a CW.toArray from p.isList) (x:=u) (by simpa using hu) λh' t C5 hp MW hk=>?_;refine{_,rfl,yEX (s:={ s with heap:=h',toks:=s.toks+1 }) C5 λh2 st2 M2=>?_};have{f0,f1,GR,e4,_}:=id st.eo;have IS:∀c∈[n,n+1],c<s.heap.objs.size:=λc hc=>lt2 hc (BB e4);have I1:Inv X AJ σ (DZ H s.heap.objs.size (.tup [.int i,x])) { s with heap:=s.heap.push { cls:=.type "tuple",data:=.seq #[.int i t,u] } } :=
   I.laid (t':=s.toks) (λb u e=>AF _ e) (AM _) {by show 2<=sizeLine;decide,[.int i t,u],.cons {t,rfl} (.cons ru .nil),{_,AT _ rfl,rfl,rfl,0,rfl}}
  have mZ:∀c∈[n,n+1],FpOk X AJ (DZ H s.heap.objs.size (.tup [.int i,x])) c:=λc hc=>{by rw[EH (CC (IS c hc))];exact(hf c hc).1,(hf c hc).2};have I2:=I1.turnedL (t':=s.toks+1) mZ λc o hc e=>by
   simp only[A3,A7,or_false,not_or] at hc;refine M2.extBut _ _ hc.2 ?_;by_cases Q8:c=s.heap.objs.size
   .subst Q8;rw[AT _ rfl] at e;cases e;exact hp
   .have e':s.heap.get? c=AA o:=by rw[JW _ _ _ Q8] at e;exact e
    exact hk c o hc.1 hc.2 e'
  exact{.ref s.heap.objs.size,_,I2,rfl,{_,x,rfl,I.fresh,rfl,λzs hz=>by rw[I.list_inj hz hq];exact hx},st2,λc hc=>(mZ c hc).1}
 done:=by intro X hP hw hK hc i AJ s σ H E I hf st hg;subst hP hw hK;have{xs,hq,hx}:=hg;have{CW,rv,p,hz}:=I.list hq;have hl:=rv.length;refine yAJ (I.ok.hd hc) st (show s.heap.IsList a CW.toArray from p.isList) (by simp;lia) λh' hk=>{rfl,I.turnedL (t':=s.toks) hf λc o hc e=>?_};simp only[A3,A7,or_false,not_or] at hc;exact hk c o hc.1 e
 self:=λ_ _ _ _ _ st h=>Uf st h
section
def yEY(K:AC)(ta:TA):TI:=λσ H R=>ta σ H λvs H1=>∃a,vs=[.ref a]/\(∃xs,SqL K H1 a xs)/\R (Ys K a) H1
theorem Ue{a:EU}(hg:Gl X "enumerate")(hm:X.mg "enumerate"=AL)(ha:PA X [a] ta)(hs:AW [a] X.env=[(AE,eval a X.env)]:=by rfl):PI X tg (.Call (.Name "enumerate" p) [a] [] pos) (yEY X.K ta):=by
 intro AJ s σ H R I h;refine Call_ (jW I hg hm (u:=.type "enumerate") (by decide +kernel) (D9 (HE (ha pos AJ s σ H _ I h) λus s1 ⟨vs,H1,I1,r1,q1⟩=>?_) hs rfl));have{c,e,zz',q}:=q1;have{xs,W1}:=zz';subst e;cases r1 with
 |cons r rr =>
  cases rr
  (first|obtain rfl:=r.vI|obtain rfl:=r.vB|obtain rfl:=r.vS|obtain rfl:=r.vN|cases r)
  have{kJ,sY,p1,pO}:=I1.list W1;refine zTH (p1.isList) λh' st k=>?_;refine Uf st ?_;exact{s1.heap.objs.size+1,[s1.heap.objs.size,s1.heap.objs.size+1],_,_,H1,rfl,I1.kept k,zQ2 c _,st,λb hb=>I1.fpOk (Cr hb) (I1.hok.fresh (Cr hb)),q}
end
section
variable{K:AC}{id T:String}
def yEZ(K:AC):R2:=λx y H Q=>∃l b xs zs,x=.ref l/\y=.ref b/\SqL K H l xs/\SqL K H b zs/\xs.length+zs.length<=sizeLine/\∀p,H p=AL->Q (.ref p) (DZ H p (.lst (xs++zs)))
theorem kB:OpR X (HI .Add) (yEZ X.K):=by
 intro AJ s σ H x y v u Q I rx ry h;have{l,b,xs,zs,rfl,rfl,hH,hB,hz,q}:=h;cases rx;cases ry;have{CW,r,pl,z}:=I.list hH;have{X3,r2,pl2,z2}:=I.list hB;have{zz',n,e,e1,e2,e3}:=pl;have{oc,od,oda,eT}:=zz';have{zz',n',e',y8,y7,e3'}:=pl2;have{oc',od',oda',Mf}:=zz';subst e1 e2 e3 y8 y7 e3';have hl:=r.length;have cY:=r2.length;refine UR {_,e,rfl} {_,e',rfl} noFill_list_add seq_list_add F.slot_list_add F.entry_list_add (F.args_list_add_2 _ _) (list_addW l b CW.toArray X3.toArray n n' AL AL eT Mf (by rw[BA,BA];lia)) {e,e',?_};have ea:CW.toArray++X3.toArray=(CW++X3).toArray:=by simp
 rw[ea];exact{.ref _,_,I.lnew (r.append r2) (by rw[BG];lia),rfl,q _ I.fresh}
def yE0(K:AC):R2:=λx y H Q=>∃a b xs ys,x=.ref a/\y=.ref b/\SqT K H a xs/\SqT K H b ys/\xs.length+ys.length<=sizeLine/\(xs=[]->Q (.ref b) H)/\(ys=[]->Q (.ref a) H)/\∀p,H p=AL->Q (.ref p) (DZ H p (.tup (xs++ys)))
theorem j9:OpR X (HI .Add) (yE0 X.K):=by intro AJ s σ H x y v u Q I rx ry h;have{a,b,xs,ys,rfl,rfl,ha,hb,hz,q1,q2,q3}:=h;cases rx;cases ry;have{CW,r1,p1,_}:=I.tuple ha;have{X3,r2,p2,_}:=I.tuple hb;refine zZ5 p1 p2 (λz=>{.ref b,H,I,rfl,q1 (r1.nil_iff.mp z)}) (λ_ z=>{.ref a,H,I,rfl,q2 (r2.nil_iff.mp z)}) (λ_ z=>?_) (by rw[<-r1.length,<-r2.length];exact hz);exact{.ref s.heap.objs.size,_,I.laid (o:=.tup (xs++ys)) (λb ob q=>AF _ q) (AM _) {by rw[BG];exact hz,_,r1.append r2,IsTupP.new _ _},rfl,q3 _ I.fresh}
theorem mF{n:Nat}(h:n<10000):n<=sizeLine:=CS (lW h)
def K2(x y:D):Out D:=match x,y with
 |.int i,.int j=>.ok (.int (i+j))
 |.lst xs,.lst ys=>T4 (xs.length+ys.length) (.ok (.lst (xs++ys)))
 |.tup xs,.tup ys=>T4 (xs.length+ys.length) (.ok (.tup (xs++ys)))
 |.str s,.str t=>T4 (s.length+t.length) (.ok (.str (s++t)))
 |_,_=>.bad
abbrev yE1(K:AC):R2:=λx y H Q=>eC (λi j=>.int (i+j)) x y H Q\/yEZ K x y H Q\/yE0 K x y H Q\/(∃i j,x=.str i/\y=.str j/\i.length+j.length<=sizeLine/\Q (.str (i++j)) H)
theorem yAK:OpR X (HI .Add) (yE1 X.K):=oZ.or (kB.or (j9.or zQR))
theorem yAL:VB K (yE1 K) K2:=λv u x y F H d Q s r1 r2 hf k=>by
 unfold K2 at hf;split at hf
 .cases hf;obtain rfl:=r1.vI;obtain rfl:=r2.vI;exact .inl {_,_,rfl,rfl,k _ F H (.refl s) (.int _)}
 .have{hl,hf}:=aJ hf;cases hf;have{a,vs,rfl,h1,h2}:=r1.isRefL;have{b,ws,rfl,h3,h4}:=r2.isRefL;refine .inr (.inl {a,b,vs,ws,rfl,rfl,h1.imp s.rd id,h3.imp s.rd id,by rw[h2.length,h4.length];exact mF hl,λq hq=>?_});have n:=New.laid (o:=.lst (vs++ws)) s hq;exact k _ _ _ n (.lst (.inl (.inl GO)) ((h2.append h4).le n.1.le))
 .have{hl,hf}:=aJ hf;cases hf;have{a,vs,rfl,h2,h1}:=r1.tupSq;have{b,ws,rfl,h4,h3}:=r2.tupSq;refine .inr (.inr (.inl {a,b,vs,ws,rfl,rfl,h1 F H (.refl _) s,h3 F H (.refl _) s,by rw[h2.length,h4.length];exact mF hl,λz=>?_,λz=>?_,λq hq=>?_}))
  .have:=h2.nil_iff.mp z;subst this;exact k _ F H (.refl s) r2
  .have:=h4.nil_iff.mp z;subst this;rw[E4] at k;exact k _ F H (.refl s) r1
  .have n:=New.laid (o:=.tup (vs++ws)) s hq;exact k _ _ _ n (.tup GO ((h2.append h4).le n.1.le))
 .have{hl,hf}:=aJ hf;cases hf;obtain rfl:=r1.vS;obtain rfl:=r2.vS;exact .inr (.inr (.inr {_,_,rfl,rfl,mF hl,k _ F H (.refl s) (.str _)}))
 .cases hf
theorem U7(ha:VE X a ga)(hb:VE X b gb):VE X (.BinOp a .Add b pos) (g2 K2 ga gb):=sG yAK yAL ha hb
noncomputable def lH(x y:D):Out D:=match x,y with
 |.int i,.int j=>.ok (.int (i-j))
 |_,_=>.bad
theorem yAM:VB K (eC λi j=>.int (i-j)) lH:=λv u x y F H d Q s r1 r2 hf k=>by
 unfold lH at hf;split at hf
 .cases hf;obtain rfl:=r1.vI;obtain rfl:=r2.vI;exact{_,_,rfl,rfl,k _ F H (.refl s) (.int _)}
 .cases hf
theorem Kb(ha:VE X a ga)(hb:VE X b gb):VE X (.BinOp a .Sub b pos) (g2 lH ga gb):=sG yDP yAM ha hb
noncomputable def guard{α:Type}(c:Prop)[Decidable c](y:Out α):Out α:=if c then y else .bad
theorem iE{α:Type}{c:Prop}[Decidable c]{y:Out α}{z:α}(h:guard c y=.ok z):c/\y=.ok z:=by
 unfold guard at h;split at h
 .exact{by assumption,h}
 .cases h
def rJ(i:Int):Prop:=-(2 ^ 64)<i/\i<2 ^ 64
instance (i:Int):Decidable (rJ i):=inferInstanceAs (Decidable (_/\_))
def YK(x y:D):Out D:=match x,y with
 |.int i,.int j=>guard (rJ i\/rJ j) (.ok (.int (i * j)))
 |_,_=>.bad
theorem yAO:VB K (rI CMul λi j=>.int (i * j)) YK:=λv u x y F H d Q s r1 r2 hf k=>by
 unfold YK at hf;split at hf
 .have{hc,hf}:=iE hf;cases hf;obtain rfl:=r1.vI;obtain rfl:=r2.vI;exact{_,_,rfl,rfl,hc,k _ F H (.refl s) (.int _)}
 .cases hf
theorem t9(ha:VE X a ga)(hb:VE X b gb):VE X (.BinOp a .Mult b pos) (g2 YK ga gb):=sG yDQ yAO ha hb
def nS(x y:D):Out D:=match x,y with
 |.int i,.int j=>guard (0<j/\j<2 ^ 200) (.ok (.int (i / j)))
 |_,_=>.bad
def yE2(_ j:Int):Prop:=0<j/\j<2 ^ 200
theorem zWN:OpR X (HI .FloorDiv) (rI yE2 λi j=>.int (i / j)):=Cp λi j _ _ _ _ _ hc q=>by refine floordiv_int (by have:=hc.1;lia) (by rw[Int.fdiv_eq_ediv_of_nonneg _ (SC hc.1)];exact q) (.inl (PyProof.noPylong_of_log2 ?_));have h1:=hc.1;have h2:=hc.2;refine AO ((Nat.log2_lt 'L').mpr (show j.natAbs<2 ^ 200 by lia)) 'D'
theorem zWO:VB K (rI yE2 λi j=>.int (i / j)) nS:=λv u x y F H d Q s r1 r2 hf k=>by
 unfold nS at hf;split at hf
 .have{hc,hf}:=iE hf;cases hf;obtain rfl:=r1.vI;obtain rfl:=r2.vI;exact{_,_,rfl,rfl,hc,k _ F H (.refl s) (.int _)}
 .cases hf
theorem Qi(ha:VE X a ga)(hb:VE X b gb):VE X (.BinOp a .FloorDiv b pos) (g2 nS ga gb):=sG zWN zWO ha hb
def TZ(x y:D):Out D:=match x,y with
 |.int i,.int j=>guard (0<j) (.ok (.int (i % j)))
 |_,_=>.bad
theorem yAP:VB K (rI (λ_ j=>0<j) λi j=>.int (i % j)) TZ:=λv u x y F H d Q s r1 r2 hf k=>by
 unfold TZ at hf;split at hf
 .have{hc,hf}:=iE hf;cases hf;obtain rfl:=r1.vI;obtain rfl:=r2.vI;exact{_,_,rfl,rfl,hc,k _ F H (.refl s) (.int _)}
 .cases hf
theorem jP(ha:VE X a ga)(hb:VE X b gb):VE X (.BinOp a .Mod b pos) (g2 TZ ga gb):=sG yDR yAP ha hb
def cI(x y:D):Out D:=match x,y with
 |.int i,.int j=>guard (0<=j/\j<=1000000/\i.natAbs<2 ^ 64) (.ok (.int (i ^ j.toNat)))
 |_,_=>.bad
theorem yAQ:VB K (rI Zm λi j=>.int (i ^ j.toNat)) cI:=λv u x y F H d Q s r1 r2 hf k=>by
 unfold cI at hf;split at hf
 .have{hc,hf}:=iE hf;cases hf;obtain rfl:=r1.vI;obtain rfl:=r2.vI;exact{_,_,rfl,rfl,hc,k _ F H (.refl s) (.int _)}
 .cases hf
theorem zQ(ha:VE X a ga)(hb:VE X b gb):VE X (.BinOp a .Pow b pos) (g2 cI ga gb):=sG yDS yAQ ha hb
noncomputable def SD(x:D):Out D:=match x with
 |.int i=>.ok (.int (-i))
 |_=>.bad
theorem yAR:Kr K (rU λi=>.int (-i)) SD:=λv x F H d Q s r hf k=>by
 unfold SD at hf;split at hf
 .cases hf;obtain rfl:=r.vI;exact{_,rfl,k _ F H (.refl s) (.int _)}
 .cases hf
theorem nR(ha:VE X a ga):VE X (.UnaryOp .USub a pos) (g1 SD ga):=yKP Fh yAR ha
def jF(x y:D):Out D:=match x,y with
 |.lst xs,.int k=>guard (-(2 ^ 63)<=k/\k<2 ^ 63/\xs.length * k.toNat<10000) (.ok (.lst (BP k.toNat xs).flatten))
 |_,_=>.bad
theorem yE3{es:List EU}{gs:List G}{bP:Pos}(ha:VA X es gs)(hb:VE X b gb):FE X (.BinOp (.List es bP) .Mult b pos) (g2 jF (OD gs) gb):=(yDO yD7 (rD ha) hb).imp λσ H Q h=>by
 have{τ,F,E,d,E',S,hg,k}:=h;have{p,ea,hg}:=pA3 hg;have{q,eb,hg}:=pA3 hg;have{z,ef,hg}:=pA3 hg;cases hg;have{p0,ea0,eq}:=pA3 ea;have{hl,eq}:=aJ eq;cases eq;refine{τ,F,E,p0.1,p0.2,S,ea0,λvs F1 H1 s1 S1 r1=>{by rw[r1.length];exact mF hl,λl tO=>?_}};have n:=New.laid (o:=.lst vs) S1.sub tO;have S2:=S1.new n;refine{τ,_,p0.2,q.1,q.2,S2,eb,λu F3 H3 s3 S3 r3=>?_};unfold jF at ef;split at ef
 .rename_i xs kk e1 e2;have{zz',ef}:=iE ef;have{g1,g2,g3}:=zz';cases ef;cases e1;rw[e2] at r3;obtain rfl:=r3.vI;have hv:=r1.length;have rl:=s3.le.rd (.inl GO);have hH:H3 l=AA (.lst vs):=by
   rcases rl with z|⟨o,z⟩
   .exact S3.sub _ _ z
   .have:=s3.le l _ (GO);rcases this with y|⟨y,_⟩|⟨_,_,_,y,_⟩
    .rw[z] at y;cases y
    .exact y.elim
    .cases y
  refine{l,kk,vs,rfl,rfl,hH,g1,g2,by rw[hv];exact mF g3,λq' hq=>?_};have n2:=pA6 (H':=DZ H3 q' (.lst (BP kk.toNat vs).flatten)) S3.sub (Gr.new hq);have st:=((s1.trans (n.stp)).trans s3).trans (n2.stp);exact k q' _ _ st (S3.new n2) (pAH S3.sub hq) (((s1.trans (n.stp)).trans s3).dom q' hq) {_,GO,((r1.le n.1.le).le s3.le).rep kk.toNat} (S3.fresh hq)
 .cases ef
theorem Reps.atI(r:Reps K F vs ds)(h:_L.atI ds i=AA d):∃v,_L.atI vs i=AA v/\Rep K F v d:=by
 unfold _L.atI at h ⊢;rw[r.length];cases q:WY ds.length i with
 |none=>rw[q] at h;cases h
 |some j=>rw[q] at h;have{v,h1,h2}:=r.get (h);exact{v,h1,h2}
def ER(x y:D):Out D:=match x,y with
 |.lst ds,.int i=>match _L.atI ds i with
  |some d=>.ok d
  |none=>.bad
 |.tup ds,.int i=>match _L.atI ds i with
  |some d=>.ok d
  |none=>.bad
 |.str z,.int i=>T4 z.length (match _L.atI z.cps.toList i with
  |some c=>.ok (.str {#[c]})
  |none=>.bad)
 |x,y=>match uA x y with
  |some (AA d)=>.ok d
  |_=>.bad
def Fu:R2:=λx y H Q=>∃a v,x=.ref a/\nO H a y (AA v)/\Q v H
theorem Aj(hu:X.A.units+64<GD):IxR X Fu:=by intro JJ PL AJ s σ H x y v u Q I rx ry h hs;have{a,w,rfl,g,q}:=h;cases rx;refine k5 (zN3 I g) PySem.F.slot_dict_getitem.lookup (zSA 'L' I g ry λw' s3 I3 MO=>{w,H,I3,MO,q}) hs
theorem yE4:VB K (λx y H Q=>rIx K x y H Q\/Fu x y H Q) ER:=λv u x y F H d Q s r1 r2 hf k=>by
 have Pf:(match uA x y with|some (AA d)=>Out.ok d|_=>.bad)=.ok d->Fu v u H Q:=λhh=>by
  split at hh
  .rename_i d' eo;cases hh;have{a,ov,rfl,g,ro}:=pAJ s r1 r2 eo;have{w,rfl,MO}:=ro.some_of;exact{a,w,rfl,g,k _ F H (.refl s) MO}
  .cases hh
 unfold ER at hf;split at hf
 .split at hf
  .rename_i d' e;cases hf;have{a,vs,rfl,h1,h2}:=r1.isRefL;have{w,h3,h4}:=h2.atI e;obtain rfl:=r2.vI;exact .inl (.inl {a,vs,_,w,rfl,rfl,h1.imp s.rd id,h3,k _ F H (.refl s) h4})
  .cases hf
 .split at hf
  .rename_i d' e;cases hf;have{a,vs,rfl,h2,h1}:=r1.tupSq;have{w,h3,h4}:=h2.atI e;obtain rfl:=r2.vI;exact .inl (.inr (.inl {a,vs,_,w,rfl,rfl,h1 F H (.refl _) s,h3,k _ F H (.refl s) h4}))
  .cases hf
 .have{hl,hf}:=aJ hf;split at hf
  .rename_i c e;cases hf;obtain rfl:=r1.vS;obtain rfl:=r2.vI;exact .inl (.inr (.inr {_,_,c,rfl,rfl,mF hl,e,k _ F H (.refl s) (.str _)}))
  .cases hf
 .exact .inr (Pf hf)
theorem LB(hu:X.A.units+64<GD)(ha:VE X a ga)(hb:VE X b gb)(hs:Tn b:=by intro _ _;rfl):VE X (.Subscript a b pos) (g2 ER ga gb):=(lQ (o7.or (Aj hu)) ha hb hs).imp λ_ _ _ h=>zZ yE4 h
noncomputable def U6{α:Type}(xs:List α)(lo hi:Option Int):List α:=(xs.drop (HT.sIx xs.length 0 lo)).take (HT.sIx xs.length xs.length hi-HT.sIx xs.length 0 lo)
theorem Reps.cut(r:Reps K F vs ds)(lo hi:Option Int):Reps K F (Y4 vs lo hi) (U6 ds lo hi):=by unfold Y4 U6;rw[r.length];exact(r.drop _).take _
def yKS(K:AC):V->Option Int->Option Int->Hp->VK->Prop:=λx lo hi H Q=>∃a xs,x=.ref a/\SqT K H a xs/\(Y4 xs lo hi=xs->Q (.ref a) H)/\∀p,H p=AL->Q (.ref p) (DZ H p (.tup (Y4 xs lo hi)))
theorem j7:SlR X (yKS X.K):=by
 intro AJ s σ H x v vl vu lo hi sl Q I rx hs pl pu h;have{a,xs,rfl,hx,q1,q2}:=h;by_cases hw:HT.sIx xs.length 0 lo=0/\HT.sIx xs.length xs.length hi=xs.length
 .cases rx;have{CW,r,ht,hz}:=I.tuple hx;have EV:CW.toArray.size=xs.length:=by rw[BA];exact r.length.symm
  refine{"tuple",_,EC.lookup,ht.typeIs,?_};exact zE8 ht hs pl pu (by rw[EV];exact hw) {.ref a,H,I,rfl,q1 (zSP hw)}
 .exact yD1 AJ s σ H (.ref a) v vl vu lo hi sl Q I rx hs pl pu {a,xs,rfl,hx,hw,q2}
def Ka:Option G->Ev->Out (Option Int×Ev)
 |none,E=>.ok (AL,E)
 |some g,E=>(g E).bind λp=>match p.1 with|.int i=>.ok (AA i,p.2)|_=>.bad
def tPt(K:AC)(H₀:Hp)(g:Option G):TO:=λσ H Q=>∃τ F E o E',Sim K H₀ τ F H σ E/\Ka g E=.ok (o,E')/\∀F' H',Stp (EJ σ E) F H F' H' (EJ σ E')->Sim K H₀ τ F' H' σ E'->Q o H'
theorem PO.imp{oe:Option EU}{t t':TO}(h:PO X oe t)(hi:∀σ H Q,t' σ H Q->t σ H Q):PO X oe t':=λAJ s σ H Q I q=>h AJ s σ H Q I (hi σ H Q q)
abbrev VO(X:Cx)(oe:Option EU)(g:Option G):Prop:=PO X oe (tPt X.K X.H₀ g)
theorem Ft:VO X AL AL:=aO.imp λσ H Q h=>by have{τ,F,E,o,E',S,hg,k}:=h;cases hg;exact k F H .refl S
theorem oI(h:VE X e ge):VO X (AA e) (AA ge):=(Tq h).imp λσ H Q h=>by
 have{τ,F,E,o,E',S,hg,k}:=h;have{p,ea,hg}:=pA3 hg;refine{τ,F,E,p.1,p.2,S,ea,λv F1 H1 s1 S1 r1=>?_};split at hg
 .rename_i i ei;cases hg;rw[ei] at r1;obtain rfl:=r1.vI;exact{i,rfl,k F1 H1 s1 S1}
 .cases hg
def Yr(x:D)(lo hi:Option Int):Out D:=match x with
 |.tup ds=>.ok (.tup (U6 ds lo hi))
 |.lst ds=>.ok (.lst (U6 ds lo hi))
 |_=>.bad
def XO(g:G)(lo hi:Option G):G:=λE=>(g E).bind λp=>(Ka lo p.2).bind λq=>(Ka hi q.2).bind λr=>(Yr p.1 q.1 r.1).bind λd=>.ok (d,r.2)
theorem uZ{lo hi:Option EU}(he:VE X e ge)(hl:VO X lo gl)(hh:VO X hi gh):VE X (.Subscript e (.Slice lo hi AL p2) pos) (XO ge gl gh):=(Ut (j7.or Tl) he hl hh).imp λσ H Q h=>by
 have{τ,F,E,d,E',S,hg,k}:=h;have{p,e1,hg}:=pA3 hg;have{q,e2,hg}:=pA3 hg;have{r,e3,hg}:=pA3 hg;have{z,e4,hg}:=pA3 hg;cases hg;refine{τ,F,E,p.1,p.2,S,e1,λv F1 H1 s1 S1 r1=>{τ,F1,p.2,q.1,q.2,S1,e2,λF2 H2 s2 S2=>{τ,F2,q.2,r.1,r.2,S2,e3,λF3 H3 s3 S3=>?_}}};have wR:=(r1.le s2.le).le s3.le;have st:=(s1.trans s2).trans s3;unfold Yr at e4;split at e4
 .rename_i ds ed;cases e4;rw[ed] at wR;have{a,vs,rfl,h2,h1}:=wR.tupSq;refine .inl {a,vs,rfl,h1 F3 H3 (.refl _) S3.sub,λz=>k _ F3 H3 st S3 ?_,λq' hq=>?_}
  .have:U6 ds q.1 r.1=ds:=by have h5:=h2.cut q.1 r.1;rw[z] at h5;have h6:=h5.length;have h7:=h2.length;have h8:(U6 ds q.1 r.1).Sublist ds:=(RF _ _).trans (List.drop_sublist _ _);exact h8.eq_of_length 'L'
   rw[this];exact wR
  .have n:=New.laid (o:=.tup (Y4 vs q.1 r.1)) S3.sub hq;exact k _ _ _ (st.trans n.stp) (S3.new n) (.tup GO ((h2.cut q.1 r.1).le n.1.le))
 .rename_i ds ed;cases e4;rw[ed] at wR;have{a,vs,rfl,h1,h2}:=wR.isRefL;refine .inr {a,vs,rfl,h1.imp S3.sub.rd id,λq' hq=>?_};have n:=New.laid (o:=.lst (Y4 vs q.1 r.1)) S3.sub hq;exact k _ _ _ (st.trans n.stp) (S3.new n) (.lst (.inl (.inl GO)) ((h2.cut q.1 r.1).le n.1.le))
 .cases e4
def gN(f:List D->Out D)(gs:List G):G:=λE=>(Q2 gs E).bind λp=>(f p.1).bind λd=>.ok (d,p.2)
def nQ(K:AC)(r:List V->Hp->VK->Prop)(f:List D->Out D):Prop:=∀vs xs F H d Q,Sub F H->Reps K F vs xs->f xs=.ok d->(∀z F' H',New F H F' H'->Rep K F' z d->Q z H')->r vs H Q
def qV(K:AC)(r:List V->Hp->VK->Prop)(f:List D->Out D):Prop:=∀vs xs F H d Q,Sub F H->Reps K F vs xs->f xs=.ok d->(∀a F' H',New F H F' H'->F' a=AL->H a=AL->OwnAt K F' H' a d->Q (.ref a) H')->r vs H Q
theorem yE5{r:List V->Hp->VK->Prop}(hs:nQ K r f)(h:tV K H₀ (gN f gs) σ H Q):Co r (iI K H₀ gs) σ H Q:=by have{τ,F,E,d,E',S,hg,k}:=h;have{p,e1,hg}:=pA3 hg;have{z,e2,hg}:=pA3 hg;cases hg;exact{τ,F,E,p.1,p.2,S,e1,λvs F1 H1 s1 S1 r1=>hs vs p.1 F1 H1 d Q S1.sub r1 e2 λz F2 H2 n r2=>k z F2 H2 (s1.trans n.stp) (S1.new n) r2}
theorem yE6{r:List V->Hp->VK->Prop}(hs:qV K r f)(h:tF K H₀ (gN f gs) σ H Q):Co r (iI K H₀ gs) σ H Q:=by have{τ,F,E,d,E',S,hg,k}:=h;have{p,e1,hg}:=pA3 hg;have{z,e2,hg}:=pA3 hg;cases hg;exact{τ,F,E,p.1,p.2,S,e1,λvs F1 H1 s1 S1 r1=>hs vs p.1 F1 H1 d Q S1.sub r1 e2 λa F2 H2 n h1 h2 h3=>k a F2 H2 (s1.trans n.stp) (S1.new n) h1 (s1.dom a h2) h3 (S1.fresh h2)}
theorem Jz{r:List V->Hp->VK->Prop}(hc:CallR X (.builtin id) r)(hs:nQ X.K r f)(hm:X.mg x=AL)(hv:H9 x=AA (.builtin id))(ha:VA X (e::es) gs)(hg:Gl X x:=by rfl)(hn:x≠"__name__":=by decide)(UL:(x==("__debug__":C7))=AE:=by decide) (he:AW (e::es) X.env=(AE,eval e X.env)::AW es X.env:=by rfl) (LS:(EW pos (AW es X.env)).any (·.1)=AE:=by rfl):VE X (.Call (.Name x p) (e::es) [] pos) (gN f gs):=(Uu hc hg hm hv ha hn UL he LS).imp λ_ _ _ h=>yE5 hs h
theorem yHW{r:List V->Hp->VK->Prop}(hc:CallR X (.builtin id) r)(hs:qV X.K r f)(hm:X.mg x=AL)(hv:H9 x=AA (.builtin id))(ha:VA X (e::es) gs)(hg:Gl X x:=by rfl)(hn:x≠"__name__":=by decide)(UL:(x==("__debug__":C7))=AE:=by decide) (he:AW (e::es) X.env=(AE,eval e X.env)::AW es X.env:=by rfl) (LS:(EW pos (AW es X.env)).any (·.1)=AE:=by rfl):FE X (.Call (.Name x p) (e::es) [] pos) (gN f gs):=(Uu hc hg hm hv ha hn UL he LS).imp λ_ _ _ h=>yE6 hs h
theorem yKT{r:List V->Hp->VK->Prop}(hc:CallR X (.type T) r)(hs:nQ X.K r f)(hm:X.mg x=AL)(hv:H9 x=AA (.type T))(ha:VA X (e::es) gs)(hg:Gl X x:=by rfl)(hn:x≠"__name__":=by decide)(UL:(x==("__debug__":C7))=AE:=by decide) (he:AW (e::es) X.env=(AE,eval e X.env)::AW es X.env:=by rfl) (LS:(EW pos (AW es X.env)).any (·.1)=AE:=by rfl):VE X (.Call (.Name x p) (e::es) [] pos) (gN f gs):=(oN hc hg hm hv ha hn UL he LS).imp λ_ _ _ h=>yE5 hs h
theorem Yq{r:List V->Hp->VK->Prop}(hc:CallR X (.type T) r)(hs:qV X.K r f)(hm:X.mg x=AL)(hv:H9 x=AA (.type T))(ha:VA X (e::es) gs)(hg:Gl X x:=by rfl)(hn:x≠"__name__":=by decide)(UL:(x==("__debug__":C7))=AE:=by decide) (he:AW (e::es) X.env=(AE,eval e X.env)::AW es X.env:=by rfl) (LS:(EW pos (AW es X.env)).any (·.1)=AE:=by rfl):FE X (.Call (.Name x p) (e::es) [] pos) (gN f gs):=(oN hc hg hm hv ha hn UL he LS).imp λ_ _ _ h=>yE6 hs h
end
def Ki(a b:Int):Bool:=decide (a<=b)
def lL(ns:List Int):List Int:=ns.mergeSort Ki
theorem Wv(ns:List Int):(lL ns).Perm ns:=K8 _ _
theorem Ud(ns:List Int):(lL ns).Pairwise (·<=·):=by
 have:=JN (le:=Ki) (λa b c h1 h2=>decide_eq_true (LI (of_decide_eq_true h1) (of_decide_eq_true h2)))
  (λa b=>by unfold Ki;rcases aA a b with h|h<;>simp[h]) ns
 exact this.imp λh=>of_decide_eq_true h
theorem zWR(p:ms.Perm ns)(h:ms.Pairwise (·<=·)):ms=lL ns :=LH (λa b _ _ h1 h2=>nM (of_decide_eq_true h1) (of_decide_eq_true h2)) (h.imp λh=>decide_eq_true h) ((Ud ns).imp λh=>decide_eq_true h) (p.trans (Wv ns).symm)
def cR(a b:Int×Int):Bool:=!UH b a
def NG(ps:List (Int×Int)):List (Int×Int):=ps.mergeSort cR
theorem Ai:cR a b=AQ↔a.1<b.1\/(a.1=b.1/\a.2<=b.2):=by unfold cR UH;simp only[RM,decide_eq_false_iff_not];lia
theorem dX(ps:List (Int×Int)):(NG ps).Perm ps:=K8 _ _
theorem Uc(ps:List (Int×Int)):(NG ps).Pairwise (λa b=>cR a b=AQ) :=JN (λa b c h1 h2=>by rw[Ai] at *;lia) (λa b=>by
  have:cR a b=AQ\/cR b a=AQ:=by rw[Ai,Ai];lia
  simpa using this) ps
theorem zWS(p:ms.Perm ns)(h:ms.Pairwise (λa b=>cR a b=AQ)):ms=NG ns :=LH (λa b _ _ h1 h2=>by rw[Ai] at h1 h2;exact KO 'L' 'L') h (Uc ns) (p.trans (dX ns).symm)
def E8(p:Int×Int):D:=.tup [.int p.1,.int p.2]
noncomputable def l0:List D->Option (List (Int×Int))
 |[]=>AA []
 |.tup [.int a,.int b]::ds=>(l0 ds).map ((a,b)::·)
 |_::_=>AL
theorem zQ4:∀{ds:List D} {ps:List (Int×Int)},l0 ds=AA ps->ds=ps.map E8:=by
 intro ds;induction ds with
 |nil=>intro ps h;rw[l0] at h;cases h;rfl
 |cons d ds ih =>
  intro ps h;unfold l0 at h;split at h
  .rename_i e;cases e
  .rename_i a b r e;cases e;have{q,h1,h2}:=BU.mp h;subst h2;rw[ih h1];rfl
  .cases h
theorem Bq:∀ps:List (Int×Int),l0 (ps.map E8)=AA ps
 |[]=>rfl
 |p::ps=>by show(l0 (ps.map E8)).map (λr=>(p.1,p.2)::r)=_;rw[Bq ps];rfl
section
variable{K:AC}
theorem Reps.perm(pm:zs.Perm ys):∀{ds:List D},Reps K F ys ds->∃es,es.Perm ds/\Reps K F zs es:=by
 induction pm with
 |nil=>intro ds r;cases r;exact{[],GT _,.nil}
 |cons a _ ih =>
  intro ds r;cases r with
  |cons h t=>have{qs,q,r'}:=ih t;exact{_::qs,q.cons _,.cons h r'}
 |swap a b l =>
  intro ds r;cases r with
  |cons h t =>
   cases t with
   |cons h' t'=>exact{_::_::_,HR _ _ _,.cons h' (.cons h t')}
 |trans _ _ cT ih2=>intro ds r;have{qs,q,r'}:=ih2 r;have{us,q',wS}:=cT r';exact{us,q'.trans q,wS}
theorem zWT{α β:Type}{f:α->β}:∀{l1 l2:List β} (p:l1.Perm l2) (ns:List α),l2=ns.map f->∃ms:List α,l1=ms.map f/\ms.Perm ns:=by
 intro l1 l2 p;induction p with
 |nil=>intro ns e;cases ns with|nil=>exact{[],rfl,GT _}|cons _ _=>cases e
 |cons a _ ih =>
  intro ns e;cases ns with
  |nil=>cases e
  |cons n ns=>injection e with e1 e2;have{ms,h1,h2}:=ih ns e2;exact{n::ms,by rw[AU,e1,h1],h2.cons n}
 |swap a b l =>
  intro ns e;match ns,e with
  |c::d::ns,e=>injection e with e1 e2;injection e2 with e2 e3;exact{d::c::ns,by rw[AU,AU,e1,e2,e3],HR _ _ _}
 |trans _ _ cT ih2=>intro ns e;have{ms,h1,h2}:=ih2 ns e;have{ks,h3,h4}:=cT ms h1;exact{ks,h3,h4.trans h2}
theorem Reps.prs(s:Sub F H):∀{ps:List (Int×Int)} {ys:List V},Reps K F ys (ps.map E8)->Prs H ys ps:=by
 intro ps;induction ps with
 |nil=>intro ys r;cases r;exact .nil
 |cons p ps ih =>
  intro ys r;cases r with
  |cons h r =>
  refine .cons ?_ (ih r);have h:Rep K F _ (.tup [.int p.1,.int p.2]):=h;generalize hk:[D.int p.1,.int p.2]=kk at h;cases h with
  |tup hb rb =>
   subst hk;cases rb with
   |cons h1 rb =>
    cases rb with
    |cons h2 rb=>cases rb;cases h1;cases h2;exact{_,rfl,s _ _ hb}
  |@tupK a xs hb nb =>
   cases xs with
   |nil=>cases hk
   |cons x xs=>cases hk
theorem yAU(s:Sub F H)(hp:Prs H ys ps):Prs H ys qs->ps=qs:=by
 induction hp generalizing qs with
 |nil=>intro h;cases h;rfl
 |cons r t1 ih =>
  intro h;cases h with
  |cons r2 t2=>have{a,e1,h1}:=r;have{b,e2,h2}:=r2;rw[e1] at e2;cases e2;rw[h1] at h2;simp only[XE,HO.tup.injEq,QW,V.int.injEq,and_true] at h2;rw[ih t2,KO h2.1 h2.2]
def bI:List D->Out D
 |[.lst ds]=>match QH ds with
  |some ns=>.ok (.lst ((lL ns).map D.int))
  |none=>match l0 ds with
   |some ps=>.ok (.lst ((NG ps).map E8))
   |none=>.bad
 |_=>.bad
abbrev yAV(K:AC):List V->Hp->VK->Prop:=λxs H Q=>(∃(l:AV) (ns:List Int),xs=[.ref l]/\SqL K H l (ns.map V.int)/\∀(ms:List Int) (q:AV),ms.Perm ns->ms.Pairwise (·<=·)->H q=AL->Q (.ref q) (DZ H q (.lst (ms.map V.int)))) \/ (∃(l:AV) (ys:List V) (ps:List (Int×Int)),xs=[.ref l]/\SqL K H l ys/\Prs H ys ps/\∀(zs:List V) (qs:List (Int×Int)) (q:AV),zs.Perm ys->Prs H zs qs->qs.Perm ps->(qs.Pairwise λa b=>UH b a=AE)->H q=AL->Q (.ref q) (DZ H q (.lst zs)))
theorem zTJ:qV K (yAV K) bI:=λvs xs F H d Q s r hf k=>by
 unfold bI at hf;split at hf
 .rename_i ds;cases r with
  |cons r rr =>
   cases rr;have{l,ys,rfl,h1,h2}:=r.isRefL;split at hf
   .rename_i ns en;cases hf;have:=oM en;subst this;have:=h2.vint;subst this;refine .inl {l,ns,rfl,h1.imp s.rd id,λms q pm pw hq=>?_};rw[zWR pm pw];have n:=pA6 (H':=DZ H q (.lst ((lL ns).map V.int))) s (Gr.new hq);exact k q F _ n (pAH s hq) hq {_,GO,Reps.ints _}
   .split at hf
    .rename_i ps ep;cases hf;have:=zQ4 ep;subst this;refine .inr {l,ys,ps,rfl,h1.imp s.rd id,h2.prs s,λzs qs q pz kP pq pw hq=>?_};have{es,pe,re}:=Reps.perm pz h2;have{qs',rfl,pq'}:=zWT pe ps rfl;have:=yAU s (re.prs s) kP;subst this;have:qs'=NG ps:=zWS pq (pw.imp λh=>by unfold cR;rw[h];rfl);subst this;have n:=pA6 (H':=DZ H q (.lst zs)) s (Gr.new hq);exact k q F _ n (pAH s hq) hq {_,GO,re}
    .cases hf
 .cases hf
theorem vL(hm:X.mg "sorted"=AL)(ha:VA X (e::es) gs)(hg:Gl X "sorted":=by rfl)(he:AW (e::es) X.env=(AE,eval e X.env)::AW es X.env:=by rfl)(LS:(EW pos (AW es X.env)).any (·.1)=AE:=by rfl) : FE X (.Call (.Name "sorted" p) (e::es) [] pos) (gN bI gs):=yHW (UI.or zKI) zTJ hm (by decide +kernel) ha hg 'D' 'D' he LS
theorem zQ5:CallR X (.builtin "len") (λxs H Q=>∃a kvs,xs=[V.ref a]/\Rd H a (.dT kvs)/\Q (.int kvs.length) H):=by intro AJ s σ H xs us Q I r h;have{a,kvs,rfl,ha,q}:=h;have{u,rfl,ru}:=Y6 r;cases ru;have{es,ep,MO,e1,e2,_}:=n9 (ha.ok I.hok);have:=lZ;refine zZ3 MO (by rw[FM] at e2;lia) λt tk=>{.int kvs.length,H,I.tok tk,{t,by rw[e1]},q}
theorem ZC:CallR X (.builtin "len") (λxs H Q=>∃a kvs,xs=[V.ref a]/\Rd H a (.dK kvs)/\Q (.int kvs.length) H):=by intro AJ s σ H xs us Q I r h;have{a,kvs,rfl,ha,q}:=h;have{u,rfl,ru}:=Y6 r;cases ru;exact yHH I ha λt s' I'=>{.int kvs.length,H,I',{t,rfl},q}
def OQ:List D->Out D
 |[.lst ds]=>.ok (.int ds.length)
 |[.tup ds]=>.ok (.int ds.length)
 |[.str z]=>T4 z.length (.ok (.int z.length))
 |[.dk kvs]=>.ok (.int kvs.length)
 |[.dt kvs]=>.ok (.int kvs.length)
 |_=>.bad
abbrev yHX(K:AC):List V->Hp->VK->Prop:=λxs H Q=>(∃p ys,xs=[.ref p]/\(SqL K H p ys\/SqT K H p ys)/\Q (.int ys.length) H)\/(∃z,xs=[.str z]/\z.length<=sizeLine/\Q (.int z.length) H) \/ (∃a kvs,xs=[V.ref a]/\Rd H a (.dK kvs)/\Q (.int kvs.length) H)\/(∃a kvs,xs=[V.ref a]/\Rd H a (.dT kvs)/\Q (.int kvs.length) H)
theorem yE7:nQ K (yHX K) OQ:=λvs xs F H d Q s r hf k=>by
 unfold OQ at hf;split at hf
 .cases hf;cases r with
  |cons r rr=>cases rr;have{l,ys,rfl,h1,h2}:=r.isRefL;exact .inl {l,ys,rfl,.inl (h1.imp s.rd id),by rw[h2.length];exact k _ F H (.refl s) (.int _)}
 .cases hf;cases r with
  |cons r rr=>cases rr;have{l,ys,rfl,h2,h1}:=r.tupSq;exact .inl {l,ys,rfl,.inr (h1 F H (.refl _) s),by rw[h2.length];exact k _ F H (.refl s) (.int _)}
 .have{hl,hf}:=aJ hf;cases hf;cases r with
  |cons r rr=>cases rr;obtain rfl:=r.vS;exact .inr (.inl {_,rfl,mF hl,k _ F H (.refl s) (.int _)})
 .cases hf;cases r with
  |cons r rr =>
   cases rr;cases r with
   |dk h1 h2=>exact .inr (.inr (.inl {_,_,rfl,s.rd h1,by rw[h2.length];exact k _ F H (.refl s) (.int _)}))
 .cases hf;cases r with
  |cons r rr =>
   cases rr;cases r with
   |dt h1 h2=>exact .inr (.inr (.inr {_,_,rfl,s.rd h1,by rw[h2.length];exact k _ F H (.refl s) (.int _)}))
 .cases hf
theorem jO(hm:X.mg "len"=AL)(ha:VA X (e::es) gs)(hg:Gl X "len":=by rfl)(he:AW (e::es) X.env=(AE,eval e X.env)::AW es X.env:=by rfl)(LS:(EW pos (AW es X.env)).any (·.1)=AE:=by rfl) : VE X (.Call (.Name "len" p) (e::es) [] pos) (gN OQ gs):=Jz (V2.or (V1.or (ZC.or zQ5))) yE7 hm (by decide +kernel) ha hg 'D' 'D' he LS
def Qh:List V->Hp->VK->Prop:=λxs H Q=>∃(d:AV) (kvs:List (Key×V)),xs=[.ref d]/\Rd H d (.dK kvs)/\∀q,H q=AL->Q (.ref q) (DZ H q (.lst (kvs.map λkv=>kV kv.1)))
theorem Vu:∀(ks:List Key) (us:List AI),us.length=ks.length->(∀(i:Nat) v,us[i]?=AA v->∃k,ks[i]?=AA k/\RelV (kV k) v)->Vals (ks.map kV) us
 |[],[],_,_=>.nil
 |k::ks,u::us,hl,h=>by
  have{n,e1,e2}:=h 0 u rfl;have e3:k=n:=by simpa using e1
  subst e3;exact .cons e2 (Vu ks us (by simpa using hl) λi v hv=>h (i+1) v (by simpa using hv))
 |[],_::_,hl,_=>by simp at hl
 |_::_,[],hl,_=>by simp at hl
theorem zQ6(hc:X.calm=AQ):CallR X (.type "list") Qh:=by
 intro AJ s σ H xs us Q I r h;have{d,kvs,rfl,hd,q}:=h;have{u,rfl,ru}:=Y6 r;cases ru;have{z,lo,vs,OO,dd}:=nX I.hok hd;have{ep,da}:=dd.dictAt;have tO:=OO.length;refine cD (PySem.W.kdl_dict lo) (I.ok.hd hc) da 'L' λh' tk B0 c' hk hS hI=>?_;have{hz,hi}:=hI;have rv:Vals (kvs.map λkv=>kV kv.1) B0.toList:=by
  have:=Vu (kvs.map (·.1)) B0.toList (by simp;lia) λi v hv=>by
   have{k,xx,e1,e2}:=hi i v (by rw[<-DF];exact hv);refine{k,by rw[OO.keys,AY,e1];rfl,?_};rw[Xf] at e2;rcases dY e2 with⟨j,t,z1,z2⟩|⟨y,t,z1,z2⟩
   .rw[z1,z2];exact{t,rfl}
   .rw[z1,z2];exact{t,rfl}
  rw[DA] at this;exact this
 refine{.ref s.heap.objs.size,_,I.laid (o:=.lst (kvs.map λkv=>kV kv.1)) hk (AM _) {?_,B0.toList,c',rv,by simpa using hS},rfl,q _ I.fresh};rw[AK];exact z
def oV:Key->D
 |.inl i=>.int i
 |.inr x=>.str x
theorem Sj(k:Key):Rep K F (kV k) (oV k):=by
 cases k with
 |inl i=>exact .int i
 |inr x=>exact .str x
theorem RepK.keys:∀{vs:List (Key×V)} {ds:List (Key×D)},RepK K F vs ds->Reps K F (vs.map λkv=>kV kv.1) (ds.map λkv=>oV kv.1)
 |_,_,.nil=>.nil
 |_,_,.cons (k:=k) _ r=>.cons (Sj k) (RepK.keys r)
def jN:List D->Out D
 |[.lst ds]=>.ok (.lst ds)
 |[.tup ds]=>.ok (.lst ds)
 |[.dk kvs]=>.ok (.lst (kvs.map λkv=>oV kv.1))
 |_=>.bad
abbrev yE8(K:AC):List V->Hp->VK->Prop:=λxs H Q=>(∃p ys,xs=[.ref p]/\(SqL K H p ys\/SqT K H p ys)/\∀l,H l=AL->Q (.ref l) (DZ H l (.lst ys)))\/Qh xs H Q
theorem yAX:qV K (yE8 K) jN:=λvs xs F H d Q s r hf k=>by
 unfold jN at hf;split at hf
 .cases hf;cases r with
  |cons r rr=>cases rr;have{l,ys,rfl,h1,h2}:=r.isRefL;exact .inl {l,ys,rfl,.inl (h1.imp s.rd id),λq hq=>k q F _ (pA6 s (Gr.new hq)) (pAH s hq) hq {_,GO,h2}}
 .cases hf;cases r with
  |cons r rr=>cases rr;have{l,ys,rfl,h2,h1}:=r.tupSq;exact .inl {l,ys,rfl,.inr (h1 F H (.refl _) s),λq hq=>k q F _ (pA6 s (Gr.new hq)) (pAH s hq) hq {_,GO,h2}}
 .cases hf;cases r with
  |cons r rr =>
   cases rr;cases r with
   |dk h1 h2=>exact .inr {_,_,rfl,s.rd h1,λq hq=>k q F _ (pA6 s (Gr.new hq)) (pAH s hq) hq {_,GO,h2.keys}}
 .cases hf
theorem Et(hc:X.calm=AQ)(hm:X.mg "list"=AL)(ha:VA X (e::es) gs)(hg:Gl X "list":=by rfl)(he:AW (e::es) X.env=(AE,eval e X.env)::AW es X.env:=by rfl)(LS:(EW pos (AW es X.env)).any (·.1)=AE:=by rfl) : FE X (.Call (.Name "list" p) (e::es) [] pos) (gN jN gs):=Yq (V0.or (zQ6 hc)) yAX hm (by decide +kernel) ha hg 'D' 'D' he LS
noncomputable def TY:List D->Out D
 |[.lst ds]=>.ok (.tup ds)
 |[.tup ds]=>.ok (.tup ds)
 |_=>.bad
theorem yE9:nQ K (λxs H Q=>∃p ys,xs=[.ref p]/\((SqL K H p ys/\∀l,H l=AL->Q (.ref l) (DZ H l (.tup ys)))\/(SqT K H p ys/\Q (.ref p) H))) TY:=λvs xs F H d Q s r hf k=>by
 unfold TY at hf;split at hf
 .cases hf;cases r with
  |cons r rr=>cases rr;have{l,ys,rfl,h1,h2}:=r.isRefL;refine{l,ys,rfl,.inl {h1.imp s.rd id,λq hq=>?_}};have n:=New.laid (o:=.tup ys) s hq;exact k _ _ _ n (.tup GO (h2.le n.1.le))
 .cases hf;cases r with
  |cons r rr=>cases rr;have{l,ys,rfl,h2,h1}:=r.tupSq;exact{l,ys,rfl,.inr {h1 F H (.refl _) s,k _ F H (.refl s) r}}
 .cases hf
theorem WX(hm:X.mg "tuple"=AL)(ha:VA X (e::es) gs)(hg:Gl X "tuple":=by rfl)(he:AW (e::es) X.env=(AE,eval e X.env)::AW es X.env:=by rfl)(LS:(EW pos (AW es X.env)).any (·.1)=AE:=by rfl) : VE X (.Call (.Name "tuple" p) (e::es) [] pos) (gN TY gs):=yKT Ix yE9 hm (by decide +kernel) ha hg 'D' 'D' he LS
noncomputable def jM:List D->Out D
 |[.int i,.int j]=>.ok (.int (if j<i then j else i))
 |_=>.bad
theorem yAY:nQ K (λxs H Q=>∃i j,xs=[.int i,.int j]/\Q (.int (if j<i then j else i)) H) jM:=λvs xs F H d Q s r hf k=>by
 unfold jM at hf;split at hf
 .cases hf;cases r with
  |cons r rr=>cases rr with
   |cons r' rr=>cases rr;obtain rfl:=r.vI;(first|obtain rfl:=r'.vI|obtain rfl:=r'.vB|obtain rfl:=r'.vS|obtain rfl:=r'.vN|cases r');exact{_,_,rfl,k _ F H (.refl s) (.int _)}
 .cases hf
theorem Qg(hc:X.calm=AQ)(hm:X.mg "min"=AL)(ha:VA X (e::es) gs)(hg:Gl X "min":=by rfl)(he:AW (e::es) X.env=(AE,eval e X.env)::AW es X.env:=by rfl)(LS:(EW pos (AW es X.env)).any (·.1)=AE:=by rfl) : VE X (.Call (.Name "min" p) (e::es) [] pos) (gN jM gs):=Jz (zRX hc) yAY hm (by decide +kernel) ha hg 'D' 'D' he LS
end
section
variable{K:AC}
theorem Sim.setO{ad:AV}(S:Sim K H₀ τ F H σ E)(e:E[i]?=AA (.own t d))(ea:σ[i]?=AA (AA (.ref ad)))(h:OwnAt K F (DZ H ad o) ad d') : Sim K H₀ τ F (DZ H ad o) σ (E.set i (.own t d'))/\Stp (EJ σ E) F H F (DZ H ad o) (EJ σ (E.set i (.own t d'))):=by
 have{a',a1,a2,a3,a4,a5}:=S.own i t d e;rw[ea] at a1;cases a1;have hi:=(AH.mp e).1;have ow:EJ σ E ad:={i,t,d,e,ea};have GR:∀(j:Nat) t' x,(E.set i (.own t d'))[j]?=AA (.own t' x)->(j=i/\t'=t/\x=d')\/(j≠i/\E[j]?=AA (.own t' x)):=λj t' x z=>by
  by_cases hj:i=j
  .subst hj;rw[BQ hi] at z;cases z;exact .inl {rfl,rfl,rfl}
  .rw[BK hj] at z;exact .inr {CT hj,z}
 have Mx:∀(j:Nat) t' x,(E.set i (.own t d'))[j]?=AA (.own t' x)->∃pF x',E[j]?=AA (.own pF x'):=λj t' x z=>by
  rcases GR j t' x z with⟨rfl,_,_⟩|⟨_,z⟩
  .exact{_,_,e}
  .exact{_,_,z}
 refine{{λb u z=>?_,by rw[DI];exact S.len,λj x z=>?_,λj t' x z=>?_,λj l t1 t2 x y b z1 z2=>?_},{λb u z _ n ho=>?_,λb z=>?_,.refl _,λb u z=>.inl (by rw[z];exact nofun),λb ⟨j,t',x,z1,z2⟩=>?_}}
 .have:b≠ad:=λy=>by rw[y,a2] at z;cases z
  rw[EH this];exact S.sub b u z
 .by_cases hj:i=j
  .subst hj;rw[BQ hi] at z;cases z
  .rw[BK hj] at z;exact S.val j x z
 .rcases GR j t' x z with⟨rfl,rfl,rfl⟩|⟨hj,z⟩
  .exact{ad,ea,a2,h,a4,a5}
  .have{c,c1,c2,c3,c4}:=S.own j t' x z;have hc:c≠ad:=λy=>hj (S.inj j i t' t x d ad z e (by rw[c1,y]) ea);exact{c,c1,c2,c3.mono (.refl _) (EH hc),c4}
 .have{_,_,w1}:=Mx j _ _ z1;have{_,_,w2}:=Mx l _ _ z2;exact S.inj j l _ _ _ _ b w1 w2
 .rw[EH (λy=>ho (by rw[y];exact ow))];exact z
 .by_cases hb:b=ad
  .rw[hb,GO] at z;cases z
  .rw[EH hb] at z;exact z
 .have{pF,x',w}:=Mx j t' x z1;exact .inl {j,pF,x',w,z2}
def Jg(K:AC)(r:V->List V->Hp->VK->Prop)(f:List D->List D->Out (D×List D)):Prop:=∀(F H:Hp) (l:AV) vs ds args xs d YT Q,Sub F H->H l=AA (.lst vs)->Reps K F vs ds->Reps K F args xs->f ds xs=.ok (d,YT) ->(∀y pB,Rep K F y d->Reps K F pB YT->Q y (DZ H l (.lst pB)))->r (.ref l) args H Q
def XM(i:Nat)(f:List D->List D->Out (D×List D))(gs:List G):G:=λE=>match E[i]? with
 |some (.own _ (.lst _))=>(Q2 gs E).bind λp=>match p.2[i]? with
  |some (.own t (.lst ds))=>(f ds p.1).bind λq=>.ok (q.1,p.2.set i (.own t (.lst q.2)))
  |_=>.bad
 |_=>.bad
theorem yFA{r:V->List V->Hp->VK->Prop}(hs:Jg K r f)(h:tV K H₀ (XM i f gs) σ H Q) : ∃v,σ[i]?=AA (AA v)/\Ck K "list" v H/\iI K H₀ gs σ H λxs H2=>r v xs H2 Q:=by
 have{τ,F,E,d,E',S,hg,k}:=h;unfold XM at hg;split at hg
 .rename_i t0 aY e0;have{p,e1,hg}:=pA3 hg;split at hg
  .rename_i t ds e2;have{q,e3,hg}:=pA3 hg;cases hg;have{ad,a1,a2,zz',_}:=S.own i _ _ e0;have{vs0,a3,_}:=zz';refine{_,a1,.inl {rfl,vs0,SqL.of a3},τ,F,E,p.1,p.2,S,e1,λargs F1 H1 s1 S1 r1=>?_};have{ad',b1,b2,zz',_}:=S1.own i _ _ e2;have{vs,b3,b4}:=zz';rw[a1] at b1;cases b1;refine hs F1 H1 ad vs ds args p.1 q.1 q.2 Q S1.sub b3 b4 r1 e3 λy pB ry rvs=>?_;have{S2,s2}:=S1.setO (d':=.lst q.2) e2 a1 {pB,GO,rvs};exact k y F1 _ (s1.trans s2) S2 ry
  .cases hg
 .cases hg
def XI(ds xs:List D):Out (D×List D):=match xs with
 |[d]=>T4 ds.length (.ok (.non,ds++[d]))
 |_=>.bad
theorem zTM:Jg K Tk XI:=λF H l vs ds args xs d YT Q s h r ra hf k=>by
 unfold XI at hf;split at hf
 .have{hl,hf}:=aJ hf;cases hf;cases ra with
  |cons r1 rr=>cases rr;exact{l,vs,_,rfl,rfl,h,by rw[r.length];exact lW hl,k _ _ .non (r.append (.cons r1 .nil))}
 .cases hf
noncomputable def yK7(ds xs:List D):Out (D×List D):=match xs with
 |[]=>match ds[ds.length-1]? with
  |some d=>.ok (d,ds.dropLast)
  |none=>.bad
 |_=>.bad
def lV(ds xs:List D):Out (D×List D):=match xs with
 |[.int i]=>guard (0<=i/\i<ds.length/\ds.length<10000) (match ds[i.toNat]? with
  |some d=>.ok (d,ds.eraseIdx i.toNat)
  |none=>.bad)
 |_=>.bad
theorem zWU:Jg K Qw lV:=λF H l vs ds args xs d YT Q s h r ra hf k=>by
 unfold lV at hf;split at hf
 .rename_i i;have{zz',hf}:=iE hf;have{g1,g2,g3}:=zz';split at hf
  .rename_i d' e;cases hf;cases ra with
   |cons r1 rr=>cases rr;obtain rfl:=r1.vI;have{v,h1,h2}:=r.get e;exact{l,vs,i,i.toNat,v,rfl,rfl,h,by omega,by omega,by rw[r.length];exact W6 g1 g2,h1,k _ _ h2 (r.eraseIdx _)}
  .cases hf
 .cases hf
theorem Bi(i:Nat)(ha:VA X [e] gs)(hN:X.N[i]?=AA xn:=by rfl)(hv:eI X.env.scope xn:=by first|exact BM rfl|exact D5 (BM rfl)|exact D5 (D5 rfl))(hd:(xn==("__debug__":C7))=AE:=by decide)(OG:(xn==("__classdict__":C7))=AE:=by decide) (TL:SS (.Name xn q) "append" X.env (eval (.Name xn q) X.env)=eval (.Name xn q) X.env:=by rfl) (fR:((EW MS (AW [e] X.env)).all (λx=>!x.1)&&(backToKw MS (k6 [] X.env)).all (λx=>x.1.isSome) && decide ([e].length+([]:List UZ).length+(if([]:List UZ).isEmpty then 0 else 1)<30))=AQ:=by rfl) (TK:(YF.endLine==MS.line)=AQ:=by rfl) (hs:AW [e] X.env=(AE,eval e X.env)::AW [] X.env:=by rfl) (TJ:(EW MS (AW [] X.env)).any (·.1)=AE:=by rfl) : VE X (.Call (.Attribute (.Name xn q) "append" YF) [e] [] MS) (XM i XI gs) :=(nY EE GH GG rQ (oC hN hv hd OG) ha TL fR TK hs TJ).imp λσ H Q h=>yFA zTM h
theorem yAZ(i:Nat)(ha:VA X [e] gs)(hN:X.N[i]?=AA xn:=by rfl)(hv:eI X.env.scope xn:=by first|exact BM rfl|exact D5 (BM rfl)|exact D5 (D5 rfl))(hd:(xn==("__debug__":C7))=AE:=by decide)(OG:(xn==("__classdict__":C7))=AE:=by decide) (TL:SS (.Name xn q) "pop" X.env (eval (.Name xn q) X.env)=eval (.Name xn q) X.env:=by rfl) (fR:((EW MS (AW [e] X.env)).all (λx=>!x.1)&&(backToKw MS (k6 [] X.env)).all (λx=>x.1.isSome) && decide ([e].length+([]:List UZ).length+(if([]:List UZ).isEmpty then 0 else 1)<30))=AQ:=by rfl) (TK:(YF.endLine==MS.line)=AQ:=by rfl) (hs:AW [e] X.env=(AE,eval e X.env)::AW [] X.env:=by rfl) (TJ:(EW MS (AW [] X.env)).any (·.1)=AE:=by rfl) : VE X (.Call (.Attribute (.Name xn q) "pop" YF) [e] [] MS) (XM i lV gs) :=(nY EE XC XB zVU (oC hN hv hd OG) ha TL fR TK hs TJ).imp λσ H Q h=>yFA zWU h
theorem RepK.put(k:Key)(r:RepK K F vs ds)(h:Rep K F v d):RepK K F (UC vs k v) (UD ds k d):=by
 have any:∀{vs:List (Key×V)} {ds:List (Key×D)},RepK K F vs ds->(vs.any λkv=>decide (kv.1=k))=(ds.any λkv=>decide (kv.1=k)):=by
  intro vs ds r;induction vs generalizing ds with
  |nil=>cases r;rfl
  |cons x xs ih=>cases r with|cons h r=>rw[EK,EK,ih r]
 have mp:∀{vs:List (Key×V)} {ds:List (Key×D)},RepK K F vs ds->RepK K F (vs.map λkv=>if kv.1=k then(kv.1,v) else kv) (ds.map λkv=>if kv.1=k then(kv.1,d) else kv):=by
  intro vs ds r;induction vs generalizing ds with
  |nil=>cases r;exact .nil
  |cons x xs ih =>
   cases r with
   |@cons k' v' d' _ _ h' r =>
    rw[AU,AU];by_cases e:k'=k
    .simp only[e,if_true];exact .cons h (ih r)
    .simp only[e,if_false];exact .cons h' (ih r)
 have ap:∀{vs:List (Key×V)} {ds:List (Key×D)},RepK K F vs ds->RepK K F (vs++[(k,v)]) (ds++[(k,d)]):=by
  intro vs ds r;induction vs generalizing ds with
  |nil=>cases r;exact .cons h .nil
  |cons x xs ih=>cases r with|cons h' r=>exact .cons h' (ih r)
 unfold UC UD;rw[any r];split
 .exact mp r
 .exact ap r
theorem RepT.put(k:List Int)(r:RepT K F vs ds)(h:Rep K F v d):RepT K F (UC vs (k.map C1) v) (UD ds k d):=by
 have dec:∀k':List Int,decide (k'.map (C1:Int->Key)=k.map C1)=decide (k'=k):=λk'=>by
  by_cases e:k'=k
  .simp[e]
  .have e':¬k'.map (C1:Int->Key)=k.map C1:=λz=>e (Am z);simp[e,e']
 have any:∀{vs:List (List Key×V)} {ds:List (List Int×D)},RepT K F vs ds->(vs.any λkv=>decide (kv.1=k.map C1))=(ds.any λkv=>decide (kv.1=k)):=by
  intro vs ds r;induction vs generalizing ds with
  |nil=>cases r;rfl
  |cons x xs ih=>cases r with|@cons k' _ _ _ _ h r=>rw[EK,EK,ih r];rw[dec k']
 have mp:∀{vs:List (List Key×V)} {ds:List (List Int×D)},RepT K F vs ds->RepT K F (vs.map λkv=>if kv.1=k.map C1 then(kv.1,v) else kv) (ds.map λkv=>if kv.1=k then(kv.1,d) else kv):=by
  intro vs ds r;induction vs generalizing ds with
  |nil=>cases r;exact .nil
  |cons x xs ih =>
   cases r with
   |@cons k' v' d' _ _ h' r =>
    rw[AU,AU];by_cases e:k'=k
    .simp only[e,if_true];exact .cons h (ih r)
    .have e':¬k'.map (C1:Int->Key)=k.map C1:=λz=>e (Am z);simp only[e,e',if_false];exact .cons h' (ih r)
 have ap:∀{vs:List (List Key×V)} {ds:List (List Int×D)},RepT K F vs ds->RepT K F (vs++[(k.map C1,v)]) (ds++[(k,d)]):=by
  intro vs ds r;induction vs generalizing ds with
  |nil=>cases r;exact .cons h .nil
  |cons x xs ih=>cases r with|cons h' r=>exact .cons h' (ih r)
 unfold UC UD;rw[any r];split
 .exact mp r
 .exact ap r
def sC(x k v:D):Out D:=match x,k with
 |.lst ds,.int i=>match WY ds.length i with
  |some j=>.ok (.lst (ds.set j v))
  |none=>.bad
 |.dk kvs,k=>match uB k with
  |some k=>T4 kvs.length (.ok (.dk (UD kvs k v)))
  |none=>.bad
 |.dt kvs,.tup ks=>match QH ks with
  |some ns=>T4 kvs.length (.ok (.dt (UD kvs ns v)))
  |none=>.bad
 |_,_=>.bad
def VU(i:Nat)(gk gv:G):GS:=λE=>match E[i]? with
 |some (.own _ _)=>(gv E).bind λv=>(gk v.2).bind λk=>match k.2[i]? with
  |some (.own t d)=>(sC d k.1 v.1).bind λd'=>.ok (.nx (k.2.set i (.own t d')))
  |_=>.bad
 |_=>.bad
theorem j6(i:Nat)(hu:X.A.units+64<GD)(hk:VE X kx gk)(Nf:VE X JJ gv) (hN:X.N[i]?=AA xn:=by rfl) (hv:eI X.env.scope xn:=by first|exact BM rfl|exact D5 (BM rfl)|exact D5 (D5 rfl)) (hd:(xn==("__debug__":C7))=AE:=by decide) (OG:(xn==("__classdict__":C7))=AE:=by decide) (hs:J3 JJ (AA (.Subscript (.Name xn q) kx S8)) spos.line X.env=pure AE:=by rfl) (xT:bY [.Subscript (.Name xn q) kx S8] JJ spos.line X.env=pure AE:=by rfl) (hw:bZ [.Subscript (.Name xn q) kx S8] JJ X.env=pure AL:=by rfl) (h1:(HA [.Subscript (.Name xn q) kx S8] X.env).map (·.2)=[N1 (.Subscript (.Name xn q) kx S8) X.env]:=by rfl) (ha:∀v,N1 (.Subscript (.Name xn q) kx S8) X.env v=(do
   let ov <-LC [v] (eval (.Name xn q) X.env)
   let iv <-LC [v,ov] (eval kx X.env)
   MT S8
   LC [v,ov,iv] (setItem ov iv v)
   release [v,ov,iv] []):=by intro _;rfl):VS X (.Assign [.Subscript (.Name xn q) kx S8] JJ spos) (VU i gk gv):=λAJ s σ H D' I h=>by
 have{τ,F,E,r,S,hg,k}:=h;unfold VU at hg;split at hg
 .rename_i t0 d0 e0;have{v,e1,hg}:=pA3 hg;have{ky,e2,hg}:=pA3 hg;split at hg
  .rename_i t d e3;have{d',e4,hg}:=pA3 hg;cases hg;have{ad,a1,_}:=S.own i _ _ e0;have pn:=oC (pos:=q) hN hv hd OG;have fin:∀{F2 H2:Hp} {o:HO},Stp (EJ σ E) F H F2 H2 (EJ σ ky.2)->Sim X.K X.H₀ τ F2 H2 σ ky.2->OwnAt X.K F2 (DZ H2 ad o) ad d'->D'.nx σ (DZ H2 ad o):=λ{F2 H2 o} s2 S2 ow=>by have{S3,s3}:=S2.setO (o:=o) (d':=d') e3 a1 ow;exact k σ F2 _ (s2.trans s3) S3
   have own:∀{F2 H2:Hp},Sim X.K X.H₀ τ F2 H2 σ ky.2->OwnAt X.K F2 H2 ad d:=λ{F2 H2} S2=>by have{ad',b1,_,b3,_}:=S2.own i t d e3;rw[a1] at b1;cases b1;exact b3
   cases d with
   |lst ds =>
    refine Fi Nf (yDM pn hk zVS ha) xT hw h1 AJ s σ H D' I ?_;refine{τ,F,E,v.1,v.2,S,e1,λvv F1 H1 s1 S1 r1=>{_,a1,τ,F1,v.2,ky.1,ky.2,S1,e2,λkk F2 H2 s2 S2 r2=>?_}};have{vs,o1,o2}:=own S2;generalize hy:ky.1=y at e4 r2;cases y with
    |int ii =>
     have e4:(match WY ds.length ii with|some j=>Out.ok (D.lst (ds.set j v.1))|none=>.bad)=.ok d':=e4;obtain rfl:=r2.vI;split at e4
     .rename_i j ej;cases e4;exact{ad,vs,ii,j,rfl,rfl,o1,by rw[o2.length];exact ej,fin (s1.trans s2) S2 {_,GO,o2.set j (r1.le s2.le)}}
     .cases e4
    |_=>cases e4
   |dk kvs =>
    refine Tb 'O' pn hk Nf hs AJ s σ H D' I ?_;refine{τ,F,E,v.1,v.2,S,e1,λvv F1 H1 s1 S1 r1=>{_,a1,τ,F1,v.2,ky.1,ky.2,S1,e2,λkk F2 H2 s2 S2 r2=>?_}};have{vs,o1,o2}:=own S2;have e4:(match uB ky.1 with|some k=>T4 kvs.length (Out.ok (D.dk (UD kvs k v.1)))|none=>.bad)=.ok d':=e4;split at e4
    .rename_i k' ek;have{hl,e4}:=aJ e4;cases e4;have qJ:kk=kV k':=by
      generalize hy:ky.1=y at ek r2;cases y<;>first|cases ek|skip
      .obtain rfl:=r2.vI;rfl
      .obtain rfl:=r2.vS;rfl
     subst qJ;exact{ad,_,rfl,DPut.kk o1 (by rw[o2.length];exact lW hl),fin (s1.trans s2) S2 {_,GO,o2.put k' (r1.le s2.le)}}
    .cases e4
   |dt kvs =>
    refine Tb 'O' pn hk Nf hs AJ s σ H D' I ?_;refine{τ,F,E,v.1,v.2,S,e1,λvv F1 H1 s1 S1 r1=>{_,a1,τ,F1,v.2,ky.1,ky.2,S1,e2,λkk F2 H2 s2 S2 r2=>?_}};have{vs,o1,o2}:=own S2;generalize hy:ky.1=y at e4 r2;cases y with
    |tup ks =>
     have e4:(match QH ks with|some ns=>T4 kvs.length (Out.ok (D.dt (UD kvs ns v.1)))|none=>.bad)=.ok d':=e4;split at e4
     .rename_i ns ek;have{hl,e4}:=aJ e4;cases e4;have:=oM ek;subst this;generalize iU:ns.map D.int=kk2 at r2;cases r2 with
      |tup hb rb=>subst iU;have:=rb.vint;subst this;refine{ad,_,rfl,DPut.t (k:=ns.map C1) o1 ?_ (by rw[o2.length];exact lW hl),fin (s1.trans s2) S2 {_,GO,o2.put ns (r1.le s2.le)}};rw[DA];exact S2.sub _ _ hb
      |@tupK a xs hb nb =>
       cases xs with
       |nil=>exact absurd rfl nb
       |cons x xs =>
        cases ns with
        |nil=>cases iU
        |cons n ns=>cases iU
     .cases e4
    |_=>cases e4
   |_=>cases e4
  .cases hg
 .cases hg
end
section
variable{K:AC}
theorem Si:FE X (.Dict [] [] pos) (gC (.dt [])):=eE.imp λσ H Q h q hq=>by have{τ,F,E,d,E',S,hg,k}:=h;cases hg;have n:=pA6 (H':=DZ H q (.dT [])) S.sub (Gr.new hq);exact k q F _ n.stp (S.new n) (pAH S.sub hq) hq {_,GO,.nil} (S.fresh hq)
theorem yHZ(ek:uB y=AA k')(r2:Rep K F kk y):kk=kV k':=by
 cases y<;>first|cases ek|skip
 .obtain rfl:=r2.vI;rfl
 .obtain rfl:=r2.vS;rfl
def Yp:D->Out Bool
 |.non=>.ok AE
 |.bl b=>.ok b
 |.int i=>.ok (i != 0)
 |.lst ds=>.ok (!ds.isEmpty)
 |.tup ds=>.ok (!ds.isEmpty)
 |.str z=>T4 z.length (.ok ((z.length:Int) != 0))
 |_=>.bad
def bG(g:G):Ev->Out (Bool×Ev):=λE=>(g E).bind λp=>(Yp p.1).bind λb=>.ok (b,p.2)
theorem Reps.isEmpty(r:Reps K F vs ds):vs.isEmpty=ds.isEmpty:=by (cases r)<;>rfl
theorem Bh(ha:VE X a ga)(he:∀S7,WO a X.env S7=(do let v <-S7;MT a.pos;LC [v] (truthy v)):=by intro _;rfl):VT X a (bG ga):=(Uw ha he).imp λσ H Q h=>by
 have{τ,F,E,d,E',S,hg,k}:=h;have{p,e1,hg}:=pA3 hg;have{b,e2,hg}:=pA3 hg;cases hg;refine{τ,F,E,p.1,p.2,S,e1,λv F1 H1 s1 S1 r1=>{d,?_,k F1 H1 s1 S1}};generalize hy:p.1=y at e2 r1;cases y with
 |non=>obtain rfl:=r1.vN;cases e2;rfl
 |bl b=>obtain rfl:=r1.vB;cases e2;rfl
 |int i=>obtain rfl:=r1.vI;cases e2;rfl
 |str z=>obtain rfl:=r1.vS;have{hl,e2}:=aJ e2;cases e2;exact{mF hl,rfl}
 |lst ds=>cases e2;have{l,ys,rfl,h1,h2}:=r1.isRefL;exact .inl {ys,h1.imp S1.sub.rd id,by rw[h2.isEmpty]}
 |tup ds=>cases e2;have{l,ys,rfl,h2,h1}:=r1.tupSq;exact .inr (.inl {ys,h1 F1 H1 (.refl _) S1.sub,by rw[h2.isEmpty]})
 |_=>cases e2
noncomputable def U5(lo:Int)(n:Nat):List D:=(DM n).map λi:Nat=>D.int (lo+(i:Int))
theorem Vt(lo:Int)(n:Nat):Walks K (sR lo n) F (U5 lo n):=λi F1 H1 l s=>by
 have hl:(U5 lo n).length=n:=by simp[U5]
 refine{λhi=>by rw[hl] at hi;exact hi,λhi=>by rw[hl] at hi;rw[hi];exact AM _,λx H' d e ⟨e1,y⟩=>?_};subst e1 y;unfold U5 at e;rw[AY] at e;cases q:(DM n)[i]? with
 |none=>rw[q] at e;cases e
 |some j =>
  rw[q] at e;have:j=i:=by have{h1,h2}:=AH.mp q;rw[QD] at h2;exact h2.symm
  subst this;cases e;exact{F1,.refl s,.int _}
def nZ(i:Int):Prop:=-1000000<=i/\i<=1000000
instance (i:Int):Decidable (nZ i):=inferInstanceAs (Decidable (_/\_))
def jL(g:G):GI:=λE=>(g E).bind λp=>match p.1 with|.int j=>guard (nZ j) (.ok (U5 0 j.toNat,p.2))|_=>.bad
def t8(g g':G):GI:=λE=>(g E).bind λp=>(g' p.2).bind λq=>match p.1,q.1 with|.int i,.int j=>guard (nZ i/\nZ j) (.ok (U5 i (j-i).toNat,q.2))|_,_=>.bad
theorem Hq(hm:X.mg "range"=AL)(ha:VE X a ga)(hg:Gl X "range":=by rfl)(hs:AW [a] X.env=[(AE,eval a X.env)]:=by rfl)(W0:AW [a] X.env=(AE,eval a X.env)::AW [] X.env:=by rfl):VI X tg (.Call (.Name "range" p) [a] [] pos) (jL ga):=(Ht hg hm (PB ha FO W0) hs).imp λσ H Q h=>by
 have{τ,F,E,ds,E',S,hg,k}:=h;have{q,e1,hg}:=pA3 hg;refine{τ,F,E,q.1,q.2,S,e1,λv F1 H1 s1 S1 r1=>?_};split at hg
 .rename_i j ej;have{zz',hg}:=iE hg;have{g1,g2}:=zz';cases hg;rw[ej] at r1;obtain rfl:=r1.vI;exact{j,rfl,by lia,by lia,k _ F1 H1 s1 S1 (Vt 0 _)}
 .cases hg
theorem zTP(hm:X.mg "range"=AL)(ha:VE X a ga)(hb:VE X b gb)(hg:Gl X "range":=by rfl)(hs:AW [a,b] X.env=[(AE,eval a X.env),(AE,eval b X.env)]:=by rfl)(M2:AW [b] X.env=[(AE,eval b X.env)]:=by rfl) (W0:AW [a,b] X.env=(AE,eval a X.env)::AW [b] X.env:=by rfl) (xT:AW [b] X.env=(AE,eval b X.env)::AW [] X.env:=by rfl):VI X tg (.Call (.Name "range" p) [a,b] [] pos) (t8 ga gb):=(zRU hg hm (PB ha (PB hb FO xT) W0) hs M2).imp λσ H Q h=>by
 have{τ,F,E,ds,E',S,hg,k}:=h;have{q,e1,hg}:=pA3 hg;have{r,e2,hg}:=pA3 hg;refine{τ,F,E,q.1,q.2,S,e1,λv F1 H1 s1 S1 r1=>{τ,F1,q.2,r.1,r.2,S1,e2,λu F2 H2 s2 S2 r2=>?_}};split at hg
 .rename_i i j ei ej;obtain⟨⟨⟨g1,g2⟩,g3,g4⟩,hg⟩:=iE hg;cases hg;rw[ei] at r1;rw[ej] at r2;obtain rfl:=r1.vI;obtain rfl:=r2.vI;exact{i,j,rfl,{by lia,by lia,by lia,by lia},k _ F2 H2 (s1.trans s2) S2 (Vt i _)}
 .cases hg
noncomputable def bH(ds:List D):List D:=ds.zipIdx.map λp=>.tup [.int (p.2:Int),p.1]
theorem Bg{i:Nat}(e:(bH ds)[i]?=AA d):∃d0,ds[i]?=AA d0/\d=.tup [.int (i:Int),d0]:=by
 unfold bH at e;rw[AY,List.getElem?_zipIdx] at e;cases q:ds[i]? with
 |none=>rw[q] at e;cases e
 |some d0=>rw[q] at e;cases e;exact{d0,rfl,by simp}
def zP(g:G):GI:=λE=>(g E).bind λp=>match p.1 with
 |.lst ds=>.ok (bH ds,p.2)
 |.tup ds=>.ok (bH ds,p.2)
 |_=>.bad
def Es(g:G):GI:=λE=>(g E).bind λp=>match p.1 with
 |.lst ds=>.ok (bH ds,p.2)
 |_=>.bad
theorem zWW(hm:X.mg "enumerate"=AL)(ha:VE X a ga)(hg:Gl X "enumerate":=by rfl)(hs:AW [a] X.env=[(AE,eval a X.env)]:=by rfl)(W0:AW [a] X.env=(AE,eval a X.env)::AW [] X.env:=by rfl):VI X tg (.Call (.Name "enumerate" p) [a] [] pos) (Es ga):=λAJ s σ H R I h=>by
 have{τ,F,E,ds,E',S,c8,k}:=h;have{q,e1,c8}:=pA3 c8;have hl:∀aY:List D,(bH aY).length=aY.length:=λaY=>by simp[bH]
 split at c8
 .rename_i aY ed;cases c8;refine Ue hg hm (PB ha FO W0) hs AJ s σ H R I {τ,F,E,q.1,q.2,S,e1,λv F1 H1 s1 S1 r1=>?_};rw[ed] at r1;have{l,ys,rfl,h1,h2}:=r1.isRefL;refine{l,rfl,{ys,h1.imp S1.sub.rd id},k _ F1 H1 s1 S1 λi F2 H2 l2 s2=>?_};have sq:=h1.imp (λh=>s2.rd (l2.rd h)) id;refine{λhi=>?_,λhi=>{ys,sq,by rw[h2.length,hi,hl];exact AM _},λx H' d e ⟨pp,xx,ex,hp,eH,y⟩=>?_}
  .have hv:i<ys.length:=by rw[h2.length];rw[hl] at hi;exact hi
   exact{ys,ys[i],sq,by simp[hv]}
  .subst ex eH;have{d0,z1,z2}:=Bg e;subst z2;have{w,w1,w2}:=h2.get z1;rw[y ys sq] at w1;cases w1;have n:=New.laid (o:=.tup [.int i,xx]) s2 hp;exact{_,n,.tup GO (.cons (.int _) (.cons ((w2.le l2).le n.1.le) .nil))}
 .cases c8
theorem yA0(hm:X.mg "enumerate"=AL)(ha:VE X a ga)(hg:Gl X "enumerate":=by rfl)(hs:AW [a] X.env=[(AE,eval a X.env)]:=by rfl)(W0:AW [a] X.env=(AE,eval a X.env)::AW [] X.env:=by rfl):VI X tg (.Call (.Name "enumerate" p) [a] [] pos) (zP ga):=λAJ s σ H R I h=>by
 have{τ,F,E,ds,E',S,c8,k}:=h;have{q,e1,c8}:=pA3 c8;have hl:∀aY:List D,(bH aY).length=aY.length:=λaY=>by simp[bH]
 split at c8
 .rename_i aY ed;cases c8;refine Ue hg hm (PB ha FO W0) hs AJ s σ H R I {τ,F,E,q.1,q.2,S,e1,λv F1 H1 s1 S1 r1=>?_};rw[ed] at r1;have{l,ys,rfl,h1,h2}:=r1.isRefL;refine{l,rfl,{ys,h1.imp S1.sub.rd id},k _ F1 H1 s1 S1 λi F2 H2 l2 s2=>?_};have sq:=h1.imp (λh=>s2.rd (l2.rd h)) id;refine{λhi=>?_,λhi=>{ys,sq,by rw[h2.length,hi,hl];exact AM _},λx H' d e ⟨pp,xx,ex,hp,eH,y⟩=>?_}
  .have hv:i<ys.length:=by rw[h2.length];rw[hl] at hi;exact hi
   exact{ys,ys[i],sq,by simp[hv]}
  .subst ex eH;have{d0,z1,z2}:=Bg e;subst z2;have{w,w1,w2}:=h2.get z1;rw[y ys sq] at w1;cases w1;have n:=New.laid (o:=.tup [.int i,xx]) s2 hp;exact{_,n,.tup GO (.cons (.int _) (.cons ((w2.le l2).le n.1.le) .nil))}
 .rename_i aY ed;cases c8;refine zZ7 hg hm (PB ha FO W0) hs AJ s σ H R I {τ,F,E,q.1,q.2,S,e1,λv F1 H1 s1 S1 r1=>?_};rw[ed] at r1;have{l,ys,rfl,h2,h1}:=r1.tupSq;refine{l,rfl,{ys,h1 F1 H1 (.refl _) S1.sub},k _ F1 H1 s1 S1 λi F2 H2 l2 s2=>?_};have sq:=h1 F2 H2 l2 s2;refine{λhi=>?_,λhi=>{ys,sq,by rw[h2.length,hi,hl];exact AM _},λx H' d e ⟨pp,xx,ex,hp,eH,y⟩=>?_}
  .have hv:i<ys.length:=by rw[h2.length];rw[hl] at hi;exact hi
   exact{ys,ys[i],sq,by simp[hv]}
  .subst ex eH;have{d0,z1,z2}:=Bg e;subst z2;have{w,w1,w2}:=h2.get z1;rw[y ys sq] at w1;cases w1;have n:=New.laid (o:=.tup [.int i,xx]) s2 hp;exact{_,n,.tup GO (.cons (.int _) (.cons ((w2.le l2).le n.1.le) .nil))}
 .cases c8
def jE(ds es:List D):List D:=(ds.zip es).map λp=>.tup [p.1,p.2]
theorem yA1{i:Nat}(e:(jE ds es)[i]?=AA d):∃d0 d1,ds[i]?=AA d0/\es[i]?=AA d1/\d=.tup [d0,d1]:=by
 unfold jE at e;rw[AY] at e;cases q:(ds.zip es)[i]? with
 |none=>rw[q] at e;cases e
 |some z=>rw[q] at e;cases e;have{h1,h2}:=IV.mp q;exact{_,_,h1,h2,rfl}
def gY(g g':G):GI:=λE=>(g E).bind λp=>(g' p.2).bind λq=>match p.1,q.1 with
 |.tup ds,.tup es=>.ok (jE ds es,q.2)
 |_,_=>.bad
theorem Er(hm:X.mg "zip"=AL)(ha:VE X a ga)(hb:VE X b gb)(hg:Gl X "zip":=by rfl)(hs:AW [a,b] X.env=[(AE,eval a X.env),(AE,eval b X.env)]:=by rfl)(M2:AW [b] X.env=[(AE,eval b X.env)]:=by rfl) (W0:AW [a,b] X.env=(AE,eval a X.env)::AW [b] X.env:=by rfl) (xT:AW [b] X.env=(AE,eval b X.env)::AW [] X.env:=by rfl):VI X tg (.Call (.Name "zip" p) [a,b] [] pos) (gY ga gb):=(yEF hg hm (PB ha (PB hb FO xT) W0) hs M2).imp λσ H Q h=>by
 have{τ,F,E,ds,E',S,hg,k}:=h;have{q,e1,hg}:=pA3 hg;have{r,e2,hg}:=pA3 hg;refine{τ,F,E,q.1,q.2,S,e1,λv F1 H1 s1 S1 r1=>{τ,F1,q.2,r.1,r.2,S1,e2,λu F2 H2 s2 S2 r2=>?_}};split at hg
 .rename_i aY es0 ei ej;cases hg;rw[ei] at r1;rw[ej] at r2;have{l,ys,rfl,h2,h1}:=(r1.le s2.le).tupSq;have{m,zs,rfl,h4,h3}:=r2.tupSq;refine{l,m,rfl,{ys,h1 F2 H2 (.refl _) S2.sub},{zs,h3 F2 H2 (.refl _) S2.sub},k _ F2 H2 (s1.trans s2) S2 λi F3 H3 l3 s3=>?_};have sq:=h1 F3 H3 l3 s3;have Lw:=h3 F3 H3 l3 s3;have hl:(jE aY es0).length=min aY.length es0.length:=by simp[jE]
  refine{λhi=>?_,λhi=>{ys,zs,sq,Lw,?_},λx H' d e ⟨pp,xx,yy,ex,hp,eH,y1,y2⟩=>?_}
  .rw[hl] at hi;have hv:i<ys.length:=by rw[h2.length];lia
   have hw:i<zs.length:=by rw[h4.length];lia
   exact{ys,zs,ys[i],zs[i],sq,Lw,by simp[hv],by simp[hw]}
  .rw[hl] at hi;rw[h2.length,h4.length];lia
  .subst ex eH;have{d0,d1,z1,z2,z3}:=yA1 e;subst z3;have{w,w1,w2}:=h2.get z1;have{w',w1',w2'}:=h4.get z2;rw[y1 ys sq] at w1;cases w1;rw[y2 zs Lw] at w1';cases w1';have n:=New.laid (o:=.tup [xx,yy]) s3 hp;exact{_,n,.tup GO (.cons ((w2.le l3).le n.1.le) (.cons ((w2'.le l3).le n.1.le) .nil))}
 .cases hg
def Kl(g:G):G:=λE=>(g E).bind λp=>match p.1 with|.int j=>guard (0<=j/\j<=1000) (.ok (.lst (U5 0 j.toNat),p.2))|_=>.bad
theorem zOM(hc:X.calm=AQ)(hm:X.mg "range"=AL)(hml:X.mg "list"=AL)(ha:VE X a ga)(hg:Gl X "range":=by rfl)(Dv:Gl X "list":=by rfl) (W0:AW [a] X.env=(AE,eval a X.env)::AW [] X.env:=by rfl) (xX:(EW rpos (AW [] X.env)).any (·.1)=AE:=by rfl) (he:AW [.Call (.Name "range" rp) [a] [] rpos] X.env=(AE,eval (.Call (.Name "range" rp) [a] [] rpos) X.env)::AW [] X.env:=by rfl) (LS:(EW pos (AW [] X.env)).any (·.1)=AE:=by rfl) : FE X (.Call (.Name "list" p) [.Call (.Name "range" rp) [a] [] rpos] [] pos) (Kl ga) :=(oN (zKE hc) Dv hml (by decide +kernel) (PB (oN Um hg hm (by decide +kernel) (PB ha FO W0) 'D' 'D' W0 xX) FO he) 'D' 'D' he LS).imp λσ H Q h=>by
  have{τ,F,E,d,E',S,hg,k}:=h;have{q,e1,hg}:=pA3 hg;refine{τ,F,E,q.1,q.2,S,e1,λv F1 H1 s1 S1 r1=>?_};split at hg
  .rename_i j ej;have{zz',hg}:=iE hg;have{g1,g2}:=zz';cases hg;rw[ej] at r1;obtain rfl:=r1.vI;refine{j,rfl,λpp hp=>{pp,j.toNat,rfl,by rw[GO,P4 g1],by lia,λl hl=>?_}};have n:=pA6 (H':=DZ (DZ H1 pp (.rng 0 j)) l (.lst ((DM j.toNat).map λi:Nat=>V.int i))) S1.sub ((Gr.new hp).trans (Gr.new hl));have fN:=(Gr.new hp).dom l hl;refine k l F1 _ (s1.trans n.stp) (S1.new n) (pAH S1.sub fN) (s1.dom l fN) {_,GO,?_} (S1.fresh fN);have:U5 0 j.toNat=((DM j.toNat).map λi:Nat=>(i:Int)).map D.int:=by unfold U5;rw[DA];congr 1;funext i;simp
   rw[this,show((DM j.toNat).map λi:Nat=>V.int i)=((DM j.toNat).map λi:Nat=>(i:Int)).map V.int by rw[DA];rfl];exact Reps.ints _
  .cases hg
end
section
variable{K:AC}
def qY(m:Mr)(gf:G)(gs:List G):G:=λE=>(gf E).bind λf=>(Q2 gs f.2).bind λp=>(m (.own AQ f.1::p.1.map Sl.val)).bind λq=>.ok (q.2.1,p.2)
theorem zWY(hn:gs.length+1=np)(h:tV K H₀ (qY m gf gs) σ H Q):uH (ME K np m) [] E0 (zX (tF K H₀ gf) (iI K H₀ gs)) σ H Q:=by
 have{τ,F,E,d,E',S,hg,k}:=h;have{f,e0,hg}:=pA3 hg;have{p,e1,hg}:=pA3 hg;have{q,e2,hg}:=pA3 hg;cases hg;refine{τ,F,E,f.1,f.2,S,e0,λad F0 H0 s0 S0 n1 n2 ow no=>{τ,F0,f.2,p.1,p.2,S0,e1,λvs F1 H1 s1 S1 r1=>?_}};have{o,ho,hw}:=ow.ho;have k1:=s1.keep ad o ho hw n1 no;have f1:=s1.nF n1 ho hw no;have TF:=ow.mono s1.le (k1.trans ho.symm);have no1:=λz=>(s1.own ad z).elim no λz=>by (rw[ho] at z;cases z)
 simp only[E4];refine{by rw[A8,r1.length,vM e1,hn],ad,F1,_,q.1,q.2.1,q.2.2,pAG S1.sub r1 f1 TF,Ji,e2,λv F2 H2 s2 S2 rr=>?_};have s2:=s2;have SK:∀b,EJ σ p.2 b->b≠ad:=λb z y=>no1 (by rw[<-y];exact z);have Sm:Sim K H₀ τ F2 H2 σ p.2:=by
  refine{S2.sub,S1.len,λj d' z=>?_,λj t' d' z=>?_,S1.inj}
  .have{v,h1,h2}:=S1.val j d' z;exact{v,h1,h2.le s2.le}
  .have{c,c1,c2,c3,c4}:=S1.own j t' d' z;have{oc,kQ,mR}:=c3.ho;have m8:=SK c {j,t',d',z,c1};exact{c,c1,s2.nF c2 kQ mR λy=>m8 (mD y),c3.mono s2.le ((s2.keep c oc kQ mR c2 λy=>m8 (mD y)).trans kQ.symm),c4}
 have mJ:=s0.trans s1;have st:Stp (EJ σ E) F H F2 H2 (EJ σ p.2):=by
  refine{λb u z pQ n hb=>?_,λb z=>mJ.dom b (s2.dom b z),mJ.le.trans s2.le,λb u z=>?_,mJ.own}
  .have hb1:=mJ.keep b u z pQ n hb;exact s2.keep b u hb1 pQ (mJ.nF n z pQ hb) λy=>by rw[mD y,n2] at z;cases z
  .rcases s2.new b u z with y|y|y
   .cases w:F1 b with
    |none=>exact absurd w y
    |some u'=>exact mJ.new b u' w
   .exact mJ.nw y
   .rw[mD y];exact .inr (.inl (.none n2))
 cases hb:q.1 with
 |false=>rw[hb] at rr;exact k v F2 H2 st Sm rr
 |true =>
  rw[hb] at rr;have{c,rfl,h1,h2,h3,h4}:=rr;have{o',iS,_}:=h2.ho;have nc:∀b,EJ σ p.2 b->b≠c:=λb z y=>by subst y;exact S1.fresh h3 z
  refine k _ (DZ F2 c o') H2 {st.keep,st.dom,st.le.trans (.of_gr (Gr.new h1)),λb u z=>?_,st.own} {λb u z=>?_,Sm.len,λj d' z=>?_,λj t' d' z=>?_,Sm.inj} (h2.rep h1 iS)
  .by_cases hb:b=c
   .subst hb;exact .inr (.inl (.none (mJ.dom b h3)))
   .rw[EH hb] at z;exact st.new b u z
  .by_cases hb:b=c
   .subst hb;rw[GO] at z;rw[iS];exact z
   .rw[EH hb] at z;exact Sm.sub b u z
  .have{v,y1,y2}:=Sm.val j d' z;exact{v,y1,y2.le (.of_gr (Gr.new h1))}
  .have{b,y1,y2,y3,y4}:=Sm.own j t' d' z;exact{b,y1,by rw[EH (nc b {j,t',d',z,y1})];exact y2,y3.mono (.of_gr (Gr.new h1)) rfl,y4}
theorem yA2(C:J2 X.prog X.w X.K X.mg X.base x k np m)(hr:Room k X.A)(hf:FE X e gf)(ha:VA X es gs)(hn:gs.length+1=np:=by rfl)(hg:Gl X x:=by rfl)(UL:(x==("__debug__":C7))=AE:=by decide) (he:AW (e::es) X.env=(AE,eval e X.env)::AW es X.env:=by rfl) (LS:(EW pos (AW es X.env)).any (·.1)=AE:=by rfl):VE X (.Call (.Name x p) (e::es) [] pos) (qY m gf gs):=by have{f,fd,ps,Fn,hm,hk,hb}:=C;exact(vG Fn hr hg hm hk hb .nil uF (PB hf ha he) UL he LS).imp λ_ _ _ h=>zWY hn h
theorem Xr(n:CompNm X scope xo cl own CL js)(hc:X.calm=AQ)(hi:VI X tg iter gi) (hg:∀C s H fp,VG (MY X scope xo cl (own++CL) C s H fp) tg t) (ht:∀C s H fp,wH (MY X scope xo cl (own++CL) C s H fp) ifs tt) (he:∀C s H fp,VE (MY X scope xo cl (own++CL) C s H fp) PY ge) (hN:X.N.Nodup) (hx:X.N[i]?=AA x) (hl:X.env.scope.names.lookup x=AA .local) (xO:J3 (.ListComp PY [{tg,iter,ifs,0}] scope pos) (AA (.Name x OU)) spos.line X.env=pure AQ) (IS:t.ltn own.length=AQ:=by rfl) (hj:js.Nodup:=by decide) (hs:∀x,DK iter X.env x=pure x:=by intro _;rfl):VS X (.Assign [.Name x OU] (.ListComp PY [{tg,iter,ifs,0}] scope pos) spos) (HM (.nm i) (OE gi own.length js t tt ge)) :=λAJ s σ H D' I h=>by refine Xc (g:=λH=>tG X.K H t) (tt:=λH=>tT X.K H tt) (te:=λH=>tV X.K H ge) n hc hi hg ht he hN hx hl xO hs AJ s σ H D' I ?_;refine So IS hj (pA7 ?_);have{τ,F,E,r,S,hg,k}:=h;have{p,e1,hg}:=pA3 hg;have{E1,e2,hg}:=pA3 hg;cases hg;rw[YQ] at e2;cases e2;refine{τ,F,E,p.1,p.2,S,e1,λv F1 H1 s1 S1 r1=>?_};have{S2,h2}:=S1.put r1;exact k _ F1 H1 (s1.weak h2) S2
theorem Fun.cal{st:FP}(Fn:Fun K x x st f fd)(h:FnOk P w K mg base KW k f fd ps (ME K np m))(hm:mg x=AA (.ref f))(hb:Binds K fd ps []):J2 P w K mg base x k np m:={f,fd,ps,h,hm,Fn.kp,hb}
end
theorem Cb{α:Type}{Pr:α->Prop}:∀p∈([]:List α),Pr p:=λp hp=>nomatch hp
theorem o8{α:Type}{Pr:α->Prop}{a:α}(h:Pr a):∀p∈[a],Pr p:=λp hp=>by rw[AS.mp hp];exact h
theorem Ko{α:Type}{Pr:α->Prop}{a:α}{l:List α}(h:Pr a)(t:∀p∈l,Pr p):∀p∈a::l,Pr p:=λp hp=>by
 rcases A3.mp hp with rfl|hp
 .exact h
 .exact t p hp
theorem Cw{α:Type}{Pr:α->Prop}{a b:α}(h1:Pr a)(h2:Pr b):∀p∈[a,b],Pr p:=Ko h1 (o8 h2)
theorem Cv{α:Type}{Pr:α->Prop}{a b c:α}(h1:Pr a)(h2:Pr b)(h3:Pr c):∀p∈[a,b,c],Pr p:=Ko h1 (Cw h2 h3)
theorem Kq{α:Type}{Pr:α->Prop}{a b c d:α}(h1:Pr a)(h2:Pr b)(h3:Pr c)(h4:Pr d):∀p∈[a,b,c,d],Pr p:=Ko h1 (Cv h2 h3 h4)
section
variable{K:AC}
theorem pAK(s:Sub F H)(h:F a=AA u)(hd:uG u):New F H (DZ F a (.frz o u)) (DZ H a (.frz o u)):=by
 have hh:=s a u h;refine{{λb v e _ n _=>?_,λb e=>?_,λb v e=>?_,λb v e=>?_,λ_ z=>z.elim},λb v e=>?_}
 .rw[EH (λz=>by rw[z,h] at n;cases n)];exact e
 .by_cases hb:b=a
  .rw[hb,GO] at e;cases e
  .rw[EH hb] at e;exact e
 .by_cases hb:b=a
  .subst hb;rw[h] at e;cases e;exact .inr (.inl {hd,o,GO})
  .exact .inl (by rw[EH hb];exact e)
 .by_cases hb:b=a
  .subst hb;exact .inl (by rw[h];exact nofun)
  .rw[EH hb] at e;exact .inl (by rw[e];exact nofun)
 .by_cases hb:b=a
  .subst hb;rw[GO] at e ⊢;exact e
  .rw[EH hb] at e ⊢;exact s b v e
theorem New.tup(s:Sub F H)(h:H p=AA (.tup vs)):∃F',New F H F' H/\F' p=AA (.tup vs):=by
 cases hf:F p with
 |some u=>have:=s p u hf;rw[h] at this;cases this;exact{F,.refl s,hf}
 |none =>
  refine{DZ F p (.tup vs),{{λ_ _ e _ _ _=>e,λ_ e=>e,.of_gr (Gr.new hf),λb v e=>?_,λ_ z=>z.elim},λb v e=>?_},GO}
  .by_cases hb:b=p
   .subst hb;refine .inr (.inl λo e' hw=>?_);rw[h] at e';cases e';exact hw
   .rw[EH hb] at e;exact .inl (by rw[e];exact nofun)
  .by_cases hb:b=p
   .subst hb;rw[GO] at e;rw[h];exact e
   .rw[EH hb] at e;exact s b v e
def vX(k:List Int):D:=.tup (k.map D.int)
theorem RepT.keysAt(r:RepT K F vs ds):vs.map (·.1)=ds.map λkv=>kv.1.map C1 :=r.rec1 (T:=λvs ds=>vs.map (·.1)=ds.map λkv=>kv.1.map C1) rfl λ_ _ ih=>congrArg (_::·) ih
theorem RepK.keysAt(r:RepK K F vs ds):vs.map (·.1)=ds.map (·.1) :=r.rec1 (R:=λvs ds=>vs.map (·.1)=ds.map (·.1)) rfl λ_ _ ih=>congrArg (_::·) ih
theorem Xq(h:F a=AA (.frz o (.dK kvs)))(r:RepK K F kvs ds):Walks K (ItK a o kvs) F (ds.map λkv=>oV kv.1):=λi F1 H1 l s=>by
 have hf:F1 a=AA (.frz o (.dK kvs)):=by
  rcases l a _ h with z|⟨z,_⟩|⟨_,_,_,z,_⟩
  .exact z
  .exact z.elim
  .cases z
 have hh:=s _ _ hf;have hl:(ds.map λkv=>oV kv.1).length=kvs.length:=by rw[AK,r.length]
 refine{λhi=>{AO hi (DG hl),hh},λhi=>{by lia,hh},λx H' d e ⟨e1,k,ex,ek⟩=>?_};subst e1 ex;rw[r.keysAt,AY] at ek;rw[AY] at e;cases q:ds[i]? with
 |none=>rw[q] at e;cases e
 |some kv=>rw[q] at e ek;cases e;cases ek;exact{F1,.refl s,Sj _}
theorem Xu(h:F a=AA (.frz o (.dT kvs)))(r:RepT K F kvs ds):Walks K (Itk a o kvs) F (ds.map λkv=>vX kv.1):=λi F1 H1 l s=>by
 have hf:F1 a=AA (.frz o (.dT kvs)):=by
  rcases l a _ h with z|⟨z,_⟩|⟨_,_,_,z,_⟩
  .exact z
  .exact z.elim
  .cases z
 have hh:=s _ _ hf;have hl:(ds.map λkv=>vX kv.1).length=kvs.length:=by rw[AK,r.length]
 refine{λhi=>{AO hi (DG hl),hh},λhi=>{by lia,hh},λx H' d e ⟨e1,p,k,ex,ek,ep⟩=>?_};subst e1 ex;rw[r.keysAt,AY] at ek;rw[AY] at e;cases q:ds[i]? with
 |none=>rw[q] at e;cases e
 |some kv=>rw[q] at e ek;cases e;cases ek;have{F',n,hp}:=New.tup s ep;refine{F',n,.tup hp ?_};rw[DA];exact Reps.ints kv.1
def KN(g:G):GI:=λE=>(g E).bind λp=>match p.1 with
 |.lst ds=>.ok (ds,p.2)
 |.tup ds=>.ok (ds,p.2)
 |.dk kvs=>.ok (kvs.map λkv=>oV kv.1,p.2)
 |.dt kvs=>.ok (kvs.map λkv=>vX kv.1,p.2)
 |_=>.bad
theorem U8(h:VE X e ge):VI X tg e (KN ge):=λAJ s σ H R I q=>by
 have{τ,F,E,ds,E',S,hg,k}:=q;have{p,e1,hg}:=pA3 hg;split at hg
 .rename_i YT ed;cases hg;exact yAC h AJ s σ H R I {τ,F,E,ds,p.2,S,by unfold gSq;rw[e1];show(match p.1 with|.lst ds=>Out.ok (ds,p.2)|_=>.bad)=_;rw[ed],k}
 .rename_i YT ed;cases hg;exact yEP h AJ s σ H R I {τ,F,E,ds,p.2,S,by unfold gTp;rw[e1];show(match p.1 with|.tup ds=>Out.ok (ds,p.2)|_=>.bad)=_;rw[ed],k}
 .rename_i kvs ed;cases hg
  -- which of both it is shows when the JJ is there
  refine HE (h AJ s σ H (λx H1=>∃F1,Stp (EJ σ E) F H F1 H1 (EJ σ p.2)/\Sim X.K X.H₀ τ F1 H1 σ p.2/\Rep X.K F1 x (.dk kvs)) I {τ,F,E,p.1,p.2,S,e1,λv F1 H1 s1 S1 r1=>{F1,s1,S1,by rw[<-ed];exact r1}}) λv s1 q0=>?_;have{x,H1,I1,r1,F1,st,S1,rr}:=q0;cases rr with
  |dk hr r =>
   rename_i a kv;cases r1;rcases hr with hr|⟨o,hr⟩
   .have ha:=S1.sub _ _ hr;have{o,ho,I2}:=I1.freezeK ha;have{es,ep,MO,z1,z2,z3}:=vC (I1.hok a _ ha);have{o',q1,q2,q3}:=id MO.ex;rw[ho] at q1;cases q1;have n:=pAK (o:=o) S1.sub hr trivial;refine Az MO λh' kk ki=>?_;refine{s1.heap.objs.size,[s1.heap.objs.size],_,_,_,rfl,I2.kept kk,Xa a _ o kv es ep q3 z1,ki,λb hb=>?_,k _ _ _ (st.trans n.stp) (S1.new n) (Xq GO (r.le n.1.le))};have e:b=s1.heap.objs.size:=by simpa using hb
    subst e;exact I2.fpOk (AM _) (I2.hok.fresh (AM _))
   .have ha:=S1.sub _ _ hr;have{ho,hx}:=I1.hok a _ ha;have{es,ep,MO,z1,z2,z3}:=vC hx;have{o',q1,q2,q3}:=id MO.ex;rw[ho] at q1;cases q1;refine Az MO λh' kk ki=>?_;refine{s1.heap.objs.size,[s1.heap.objs.size],_,_,_,rfl,I1.kept kk,Xa a _ o kv es ep q3 z1,ki,λb hb=>?_,k _ _ _ st S1 (Xq hr r)};have e:b=s1.heap.objs.size:=by simpa using hb
    subst e;exact I1.fpOk (AM _) (I1.hok.fresh (AM _))
 .rename_i kvs ed;cases hg;refine HE (h AJ s σ H (λx H1=>∃F1,Stp (EJ σ E) F H F1 H1 (EJ σ p.2)/\Sim X.K X.H₀ τ F1 H1 σ p.2/\Rep X.K F1 x (.dt kvs)) I {τ,F,E,p.1,p.2,S,e1,λv F1 H1 s1 S1 r1=>{F1,s1,S1,by rw[<-ed];exact r1}}) λv s1 q0=>?_;have{x,H1,I1,r1,F1,st,S1,rr}:=q0;cases rr with
  |dt hr r =>
   rename_i a kv;cases r1;rcases hr with hr|⟨o,hr⟩
   .have ha:=S1.sub _ _ hr;have{o,ho,I2}:=I1.freeze ha;have{es,ep,MO,z1,z2,z3}:=n9 (I1.hok a _ ha);have{o',q1,q2,q3}:=id MO.ex;rw[ho] at q1;cases q1;have n:=pAK (o:=o) S1.sub hr trivial;refine Az MO λh' kk ki=>?_;refine{s1.heap.objs.size,[s1.heap.objs.size],_,_,_,rfl,I2.kept kk,Wc a _ o kv es ep q3 z1,ki,λb hb=>?_,k _ _ _ (st.trans n.stp) (S1.new n) (Xu GO (r.le n.1.le))};have e:b=s1.heap.objs.size:=by simpa using hb
    subst e;exact I2.fpOk (AM _) (I2.hok.fresh (AM _))
   .have ha:=S1.sub _ _ hr;have{ho,hx}:=I1.hok a _ ha;have{es,ep,MO,z1,z2,z3}:=n9 hx;have{o',q1,q2,q3}:=id MO.ex;rw[ho] at q1;cases q1;refine Az MO λh' kk ki=>?_;refine{s1.heap.objs.size,[s1.heap.objs.size],_,_,_,rfl,I1.kept kk,Wc a _ o kv es ep q3 z1,ki,λb hb=>?_,k _ _ _ st S1 (Xu hr r)};have e:b=s1.heap.objs.size:=by simpa using hb
    subst e;exact I1.fpOk (AM _) (I1.hok.fresh (AM _))
 .cases hg
end
theorem walk_v{l:RZ}{XP:(C7->Option AI)->CN->Prop}{YP:DL->CN->Prop}{K:Params->AC}(hn:l.most=AA 63)(yR:d.params.defaults=[])(hr:Room lv RC) (hY:∀(w:DL) (h:CN),YP w h->(K w.params).In h) (tK:∀w:DL,Tabs (K w.params) q) (hm:∀ns:List Int,ns.length<=63->∃b d',m [.val (.lst (ns.map D.int))]=.ok (b,.bl AQ,d')) (F:∀(w:DL) (mg:C7->Option AI) (fa:AV) (h:CN),(K w.params).In h->h.Ns C3 mg->mg d.name=AA (.ref fa) ->∃fd:CM,(∀(s:AN) (u:AI),Y0 s fd {[u],[]} [("script",u)])/\∀base:CN,(K w.params).In base->base.Ns C3 mg->CB (K w.params) base->FnOk l.prog w (K w.params) mg base KW lv fa fd ["script"] (ME (K w.params) 1 m)) : i6 q X0 XP YP l.row.toRowW d [] (λf vs=>cC f vs) :=_L.walk_of hn 'D' yR hr hY tK F (λw H a ns hl _ hS=>by
  have{b,d',e}:=hm ns hl;refine{rfl,0,H,_,b,_,d',{λ_ _ z=>z,rfl,λi d0 z=>?_,λi t d0 z=>?_,λi j t u d1 d2 a' z=>?_},λi t d0 z=>?_,e,λv F' H' st S r=>?_}
  .cases i with
   |zero=>cases z;exact{_,rfl,.lst hS (Reps.ints ns)}
   |succ i=>simp at z
  .cases i with
   |zero=>cases z
   |succ i=>simp at z
  .cases i with
   |zero=>cases z
   |succ i=>simp at z
  .cases i with
   |zero=>cases z
   |succ i=>simp at z
  .cases b with
   |false=>obtain rfl:=r.vB;rfl
   |true=>have{_,_,_,ow,_}:=r;exact ow.elim) λ_ _ _ _ _ z=>z
end _L
namespace _L
open PySem
end _L
namespace _L
open PySem PySem.Spec PyProof.Rows
section
variable{K:AC}
def qX(gk gv:G):GM:=λd E=>(gk E).bind λp=>(gv p.2).bind λq=>match d,uB p.1 with|.dk kvs,AA k=>T4 kvs.length (.ok (.dk (UD kvs k q.1),q.2))|_,_=>.bad
theorem zTS{N:St->Hp->Prop}(h:Cn K H₀ B0 k (qX gk gv) σ H N):Ab B0 (tV K H₀ gk) (tV K H₀ gv) σ H N:=by
 have{τ,F,E,d,d',E',S,f,n,o,hg,k}:=h;have{p,e1,hg}:=pA3 hg;have{q,e2,hg}:=pA3 hg;split at hg
 .rename_i k' ek _ _;have{hz,hg}:=aJ hg;cases hg;refine{τ,F,E,p.1,p.2,S,e1,λx F5 H5 s5 S5 r5=>?_};refine{τ,F5,p.2,q.1,q.2,S5,e2,λy F6 H6 s6 S6 r6=>?_};have{f6,m6,ys,h6,r2}:=zS (s5.trans s6) f n o;exact{ys,k',h6,yHZ ek r5,by rw[r2.length];exact lW hz,k σ F6 _ (yET (s5.trans s6)) (S6.off f6 m6) f6 m6 {_,GO,r2.put k' r6} λ_ _=>rfl}
 .cases hg
theorem yA3(n:CompNm X scope xo cl own CL js)(hc:X.calm=AQ)(hi:VI X tg iter gi) (hg:∀C s H fp,VG (MY X scope xo cl (own++CL) C s H fp) tg t) (ht:∀C s H fp,wH (MY X scope xo cl (own++CL) C s H fp) ifs tt) (hk:∀C s H fp,VE (MY X scope xo cl (own++CL) C s H fp) kx gk) (hv:∀C s H fp,VE (MY X scope xo cl (own++CL) C s H fp) vx gv) (IS:t.ltn own.length=AQ:=by rfl) (hj:js.Nodup:=by decide) (hs:∀x,DK iter X.env x=pure x:=by intro _;rfl):FE X (.DictComp kx vx [{tg,iter,ifs,0}] scope pos) (n6 gi own.length js (.dk []) t tt (qX gk gv)) :=(zV0 (g:=λH=>tG X.K H t) (tt:=λH=>tT X.K H tt) (tk:=λH=>tV X.K H gk) (tv:=λH=>tV X.K H gv) n hc hi hg ht hk hv hs).imp λσ H Q h =>
  Sq (λJ H2 q B0 ha=>tWalkC.imp (λ_ _ _ z=>zTS z) (λσ H=>Te σ H) (λx σ H=>Td x σ H) (q B0 ha)) (Ug (d0:=.dk []) (λF H a=>{[],GO,.nil}) IS hj h)
end
theorem zQ8(l:List AI)(h:TriplesOk l)(e:RA pos (l++[DR a,DR b,c])=AA cv):RA pos l=AA cv\/cv=c:=by
 fun_induction TriplesOk l with
 |case1 =>
  simp only[GJ,RA,DR] at e;split at e
  .cases e;exact .inr rfl
  .cases e
 |case2 a' t b' u x rest ih =>
  simp only[NE,RA] at e ⊢;split at e
  .rename_i hc;rw[if_pos hc];exact .inl e
  .rename_i hc;rw[if_neg hc];exact ih h e
 |case3 l h1 h2=>exact h.elim
def LamStp(T:AV)(q:C7)(H H':Hp):Prop:=H'=H\/∃ps bN c' o,H T=AA (.tbl q ps)/\H c'=AL/\c'≠T/\H'=DZ (DZ H T (.tbl q bN)) c' (.frz o (.own c'))
section
theorem Inv.pinNew(I:Inv X AJ σ H s)(hfr:o.isFreed=AE)(hd:∀v,o.data≠.cell v):Inv X ((s.heap.objs.size,o)::AJ) σ H { s with heap:=s.heap.push o,toks:=t' }:=by
 have I1:Inv X AJ σ H { s with heap:=s.heap.push o,toks:=t' }:=I.un (Un.kept λb u e=>AF _ e) (I.hok.kept λb u e=>AF _ e);refine{I1.ok,I1.os,I1.bare,I1.base,I1.loc,I1.cell,I1.free,I1.freeC,λp hp=>?_,I1.hok,I1.len};rcases BR.mp hp with hp|hp
 .exact I1.pin p (FS _ hp)
 .rcases A3.mp hp with rfl|hp
  .exact{AT _ hfr,I.hok.fresh (AM _),EN I.lt,I.nofs (AM _),hd}
  .exact I1.pin p (CJ _ hp)
theorem Inv.table{pos:Pos}(I:Inv X AJ σ H s)(hT:H T=AA (.tbl q ps))(hx:bD T s.heap h')(bS:s.heap.objs.size<=c')(kO:h'.CodeRec (.ref c') q)(Dp:h'.get? T=AA (K6 (ps++#[DR pos.line,DR pos.col,.ref c']))) : ∃o,Inv X AJ σ (DZ (DZ H T (.tbl q (ps++#[DR pos.line,DR pos.col,.ref c']))) c' (.frz o (.own c'))) { s with heap:=h',toks:=t' }/\H c'=AL/\c'≠T:=by
 have{c0,o,vs,t,e0,kQ,hd,hv}:=kO;cases e0;have{e1,tr,al}:=I.hok T _ hT;have iX:=I.hok.fresh bS;have qC:c'≠T:=λz=>by rw[z] at iX;rw[iX] at hT;cases hT
 have BV:∀b u,H b=AA u->b≠T->DZ (DZ H T (.tbl q (ps++#[DR pos.line,DR pos.col,.ref c']))) c' (.frz o (.own c')) b=AA u:=λb u e hb=>by rw[EH (λz=>by rw[z,iX] at e;cases e),EH hb];exact e
 have hTT:DZ (DZ H T (.tbl q (ps++#[DR pos.line,DR pos.col,.ref c']))) c' (.frz o (.own c')) T=AA (.tbl q (ps++#[DR pos.line,DR pos.col,.ref c'])):=by rw[EH (CT qC),GO]
 have nT:∀b,H b=AL->b≠T:=λb e z=>by rw[z,hT] at e;cases e
 have xB:∀b u,s.heap.get? b=AA u->H b=AL->DZ (DZ H T (.tbl q (ps++#[DR pos.line,DR pos.col,.ref c']))) c' (.frz o (.own c')) b=AL:=λb u e n=>by rw[EH (CC (AO (BB e) bS)),EH (nT b n)];exact n
 have pJ:∀b u,H b=AA u->(∀ps,u≠.tbl q ps)->b≠T:=λb u e n z=>by rw[z,hT] at e;cases e;exact n _ rfl
 refine{o,I.un {λb u e n _ _=>hx b u (nT b n) e,λb u e n _ _=>{u.slots,hx b u (nT b n) e},λb u e n _=>xB b u e n,λb u e _=>?_,λb xs e=>BV b _ e (pJ b _ e λ_ z=>by cases z),λb ob u e=>BV b _ e (pJ b _ e λ_ z=>by cases z),λb t bN e=>?_} (λb u e=>?_),iX,qC}
 .by_cases hb:b=T
  .subst hb;exact{_,Dp}
  .exact{u,hx b u hb e}
 .by_cases hb:b=T
  .subst hb;rw[hT] at e;cases e;exact{_,hTT}
  .exact{#[],by rw[BV b _ e hb];simp}
 .by_cases hb:b=c'
  .subst hb;rw[GO] at e;cases e;exact{kQ,{_,kQ}}
  .by_cases Ou:b=T
   .subst Ou;rw[hTT] at e;cases e;refine{Dp,by rw[EQ];exact TriplesOk_snoc _ _ _ _ tr,λp cv z=>?_};rw[EQ] at z;rcases zQ8 _ tr z with z|z
    .have{c2,o2,vs2,t2,r1,r2,r3}:=al p cv z;exact{c2,o2,vs2,t2,r1,BV c2 _ r2 (pJ c2 _ r2 λ_ z=>by cases z),r3}
    .exact{c',o,vs,t,z,GO,hd,hv}
   .rw[EH hb,EH Ou] at e;refine(I.hok b u e).stay (λd v hc z=>hx d v ?_ z) (λd z=>BV d _ z (pJ d _ z λ_ y=>by cases y)) (λd xs z=>BV d _ z (pJ d _ z λ_ y=>by cases y)) λd ob x z=>BV d _ z (pJ d _ z λ_ y=>by cases y);rcases hc with rfl|hc
    .exact Ou
    .exact pJ d _ hc λ_ y=>by cases y
theorem zWZ{Q:AI->AN->Prop}{E:AI->AN->Prop} (I:Inv X AJ σ H s) (aW:X.env.code=.ref c) (C:K7 X.base c T) (tb:TB X.K T q) (hq:X.env.qual++("<lambda>":C7)=q) (tR:Z1 scope X.env=pure clos) (qA:defaultsOf FD X.env=([],[])) (h:∀(f c':AV) (pm SM:AI) (s':AN) (H':Hp) (o:JF),Inv X ((f,NC "<lambda>" q FD body scope clos pm c' SM)::AJ) σ H' s'->LamStp T q H H'->H' c'=AA (.frz o (.own c'))->s'.heap.CodeRec (.ref c') q->s.heap.objs.size<=f->Q (.ref f) s') : BE (A9 X.prog X.w) A (eval (.Lambda FD body scope pos) X.env) Q E s:=by
 refine PySem.W.kla_eval qA ?_;rw[hq];have{ps,hT}:=I.tab T q tb;have{e1,tr,al}:=I.hok T _ hT;have hg:=I.mod.glob.keeps I.bk;have hgT:C3≠T:=λz=>by have{o,es,ep,e,hd,_}:=hg;rw[z,e1] at e;cases e;cases hd
 have Dx:s.heap.BuiltinsAt X.mg T:=by
  have{bm,ob,b1,b2,b3,b4,b5,b6}:=I.mod.bmain;have e3:=I.bk _ _ b3;refine{bm,ob,b1,b2,λz=>?_,λz=>?_,e3,b4,b5,b6}
  .have{o,es,ep,e,hd,_}:=hg;rw[z,e] at e3;cases e3;rw[hd] at b6;cases b6
  .rw[z,e1] at e3;cases e3;cases b4
 cases hf:RA pos ps.toList with
 |none =>
  refine PySem.W.kla_makeFunction (mg:=X.mg) tR I.ok.glob hg aW (C.keeps I.bk) e1 tr hf hgT Dx λc' SM h' tk hx bS IS kO Dp=>?_;have{o,I1,iX,qC}:=I.table (t':=tk) hT hx bS kO Dp;have I2:=I1.pinNew (t':=tk) (o:=NC "<lambda>" q FD body scope clos ((X.mg "__name__").getD .none) c' SM) rfl λv z=>by cases z
  exact h _ c' _ SM _ _ o I2 (.inr {_,_,c',o,hT,iX,qC,rfl}) GO (kO.push _) (A0 bS (CS IS))
 |some cv =>
  have{c',o,vs,t,rfl,r2,r3,r4}:=al _ _ hf;refine PySem.W.kla_makeFunctionHit tR I.ok.glob hg aW (C.keeps I.bk) e1 tr hf Dx λSM h' tk hk MW=>?_;have I1:=I.un (t':=tk) (Un.kept hk) (I.hok.kept hk);have I2:=I1.pinNew (t':=tk) (o:=NC "<lambda>" q FD body scope clos ((X.mg "__name__").getD .none) c' SM) rfl λv z=>by cases z
  exact h _ c' _ SM _ _ o I2 (.inl rfl) r2 {c',o,vs,t,rfl,(I2.hok _ _ r2).1,r3,r4} MW
end
noncomputable def jK(X:Cx)(A:GL)(q:C7)(scope:JS)(cl:List (C7×AV))(nm:List C7)(f:AV)(cd:AI)(s:AN)(H:Hp):Cx where
 prog:=X.prog
 w:=X.w
 K:=X.K
 mg:=X.mg
 base:=X.base
 A:=A.deeper (WP q scope s.heap.objs.size f cd cl)
 N:=nm
 s₀:=s
 H₀:=H
 env:=WP q scope s.heap.objs.size f cd cl
 outer:=X.stack
 stack:=WP q scope s.heap.objs.size f cd cl::X.stack
 ex:=[]
 fn:=λ_=>AE
 calm:=AQ
 pn:=[]
 xe:=λ_ _=>False
structure LamNm(X:Cx)(scope:JS)(cl:List (C7×AV))(p:C7)(CL:List C7)(js:List Nat):Prop where
 clos:Z1 scope X.env=pure cl
 kind:scope.kind=.function
 co:scope.isCoroutine=AE
 gen:scope.isGenerator=AE
 nocell:∀y∈scope.names,y.2≠.cell
 dom:∀y∈scope.names,y.2=.free->y.1∈CL
 nm:cl.map (·.1)=CL
 cells:∀p∈cl,X.env.cells.lookup p.1=AA p.2
 slot:CL.map AA=js.map λj=>X.N[j]?
 vis:∀x∈CL,X.env.kindOf x=AA .cell\/X.env.kindOf x=AA .free
 fr:∀x∈CL,scope.names.lookup x=AA .free
 loc:scope.names.lookup p=AA .local
section
theorem LamNm.cl_of(n:LamNm X scope cl p CL js)(h:cl.lookup x=AA c):X.env.cells.lookup x=AA c:=n.cells _ (vQ h)
theorem LamNm.has(n:LamNm X scope cl p CL js)(h:x∈CL):∃c,cl.lookup x=AA c:=Iv (by rw[n.nm];exact h)
noncomputable def lG(js:List Nat)(v:V)(σ:St):St:=AA v::js.map λj=>(σ[j]?).getD AL
theorem zTT(n:LamNm X scope cl p CL js)(I:Inv X AJ σ H s)(hA:A.frames=AA X.stack)(hh:A.handled=AL) (kR:HB.Ns s.heap.objs.size (λy=>[(p,u)].reverse.lookup y)) (GR:∀b o,s.heap.get? b=AA o->HB.get? b=AA o) (r:RelV v u) : Inv (jK X A q scope cl (p::CL) f cd s H) [] (lG js v σ) H { s with heap:=HB,toks:=tk }:=by
 have hl:js.length=CL.length:=by have:=congrArg KP n.slot;simpa using this.symm
 refine{{I.tab,I.ok.mod,n.kind,rfl,rfl,AM _,λx y c h1 h2=>I.ok.inj x y c (n.cl_of h1) (n.cl_of h2),λx hx=>?_,(λx c h=>nomatch h),λ_=>hh,Y1 hA,.inr {rfl,rfl},(λb hb=>nomatch hb),
   I.bs,A0 I.ok.bsz I.sz,(λb o e hb=>nomatch hb),(λb hb=>nomatch hb),I.stack,I.stkFree},
  rfl,I.bare,Un.kept GR,{_,kR,λi x v' e1 e2 e3=>?_},λx c e=>?_,I.hok.fresh (AM _),λx c e=>I.freeC x c (n.cl_of e),(λp hp=>nomatch hp),I.hok.kept GR,?_}
 .have hx:=hx;rcases hx with h|h
  .exact absurd rfl (n.nocell _ (vQ h))
  .exact n.has (n.dom _ (vQ h) rfl)
 .cases i with
  |zero=>have e1:=e1;have e2:AA (AA v)=AA (AA v'):=e2;cases e1;cases e2;exact{u,r,.inl {n.loc,by show List.lookup p [(p,u)]=AA u;rw[G7,beq_self_eq_true]}}
  |succ i =>
   have e1:CL[i]?=AA x:=e1;have e2:(js.map λj=>(σ[j]?).getD AL)[i]?=AA (AA v'):=e2;rw[AY] at e2;cases ej:js[i]? with
   |none=>rw[ej] at e2;cases e2
   |some j =>
    rw[ej] at e2;have e2:AA ((σ[j]?).getD AL)=AA (AA v'):=e2;have hj:X.N[j]?=AA x:=by have q:=congrArg (λl=>l[i]?) n.slot;simp only[AY,e1,ej,I9] at q;exact(BJ q).symm
    have hv:σ[j]?=AA (AA v'):=by
     cases es:σ[j]? with
     |none=>rw[es] at e2;cases e2
     |some o=>rw[es] at e2;exact e2
    have bQ:x∈CL:=BS e1;have{m0,hn0,tO}:=I.loc;have vis:eI X.env.scope x:=by
     rcases n.vis x bQ with k|k
     .exact .inr (.inl k)
     .exact .inr (.inr k)
    have{u,r,lk}:=tO j x v' hj hv vis;refine{u,r,.inr {.inr (n.fr x bQ),?_}};have{c,hc}:=n.has bQ;refine{c,hc,?_};rcases lk with⟨k,_⟩|⟨_,c',VH,z⟩
    .rcases n.vis x bQ with k'|k'
     .rw[k] at k';cases k'
     .rw[k] at k';cases k'
    .rw[n.cl_of hc] at VH;cases VH;have{o,ho,hd}:=z;exact{o,GR _ _ ho,hd}
 .have{v,o,ho,hd}:=I.cell x c (n.cl_of e);exact{v,o,GR _ _ ho,hd}
 .show(lG js v σ).length=(p::CL).length;unfold lG;rw[A8,A8,AK,hl]
theorem zW0(n:LamNm X scope cl p CL js)(I:Inv X AJ σ H s)(hA:A.frames=AA X.stack)(hr:Room 1 A) (ho:s.heap.get? f=AA (NC "<lambda>" q FD body scope cl pm c' SM)) (OG:s.heap.CodeRec (.ref c') q) (PX:OJ (gK "<lambda>" q FD body scope cl pm (.ref c') SM) {[u],[]}=pure [(p,u)]) (hb:PE (jK X A q scope cl (p::CL) f (.ref c') s H) body t) (r:RelV v u) (hq:t (lG js v σ) H Q) : JD (A9 X.prog X.w) A (.call (.ref f) {[u],[]}) (λr s'=>∃u',r=.ok (.ret u')/\CE X.stack X.prog X.w H s Q u' s') s:=by refine PySem.W.kla_callFunE (by have:=hr.dp;lia) ho rfl n.co n.gen rfl OG ?_;rw[PX];refine wpAny_pure ?_;refine wpAny_newFunctionEnv n.nocell (λy hy=>by rw[AS.mp hy];exact n.loc) (λHB kR xS=>{I.nolimit.fresh _ xS,?_}) n.kind;have GR:=λb o e=>xS.extBut b o (CC (BB e)) (AF _ e);have I1:=zTT (q:=q) (f:=f) (cd:=.ref c') (tk:=s.toks+1) n I hA hr.hd kR GR r;refine PySem.W.kla_codeExpr (DN (hb [] _ _ _ _ I1 hq) (λu' s' h=>?_) λe s' h=>h.elim);have{v',H',J,rv,qv}:=h;exact{u',rfl,v',H',J.os,J.bare,J.base,J.hok,rv,qv}
end
end _L
namespace _L
open PySem PySem.Spec PyProof.Rows PySem.W
theorem Paired.perm{α β:Type}{F:α->β->Prop}{us ws:List β}(p:ws.Perm us):∀{xs:List α},Paired F xs us->∃ys,ys.Perm xs/\Paired F ys ws:=by
 induction p with
 |nil=>intro xs r;cases r;exact{[],GT _,.nil}
 |cons a _ ih =>
  intro xs r;cases r with
  |cons h t=>have{ys,q,r'}:=ih t;exact{_::ys,q.cons _,.cons h r'}
 |swap a b l =>
  intro xs r;cases r with
  |cons h t =>
   cases t with
   |cons h' t'=>exact{_::_::_,HR _ _ _,.cons h' (.cons h t')}
 |trans _ _ cT ih2=>intro xs r;have{ys,q,r'}:=ih2 r;have{zs,q2,r2}:=cT r';exact{zs,q2.trans q,r2}
theorem pAL:∀{kz:List Int},Vals ys us->Paired (λ(a:Int×V) (b:Int×AI)=>a.1=b.1/\RelV a.2 b.2) (kz.zip ys) (kz.zip us):=by
 intro kz r;induction kz generalizing ys us with
 |nil=>exact .nil
 |cons k kz ih=>cases r with
  |nil=>exact .nil
  |cons h t=>exact .cons {rfl,h} (ih t)
theorem pAM:∀{a:List (Int×V)} {b:List (Int×AI)},Paired (λ(a:Int×V) (b:Int×AI)=>a.1=b.1/\RelV a.2 b.2) a b->Vals (a.map GA) (b.map GA)/\a.map LW=b.map LW
 |_,_,.nil=>{.nil,rfl}
 |_,_,.cons h t=>by have{h1,h2}:=pAM t;exact{.cons h.2 h1,by rw[AU,AU,h.1,h2]}
def dS(t:Hp->TE)(js:List Nat)(σ:St):List V->List Int->Hp->(List Int->Hp->Prop)->Prop
 |[],B0,H,R=>R B0 H
 |y::ys,B0,H,R=>t H (lG js y σ) H λv H'=>∃k,v=.int k/\dS t js σ ys (B0++[k]) H' R
theorem yFC{h:CN}(a:h.Ns L m)(b:h.Ns L m'):m=m':=by have{o,es,ep,e,d,_,f}:=a;have{o',bT,nC,e',d',_,f'}:=b;rw[e] at e';cases e';rw[d] at d';cases d';funext x;rw[<-f x,f' x]
section
structure Mine(X:Cx)(AJ:List (AV×JF))(b:AV):Prop where
 loc:b≠X.env.locals
 fs:b∉X.fs
 ab:X.s₀.heap.objs.size<=b
 bs:X.base.get? b=AL
 cel:∀x c,X.env.cells.lookup x=AA c->c≠b
 pin:∀p∈X.pn++AJ,p.1≠b
theorem Inv.mine(I:Inv X AJ σ H s)(h:s.heap.objs.size<=b):Mine X AJ b where
 loc:=EN (AO I.lt h)
 fs:=I.nofs h
 ab:=A0 I.sz h
 bs:=bC (A0 (A0 I.ok.bsz I.sz) h)
 cel:=λx c e z=>by have{v,o,ho,_}:=I.cell x c e;subst z;exact F8 _ (AO (BB ho) h)
 pin:=λp hp z=>by subst z;exact F8 _ (AO (BB (I.pin p hp).1) h)
theorem Inv.stkNo(I:Inv X AJ σ H s)(m:Mine X AJ b):b∉bM X.stack:=λhb=>by
 rcases A3.mp (I.stkSub b hb) with z|z
 .exact m.loc z
 .exact m.fs z
theorem Inv.unpin(I:Inv X (p::AJ) σ H s):Inv X AJ σ H s :={I.ok,I.os,I.bare,I.base,I.loc,I.cell,I.free,I.freeC,λq hq=>I.pin q ((BR.mp hq).elim (FS _) λz=>CJ _ (A2 _ z)),I.hok,I.len}
end
def gX(Q:VK)(ys:List V):List Int->Hp->Prop:=λkz H=>∀ps:List (Int×V),ps.Perm (kz.zip ys)->(ps.Pairwise λa b=>a.1<=b.1)->∀D,H D=AL->Q (.ref D) (DZ H D (.lst (ps.map GA)))
section
theorem zTU{P:gP->AN->Prop}{E:AI->AN->Prop} (I:Inv X AJ σ H s) (ma:Mine X AJ a) (mk:Mine X AJ kS) (Dt:kS≠a) (ea:s.heap.get? a=AA (FF "list" #[] e1)) (ek:s.heap.get? kS=AA (FF "list" kA e)) (na:H a=AL) (nk:H kS=AL) (hk:IA kA.toList kz) (EV:kz.length=CW.length) (iY:CW.length<64) (rv:Vals ys CW) (hq:gX Q ys kz H) (hP:∀s',EP X AJ σ Q (.ref a) s'->P (.done (.ret .none)) s') : BE (A9 X.prog X.w) A (ksk_end a AE CW.toArray e1 (.ref kS) kA) P E s:=by
 have{m,F}:=I.fr;have N:News X.base X.env.locals s.heap ((vJ X.base s.heap X.env.locals).filter (λp=>decide (p.1≠kS/\p.1≠a))++[(kS,FF "list" kA e),(a,FF "list" #[] e1)]):=λp hp=>by
  rcases BR.mp hp with hp|hp
  .exact zVK p (A4.mp hp).1
  .rcases A3.mp hp with rfl|hp
   .exact{ek,mk.loc,mk.bs}
   .rw[AS.mp hp];exact{ea,ma.loc,ma.bs}
 refine ksk_end_ (b:=AE) F N Dt (λp hp=>(of_decide_eq_true (A4.mp hp).2).1) (λp hp=>(of_decide_eq_true (A4.mp hp).2).2) hk EV iY λh' tk out c F' N' ko=>hP _ ?_;have{ps,pp,eo,pw}:=ko;have{qs,qp,qr}:=Paired.perm pp (pAL (kz:=kz) rv);have{r1,r2}:=pAM qr;have eZ:∀b ob,b≠X.env.locals->b≠kS->b≠a->s.heap.get? b=AA ob->h'.get? b=AA ob:=λb ob h1 h2 h3 eb=>by
  cases g:X.base.get? b with
  |some u=>have:=I.bk b u g;rw[eb] at this;cases this;exact F'.keep b _ g
  |none=>exact(N' (b,ob) (A2 _ (A4.mpr {zNW h1 g eb,decide_eq_true {h2,h3}}))).1
 have hL:∃oL,h'.get? X.env.locals=AA oL:=let ⟨oL,_,_,eL,_⟩:=F'.ns;{oL,eL};have sT:∀b u,H b=AA u->b≠X.env.locals/\b≠kS/\b≠a:=λb u eb=>{λz=>(by rw[z,I.free] at eb;cases eb),λz=>(by rw[z,nk] at eb;cases eb),λz=>(by rw[z,na] at eb;cases eb)};have up:∀b u,H b=AA u->DZ H a (.lst (qs.map GA)) b=AA u:=λb u eb=>by rw[EH (sT b u eb).2.2];exact eb
 have hz:(qs.map GA).length<64:=by rw[AK,qp.length_eq,T7,EV,rv.length];exact AR (UV _ _) iY
 refine{.ref a,DZ H a (.lst (qs.map GA)),I.step (g':=s.gens) (d':=s.drawn) (t':=tk) (ch:=[kS,a]) (λb hb=>?_) (λb ob h1 _ hc eb _=>eZ b ob h1 (λz=>hc (by simp[z])) (λz=>hc (by simp[z])) eb)
  (λb ob h1 _ hc eb _=>{ob.slots,eZ b ob h1 (λz=>hc (by simp[z])) (λz=>hc (by simp[z])) eb}) (λb ob hc eb n=>by rw[EH (λz=>hc (by simp[z]))];exact n) (λb ob hc eb=>?_)
  (λb xs eb=>up b _ eb) (λb ob u eb=>up b _ eb) (λb t ps eb=>{#[],by rw[up b _ eb];simp}) (λm0 yB=>by rw[yFC yB F.ns];exact F'.ns) (λb u eb=>?_) I.bare,rfl,hq qs qp ?_ a na}
 .rcases A3.mp hb with rfl|hb
  .exact{.inr mk.ab,mk.loc,mk.cel,mk.pin}
  .rw[AS.mp hb];exact{.inr ma.ab,ma.loc,ma.cel,ma.pin}
 .by_cases h1:b=X.env.locals
  .subst h1;exact hL
  .exact{ob,eZ b ob h1 (λz=>hc (by simp[z])) (λz=>hc (by simp[z])) eb}
 .by_cases hb:b=a
  .subst hb;rw[GO] at eb;cases eb;refine{by rw[FM];lia,out.toList,c,by rw[eo];exact r1,?_};have:=(N' (b,FF "list" out c) (.head _)).1;simpa using this
  .rw[EH hb] at eb;refine(I.hok b u eb).stay (λd v hc z=>?_) (λd z=>up d _ z) (λd xs z=>up d _ z) λd ob x z=>up d _ z;rcases hc with rfl|hc
   .have{h1,h2,h3}:=sT d u eb;exact eZ d v h1 h2 h3 z
   .have{h1,h2,h3}:=sT d _ hc;exact eZ d v h1 h2 h3 z
 .have:(qs.map LW).Pairwise (·<=·):=by rw[r2,DE];exact pw.imp λh=>by simpa using h
  rw[DE] at this;exact this
end
section
theorem zQ9{P:gP->AN->Prop}{E:AI->AN->Prop}(n:LamNm X scope cl p CL js) (I:Inv X ((f,kla_obj "<lambda>" q FD body scope cl pm c' SM)::AJ) σ H s) (ma:Mine X ((f,kla_obj "<lambda>" q FD body scope cl pm c' SM)::AJ) a) (mk:Mine X ((f,kla_obj "<lambda>" q FD body scope cl pm c' SM)::AJ) kS) (Dt:kS≠a) (ea:s.heap.get? a=AA (FF "list" #[] e1)) (ek:s.heap.get? kS=AA (FF "list" #[] 0)) (na:H a=AL) (nk:H kS=AL) (hc:H c'=AA (.frz o (.own c'))) (ho:o.data=.fields vs) (hv:vs[1]?=AA (.str q tq)) (iY:CW.length<64) (rv:Vals ys CW) (hA:A.frames=AA X.stack) (hr:Room 1 A) (PX:∀u,OJ (kla_fn "<lambda>" q FD body scope cl pm (.ref c') SM) {[u],[]}=pure [(p,u)]) (hb:∀s H,PE (jK X A q scope cl (p::CL) f (.ref c') s H) body (t H)) (fP:dS t js σ ys [] H (gX Q ys)) (hP:∀s',EP X AJ σ Q (.ref a) s'->P (.done (.ret .none)) s') : BE (A9 X.prog X.w) A (ksk_rest a (.ref f) AE CW.toArray e1 (.ref kS)) P E s:=by
 refine AB (EM ?_)
 first
  |rw[List.forIn_toArray]
  |(rw[<-LJ];simp only[List.toList_toArray])
  |rw[<-LJ]
 refine AB (ksk_fold (λi s'=>∃kA e H' B0,Inv X ((f,kla_obj "<lambda>" q FD body scope cl pm c' SM)::AJ) σ H' s'/\s'.heap.get? a=AA (FF "list" #[] e1)/\s'.heap.get? kS=AA (FF "list" kA e)/\H' a=AL/\H' kS=AL /\
  IA kA.toList B0/\B0.length=i/\dS t js σ (ys.drop i) B0 H' (gX Q ys)/\H' c'=AA (.frz o (.own c'))) CW 0 s
  {#[],0,H,[],I,ea,ek,na,nk,by simpa using IntsAre.nil,rfl,fP,hc} ?step ?done)
 case step =>
  intro j x s' hx zz';have{kA,e,H',B0,I',Eg,qJ,tB,Dg,hk,EV,iT,VH}:=zz';simp only[FB] at EV iT ⊢;have hj:j<CW.length:=(AH.mp hx).1;have hy:j<ys.length:=by rw[rv.length];exact hj
  have{u,hu,r}:=rv.get (BD hy);rw[hx] at hu;cases hu;rw[FJ hy] at iT;have OG:s'.heap.CodeRec (.ref c') q:={c',o,vs,tq,rfl,(I'.hok _ _ VH).1,ho,hv};have hfo:=(I'.pin _ (CJ _ (.head _))).1
  have yV:BE (A9 X.prog X.w) A (call (.ref f) [x]) (λu' cS=>CE X.stack X.prog X.w H' s' (λv zI=>∃k,v=.int k/\dS t js σ (ys.drop (j+1)) (B0++[k]) zI (gX Q ys)) u' cS) (λ_ _=>False) s' :=
   wpAny_call (US (zW0 n I' hA hr hfo OG (PX x) (hb s' H') r iT) λr cS h=>by
    have{u',rfl,ce}:=h
    exact ce)
  refine AB (GC (DN yV (λu' cS he=>?_) λ_ _ hF=>hF.elim));have{v,zI,os,bare,un,hok,rv',k,rfl,Oc}:=he;obtain⟨t2,rfl⟩:∃t2,u'=.int k t2:=rv';have{hh,g,d,tk2,Mg}:=cS;obtain rfl:Mg=s'.os:=os;have I2:=I'.call (h':=hh) (g':=g) (d':=d) (t':=tk2) (ch:=[]) un hok bare (λb z=>absurd z 'S');have ek2:=un.keep kS _ qJ Dg (I'.stkNo mk) 'S';have ea2:=un.keep a _ Eg tB (I'.stkNo ma) 'S';have nk2:=un.free kS _ qJ Dg 'S';have na2:=un.free a _ Eg tB 'S';have iW:=un.frzs _ _ _ VH
  have hz:kA.size<=CW.length:=by have h1:=hk.length;rw[GZ] at h1;lia
  try dsimp only
  have s1:=FQ hh kS (D4 (·.push (.int k t2)));obtain⟨e2,he2⟩:∃c2,(hh.update kS (D4 (·.push (.int k t2)))).get? kS=AA (FF "list" (kA.push (.int k t2)) c2):={_,YG ek2 (·.push (.int k t2))};refine AB (NZ ek2 rfl ?_ (by rw[FM];lia) (A0 (DG (EI ..)) (by rw[FM];lia)));have I3:=I2.turned (t':=tk2) (it:=kS) (λb ob hb eb=>(s1.2 b hb).trans eb) nk2 mk.loc (.inr mk.ab) mk.cel mk.pin;have el:(kA.push (RX k t2)).toList=kA.toList++[RX k t2]:=by simp
  exact wpAny_pure {rfl,kA.push (.int k t2),e2,zI,B0++[k],I3,(s1.2 a Dt.symm).trans ea2,he2,na2,nk2,by rw[el];exact ksk_snoc hk,by rw[BG,EV];rfl,Oc,iW}
 case done =>
  intro s' zz';have{kA,e,H',B0,I',Eg,qJ,tB,Dg,hk,EV,iT,VH}:=zz';rw[FB] at EV iT;rw[JV (by rw[rv.length];exact AM _)] at iT
  try dsimp only
  refine AB (gF qJ rfl ?_);refine zTU I'.unpin {ma.loc,ma.fs,ma.ab,ma.bs,ma.cel,λp hp=>ma.pin p ?_} {mk.loc,mk.fs,mk.ab,mk.bs,mk.cel,λp hp=>mk.pin p ?_} Dt Eg qJ tB Dg hk EV iY rv iT hP
  all_goals exact(BR.mp hp).elim (FS _) λz=>CJ _ (A2 _ z)
end
section
theorem zTV(n:LamNm X scope cl p CL js) (I:Inv X ((f,kla_obj "<lambda>" q FD body scope cl pm c' SM)::AJ) σ H s) (hc:H c'=AA (.frz o (.own c'))) (ho:o.data=.fields vs) (hv:vs[1]?=AA (.str q tq)) (hl:SqL X.K H l ys) (iY:ys.length<64) (hr:Room 3 X.A) (PX:∀u,OJ (kla_fn "<lambda>" q FD body scope cl pm (.ref c') SM) {[u],[]}=pure [(p,u)]) (hb:∀s H,PE (jK X X.A.in1.in1 q scope cl (p::CL) f (.ref c') s H) body (t H)) (fP:dS t js σ ys [] H (gX Q ys)) : BE (A9 X.prog X.w) X.A (call (.builtin "sorted") [.ref l] [(HJ "key",.ref f)]) (EP X AJ σ Q) X.xe s:=by
 have{CW,rv,pl,z}:=I.list hl;have EV:=rv.length;refine call_function_entry_kw kind_sorted plain_sorted entry_sorted (ksk_s1 _ _) ?_;refine AB (m:=checkCount "sorted" 1 1 _) (wpAny_pure ?_);refine AB (collect_list pl.isList ?_ (by rw[FM];lia));refine AB (SQ ?_ (by rw[FM];lia));have MW:((s.heap.push (FF "list" #[] 0)).update s.heap.objs.size (D4 (·++CW.toArray))).objs.size=s.heap.objs.size+1:=by rw[NF,ZW]
 have iR:(((s.heap.push (FF "list" #[] 0)).update s.heap.objs.size (D4 (·++CW.toArray))).push (FF "list" CW.toArray 0)).get? (s.heap.objs.size+1)=AA (FF "list" CW.toArray 0):=by rw[<-MW];exact AT _ rfl
 have keep:∀b o,s.heap.get? b=AA o->(((s.heap.push (FF "list" #[] 0)).update s.heap.objs.size (D4 (·++CW.toArray))).push (FF "list" CW.toArray 0)).get? b=AA o:=λb o q=>by have IS:b<s.heap.objs.size:=BB q;rw[JW _ _ _ (by rw[MW];exact CC (IC IS)),O8 _ _ _ _ (CC IS),JW _ _ _ (CC IS)];exact q
 have M2:(((s.heap.push (FF "list" #[] 0)).update s.heap.objs.size (D4 (·++CW.toArray))).push (FF "list" CW.toArray 0)).objs.size=s.heap.objs.size+2:=by rw[ZW,MW]
 show BE _ _ _ _ _ { s with heap:=((s.heap.push (FF "list" #[] 0)).update s.heap.objs.size (D4 (·++CW.toArray))).push (FF "list" CW.toArray 0) };rw[MW];generalize hg0:((s.heap.push (FF "list" #[] 0)).update s.heap.objs.size (D4 (·++CW.toArray))).push (FF "list" CW.toArray 0)=g0 at iR keep M2;refine AB (DO (wpAny_call_entry_kw slot_list_sort {_,iR,rfl} entry_list_sort ?body (ksk_l1 _ _)))
 case body =>
  show BE (A9 X.prog X.w) X.A.in1.in1 (YZ.«list.sort» {[.ref (s.heap.objs.size+1)],[(HJ "key",.ref f)]}) _ _ _;rw[ksk_t1];have s1:=FQ g0 (s.heap.objs.size+1) (D4 λ_=>(#[]:Array AI));obtain⟨e1,Ds⟩:∃e1,(g0.update (s.heap.objs.size+1) (D4 λ_=>(#[]:Array AI))).get? (s.heap.objs.size+1)=AA (FF "list" #[] e1):={_,YG iR λ_=>#[]};refine AB (gF iR rfl ?_);refine AB (NZ iR rfl ?_ (by rw[BA,FM];lia) (BN _));refine AB (W7 Ds rfl ?_);refine AB (KJ ?_ (by show CW.length<=_;rw[FM];lia));refine AB (SQ ?_ (BN _));refine DO ?_;have hg1:(g0.update (s.heap.objs.size+1) (D4 λ_=>(#[]:Array AI))).objs.size=s.heap.objs.size+2:=by rw[NF,M2]
  have mM:∀b o,s.heap.get? b=AA o->(((g0.update (s.heap.objs.size+1) (D4 λ_=>(#[]:Array AI))).push (FF "tuple" CW.toArray 0)).push (FF "list" #[] 0)).get? b=AA o:=λb o e =>
   AF _ (AF _ ((s1.2 b (CC (IC (BB e)))).trans (keep b o e)))
  have Oe:((g0.update (s.heap.objs.size+1) (D4 λ_=>(#[]:Array AI))).push (FF "tuple" CW.toArray 0)).objs.size=s.heap.objs.size+3:=by rw[ZW,hg1]
  have I2 :=
   I.un (t':=s.toks) (Un.kept mM) (I.hok.kept mM)
  refine zQ9 n I2 (I.mine (HF _)) (I.mine (by rw[Oe];exact A5 _ 3)) (by rw[Oe];intro z;have:s.heap.objs.size+3=s.heap.objs.size+1:=z;lia)
   (AF _ (AF _ Ds)) (AT _ rfl) (I.hok.fresh (HF _)) (I.hok.fresh (by rw[Oe];exact A5 _ 3)) hc ho hv (by rw[<-EV];exact iY) rv I.ok.frames hr.in1.in1 PX hb fP λs' h=>{_,rfl,?_}
  exact wpAny_pure {_,rfl,h}
end
theorem LamStp.rd(st:LamStp T q H H')(h:H a=AA u)(hu:∀ps,u≠.tbl q ps):H' a=AA u:=by
 rcases st with rfl|⟨ps,bN,c',o,hT,hc,qC,rfl⟩
 .exact h
 .rw[EH (λz=>by rw[z,hc] at h;cases h),EH (λz=>by rw[z,hT] at h;cases h;exact hu _ rfl)];exact h
theorem LamStp.sq{K:Frag}(st:LamStp T q H H')(h:SqL K H l ys):SqL K H' l ys :=h.imp (λz=>z.imp (λz=>st.rd z λ_ y=>by cases y) (λq0=>by have{o,z}:=q0;exact{o,st.rd z λ_ y=>by cases y})) id
def Qf(K:Frag)(T:AV)(q:C7)(tl:TE)(t:Hp->TE)(js:List Nat):TE:=λσ H Q=>tl σ H λx H1=>∃l ys,x=.ref l/\SqL K H1 l ys/\ys.length<64/\∀H2,LamStp T q H1 H2->dS t js σ ys [] H2 (gX Q ys)
section
theorem zW1(hm:X.mg "sorted"=AL)(hl:PE X l tl)(n:LamNm X scope cl p CL js)(hr:Room 3 X.A)(aW:X.env.code=.ref c)(C:CodeHd X.base c T)(tb:TB X.K T q)(hq:X.env.qual++("<lambda>":C7)=q)(qA:defaultsOf FD X.env=([],[])) (PX:∀pm c' SM u,OJ (kla_fn "<lambda>" q FD body scope cl pm (.ref c') SM) {[u],[]}=pure [(p,u)]) (hb:∀f c' s H,PE (jK X X.A.in1.in1 q scope cl (p::CL) f (.ref c') s H) body (t H)) (hg:Gl X "sorted":=by rfl) (he:EW pos (AW [l] X.env)=(AE,eval l X.env)::EW pos (AW [] X.env):=by rfl) (LS:(EW pos (AW [l] X.env)).any (·.1)=AE:=by rfl) (RU:AW [l] X.env=(AE,eval l X.env)::AW [] X.env:=by rfl) : PE X (.Call (.Name "sorted" p1) [l] [{AA "key",.Lambda FD body scope bP,eY}] pos) (Qf X.K T q tl t js):=by
 intro AJ s σ H Q I h;refine M6 (jW I hg hm rfl ?_);refine callWith_kw (HE (PB hl FO RU pos AJ s σ H (λvs H1=>∃l ys,vs=[.ref l]/\SqL X.K H1 l ys/\ys.length<64/\∀H2,LamStp T q H1 H2->dS t js σ ys [] H2 (gX Q ys)) I ?_) λus s1 h1=>?_) he LS rfl rfl
 .have h':=h;show tl σ H λx H1=>∃l ys,[x]=[.ref l]/\SqL X.K H1 l ys/\ys.length<64/\∀H2,LamStp T q H1 H2->dS t js σ ys [] H2 (gX Q ys);have ee:(λx H1=>∃l ys,[x]=[V.ref l]/\SqL X.K H1 l ys/\ys.length<64/\∀H2,LamStp T q H1 H2->dS t js σ ys [] H2 (gX Q ys))=λx H1=>∃l ys,x=V.ref l/\SqL X.K H1 l ys/\ys.length<64/\∀H2,LamStp T q H1 H2->dS t js σ ys [] H2 (gX Q ys):=by funext x H1;simp only[QW,and_true]
  rw[ee];exact h'
 .have{vs,H1,I1,r,l',ys,rfl,hs,iY,hk}:=h1;have{u,rfl,ru}:=Y6 r;cases ru;refine wpAny_evalAll_cons (AB (zWZ I1 aW C tb hq n.clos qA λf c' pm SM s2 H2 o I2 st hc OG MW=>AB (G8 (wpAny_pure (wpAny_evalAll_nil ?_)))));have{c2,o2,vs2,tq,e2,g2,d2,v2}:=OG;cases e2;have:=(I2.hok _ _ hc).1;rw[g2] at this;cases this;exact zTV n I2 hc d2 v2 (st.sq hs) iY hr (PX pm c' SM) (hb f c') (hk H2 st)
end
end _L
namespace _L
open PySem PySem.Spec PyProof.Rows
def yFD(ge:G)(ds:List D)(y:D):Out Int:=(ge (.val y::ds.map .val)).bind λr=>match r.1 with|.int k=>.ok k|_=>.bad
def jH(ge:G)(ds:List D):List D->Out (List Int)
 |[]=>.ok []
 |y::ys=>(yFD ge ds y).bind λk=>(jH ge ds ys).bind λks=>.ok (k::ks)
noncomputable def shareJ:List Nat->Ev->Ev
 |[],E=>E
 |j::js,E=>shareJ js (match E[j]? with|some (.own _ d)=>E.set j (.val d)|_=>E)
noncomputable def valsJ(E:Ev):List Nat->Option (List D)
 |[]=>AA []
 |j::js=>match E[j]? with
  |some (.val d)=>(valsJ E js).map (d::·)
  |_=>AL
def oX(kz:List Int)(ys:List D)(qs:List (Int×D)):Prop:=qs.Perm (kz.zip ys)/\qs.Pairwise λa b=>a.1<=b.1
section
variable{K:AC}
theorem LamStp.new(s:Sub F H)(st:LamStp T q H H'):∃F',New F H F' H':=by
 rcases st with rfl|⟨ps,bN,c',o,hT,hc,qC,rfl⟩
 .exact{F,.refl s}
 .have hFc:F c'=AL:=by
   cases e:F c' with
   |none=>rfl
   |some u=>rw[s _ _ e] at hc;cases hc
  have ot:∀a,a≠T->a≠c'->DZ (DZ H T (.tbl q bN)) c' (.frz o (.own c')) a=H a:=λa h1 h2=>by rw[EH h2,EH h1]
  have tt:DZ (DZ H T (.tbl q bN)) c' (.frz o (.own c')) T=AA (.tbl q bN):=by rw[EH (CT qC),GO]
  refine{λa=>if a=T then(F T).map λ_=>.tbl q bN else F a,{λa u e hw _ _=>?_,λa e=>?_,λa u e=>?_,λa u e=>?_,λ_ z=>z.elim},λa u e=>?_}
  .rw[ot a (λz=>by rw[z,hT] at e;cases e;exact hw) (λz=>by rw[z,hc] at e;cases e)];exact e
  .by_cases h1:a=T
   .rw[h1,tt] at e;cases e
   .by_cases h2:a=c'
    .rw[h2];exact hc
    .rw[ot a h1 h2] at e;exact e
  .by_cases h1:a=T
   .subst h1;have:=s _ _ e;rw[hT] at this;cases this;exact .inr (.inr {q,ps,bN,rfl,by rw[if_pos rfl,e];rfl})
   .exact .inl (by rw[if_neg h1];exact e)
  .by_cases h1:a=T
   .subst h1;rw[if_pos rfl] at e;cases e1:F a with
    |none=>rw[e1] at e;cases e
    |some v=>exact .inl nofun
   .rw[if_neg h1] at e;exact .inl (by rw[e];exact nofun)
  .dsimp only at e;by_cases h1:a=T
   .subst h1;rw[if_pos rfl] at e;cases e1:F a with
    |none=>rw[e1] at e;cases e
    |some v=>rw[e1] at e;cases e;exact tt
   .rw[if_neg h1] at e;rw[ot a h1 (λz=>by rw[z,hFc] at e;cases e)];exact s a u e
theorem Sim.shareJ:∀(js:List Nat) {F:Hp} {E:Ev},Sim K H₀ τ F H σ E->∃F',Stp (EJ σ E) F H F' H (EJ σ (_L.shareJ js E))/\Sim K H₀ τ F' H σ (_L.shareJ js E)
 |[],F,E,S=>{F,.refl,S}
 |j::js,F,E,S=>by
  unfold _L.shareJ;split
  .rename_i t d e;have{a,F1,_,st,S1,_}:=S.share e;have{F2,st2,S2}:=Sim.shareJ js S1;exact{F2,st.trans st2,S2}
  .exact Sim.shareJ js S
theorem Sim.valsJ(S:Sim K H₀ τ F H σ E):∀{js:List Nat} {ds:List D},_L.valsJ E js=AA ds->∃ws,(js.map λj=>(σ[j]?).getD AL)=ws.map AA/\Reps K F ws ds
 |[],_,e=>by cases e;exact{[],rfl,.nil}
 |j::js,ds,e=>by
  unfold _L.valsJ at e;split at e
  .rename_i d ej;cases e2:_L.valsJ E js with
   |none=>rw[e2] at e;cases e
   |some YT=>rw[e2] at e;cases e;have{ws,h1,h2}:=S.valsJ e2;have{v,hv,hr}:=S.val j d ej;exact{v::ws,by rw[AU,h1,hv];rfl,.cons hr h2}
  .cases e
theorem yFE(hv:_L.valsJ E js=AA ds){R:List Int->Hp->Prop}:∀{ys:List D} {vs:List V} {B0 kz:List Int} {F H:Hp},Sim K H₀ τ F H σ E->Reps K F vs ys->jH ge ds ys=.ok kz ->(∀F' H',New F H F' H'->R (B0++kz) H')->dS (λH=>tV K H ge) js σ vs B0 H R:= by
 intro ys;induction ys with
 |nil=>intro vs B0 kz F H S r e k;cases r;cases e;have:=k F H (.refl S.sub);rw[E4] at this;exact this
 |cons y ys ih =>
  intro vs B0 kz F H S r e k;cases r with
  |@cons v _ pB _ ry rys =>
  have{k1,e1,e}:=pA3 e;have{ks,e2,e}:=pA3 e;cases e;have{rr,e3,e1}:=pA3 e1;have{ws,hws,rws}:=S.valsJ hv;have qB:lG js v σ=(v::ws).map AA:=by unfold lG;rw[hws];rfl
  show tV K H ge (lG js v σ) H _;rw[qB];refine{0,F,(y::ds).map Sl.val,rr.1,rr.2,Sim.args S.sub (.cons ry rws),e3,λv2 F2 H2 st S2 r2=>?_};split at e1
  .rename_i kk ek;cases e1;rw[ek] at r2;obtain rfl:=r2.vI;have n:New F H F2 H2:={{λa o q1 q2 q3 _=>st.keep a o q1 q2 q3 (zT a),st.dom,st.le,λa o z=>(st.new a o z).imp_right λz=>z.imp_right λz=>(zT a z).elim,λ_ z=>z.elim},S2.sub};exact{_,rfl,ih (S.new n) (rys.le n.1.le) e2 λF' H' n'=>by rw[C0];exact k F' H' (n.trans n')}
  .cases e1
theorem yKU:∀{kz:List Int},Reps K F vs ys->Paired (λ(b:Int×D) (a:Int×V)=>a.1=b.1/\Rep K F a.2 b.2) (kz.zip ys) (kz.zip vs):=by
 intro kz r;induction kz generalizing vs ys with
 |nil=>exact .nil
 |cons k kz ih=>cases r with
  |nil=>exact .nil
  |cons h t=>exact .cons {rfl,h} (ih t)
theorem Zz:∀{a:List (Int×D)} {b:List (Int×V)},Paired (λ(b:Int×D) (a:Int×V)=>a.1=b.1/\Rep K F a.2 b.2) a b->Reps K F (b.map GA) (a.map GA)/\a.map LW=b.map LW
 |_,_,.nil=>{.nil,rfl}
 |_,_,.cons h t=>by have{h1,h2}:=Zz t;exact{.cons h.2 h1,by rw[AU,AU,h.1,h2]}
theorem zW3 (h:∃τ F E ys E1 ds kz,Sim K H₀ τ F H σ E/\gl E=.ok (.lst ys,E1)/\ys.length<64/\_L.valsJ (_L.shareJ js E1) js=AA ds/\jH ge ds ys=.ok kz /\ ∀qs,oX kz ys qs->∀a F' H',Stp (EJ σ E) F H F' H' (EJ σ (_L.shareJ js E1))->Sim K H₀ τ F' H' σ (_L.shareJ js E1)->F' a=AL->H a=AL->OwnAt K F' H' a (.lst (qs.map GA))->¬EJ σ (_L.shareJ js E1) a->Q (.ref a) H') : Qf K T q (tV K H₀ gl) (λH=>tV K H ge) js σ H Q:=by
 have{τ,F,E,ys,E1,ds,kz,S,e1,iY,hv,hk,k}:=h;refine{τ,F,E,_,_,S,e1,λv F1 H1 st1 S1 r1=>?_};cases r1 with
 |@lst l vs _ sq rs =>
 refine{l,vs,rfl,sq.imp S1.sub.rd id,by rw[rs.length];exact iY,λH2 ls=>?_};have{F2,n2}:=ls.new S1.sub;have{F3,KY,S3}:=(S1.new n2).shareJ js;have rs3:=(rs.le n2.1.le).le KY.le;refine yFE hv S3 rs3 hk λF4 H4 n4 ps pp pw D hD=>?_;rw[GJ] at pp;have rs4:=rs3.le n4.1.le;have{qs,qp,qr}:=Paired.perm pp (yKU rs4);have{r5,r6}:=Zz qr;have hF:F4 D=AL:=by
  cases e:F4 D with
  |none=>rfl
  |some u=>rw[n4.2 _ _ e] at hD;cases hD
 have n5:New F4 H4 F4 (DZ H4 D (.lst (ps.map GA))):=pA6 n4.2 (Gr.new hD);have S4:=S3.new n4;have st:=(((st1.trans n2.stp).trans KY).trans n4.stp).trans n5.stp;refine k qs {qp,?_} D F4 _ st (S4.new n5) hF ?_ {_,GO,r5} (S4.fresh hD)
 .have:(qs.map LW).Pairwise (·<=·):=by rw[r6,DE];exact pw
  rw[DE] at this;exact this
 .exact(((st1.trans n2.stp).trans KY).trans n4.stp:Stp (EJ σ E) F H F4 H4 _).dom D hD
end
section
variable{K:AC}
theorem yFG(k:FlOk K H₀ τ (EJ σ E) F H D' r)(s1:Stp (EJ σ E) F H F1 H1 (EJ σ E1))(S1:Sim K H₀ τ F1 H1 σ E1)(w1:Walks K J F1 ds)(hg:VR t g ds E1=.ok r) : ∃W:Nat->Nat->St->Hp->Prop,(∃m,W 0 m σ H1)/\∀i m σ H,W i m σ H ->(J.stop i H/\D'.nx σ H)\/(J.go i H/\∃N:St->Hp->Prop,(∀σ' H',N σ' H'->∃m',m'<m/\W (i+1) m' σ' H')/\∀x H',J.yld i H x H'->tG K H₀ t x σ H' λσ2 H2=>tS K H₀ g { D' with nx:=N,ct:=N,bk:=D'.nx } σ2 H2):=by
 refine{λi m σ2 H2=>m=ds.length-i/\i<=ds.length/\∃F2 E2,Sim K H₀ τ F2 H2 σ2 E2/\Stp (EJ σ E) F H F2 H2 (EJ σ2 E2)/\Le F1 F2/\VR t g (ds.drop i) E2=.ok r,{_,rfl,BN _,F1,E1,S1,s1,.refl _,by rw[L0];exact hg},?_};intro i m σ2 H2 zz';have{rfl,Du,F2,E2,S2,s2,l2,h2}:=zz';have{w2,w3,w4}:=w1 i F2 H2 l2 S2.sub;by_cases hi:i<ds.length
 .obtain⟨d,hd⟩:∃d,ds[i]?=AA d:={ds[i],by simp[hi]};have yQ:ds.drop i=d::ds.drop (i+1):=by
   rw[FJ hi];have:ds[i]=d:=by rw[BD hi] at hd;exact BJ hd
   rw[this]
  rw[yQ,VR] at h2;have{E3,e3,h2}:=pA3 h2;have{q,e4,h2}:=pA3 h2;refine .inr {w2 hi,λσ5 H5=>∃F5 E5,Sim K H₀ τ F5 H5 σ5 E5/\Stp (EJ σ E) F H F5 H5 (EJ σ5 E5)/\Le F1 F5/\VR t g (ds.drop (i+1)) E5=.ok r,λσ5 H5 ⟨F5,E5,a1,a2,a3,a4⟩=>{_,by omega,rfl,hi,F5,E5,a1,a2,a3,a4},λx H' y=>?_};have{F3,n3,r3}:=w4 x H' d hd y;refine{τ,F3,E2,d,E3,S2.new n3,r3,e3,λσ4 S4 h4 _=>{τ,F3,E3,q,S4,e4,?_}};have s4:=(s2.trans n3.stp).weak h4;have l3:=l2.trans n3.1.le;cases q with
  |nx E5=>exact λσ5 F5 H5 s5 S5=>{F5,E5,S5,s4.trans s5,l3.trans s5.le,h2}
  |ct E5=>exact λσ5 F5 H5 s5 S5=>{F5,E5,S5,s4.trans s5,l3.trans s5.le,h2}
  |bk E5=>cases h2;exact λσ5 F5 H5 s5 S5=>k σ5 F5 H5 (s4.trans s5) S5
  |rt b d E5=>cases h2;exact λσ5 v F5 H5 s5 S5 q=>k σ5 v F5 H5 (s4.trans s5) S5 (q.pre s4)
 .have hi:i=ds.length:=by omega
  rw[JV 'O',VR] at h2;cases h2;exact .inl {w3 hi,k σ2 F2 H2 s2 S2}
end
def z8(gl:G)(js:List Nat)(ge:G):Ev->Out ((List D×List Int)×Ev):=λE=>(gl E).bind λp=>match p.1,valsJ (shareJ js p.2) js with
 |.lst ys,AA ds=>if ys.length<64 then(jH ge ds ys).bind λkz=>.ok ((ys,kz),shareJ js p.2) else .bad
 |_,_=>.bad
theorem zTW(h:z8 gl js ge E=.ok ((ys,kz),E2)) : ∃E1 ds,gl E=.ok (.lst ys,E1)/\ys.length<64/\valsJ (shareJ js E1) js=AA ds/\jH ge ds ys=.ok kz/\E2=shareJ js E1:=by
 have{p,e,h}:=pA3 h;have{d,E1}:=p;cases hv:valsJ (shareJ js E1) js with
 |none=>rw[hv] at h;cases d<;>cases h
 |some ds =>
  rw[hv] at h;cases d with
  |lst ys' =>
   dsimp only at h;by_cases hl:ys'.length<64
   .rw[if_pos hl] at h;have{kz',e3,h}:=pA3 h;cases h;exact{E1,ds,e,hl,hv,e3,rfl}
   .rw[if_neg hl] at h;cases h
  |_=>cases h
noncomputable def hush:List Nat->Ev->Ev
 |[],E=>E
 |k::ks,E=>hush ks (match E[k]? with|some (.val _)=>E.set k .no|_=>E)
theorem Sim.hush{K:AC}:∀(ks:List Nat) {E:Ev},Sim K H₀ τ F H σ E->Sim K H₀ τ F H σ (_L.hush ks E)/\∀a,EJ σ (_L.hush ks E) a->EJ σ E a
 |[],_,S=>{S,λ_ h=>h}
 |k::ks,E,S=>by
  rw[_L.hush];split
  .rename_i d e;have hk:=(AH.mp e).1;have GR:∀(j:Nat) s,(E.set k .no)[j]?=AA s->s≠.no->E[j]?=AA s:=λj s q n=>by
    by_cases hj:k=j
    .subst hj;rw[BQ hk] at q;exact absurd (BJ q).symm n
    .rw[BK hj] at q;exact q
   have S1:Sim K H₀ τ F H σ (E.set k .no):={S.sub,by rw[DI];exact S.len,λj d q=>S.val j d (GR j _ q (λz=>by cases z)),λj t d q=>S.own j t d (GR j _ q (λz=>by cases z)),
    λi j t u d d' a q1 q2=>S.inj i j t u d d' a (GR i _ q1 (λz=>by cases z)) (GR j _ q2 (λz=>by cases z))}
   have{S2,h2}:=Sim.hush ks S1;refine{S2,λa h=>?_};have{j,t,d,q1,q2}:=h2 a h;exact{j,t,d,GR j _ q1 (λz=>by cases z),q2}
  .exact Sim.hush ks S
open Classical in
def zW(gl:G)(js:List Nat)(ge:G)(t:Tg)(g:GS)(ks:List Nat):GS:=λE=>(z8 gl js ge E).bind λp=>if h:∃E1,∀qs,oX p.1.2 p.1.1 qs->∃E2,VR t g (qs.map GA) p.2=.ok (.nx E2)/\hush ks E2=E1 then .ok (.nx h.choose) else .bad
section
structure LamOk(X:Cx)(scope:JS)(cl:List (C7×AV))(x:C7)(CL:List C7)(js:List Nat)(q:C7)(FD:ON)(body:EU)(c T:AV):Prop where
 nm:LamNm X scope cl x CL js
 room:Room 3 X.A
 code:X.env.code=.ref c
 hd:K7 X.base c T
 tb:TB X.K T q
 qual:∃n:C7,X.env.qual=n/\n++("<lambda>":C7)=q
 dflt:defaultsOf FD X.env=([],[])
 bind:∀pm c' SM u,OJ (gK "<lambda>" q FD body scope cl pm (.ref c') SM) {[u],[]}=pure [(x,u)]
theorem LamOk.qu(n:LamOk X scope cl x CL js q FD body c T):X.env.qual++("<lambda>":C7)=q:=by have{m,h1,h2}:=n.qual;rw[h1];exact h2
theorem yA5(hp:WR (A9 X.prog X.w) X.A X.env X.xe)(hc:X.calm=AQ)(hm:X.mg "sorted"=AL)(hl:VE X l gl)(n:LamOk X scope cl x CL js q FD body c T) (hb:∀f c' s H,VE (jK X X.A.in1.in1 q scope cl (x::CL) f (.ref c') s H) body ge) (hgt:VG X tg t) (hbd:eJ X bd g) (hg:Gl X "sorted":=by rfl) (he:EW pos (AW [l] X.env)=(AE,eval l X.env)::EW pos (AW [] X.env):=by rfl) (LS:(EW pos (AW [l] X.env)).any (·.1)=AE:=by rfl) (RU:AW [l] X.env=(AE,eval l X.env)::AW [] X.env:=by rfl) (hs:∀x,DK (.Call (.Name "sorted" p1) [l] [{AA "key",.Lambda FD body scope bP,eY}] pos) X.env x=pure x:=by intro _;rfl) : VS X (.For tg (.Call (.Name "sorted" p1) [l] [{AA "key",.Lambda FD body scope bP,eY}] pos) bd [] spos) (zW gl js ge t g ks) :=(Ae hp hc (Ti (zW1 hm hl n.nm n.room n.code n.hd n.tb n.qu n.dflt n.bind hb hg he LS RU)) hgt hbd hs).imp λD' σ H h=>by
  have{τ,F,E,r,S,hg,k}:=h;obtain⟨⟨⟨ys,kz⟩,E2⟩,e1,hg⟩:=pA3 hg;have{E1,ds,a1,a2,a3,a4,rfl}:=zTW e1;split at hg
  .rename_i hr;cases hg;refine zW3 {τ,F,E,ys,E1,ds,kz,S,a1,a2,a3,a4,λqs hq a F' H' st S' n1 n2 ow no=>?_};have{vs,ha,rv}:=ow;have gr:Gr F' (DZ F' a (.lst vs)):=Gr.new n1;have S2:Sim X.K X.H₀ τ (DZ F' a (.lst vs)) H' σ (shareJ js E1):=by
    refine{λb u e=>?_,S'.len,λi d e=>?_,λi t d e=>?_,S'.inj}
    .by_cases hb:b=a
     .subst hb;rw[GO] at e;rw[ha];exact e
     .rw[EH hb] at e;exact S'.sub b u e
    .have{v,h1,h2}:=S'.val i d e;exact{v,h1,h2.le (.of_gr gr)}
    .have{b,h1,h2,h3,h4}:=S'.own i t d e;refine{b,h1,?_,h3.mono (.of_gr gr) rfl,h4};rw[EH (λz=>no {i,t,d,e,by rw[<-z];exact h1})];exact h2
   have st2:Stp (EJ σ E) F H (DZ F' a (.lst vs)) H' (EJ σ (shareJ js E1)):={st.keep,st.dom,st.le.trans (.of_gr gr),λb u e=>by
    by_cases hb:b=a
    .subst hb;exact .inr (.inl (.none n2))
    .rw[EH hb] at e;exact st.new b u e,st.own}
   have{E',p5,hh}:=hr.choose_spec qs hq;rw[<-hh] at k;have k':FlOk X.K X.H₀ τ (EJ σ E) F H D' (.nx E'):=λσ' F' H' st S=>k σ' F' H' (st.weak (S.hush ks).2) (S.hush ks).1;exact{a,rfl,{vs,.inl (.inl ha)},yFG k' st2 S2 (Wx (.inl (.inl GO)) (rv.le (.of_gr gr))) p5}
  .cases hg
end
theorem Ve{α:Type}:∀l:List α,(DM l.length).filterMap (λi=>l[i]?)=l
 |[]=>rfl
 |a::l=>by rw[A8,List.range_succ_eq_map,G1];simp only[List.getElem?_cons_zero,QF];congr 1;exact Ve l
theorem zK0(CW:List AI):c9 CW.toArray AL AL (AA (-1))=CW.reverse.toArray:=by
 have h:=picked_rev CW.length;unfold c9;have e:sliceRange (G0 AL AL (AA (-1)) CW.toArray.size).1 (G0 AL AL (AA (-1)) CW.toArray.size).2.1 (G0 AL AL (AA (-1)) CW.toArray.size).2.2=(DM CW.length).map λk=>CW.length-1-k:=by rw[<-h];simp[G0,Builtin.Str.strSliceIndices]
 rw[e];congr 1;rw[QF];have g:∀ks:List Nat,(∀k∈ks,k<CW.length)->ks.filterMap ((λi=>CW.toArray[i]?)∘λk=>CW.length-1-k)=ks.filterMap λi=>CW.reverse[i]?:=by
  intro ks;induction ks with
  |nil=>intro _;rfl
  |cons k ks ih =>
   intro hk;have e:((λi=>CW.toArray[i]?)∘λk=>CW.length-1-k) k=CW.reverse[k]?:=by show CW.toArray[CW.length-1-k]?=CW.reverse[k]?;rw[List.getElem?_reverse (hk k (.head _)),Z7]
   rw[G1,G1,e,ih λk aU=>hk k (.tail _ aU)]
 refine(g _ λk hk=>G6.mp hk).trans ?_;have:=Ve CW.reverse;rw[O6] at this;exact this
section
variable{e st:EU}
def yH0(K:AC)(te ts:TE):TE:=λσ H Q=>te σ H λx H1=>ts σ H1 λy H2=>y=.int (-1)/\∃a xs,x=.ref a/\SqL K H2 a xs/\∀p,H2 p=AL->Q (.ref p) (DZ H2 p (.lst xs.reverse))
theorem yA6(he:PE X e te)(hs:PE X st ts):PE X (.Subscript e (.Slice AL AL (AA st) p2) pos) (yH0 X.K te ts):=by intro AJ s σ H Q I h;refine Subscript_ (HE (he AJ s σ H _ I h) λv s1 ⟨x,H1,I1,r1,q1⟩=>?_);refine wpAny_Slice ?_;rw[b9];refine wpAny_pure (wpAny_pure ?_);rw[evalPart_some];refine HE (hs AJ s1 σ H1 _ I1 q1) λu s3 q0=>?_;have{y,H3,I3,r3,q3}:=q0;have{rfl,a,xs,rfl,hx,q}:=q3;have{t,rfl}:=r3;cases r1;have I4:Inv X AJ σ H3 { s3 with heap:=s3.heap.push { cls:=.type "slice",data:=.fields #[.none,.none,.int (-1) t] } }:=I3.kept λb ob q=>AF _ q;have{CW,r,ht,hz}:=I4.list hx;have EV:=r.length;refine k5 ht.isList.typeIs UQ.lookup ?_ (by with_unfolding_all rfl);refine bX ht.isList (UA ..) .none .none (.int (-1) t) 'S' ?_ (by rw[BA]<;>lia);rw[zK0];refine{.ref (s3.heap.push { cls:=.type "slice",data:=.fields #[.none,.none,.int (-1) t] }).objs.size,_,I4.laid (λb ob q=>AF _ q) (AM _) ?_,rfl,q _ (I4.hok.fresh (AM _))};refine{by rw[O6];exact hz,CW.reverse,0,?_,AT _ rfl};exact Vals.reverse r
end
def Jn(ge gs:G):G:=λE=>(ge E).bind λp=>(gs p.2).bind λq=>match p.1 with
 |.lst xs=>if q.1 matches .int (-1) then .ok (.lst xs.reverse,q.2) else .bad
 |_=>.bad
section
variable{e st:EU}
theorem yH2(he:VE X e ge)(hs:VE X st gs):FE X (.Subscript e (.Slice AL AL (AA st) p2) pos) (Jn ge gs):=(yA6 he hs).imp λσ H Q h=>by
 have{τ,F,E,d,E',S,hg,k}:=h;have{p,e1,hg}:=pA3 hg;have{q,e2,hg}:=pA3 hg;refine{τ,F,E,p.1,p.2,S,e1,λv F1 H1 st1 S1 r1=>{τ,F1,p.2,q.1,q.2,S1,e2,λu F2 H2 st2 S2 r2=>?_}};have{pd,pE}:=p;have{qd,qE}:=q;cases pd with
 |lst xs =>
  dsimp only at hg r2 r1;split at hg
  .cases hg;obtain rfl:=r2.vI;cases r1 with
   |@lst a vs _ sq rs =>
   refine{rfl,a,vs,rfl,(sq.imp (λz=>st2.le.rd z) id).imp S2.sub.rd id,λD hD=>?_};have n5:New F2 H2 F2 (DZ H2 D (.lst vs.reverse)):=pA6 S2.sub (Gr.new hD);have hF:F2 D=AL:=by
    cases e:F2 D with
    |none=>rfl
    |some u=>rw[S2.sub _ _ e] at hD;cases hD
   exact k D F2 _ ((st1.trans st2).trans n5.stp) (S2.new n5) hF ((st1.trans st2).dom D hD) {_,GO,(rs.le st2.le).reverse} (S2.fresh hD)
  .cases hg
 |_=>cases hg
end
theorem yH3(hr:Room 3 X.A) (h:(jK X X.A.in1.in1 q scope cl nm f cd s H).A.units+64<GD->VE (jK X X.A.in1.in1 q scope cl nm f cd s H) e g):VE (jK X X.A.in1.in1 q scope cl nm f cd s H) e g :=h (hr.in1.in1.deeper _).units
section
variable{K:AC}
theorem tabIn_of(a:EB K C3 x=AA (AA (.ref f)))(l:K.lookup f=AA {oc,od,.func fd,sl})(hc:fd.code=.ref c)(m:K.lookup c=AA {oc',od',.fields vs,sl'})(hv:vs[11]?=AA (.ref T)):ET K x=AA (c,T):=by unfold ET;rw[a];simp only[l,hc,m,hv]
theorem zW5(a:EB K C3 x=AA AL):ET K x=AL:=by unfold ET;rw[a]
inductive TabE(K:AC)(q:CA)(x:C7):Option AV->Prop
 |no:EB K C3 x=AA AL->TabE K q x AL
 |tab {c T:AV} {d:DefRec}:ET K x=AA (c,T)->K.lookup T=AL->(recsOf q).find? (λe=>e.name==x)=AA d->TabE K q x (AA T)
theorem Tabs.of{ts:List (C7×Option AV)}(h:∀p∈ts,TabE K q p.1 p.2)(hn:ts.map (·.1)=j4)(ap:ts.Pairwise λa b=>a.2=AL\/a.2≠b.2):Tabs K q:=by
 have g:∀{x:C7} {t:Option AV},TabE K q x t->∀c T,ET K x=AA (c,T)->t=AA T/\K.lookup T=AL/\∃d,(recsOf q).find? (λe=>e.name==x)=AA d:=λ{x t} h c T e=>by
  cases h with
  |no z=>rw[zW5 z] at e;cases e
  |tab z1 z2 z3=>rw[z1] at e;cases e;exact{rfl,z2,_,z3}
 have all:∀x∈j4,∃t,(x,t)∈ts:=λx hx=>by rw[<-hn] at hx;have{p,hp,rfl}:=BY.mp hx;exact{_,hp}
 refine{λx hx c T e=>let ⟨t,z⟩:=all x hx;(g (h _ z) c T e).2.2,λx hx c T e=>let ⟨t,z⟩:=all x hx;(g (h _ z) c T e).2.1,λx hx y hy c c' T e e'=>?_};have{t,z}:=all x hx;have{u,z'}:=all y hy;have a:=(g (h _ z) c T e).1;have b:=(g (h _ z') c' T e').1;subst a b;clear g all hn hx hy h e e';induction ts with
 |nil=>cases z
 |cons p r ih =>
  have{a1,a2}:=LY.mp ap;rcases A3.mp z with e|z1<;>rcases A3.mp z' with e'|z2
  .rw[<-e] at e';cases e';rfl
  .subst e;rcases a1 _ z2 with w|w
   .cases w
   .exact absurd rfl w
  .subst e';rcases a1 _ z1 with w|w
   .cases w
   .exact absurd rfl w
  .exact ih a2 z1 z2
theorem tabs5{t1 t2 t3 t4 t5:Option AV}(h1:TabE K q "holders" t1)(h2:TabE K q "_law_table" t2)(h3:TabE K q "_law_back" t3)(h4:TabE K q "_law_kept_right" t4)(h5:TabE K q "law" t5) (ap:[t1,t2,t3,t4,t5].Pairwise λa b=>a=AL\/a≠b):Tabs K q :=Tabs.of (ts:=[("holders",t1),("_law_table",t2),("_law_back",t3),("_law_kept_right",t4),("law",t5)]) (λp hp=>by
  simp only[A3,A7,or_false] at hp;rcases hp with rfl|rfl|rfl|rfl|rfl
  .exact h1
  .exact h2
  .exact h3
  .exact h4
  .exact h5) rfl (DE (R:=λa b=>a=AL\/a≠b) |>.mp ap)
end
end _L
namespace HT
open PySem PySem.Spec PyProof.Rows
end HT
namespace _L
open PySem PySem.Spec PyProof.Rows
end _L
namespace HT
open PySem PySem.Spec PyProof.Rows
section
open PySem.SeqAt
open PySem.AutoSeq1 (wpAny_loadPart')
open PySem.MeetsSeq PySem.MeetsSeq2 PySem.MeetsSeq3
end
end HT
namespace _L
open PySem PySem.Spec PyProof.Rows
theorem Hf:∀(ns:List Int) (n:Int),ns.foldl min n∈n::ns/\∀x∈n::ns,ns.foldl min n<=x
 |[],n=>{AZ,λx hx=>by rw[AS.mp hx];exact T9 _}
 |m::ns,n=>by
  have{h1,h2}:=Hf ns (min n m);rw[N4];have h3:=h2 _ AZ;refine{?_,λx hx=>?_}
  .rcases A3.mp h1 with e|h
   .rw[e];rcases aA n m with z|z
    .rw[Int.min_eq_left z];exact AZ
    .rw[Int.min_eq_right z];exact A2 _ AZ
   .exact A2 _ (A2 _ h)
  .rcases A3.mp hx with e|hx
   .rw[e];lia
   .rcases A3.mp hx with e|hx
    .rw[e];lia
    .exact h2 x (A2 _ hx)
section
variable{K:AC}{a b e st:EU}
theorem Sh(r:Reps K F vs [d]):∃v,vs=[v]/\Rep K F v d:=by
 cases r with
 |cons r rr=>cases rr;exact{_,rfl,r}
end
section
variable{K:AC}
def yK8(ds xs:List D):Out (D×List D):=match xs with
 |[.int 0,d]=>T4 ds.length (.ok (.non,d::ds))
 |_=>.bad
end
end _L
namespace _L
open PySem
def sB:List D->Out D
 |[.lst ds]=>match QH ds with
  |some (n::ns)=>.ok (.int (ns.foldl min n))
  |_=>.bad
 |_=>.bad
theorem yA7:nQ K (λxs H Q=>∃(l:AV) (ns:List Int),xs=[.ref l]/\SqL K H l (ns.map V.int)/\ns≠[]/\∀m,m∈ns->(∀x∈ns,m<=x)->Q (.int m) H) sB:=λvs xs F H d Q s r hf k=>by
 unfold sB at hf;split at hf
 .split at hf
  .rename_i n ns e;cases hf;have{v,rfl,r1}:=Sh r;have{a,ys,rfl,h1,h2}:=r1.isRefL;have:=oM e;subst this;have:=h2.vint;subst this;refine{a,_,rfl,h1.imp s.rd id,by simp,λm hm hl=>?_};have{f1,f2}:=Hf ns n;rw[nM (hl _ f1) (f2 m hm)];exact k _ F H (.refl s) (.int _)
  .cases hf
 .cases hf
theorem yFH(hc:X.calm=AQ)(hm:X.mg "min"=AL)(ha:VA X (e::es) gss)(hg:Gl X "min":=by rfl)(he:AW (e::es) X.env=(AE,eval e X.env)::AW es X.env:=by rfl)(LS:(EW pos (AW es X.env)).any (·.1)=AE:=by rfl) : VE X (.Call (.Name "min" p) (e::es) [] pos) (gN sB gss):=Jz (zSU hc) yA7 hm (by decide +kernel) ha hg 'D' 'D' he LS
end _L
namespace _L
open PySem PySem.Spec PyProof.Rows
section
variable{E:AI->AN->Prop}
theorem RawD.at'(r:RawD h d es ep)(k:∀o,h.get? d=AA o->h'.get? d=AA o):RawD h' d es ep:=let ⟨o,a,b,c⟩:=r.ex;{{o,k o a,b,c},r.ns}
theorem RawD.lt(r:RawD h d es ep):d<h.objs.size:=let ⟨_,a,_⟩:=r.ex;BB a
theorem zTY{Q:AI->AN->Prop}(r:RawD s.heap d es ep) (h:Q (.ref s.heap.objs.size) { s with heap:=s.heap.push { cls:=.type "dict_keyiterator",data:=.fields #[.ref d,.int 0 0,.int es.size 0,.int ep 0] } }):BE (A9 prog w) A (NY (.ref d)) Q E s:=by have{o,ho,hc,hd}:=r.ex;refine KH r.ty F.slot_dict_iter (CG F.slot_dict_iter r.ty F.entry_dict_iter ?_ (F.args_dict_iter_1 _));refine AB (AB (P1 r.ty (wpAny_pure ?_)));show BE _ _ ((if _ then _ else _) >>= _) _ _ s;rw[if_neg (by rw[r.ns];exact BH)];refine AB (wpAny_pure (AB (IM ho hd (AB (O4 ho hd ?_)))));exact AB (C9 (wpAny_pure {_,rfl,"dict_keyiterator",_,{_,AT _ rfl,rfl},F.slot_dict_keyiterator_next.lookup,h}))
theorem zTZ(hh:A.handled=AL)(I:AV)(SK:d≠I):PySem.Walks prog w A I [I,d] [I] es.size (λi v=>∃hi:i<es.size,v=es[i].key) (λi h=>h.IsKeyIter I d i es.size ep/\RawD h d es ep) where
 sub:=λb hb=>by simp at hb;simp[hb]
 frame:=λ_ _ _ st hk=>{st.1.at λo e=>hk I 'S' o e,st.2.at' λo e=>hk d 'S' o e}
 item:=λi s Q E hi st hQ=>Gx st.1 st.2 hi λh' pN PR=>hQ _ h' s.toks {hi,rfl} {pN,st.2.at' λo e=>PR.extBut d o SK e} λb o hb e=>PR.extBut b o (λh=>hb (by simp[h])) e
 done:=λs Q E st hQ=>Gf hh st.1 st.2 (AM _) λh' yO=>hQ h' s.toks λb o hb e=>yO b o (λh=>hb (by simp[h])) e
 self:=λ_ _ _ _ st hQ=>QR st.1 hQ
theorem yA8:PySem.W.KdlSrc prog w "dict" d d es.size (λi v=>∃hi:i<es.size,v=es[i].key) (λh=>RawD h d es ep) where
 type:=λ_ r=>r.ty
 there:=λ_ r=>{r.lt,r.lt}
 keep:=λ_ _ r hk=>r.at' λo e=>hk d (.inl rfl) o e
 notList:=by decide
 notTuple:=by decide
 hint:=λ_ _ _ _ r hq=>PySem.W.kdl_hint_dict r.ty hq
 iter:=λ_ _ hh r=>{_,_,(λ_ _ hq=>zTY r hq),zTZ hh _ (CC r.lt),{{_,AT _ rfl,rfl,rfl},r.at' λo e=>AF _ e}}
end
def pk2(p:Int×Int):List Key:=[C1 p.1,C1 p.2]
theorem Vd:∀(l:List RK) (ps:List (Int×Int)),l.length=ps.length->(∀(i:Nat) (e:RK) (q:Int×Int),l[i]?=AA e->ps[i]?=AA q->∃p,e.key=.ref p/\H p=AA (.tup [.int q.1,.int q.2]))->∃ys,Vals ys (l.map (·.key))/\Prs H ys ps
 |[],[],_,_=>{[],.nil,.nil}
 |e::l,q::ps,hl,h=>by have{ys,h1,h2}:=Vd l ps (DC hl) λi e q a b=>h (i+1) e q a b;have{p,e1,e2}:=h 0 e q rfl rfl;exact{.ref p::ys,.cons e1 h1,.cons {p,rfl,e2} h2}
 |[],_::_,hl,_=>by cases hl
 |_::_,[],hl,_=>by cases hl
noncomputable def toPr2:List (List Int)->Option (List (Int×Int))
 |[]=>AA []
 |[a,b]::r=>(toPr2 r).map ((a,b)::·)
 |_=>AL
theorem Vc:∀{ks:List (List Int)} {ps:List (Int×Int)},toPr2 ks=AA ps->ks=ps.map λp=>[p.1,p.2]
 |[],ps,h=>by cases h;rfl
 |k::ks,ps,h=>by
  rw[toPr2.eq_def] at h;split at h
  .rename_i e;cases e
  .rename_i a b r e;cases e;have{qs,h1,rfl}:=BU.mp h;rw[Vc h1];rfl
  .cases h
theorem zT0(ps:List (Int×Int)):toPr2 (ps.map λp=>[p.1,p.2])=AA ps:=by
 induction ps with
 |nil=>rfl
 |cons p ps ih=>rw[AU,toPr2,ih];rfl
theorem RepT.keys{K:AC}:∀{vs:List (List Key×V)} {ds:List (List Int×D)},RepT K F vs ds->vs.map (·.1)=(ds.map (·.1)).map λk=>k.map C1
 |_,_,.nil=>rfl
 |_,_,.cons _ r=>by rw[AU,AU,AU,RepT.keys r]
noncomputable def oW(F H:Hp):Hp:=λa=>match H a with
 |some (.tup xs)=>AA (.tup xs)
 |_=>F a
theorem uN(h:H a=AA (.tup xs)):oW F H a=AA (.tup xs):=by unfold oW;rw[h]
theorem Ad(h:∀xs,H a≠AA (.tup xs)):oW F H a=F a:=by
 unfold oW;split
 .rename_i xs e;exact absurd e (h xs)
 .rfl
theorem New.tups(s:Sub F H):New F H (oW F H) H:=by
 have tup:∀a,(∃xs,H a=AA (.tup xs))\/∀xs,H a≠AA (.tup xs):=λa=>by
  by_cases h:∃xs,H a=AA (.tup xs)
  .exact .inl h
  .exact .inr λxs e=>h {xs,e}
 refine{{λa o e _ _ _=>e,λa e=>e,.of_gr λa u e=>?_,λa o e=>?_,λ_ z=>z.elim},λa u e=>?_}
 .rcases tup a with⟨xs,h⟩|h
  .rw[uN h,<-h];exact s a u e
  .rw[Ad h];exact e
 .rcases tup a with⟨xs,h⟩|h
  .exact .inr (.inl λo' e' z=>by rw[h] at e';cases e';exact z)
  .rw[Ad h] at e;exact .inl (by rw[e];exact nofun)
 .rcases tup a with⟨xs,h⟩|h
  .rw[uN h] at e;rw[h];exact e
  .rw[Ad h] at e;exact s a u e
theorem yBA{K:AC}(h:Prs H zs qs):Reps K (oW F H) zs (qs.map E8):=by
 induction h with
 |nil=>exact .nil
 |cons h _ ih=>have{q,rfl,e}:=h;exact .cons (.tup (uN e) (.cons (.int _) (.cons (.int _) .nil))) ih
end _L
namespace _L
open PySem
theorem HW{α β:Type}{x:Out α}{a:α}{f:α->Out β}{r:Out β}(h:x=.ok a)(h2:f a=r):x.bind f=r:=by rw[h];exact h2
theorem GN(h:g E=.ok (.nx E1))(h2:g' E1=r):FX g g' E=r:=by unfold FX;rw[h];exact h2
theorem uM(h:g E=.ok (.rt b d E1)):FX g g' E=.ok (.rt b d E1):=by unfold FX;rw[h];rfl
theorem dN(h:t E=.ok (AQ,E1))(h2:g E1=r):NR t g g' E=r:=by unfold NR;rw[h];exact h2
theorem SY(h:t E=.ok (AE,E1))(h2:g' E1=r):NR t g g' E=r:=by unfold NR;rw[h];exact h2
theorem He(P:Nat->Ev->Prop):∀{ds:List D} {E:Ev} (o:Nat),P o E ->(∀i d E,ds[i]?=AA d->P (o+i) E->∃E1,YQ t d E=.ok E1/\∃E2,g E1=.ok (.nx E2)/\P (o+(i+1)) E2)->∃E',VR t g ds E=.ok (.nx E')/\P (o+ds.length) E'
 |[],E,o,h0,_=>{E,rfl,h0}
 |d::ds,E,o,h0,hs=>by
  have{E1,e1,E2,e2,p2}:=hs 0 d E rfl h0;have{E',e',p'}:=He P (o+1) p2 λi d' E3 hd hp=>by have:=hs (i+1) d' E3 (by simpa using hd) (by rw[show o+(i+1)=o+1+i by lia];exact hp);rw[show o+(i+1+1)=o+1+(i+1) by lia] at this;exact this
  refine{E',?_,?_}
  .unfold VR;rw[e1];simp only[Out.bind];rw[e2];exact e'
  .rw[A8,show o+(ds.length+1)=o+1+ds.length by lia];exact p'
theorem iB(P:Nat->Ev->Prop)(hi:gi E=.ok (ds,E1))(h0:P 0 E1) (hs:∀i d E,ds[i]?=AA d->P i E->∃E1,YQ t d E=.ok E1/\∃E2,g E1=.ok (.nx E2)/\P (i+1) E2):∃E',RO gi t g E=.ok (.nx E')/\P ds.length E':=by have{E',e,p}:=He P 0 h0 (λi d E hd hp=>by rw[FB] at hp ⊢;exact hs i d E hd hp);refine{E',?_,by simpa using p};unfold RO;rw[hi];exact e
theorem uL(P:Nat->Ev->Prop)(Q:Ev->Prop) (hs:∀n E,P n E->(∃E1,t E=.ok (AE,E1)/\Q E1)\/(∃E1 E2 m,t E=.ok (AQ,E1)/\g E1=.ok (.nx E2)/\m<n/\P m E2)) : ∀(fuel n:Nat) (E:Ev),n<fuel->P n E->∃E',ZA t g fuel E=.ok (.nx E')/\Q E'
 |0,n,E,hn,_=>by lia
 |fuel+1,n,E,hn,h=>by
  rcases hs n E h with⟨E1,e1,q⟩|⟨E1,E2,m,e1,e2,hm,p⟩
  .refine{E1,?_,q};unfold ZA;rw[e1];rfl
  .have{E',e',q}:=uL P Q hs fuel m E2 (AO hm (ID hn)) p;refine{E',?_,q};unfold ZA;rw[e1];simp only[Out.bind,if_true];rw[e2];exact e'
theorem dR{n:Nat}{α:Type}{x:Out α}(h:n<10000):T4 n x=x:=if_pos h
theorem yFI(f:D->List D)(M:Nat)(P:Ev->Prop):∀{ds B0:List D} {E:Ev},P E->B0.length+ds.length * M<10000->(∀d∈ds,(f d).length<=M) ->(∀d∈ds,∀(B0:List D) (E:Ev),B0.length+M<10000->P E->∃E1,YQ t d E=.ok E1/\∃b E2,tt E1=.ok (b,E2)/\((b=AQ/\∃E3,gm (.lst B0) E2=.ok (.lst (B0++f d),E3)/\P E3)\/(b=AE/\f d=[]/\P E2))) ->∃E',aD t tt gm ds (.lst B0) E=.ok (.lst (B0++ds.flatMap f),E')/\P E':= by
 intro ds;induction ds with
 |nil=>intro B0 E h0 _ _ _;exact{E,by simp[aD],h0}
 |cons d ds ih =>
  intro B0 E h0 hl hM hs;rw[A8,Nat.succ_mul] at hl;have{E1,e1,b,E2,e2,h}:=hs d AZ B0 E 'L' h0;have hd:=hM d AZ;rcases h with⟨rfl,E3,e3,p⟩|⟨rfl,ef,p⟩
  .have{E',e',p'}:=ih (B0:=B0++f d) p (by rw[BG];lia) (λd hd=>hM d (A2 _ hd)) λd hd=>hs d (A2 _ hd);refine{E',?_,p'};unfold aD;rw[e1];simp only[Out.bind];rw[e2];simp only[if_true];rw[e3];simp only;rw[e',DW,C0]
  .have{E',e',p'}:=ih (B0:=B0) p 'L' (λd hd=>hM d (A2 _ hd)) λd hd=>hs d (A2 _ hd);refine{E',?_,p'};unfold aD;rw[e1];simp only[Out.bind];rw[e2];simp only[if_false,L1];rw[e',DW,ef,GJ]
theorem yBB{ge:G}{B0:List D}{E E':Ev}{x:D}(h:ge E=.ok (x,E'))(hl:B0.length<10000):Kd ge (.lst B0) E=.ok (.lst (B0++[x]),E'):=HW h (dR hl)
theorem zW6(f:D->List D)(M:Nat)(P:Ev->Prop)(hi:gi E=.ok (ds,E1))(h0:P (VQ k js E1))(hl:ds.length * M<10000)(hM:∀d∈ds,(f d).length<=M) (hs:∀d∈ds,∀(B0:List D) (E:Ev),B0.length+M<10000->P E->∃E1,YQ t d E=.ok E1/\∃b E2,tt E1=.ok (b,E2)/\((b=AQ/\∃E3,gm (.lst B0) E2=.ok (.lst (B0++f d),E3)/\P E3)\/(b=AE/\f d=[]/\P E2))) (hb:∀Ec,P Ec->V3 E1 Ec k js=E1):n6 gi k js (.lst []) t tt gm E=.ok (.lst (ds.flatMap f),E1):=by have{E',e',p'}:=yFI f M P (B0:=[]) h0 (by simpa using hl) hM hs;unfold n6;rw[hi];simp only[Out.bind];rw[e'];simp only[GJ];rw[hb _ p']
theorem iA(f:D->List D)(P:Ev->Prop)(hi:gi E=.ok (ds,E1))(h0:P (VQ k js E1))(hl:ds.length<10000) (hs:∀d∈ds,∀E,P E->∃E1,YQ t d E=.ok E1/\∃b E2,tt E1=.ok (b,E2)/\((b=AQ/\∃x E3,ge E2=.ok (x,E3)/\f d=[x]/\P E3)\/(b=AE/\f d=[]/\P E2))) (hb:∀Ec,P Ec->V3 E1 Ec k js=E1):OE gi k js t tt ge E=.ok (.lst (ds.flatMap f),E1):=by
 by_cases hP:∀d∈ds,∃E,P E
 .refine zW6 f 1 P hi h0 'L' (λd hd=>?_) (λd hd B0 E fS hE=>?_) hb
  .have{E,hE}:=hP d hd;obtain⟨_,_,_,_,_,⟨_,x,_,_,ef,_⟩|⟨_,ef,_⟩⟩:=hs d hd E hE
   .rw[ef];exact AM _
   .rw[ef];exact BN _
  .obtain⟨E1,e1,b,E2,e2,⟨hb,x,E3,e3,ef,p⟩|h⟩:=hs d hd E hE
   .exact{E1,e1,b,E2,e2,.inl {hb,E3,by rw[ef];exact yBB e3 (AR (A5 _ _) fS),p}}
   .exact{E1,e1,b,E2,e2,.inr h}
 .exact absurd (λd hd=>{_,h0}) hP
def Pl(n:Nat)(d:D):Prop:=∃p,d.py=AA p/\p.depth<=n/\p.canLay0=AQ
def Pls(n:Nat)(ds:List D):Prop:=∃ps,pAI ds=AA ps/\I0 ps<=n/\GF ps=AQ
theorem Pl.int(n:Nat)(i:Int):Pl n (.int i):={_,rfl,BN _,rfl}
theorem Pl.bl(n:Nat)(i:Bool):Pl n (.bl i):={_,rfl,BN _,rfl}
theorem Pls.nil(n:Nat):Pls n []:={_,rfl,BN _,rfl}
theorem Pls.cons(h:Pl n d)(t:Pls n ds):Pls n (d::ds):=by have{p,e,a,b}:=h;have{ps,e2,a2,b2}:=t;exact{p::ps,by simp[pAI,e,e2],by simp only[I0];lia,by simp[GF,b,b2]}
theorem Pls.tup(t:Pls n ds):Pl (n+1) (.tup ds):=by have{ps,e2,a2,b2}:=t;exact{.tuple ps,by simp[D.py,e2],by simp only[GE];lia,b2}
theorem Pls.of{α:Type}{f:α->D}:∀{xs:List α},(∀x∈xs,Pl n (f x))->Pls n (xs.map f)
 |[],_=>.nil n
 |x::xs,h=>.cons (h x AZ) (Pls.of λy hy=>h y (A2 _ hy))
theorem Pls.ints(n:Nat)(ns:List Int):Pls n (ns.map D.int):=Pls.of λ_ _=>.int _ _
theorem Vb(h:Pl 60 d):NI d d=.ok (.bl AE):=by have{p,e,a,b}:=h;unfold NI;simp only[e];rw[if_pos (A0 (UV _ _) a),SeqAt.eqv_refl p b];rfl
theorem Au(a b:Int):RP (.int a) (.int b)=.ok (.bl (decide (a=b))):=by simp only[RP,D.py,GE,DD];by_cases h:a=b<;>simp[h]
theorem At(a b:Int):NI (.int a) (.int b)=.ok (.bl (decide (a≠b))):=by simp only[NI,D.py,GE,DD];by_cases h:a=b<;>simp[h]
theorem yBC(h:Pls n ds):NI (.lst ds) (.lst [])=.ok (.bl (!ds.isEmpty)):=by
 have{ps,e2,a2,b2}:=h;have e0:pAI []=AA []:=by simp[pAI]
 unfold NI;simp only[D.py,e2,e0,a7];rw[if_pos (by simp only[GE,I0];lia),DD];cases ds with
 |nil=>rw[e0] at e2;cases e2;rfl
 |cons d ds =>
  cases ps with
  |nil=>simp only[pAI] at e2;split at e2<;>simp at e2
  |cons p ps=>rfl
theorem Hd:∀ns:List Int,pAI (ns.map D.int)=AA (ns.map O5)
 |[]=>by simp[pAI]
 |n::ns=>by simp[pAI,D.py,Hd ns]
theorem yBD(x:Int)(ns:List Int):MM (.int x) (.lst (ns.map D.int))=.ok (.bl (decide (x∈ns))):=by simp only[MM,Hd,D.py];rw[if_pos (show GE (.int x)<=60 from BN _),Gw]
theorem rH(x:Int)(ns:List Int):MM (.int x) (.tup (ns.map D.int))=.ok (.bl (decide (x∈ns))):=by simp only[MM,Hd,D.py];rw[if_pos (show GE (.int x)<=60 from BN _),Gw]
theorem zRA(ns:List Int):bI [.lst (ns.map D.int)]=.ok (.lst ((lL ns).map D.int)):=by simp[bI,Bn]
theorem Bp(ps:List (Int×Int)):bI [.lst (ps.map E8)]=.ok (.lst ((NG ps).map E8)):=by
 cases ps with
 |nil=>simp[bI,QH,lL,NG]
 |cons p ps=>have:=Bq (p::ps);simp only[bI];rw[this,show QH ((p::ps).map E8)=AL from rfl]
theorem qW(h0:0<=i)(h:xs[i.toNat]?=AA x):atI xs i=AA x:=by have:=To h;rwa [show(i.toNat:Int)=i by lia] at this
theorem Ez{n:Nat}{i:Int}(h0:0<=i)(h:i<n):WY n i=AA i.toNat:=by unfold WY;rw[if_pos h0,if_pos h]
section
variable{κ:Type}[DecidableEq κ]
theorem Va(kvs:List (κ×D))(k:κ)(v:D):(UD kvs k v).length<=kvs.length+1:=by
 unfold UD;split
 .simp
 .simp
end
theorem LO(h1:Q2 gs E=.ok (ds,E'))(h2:m (ds.map Sl.val)=.ok (b,d,d')):HD m gs E=.ok (d,E'):=HW h1 (HW h2 rfl)
theorem zW7:Q2 [] E=.ok ([],E):=rfl
theorem NA(h1:g E=.ok (d,E1))(h2:Q2 gs E1=.ok (ds,E2)):Q2 (g::gs) E=.ok (d::ds,E2):=HW h1 (HW h2 rfl)
theorem JA(h1:g E=.ok (d,E1)):Q2 [g] E=.ok ([d],E1):=NA h1 zW7
theorem NS(h1:Q2 gs E=.ok (ds,E'))(h2:f ds=.ok d):gN f gs E=.ok (d,E'):=HW h1 (HW h2 rfl)
theorem jT{gs:List G}{E E':Ev}{ds:List D}(h1:Q2 gs E=.ok (ds,E'))(h2:ds.length<10000):IW gs E=.ok (.tup ds,E'):=HW h1 (dR h2)
theorem lU{gs:List G}{E E':Ev}{ds:List D}(h1:Q2 gs E=.ok (ds,E'))(h2:ds.length<10000):OD gs E=.ok (.lst ds,E'):=HW h1 (dR h2)
theorem OR(h:g E=.ok (d,E')):L3 g E=.ok (.rt AE d E'):=HW h rfl
theorem Ss(h:g E=.ok (d,E')):zU g E=.ok (.rt AQ d E'):=HW h rfl
theorem LL(h:g E=.ok (d,E'))(h2:YQ t d E'=.ok E2):HM t g E=.ok (.nx E2):=HW h (HW h2 rfl)
theorem jX(h:g E=.ok (d,E')):aF i g E=.ok (.nx (E'.set i (.own AE d))):=HW h rfl
theorem As(h:g E=.ok (d,E')):g9 g E=.ok (.nx E'):=HW h rfl
theorem FC(h1:ga E=.ok (x,E1))(h2:gb E1=.ok (y,E2))(h3:f x y=.ok d):g2 f ga gb E=.ok (d,E2):=HW h1 (HW h2 (HW h3 rfl))
theorem NL(h:g E=.ok (.bl b,E')):gB g E=.ok (b,E'):=HW h rfl
theorem uC(h:g E=.ok (d,E'))(h2:Yp d=.ok b):bG g E=.ok (b,E'):=HW h (HW h2 rfl)
theorem Fq(h:t E=.ok (b,E')):hG t E=.ok (!b,E'):=HW h rfl
theorem yH4(h:t E=.ok (AE,E'))(h2:u E'=r):Cf t u E=r:=HW h h2
theorem oD(h:t E=.ok (AQ,E'))(h2:u E'=r):cM t u E=r:=HW h h2
theorem uS(h:t E=.ok (AE,E')):cM t u E=.ok (AE,E'):=HW h rfl
theorem aI(h:g (P8 is E)=.ok (d,E'))(h2:jU is E d=AQ):O9 is g E=.ok (d,E):=HW h (if_pos h2)
theorem dW(h:g (P8 is E)=.ok (d,E')):YL is g E=.ok (d,E):=HW h rfl
theorem N6(h:gb (sl++BP (n-sl.length) .no)=.ok (.rt b d E'))(h2:fin sl E' b d=r):OC n gb sl=r:=HW h h2
theorem Fp(h:g E=.ok (.int j,E'))(h2:nZ j):jL g E=.ok (U5 0 j.toNat,E'):=HW h (if_pos h2)
theorem yBE(h:g E=.ok (.int i,E1))(h1:g' E1=.ok (.int j,E'))(h2:nZ i/\nZ j):t8 g g' E=.ok (U5 i (j-i).toNat,E'):=HW h (HW h1 (if_pos h2))
theorem uY(h:g E=.ok (.lst ds,E')):KN g E=.ok (ds,E'):=HW h rfl
theorem oH(h:g E=.ok (.tup ds,E')):KN g E=.ok (ds,E'):=HW h rfl
theorem j5(h0:E[i]?=AA (.own t2 d0))(h1:gv E=.ok (v,E1))(h2:gk E1=.ok (k,E2))(h3:E2[i]?=AA (.own t d))(h4:sC d k v=.ok d'):VU i gk gv E=.ok (.nx (E2.set i (.own t d'))):=by unfold VU;rw[h0];simp only;rw[h1];simp only[Out.bind];rw[h2];simp only[h3];rw[h4]
theorem Uz(h0:E[i]?=AA (.own t2 d0))(h1:Q2 gs E=.ok (ds,E1))(h2:E1[i]?=AA (.own t d))(h3:m (.own AQ d::ds.map Sl.val)=.ok (b,x,d')):LM m i gs E=.ok (x,E1.set i (.own t d')):=by unfold LM;rw[h0];simp only;rw[h1];simp only[Out.bind,h2];rw[h3]
theorem uX(h0:E[i]?=AA (.own t2 (.lst xs0)))(h1:Q2 gs E=.ok (ds,E1))(h2:E1[i]?=AA (.own t (.lst xs)))(h3:f xs ds=.ok (x,YT)):XM i f gs E=.ok (x,E1.set i (.own t (.lst YT))):=by unfold XM;rw[h0];simp only;rw[h1];simp only[Out.bind,h2];rw[h3]
theorem zW8(h0:gf E=.ok (d,E1))(h1:Q2 gs E1=.ok (ds,E2))(h3:m (.own AQ d::ds.map Sl.val)=.ok (b,x,d')):qY m gf gs E=.ok (x,E2):=HW h0 (HW h1 (HW h3 rfl))
theorem zW9(h1:Q2 gs E=.ok (ds,E'))(h2:m (ds.map Sl.val)=.ok (AQ,d,d')):qZ m gs E=.ok (d,E'):=HW h1 (HW h2 rfl)
theorem blF{p:Prop}[Decidable p](h:¬p):(Out.ok (D.bl (decide p)):Out D)=.ok (.bl AE):=by rw[decide_eq_false h]
theorem yH5(h:ds.length=n):OQ [.lst ds]=.ok (.int n):=by subst h;rfl
theorem Jx(h:ds.length=n):OQ [.tup ds]=.ok (.int n):=by subst h;rfl
theorem Jw{a b c:List D}(h:a.length+b.length<10000)(e:a++b=c):K2 (.lst a) (.lst b)=.ok (.lst c):=by subst e;exact dR h
theorem Qe{d:D}(h:o=AA d):(match o with|some d=>Out.ok d|none=>.bad)=.ok d:=by subst h;rfl
theorem sA(h:atI ds i=AA d):ER (.lst ds) (.int i)=.ok d:=Qe h
theorem Yo(h:atI ds i=AA d):ER (.tup ds) (.int i)=.ok d:=Qe h
theorem yBH{d:D}(h:o=AA (AA d)):(match o with|some (AA d)=>Out.ok d|_=>.bad)=.ok d:=by subst h;rfl
theorem yKV(h:UE kvs (.inl i)=AA d):ER (.dk kvs) (.int i)=.ok d:=yBH (congrArg AA h)
theorem Jv(h:WY ds.length i=AA j):sC (.lst ds) (.int i) v=.ok (.lst (ds.set j v)):=by show(match WY ds.length i with|some j=>Out.ok (D.lst (ds.set j v))|none=>.bad)=_;rw[h]
theorem Bm(x:Int)(ns:List Int):UG (.int x) (.tup (ns.map D.int))=.ok (.bl (decide (x∉ns))):=by rw[UG,rH];simp[Out.bind]
theorem Xp(p:Int->Bool)(h:∀x,f (.int x)=if p x=AQ then[g x] else[]):∀l:List Int,(l.map D.int).flatMap f=(l.filter p).map g
 |[]=>rfl
 |x::l=>by
  rw[AU,DW,Xp p h l,h x,D2];by_cases e:p x=AQ
  .rw[if_pos e,if_pos e];rfl
  .rw[if_neg e,if_neg e];rfl
end _L
namespace _L
open PySem PySem.Spec PyProof.Rows
section
variable{K:AC}{ow TF M:AV->Prop}
theorem Stp.fr(h:∀a,¬ow a)(x:Stp ow F H F1 H1 TF):Stp M F H F1 H1 M :={λa o e w n _=>x.keep a o e w n (h a),x.dom,x.le,λa o e=>(x.new a o e).imp_right λz=>z.imp_right λq=>(h a q).elim,λ_ q=>.inl q}
theorem Fo(e:DZ H a o b=AL):H b=AL:=by
 by_cases z:b=a
 .rw[z,GO] at e;cases e
 .rw[EH z] at e;exact e
theorem Stp.mine(h:M a):Stp M F H F (DZ H a o) M :={λb u e _ _ n=>by rw[EH (λz:b=a=>n (by rw[z];exact h))];exact e,λb e=>Fo e,.refl _,λb u e=>.inl (by rw[e];exact nofun),λ_ q=>.inl q}
theorem pAN{M':AV->Prop}(h:H p=AL)(hM:∀b,M' b->M b\/b=p):Stp M F H F (DZ H p o) M' :={λb u e _ _ _=>by rw[EH (SF e h)];exact e,λb e=>Fo e,.refl _,λb u e=>.inl (by rw[e];exact nofun),λb q=>(hM b q).imp id λz:b=p=>by rw[z];exact h}
theorem yFJ(s:Sub F H)(hl:E.length=σ.length)(hv:∀(i:Nat) d,E[i]?=AA (.val d)->∃v,σ[i]?=AA (AA v)/\Rep K F v d)(ho:∀(i:Nat) t d,E[i]?≠AA (.own t d)):Sim K H₀ τ F H σ E :={s,hl,hv,λi t d e=>absurd e (ho i t d),λi j t u d d' a e=>absurd e (ho i t d)}
def slO:Option D->Sl
 |none=>.no
 |some d=>.val d
noncomputable def XV(ρ:Int->AV)(l:List Int):List (Key×V):=l.map λp=>(C1 p,V.ref (ρ p))
structure Rws(F H:Hp)(a:AV)(ρ:Int->AV)(l:List Int)(g:Int->List Int):Prop where
 at':∀p∈l,H (ρ p)=AA (.lst ((g p).map V.int))/\F (ρ p)=AL/\ρ p≠a
 inj:∀p∈l,∀q∈l,ρ p=ρ q->p=q
theorem Be:∀{l:List Int},p∈l->Q1 (XV ρ l) (C1 p:Key)=AA (.ref (ρ p))
 |x::l,h=>by
  unfold Q1 XV;rw[AU,T8];by_cases e:x=p
  .subst e;simp
  .have:decide ((C1 x:Key)=C1 p)=AE:=decide_eq_false λz=>e (N2 z);simp only[this];exact Be ((A3.mp h).resolve_left (CT e))
theorem zXA(h:p∉l):UC (XV ρ l) (C1 p:Key) (.ref r)=XV (λq=>if q=p then r else ρ q) (l++[p]):=by
 unfold UC;rw[if_neg]
 .unfold XV;rw[D0];congr 1
  .exact K9 λq hq=>by have:q≠p:=λz=>h (z▸hq);simp only[this,if_false]
  .simp
 .unfold XV;simp only[RI,IQ,OL,decide_eq_true_eq,not_exists,not_and];exact λq hq z=>h (N2 z▸hq)
variable{PN:AV->Prop}
theorem Rws.step(R:Rws F H a ρ l g)(h:∀a,¬ow a)(s:Stp ow F H F1 H1 TF):Rws F1 H1 a ρ l g :={λp hp=>let ⟨x,y,z⟩:=R.at' p hp;{s.keep _ _ x trivial y (h _),s.nF y x trivial (h _),z},R.inj}
theorem Sub.off(s:Sub F H)(h:F a=AL):Sub F (DZ H a o):=λb u e=>by rw[EH (SF e h)];exact s b u e
end
theorem Zy{p:Prop}[Decidable p]{A B:Prop}(h:¬p)(b:B):if p then A else B:=by rw[if_neg h];exact b
theorem Zx{p:Prop}[Decidable p]{A B:Prop}(h:p)(b:A):if p then A else B:=by rw[if_pos h];exact b
theorem Cq(h:n+64<GD):n+1<GD:=by omega
theorem zXB{L:List Int}(h:i<L.length)(q:Int):q∈L.take (i+1)↔q∈L.take i\/q=L[i]:=by rw[CI h,BR,AS]
theorem yBJ:(XV ρ L).length=L.length:=AK ..
theorem Rws.app(R:Rws F H a ρ l g)(hp:p∈l)(h1:g' p=g p++[c])(h2:∀q∈l,q≠p->g' q=g q) : Rws F (DZ H (ρ p) (.lst ((g p).map V.int++[.int c]))) a ρ l g':={λq hq=>by
 have{x,y,z}:=R.at' q hq;refine{?_,y,z};by_cases e:q=p
 .subst e;rw[GO,h1,D0];rfl
 .rw[EH (λw=>e (R.inj q hq p hp w)),x,h2 q hq e],R.inj}
theorem yH6{J:It}{g:TG}{tb:TS}{D':Ends}(I:Nat->St->Hp->Prop)(h0:I 0 σ H)(hg:∀i σ H,i<n->I i σ H->J.go i H)(hd:∀σ H,I n σ H->J.stop n H/\D'.nx σ H) (hs:∀i σ H x H',i<n->I i σ H->J.yld i H x H'->g x σ H' λσ2 H2=>tb { D' with nx:=I (i+1),ct:=I (i+1),bk:=D'.nx } σ2 H2) : ∃W:Nat->Nat->St->Hp->Prop,(∃m,W 0 m σ H)/\∀i m σ H,W i m σ H ->(J.stop i H/\D'.nx σ H)\/(J.go i H/\∃N:St->Hp->Prop,(∀σ' H',N σ' H'->∃m',m'<m/\W (i+1) m' σ' H')/\∀x H',J.yld i H x H'->g x σ H' λσ2 H2=>tb { D' with nx:=N,ct:=N,bk:=D'.nx } σ2 H2):=by
 refine{λi m σ H=>m=n-i/\i<=n/\I i σ H,{n,rfl,BN _,h0},λi m σ H h=>?_};have hm:=h.1;have hi:=h.2.1;have hI:=h.2.2;by_cases e:i<n
 .exact .inr {hg i σ H e hI,I (i+1),λσ' H' h=>{n-(i+1),by omega,rfl,e,h},λx H' y=>hs i σ H x H' e hI y}
 .have e:i=n:=by omega
  rw[e] at hI ⊢;exact .inl (hd σ H hI)
section
variable{K:AC}{PN:AV->Prop}{L xs:List Int}
theorem oT{α:Type}{l:List α}{n:Nat}(h:n+1=l.length):∃a t,l=a::t/\n=t.length:=by
 cases l with
 |nil=>simp at h
 |cons a t=>exact{a,t,rfl,DC h}
theorem yH7{α:Type}{l:List α}(h:7=l.length):∃a b c d e f g,l=[a,b,c,d,e,f,g]:=by have{a,t0,e0,h0}:=oT h;have{b,t1,e1,h1}:=oT h0;have{c,t2,e2,h2}:=oT h1;have{d,t3,e3,h3}:=oT h2;have{e,t4,e4,h4}:=oT h3;have{f,t5,e5,h5}:=oT h4;have{g,t6,e6,h6}:=oT h5;exact{a,b,c,d,e,f,g,by rw[e0,e1,e2,e3,e4,e5,e6,FT h6.symm]}
end
def gW(n:Nat):List D:=(DM n).map λi:Nat=>D.int ((n:Int)-1-(i:Int))
theorem zRB{K:AC}(n:Nat):Walks K (Ku n) F (gW n):=λi F1 H1 l s=>by
 have hl:(gW n).length=n:=by simp[gW]
 refine{λhi=>by rw[hl] at hi;exact hi,λhi=>by rw[hl] at hi;rw[hi];exact AM _,λx H' d e ⟨e1,y⟩=>?_};subst e1 y;unfold gW at e;rw[AY] at e;cases q:(DM n)[i]? with
 |none=>rw[q] at e;cases e
 |some j =>
  rw[q] at e;have:j=i:=by have{h1,h2}:=AH.mp q;rw[QD] at h2;exact h2.symm
  subst this;cases e;exact{F1,.refl s,.int _}
def zM(g:G):GI:=λE=>(g E).bind λp=>match p.1 with|.int j=>guard (0<=j/\j<=1000) (.ok (gW j.toNat,p.2))|_=>.bad
section
theorem yFM(hmr:X.mg "reversed"=AL)(hm:X.mg "range"=AL)(ha:VE X a ga)(hgr:Gl X "reversed":=by rfl)(hg:Gl X "range":=by rfl) (W0:AW [a] X.env=(AE,eval a X.env)::AW [] X.env:=by rfl) (xX:(EW rpos (AW [] X.env)).any (·.1)=AE:=by rfl) (hs:AW [.Call (.Name "range" rp) [a] [] rpos] X.env=[(AE,eval (.Call (.Name "range" rp) [a] [] rpos) X.env)]:=by rfl) (he:AW [.Call (.Name "range" rp) [a] [] rpos] X.env=(AE,eval (.Call (.Name "range" rp) [a] [] rpos) X.env)::AW [] X.env:=by rfl) : VI X tg (.Call (.Name "reversed" p) [.Call (.Name "range" rp) [a] [] rpos] [] pos) (zM ga) :=(yEH hgr hmr (PB (oN Um hg hm (by decide +kernel) (PB ha FO W0) 'D' 'D' W0 xX) FO he) hs).imp λσ H Q h=>by
  have{τ,F,E,d,E',S,hg,k}:=h;have{q,e1,hg}:=pA3 hg;refine{τ,F,E,q.1,q.2,S,e1,λv F1 H1 s1 S1 r1=>?_};split at hg
  .rename_i j ej;have{zz',hg}:=iE hg;have{g1,g2}:=zz';cases hg;rw[ej] at r1;obtain rfl:=r1.vI;refine{j,rfl,λpp hp=>{pp,j.toNat,rfl,by rw[GO,P4 g1],by lia,?_}};have n:=pA6 (H':=DZ H1 pp (.rng 0 j)) S1.sub (Gr.new hp);exact k _ F1 _ (s1.trans n.stp) (S1.new n) (zRB _)
  .cases hg
def yH8(K:AC):V->List V->Hp->VK->Prop:=λx vs H Q=>∃(l:AV) (ns:List Int) (n:Int),x=.ref l/\vs=[.int n]/\SqL K H l (ns.map V.int)/\ns.length<10000/\n∈ns/\Q (.int (ns.idxOf n:Nat)) H
theorem zXD:Da X "list.index" (yH8 X.K):=by
 intro AJ s σ H x xs v us Q I rx rv h;have{l,ns,k,rfl,rfl,hl,hb,hk,q}:=h;cases rx;have{u,rfl,ru}:=Y6 rv;have{t,rfl}:=ru;have{vs,rs,pl,hz}:=I.list hl;have hi:=l7 rs;have{zz',ho,hc,n,hd}:=pl.isList;have{cls,dd,data,sl}:=zz';subst hc hd;have EV:=hi.length;have hj:=List.idxOf_lt_length_iff.mpr hk;refine OY VJ {_,ho,rfl} PySem.F.entry_list_index (PySem.F.args_list_index_2 _ _)
  (SeqAt.list_indexAt l vs.toArray n dd sl (.int k t) (isInt k) (ns.idxOf k) (by simpa[EV] using hj) 'L' ?_ ?_) {ho,λy hy=>(eq_isInt k t hi y (by simpa using hy)).at _ _,{.int _,H,I.tok _,{_,rfl},q}}
 .show isInt k vs[ns.idxOf k]=AQ;rw[isInt_at k hi _ 'L' hj];simpa using dI hj
 .intro j hjs IS;show isInt k vs[j]=AE;rw[isInt_at k hi j (by simpa using hjs) 'L'];exact ne_of_lt_idxOf IS _
end
end _L
namespace _L
open PySem PySem.Spec PyProof.Rows PySem.W
end _L
namespace _L
open PySem PySem.Spec PyProof.Rows
end _L
namespace _L
open PySem PySem.SetTable
noncomputable def wD(m:Nat)(p:Probe):Probe :=if p.more>0 then { p with j:=p.j+1,more:=p.more-1 } else { p with j:=(leap m p.i p.perturb).1,more:=runEnd m (leap m p.i p.perturb).1-(leap m p.i p.perturb).1,i:=(leap m p.i p.perturb).1,perturb:=(leap m p.i p.perturb).2 }
def pr(m:Nat)(h:Int):Nat->Probe
 |0=>{ j:=bits h % (m+1),more:=runEnd m (bits h % (m+1))-bits h % (m+1),i:=bits h % (m+1),perturb:=bits h,dummy:=AL }
 |n+1=>wD m (pr m h n)
noncomputable def lp(m:Nat)(h:Int):Nat->Nat×Nat
 |0=>(bits h % (m+1),bits h)
 |n+1=>leap m (lp m h n).1 (lp m h n).2
def rn(m i:Nat):Nat:=runEnd m i-i
theorem yH9(m i:Nat):rn m i<=9:=by unfold rn runEnd;split<;>lia
def cc(m:Nat)(h:Int):Nat->Nat
 |0=>0
 |n+1=>cc m h n+rn m (lp m h n).1+1
theorem yIA(m:Nat)(h:Int)(n:Nat):cc m h n<=10 * n:=by
 induction n with
 |zero=>exact AM _
 |succ n ih=>have:=yH9 m (lp m h n).1;unfold cc;lia
theorem Ey(e:pr m h c={i,r,i,q,AL}):∀k,k<=r->pr m h (c+k)={i+k,r-k,i,q,AL}
 |0,_=>e
 |k+1,hk=>by show wD m (pr m h (c+k))=_;rw[Ey e k 'L'];unfold wD;rw[if_pos (show r-k>0 by lia)];simp only[Probe.mk.injEq,and_true,true_and];lia
theorem Zw(m:Nat)(h:Int):∀n,pr m h (cc m h n)={(lp m h n).1,rn m (lp m h n).1,(lp m h n).1,(lp m h n).2,AL}
 |0=>rfl
 |n+1=>by show wD m (pr m h (cc m h n+rn m (lp m h n).1))=_;rw[Ey (Zw m h n) _ (AM _)];unfold wD;rw[if_neg 'S'];rfl
theorem Qd(m:Nat)(h:Int):∀n,(lp m h n).2=bits h / 32 ^ n
 |0=>by simp[lp]
 |n+1=>by show(lp m h n).2 / 32=_;rw[Qd m h n,Nat.div_div_eq_div_mul,Nat.pow_succ]
theorem yBL(h:Int):bits h<2 ^ 64:=by unfold bits;have:=HL h (show 0<2 ^ 64 by decide);have:=JH h (show(2 ^ 64:Int)≠0 by decide);lia
theorem yBM(m:Nat)(h:Int)(k:Nat):(lp m h (13+k)).2=0:=by rw[Qd];refine Nat.div_eq_of_lt (AO (yBL h) ?_);rw[Nat.pow_add];exact A0 (by decide:2 ^ 64<=32 ^ 13) (Nat.le_mul_of_pos_right _ (Nat.pow_pos 'D'))
noncomputable def it(m:Nat):Nat->Nat->Nat
 |0,i=>i
 |k+1,i=>(it m k i * 5+1) % (m+1)
theorem Zv(m:Nat)(h:Int):∀k,(lp m h (13+k)).1=it m k (lp m h 13).1
 |0=>rfl
 |k+1=>by show(leap m (lp m h (13+k)).1 (lp m h (13+k)).2).1=_;unfold leap;rw[Zv m h k,yBM];rfl
theorem yIB(m:Nat)(h:Int)(n:Nat):(lp m h n).1<m+1:=by
 cases n with
 |zero=>exact Nat.mod_lt _ (N3 _)
 |succ n=>exact Nat.mod_lt _ (N3 _)
theorem Ac(m a:Nat)(i:Nat):∀b,it m (a+b) i=it m b (it m a i)
 |0=>rfl
 |b+1=>by show(it m (a+b) i * 5+1) % (m+1)=_;rw[Ac m a i b];rfl
noncomputable def sL(m:Nat):Nat->Nat->List Nat
 |0,_=>[]
 |n+1,i=>i::sL m n ((i * 5+1) % (m+1))
theorem Uy(m:Nat)(i:Nat):∀k,it m (k+1) i=it m k ((i * 5+1) % (m+1))
 |0=>rfl
 |k+1=>by show(it m (k+1) i * 5+1) % (m+1)=_;rw[Uy m i k];rfl
theorem Ex(m:Nat):∀(n i j:Nat),j∈sL m n i->∃k,k<n/\it m k i=j
 |0,_,_,h=>by simp[sL] at h
 |n+1,i,j,h=>by
  rcases A3.mp h with h|h
  .exact{0,by lia,h.symm}
  .have{k,hk,e}:=Ex m n _ j h;exact{k+1,by lia,by rw[Uy,e]}
def Ca(m:Nat):Prop:=m=7\/m=31\/m=127\/m=511
theorem yBN(h:Ca m):(∀j,j<m+1->j∈sL m (m+1) 0)/\it m (m+1) 0=0:=by
 have KE:∀m,((DM (m+1)).all λj=>(sL m (m+1) 0).contains j)=AQ->∀j,j<m+1->j∈sL m (m+1) 0:=λm h j hj=>by have:=List.all_eq_true.mp h j (G6.mpr hj);exact List.contains_iff_mem.mp this
 rcases h with rfl|rfl|rfl|rfl<;>exact{KE _ (by decide +kernel),by decide +kernel}
theorem yKW(hm:Ca m)(hi:i<m+1)(hj:j<m+1):∃k,k<=m/\it m k i=j:=by
 have{ho,h0}:=yBN hm;have{a,ha,ea}:=Ex m _ _ _ (ho i hi);have{b,hb,eb}:=Ex m _ _ _ (ho j hj);by_cases qG:a<=b
 .exact{b-a,by lia,by rw[<-ea,<-Ac,show a+(b-a)=b by lia,eb]}
 .exact{b+(m+1)-a,by lia,by rw[<-ea,<-Ac,show a+(b+(m+1)-a)=(m+1)+b by lia,Ac,h0,eb]}
theorem met(hm:Ca m)(h:Int)(hj:j<m+1):∃n,n<=13+m/\(lp m h n).1=j:=by have{k,hk,e}:=yKW hm (yIB m h 13) hj;exact{13+k,by lia,by rw[Zv,e]}
theorem Zu{p:Nat->Prop}(h:p n):∃k,k<=n/\p k/\∀i,i<k->¬p i:=by
 induction n using Nat.strongRecOn with
 |_ n ih =>
  by_cases q:∃i,i<n/\p i
  .have{i,hi,pi}:=q;have{k,hk,r}:=ih i hi pi;exact{k,by lia,r}
  .exact{n,AM _,h,λi hi pi=>q {i,hi,pi}}
theorem yIC(h:Int)(n:Nat):∃q k,k<=rn m (lp m h q).1/\n=cc m h q+k:=by
 induction n with
 |zero=>exact{0,0,BN _,rfl}
 |succ n ih =>
  have{q,k,hk,rfl}:=ih;by_cases IS:k<rn m (lp m h q).1
  .exact{q,k+1,IS,rfl}
  .exact{q+1,0,BN _,by show _=cc m h q+rn m (lp m h q).1+1+0;lia}
theorem yKX(h:Int)(hk:k<=rn m (lp m h q).1):(pr m h (cc m h q+k)).j=(lp m h q).1+k:=by rw[Ey (Zw m h q) k hk]
theorem yBO(m:Nat)(h:Int):∀{a b:Nat},a<b->cc m h a<cc m h b:=λ{a b} qG=>by
 induction b with
 |zero=>lia
 |succ b ih =>
  have:cc m h b<cc m h (b+1):=by show _<cc m h b+rn m (lp m h b).1+1;lia
  by_cases e:a=b
  .subst e;exact this
  .exact DB (ih 'L') this
theorem yK9(hm:Ca m)(h:Int){w9:Nat->Prop}(hj:j<=m)(hf:¬w9 j):∃n,(n<10 * (m+14)/\¬w9 (pr m h n).j/\∀i,i<n->w9 (pr m h i).j)/\∃q k,q<=13+m/\k<=rn m (lp m h q).1/\n=cc m h q+k:=by
 have{q,hq,e}:=met hm h (j:=j) 'L';have hn:¬w9 (pr m h (cc m h q)).j:=by have:=yKX (m:=m) h (q:=q) (BN _);simp only[Z4] at this;rw[this,e];exact hf
 have{n,hk,p,r}:=Zu (p:=λn=>¬w9 (pr m h n).j) hn;have:=yIA m h q;refine{n,{by lia,p,λi hi=>BL λz=>r i hi z},?_};have{q0,k0,h1,rfl}:=yIC (m:=m) h n;refine{q0,k0,?_,h1,rfl};by_cases z:q0<=q
 .lia
 .have:=yBO m h (show q<q0 by lia);lia
section
variable{E:AI->AN->Prop}
theorem yJQ(h:ItemsAre (intKind prog w) ks vs):∀v∈vs,∃i t,v=.int i t:=by
 induction h with
 |nil=>intro v hv;simp at hv
 |@cons k v' ks vs h1 _ ih =>
  intro v hv;rcases A3.mp hv with rfl|hv
  .cases v with
   |int i t=>exact{i,t,rfl}
   |_=>cases h1
  .exact ih v hv
end
section
variable{E:AI->AN->Prop}
variable{Mv:Bool}
theorem yID{h:CN}(ho:h.get? a=AA o)(hd:o.data=.set es ep t) : (h.update a (Obj.putSet bT t')).get? a=AA { o with data:=.set bT (ep+1) t' }:=by have:=HU (Obj.putSet bT t') ho (by rw[putSet_of bT t' hd];rfl);rw[putSet_of bT t' hd] at this;exact this
end
end _L
namespace _L
open PySem PySem.SetTable PyProof.Rows
end _L
namespace _L
open PySem PySem.Spec PyProof.Rows
noncomputable def uq{α:Type}[DecidableEq α]:List α->List α
 |[]=>[]
 |a::l=>if a∈l then uq l else a::uq l
def l2(p:Int×Int):List Int:=[p.1,p.2]
theorem Paired.eraseIdx{α β:Type}{R:α->β->Prop}{l:List α}{m:List β}(h:Paired R l m):∀j,Paired R (l.eraseIdx j) (m.eraseIdx j):=by
 induction h with
 |nil=>intro j;exact .nil
 |cons r t ih=>intro j;cases j with
  |zero=>exact t
  |succ j=>exact .cons r (ih j)
theorem pAO{α β:Type}{R:α->β->Prop}{l:List α}{m:List β}(h:Paired R l m):∀{i:Nat} {a:α},l[i]?=AA a->∃b,m[i]?=AA b/\R a b:=by
 induction h with
 |nil=>intro i b e;simp at e
 |cons r _ ih =>
  intro i b e;cases i with
  |zero=>cases e;exact{_,rfl,r}
  |succ i=>exact ih e
theorem Ho{α β:Type}(f:α->β)(l:List α)(j:Nat):(l.map f).eraseIdx j=(l.eraseIdx j).map f:=by simp[List.eraseIdx_eq_take_drop_succ,P3]
section
variable{E:AI->AN->Prop}
theorem yFQ{Q:Unit->AN->Prop}(hu:A.units+1<GD)(I:Inv X AJ σ H s)(e:H a=AA (.dT kvs))(eb:H b=AA (.tup (k.map kV)))(ej:kvs[j]?=AA (k,v))(h:∀s',Inv X AJ σ (DZ H a (.dT (kvs.eraseIdx j))) s'->Q () s') : BE (A9 X.prog X.w) A (delItem (.ref a) (.ref b)) Q E s:=by
 have{z,hd,xs,OO,dd}:=yEA I.hok e;have hT:=dd.typeIs;have{o,es,ep,ho,hc,yP,he,his,hn}:=id dd;have hz:es.size<=sizeLine:=by have:=size_of_entries he;have:=Paired.length OO;lia
 have MQ:=rC I.hok eb;have{zz',Pe,rk,_}:=pAO OO ej;have{k',p}:=zz';obtain rfl:k=k':=rk;refine wpAny_delItem_slot hT 'D' T5 (CG T5 hT PySem.F.entry_dict_delitem ?_ (PySem.F.args_dict_delitem_2 _ _));refine AB ?_;refine AB (P1 hT ?_);refine wpAny_pure ?_;refine AB (wpAny_pure (AB ?_));unfold Builtin.Dict.takeOut
 try with_reducible refine DO ?_
 refine AB ((OI (YO X.prog X.w)).pyHash (HY hu) MQ ?_);refine AB (wpAny_dictFind_heap (HY hu) MQ ho yP he his hn (λX5=>absurd Pe (X5 j p)) λj' p' ej'=>?_);obtain rfl:=idxH_unique hn Pe ej';refine AB (IM ho yP ?_);rw[entry_at he j,Pe];refine AB (wpAny_updateDictKeys ho yP (wpAny_pure ?_));refine AB (LG (wpAny_pure {.none,rfl,h _ ?_}));have hs:=FQ s.heap a (nJ (·.eraseIdxIfInBounds j));have g:=HU (nJ (·.eraseIdxIfInBounds j)) ho (Obj.isFreed_of_dict (cF yP _));refine Ar (s:=s) I (by rw[e];exact NO) hs {_,g} {?_,hd,xs.eraseIdx j,KT.keeps (Paired.eraseIdx OO j) (λc ys ec=>by rw[EH (zY ec e (λz=>nomatch z))];exact ec),_,_,ep+1,g,hc.mapDictKeys _,cF yP _,?_,?_}
 .exact A0 (List.length_eraseIdx_le ..) z
 .have:(es.eraseIdxIfInBounds j).toList=es.toList.eraseIdx j:=by simp
  rw[this,he,Ho]
 .rw[<-Ho];exact hn.sublist (List.eraseIdx_sublist ..)
end
def yIE(td ty:TE):TS:=λD σ H=>td σ H λx H1=>ty σ H1 λy H2=>∃(a b:AV) (kvs:List (List Key×V)) (k:List Key) (j:Nat) (v:V),x=.ref a/\y=.ref b/\H2 a=AA (.dT kvs)/\H2 b=AA (.tup (k.map kV))/\kvs[j]?=AA (k,v)/\D.nx σ (DZ H2 a (.dT (kvs.eraseIdx j)))
theorem yBP(hu:X.A.units+1<GD)(ho:PE X o td)(hi:PE X i ty):PS X (.Delete [.Subscript o i S8] pos) (yIE td ty):=by intro AJ s σ H D I h;refine wpAny_Delete (wpAny_deleteEach_cons (wpAny_delete_Subscript (HE (ho AJ s σ H _ I h) λu s1 q0=>?_)));have{x,H1,I1,rx,q1}:=q0;refine HE (hi AJ s1 σ H1 _ I1 q1) λiv s2 q0=>?_;have{y,H2,I2,ry,a,b,kvs,k,j,v,rfl,rfl,ea,eb,ej,q2}:=q0;obtain rfl:u=FU a:=rx;obtain rfl:iv=FU b:=ry;exact yFQ hu I2 ea eb ej λs3 I3=>wpAny_deleteEach_nil {σ,_,I3,q2}
theorem RepT.eraseIdx{K:AC}(r:RepT K F vs ds):∀j,RepT K F (vs.eraseIdx j) (ds.eraseIdx j) :=r.rec1 (T:=λvs ds=>∀j,RepT K F (vs.eraseIdx j) (ds.eraseIdx j)) (λ_=>.nil) λh r ih j=>by
  cases j with
  |zero=>exact r
  |succ j=>exact .cons h (ih j)
theorem RepT.getD{K:AC}(r:RepT K F vs ds):∀{j:Nat} {k:List Int} {d:D},ds[j]?=AA (k,d)->∃v,vs[j]?=AA (k.map C1,v) :=λ{j k d}=>r.rec1 (T:=λvs ds=>∀j,ds[j]?=AA (k,d)->∃v,vs[j]?=AA (k.map C1,v)) (λj e=>by simp at e) (λh r ih j e=>by
  cases j with
  |zero=>cases e;exact{_,rfl}
  |succ j=>exact ih j e) j
def vW(x k:D):Out D:=match x,k with
 |.dt kvs,.tup ks=>match QH ks with
  |some ns=>match kvs.findIdx? (λp=>p.1==ns) with
   |some j=>.ok (.dt (kvs.eraseIdx j))
   |none=>.bad
  |none=>.bad
 |_,_=>.bad
def r8(i:Nat)(gk:G):GS:=λE=>match E[i]? with
 |some (.own _ _)=>(gk E).bind λk=>match k.2[i]? with
  |some (.own t d)=>(vW d k.1).bind λd'=>.ok (.nx (k.2.set i (.own t d')))
  |_=>.bad
 |_=>.bad
section
theorem yFS{gk:G}(i:Nat)(hu:X.A.units+64<GD)(hk:VE X kx gk) (hN:X.N[i]?=AA xn:=by rfl) (hv:eI X.env.scope xn:=by first|exact BM rfl|exact D5 (BM rfl)|exact D5 (D5 rfl)) (hd:(xn==("__debug__":C7))=AE:=by decide) (OG:(xn==("__classdict__":C7))=AE:=by decide) : VS X (.Delete [.Subscript (.Name xn q) kx S8] spos) (r8 i gk):=λAJ s σ H D' I h=>by
 have{τ,F,E,r,S,hg,k}:=h;unfold r8 at hg;split at hg
 .rename_i t0 d0 e0;have{ky,e2,hg}:=pA3 hg;split at hg
  .rename_i t d e3;have{d',e4,hg}:=pA3 hg;cases hg;have{ad,a1,_}:=S.own i _ _ e0;have pn:=oC (pos:=q) hN hv hd OG;cases d with
   |dt kvs =>
    refine yBP 'L' pn hk AJ s σ H D' I ?_;refine{_,a1,τ,F,E,ky.1,ky.2,S,e2,λkk F2 H2 s2 S2 r2=>?_};have{ad',b1,_,zz',_}:=S2.own i t _ e3;have{vs,o1,o2}:=zz';rw[a1] at b1;cases b1;generalize hy:ky.1=y at e4 r2;cases y with
    |tup ks =>
     unfold vW at e4;simp only at e4;split at e4
     .rename_i ns ek;split at e4
      .rename_i j ej;cases e4;have{hjl,Of,_}:=List.findIdx?_eq_some_iff_getElem.mp ej;have Of:=beq_iff_eq.mp Of;have{v,ev}:=o2.getD (k:=ns) (by rw[BD hjl,<-Of]);have:=oM ek;subst this;generalize iU:ns.map D.int=kk2 at r2;cases r2 with
       |tup hb rb =>
        subst iU;have:=rb.vint;subst this;refine{ad,_,vs,ns.map C1,j,v,rfl,rfl,o1,?_,ev,?_}
        .rw[DA];exact S2.sub _ _ hb
        .have{S3,s3}:=S2.setO (d':=.dt (kvs.eraseIdx j)) e3 a1 {_,GO,o2.eraseIdx j};exact k σ F2 _ (s2.trans s3) S3
       |@tupK a xs hb nb =>
        cases xs with
        |nil=>exact absurd rfl nb
        |cons x xs =>
         cases ns with
         |nil=>cases iU
         |cons n ns=>cases iU
      .cases e4
     .cases e4
    |_=>cases e4
   |_=>cases e4
  .cases hg
 .cases hg
end
noncomputable def offL(g:Int->List Int)(p:Int):Int->List Int:=λq=>if q=p then(g p).dropLast else g q
noncomputable def back1(K4:List Int)(h:Int):List Int:=(if h∈K4 then K4.take (K4.idxOf h) else K4)++[h]
def mB(L:List Int)(BV:Int):Nat->(Int->List Int)->List Int->Option (List Int×(Int->List Int))
 |0,_,_=>AL
 |n+1,g,K4=>match K4.getLast? with
  |none=>AL
  |some x=>if x=BV then AA (K4,g) else if x∈L then match(g x).getLast? with
    |none=>AL
    |some h=>mB L BV n (offL g x) (back1 K4 h)
   else AL
def sM(L:List Int)(one BV:Int):Nat->(Int->List Int)->List (List Int)->Option (List (List Int))
 |0,_,_=>AL
 |n+1,g,ws=>if g one=[] then AA ws else match mB L BV 3000 g [one] with
  |none=>AL
  |some q=>sM L one BV n q.2 (ws++[q.1])
def Chg(ρ:Int->AV)(L:List Int)(H H':Hp):Prop:=∀a o,H a=AA o->(∀p∈L,a≠ρ p)->H' a=AA o
theorem Chg.refl:Chg ρ L H H:=λ_ _ e _=>e
theorem Chg.new(c:Chg ρ L H H')(h:H p=AL):Chg ρ L H (DZ H' p o):=λa u e n=>by rw[EH (SF e h)];exact c a u e n
theorem Chg.row(c:Chg ρ L H H')(h:p∈L):Chg ρ L H (DZ H' (ρ p) o):=λa u e n=>by rw[EH (n p h)];exact c a u e n
theorem Chg.none(c:Chg ρ L H H')(h:H' a=OA)(hn:∀p∈L,H' (ρ p)≠OA):H a=OA:=by
 cases e:H a with
 |none=>rfl
 |some o=>rw[c a o e λp hp z=>hn p hp (z▸h)] at h;cases h
abbrev kC:Hp:=λ_=>OA
theorem Rws.offU(R:Rws kC H a ρ l g)(h:∀p∈l,ρ p≠b):Rws kC (DZ H b o) a ρ l g :={λp hp=>by rw[EH (h p hp)];exact R.at' p hp,R.inj}
theorem Rws.pop(R:Rws kC H a ρ l g)(hp:p∈l):Rws kC (DZ H (ρ p) (.lst ((g p).map V.int).dropLast)) a ρ l (offL g p):={λq hq=>by
 have{x,y,z}:=R.at' q hq;refine{?_,y,z};unfold offL;by_cases e:q=p
 .subst e;rw[GO,if_pos rfl,List.map_dropLast]
 .rw[EH (λw=>e (R.inj q hq p hp w)),x,if_neg e],R.inj}
theorem Wg{xs:List Int}(h:xs.getLast?=AA x):atI (xs.map V.int) (-1)=AA (.int x):=by
 have SK:xs≠[]:=λe=>by rw[e] at h;cases h
 have hl:=O7.mpr SK;unfold atI WY;rw[if_neg 'D',if_pos (by simp;lia)];have e:(-1+((xs.map V.int).length:Int)).toNat=xs.length-1:=by rw[AK];lia
 rw[e];show(xs.map V.int)[xs.length-1]?=_;rw[AY,<-MG,h];rfl
theorem zXE{xs:List Int}:sN (.int x) (xs.map V.int)=decide (x∈xs):=by
 unfold sN;rw[RI,K1,IQ,decide_eq_true_iff];constructor
 .intro zz';have{y,hy,e}:=zz';have:y=x:=by simpa[iM] using e
  exact this▸hy
 .exact λh=>{x,h,by simp[iM]}
theorem Wf:∀xs:List Int,(xs.map V.int).all jS=AQ
 |[]=>rfl
 |_::xs=>by rw[AU,XG,Wf xs];rfl
def Yn(K:AC):Sp:=λvs H Q _=>∃(hd:AV) (one BV:Int) (ρ:Int->AV) (L:List Int) (g:Int->List Int) (n:Nat) (K4:List Int) (g':Int->List Int),vs=[.ref hd,.int one,.int BV]/\H hd=AA (.dK (XV ρ L))/\Rws kC H hd ρ L g/\n<=3000/\mB L BV n g [one]=AA (K4,g') /\ ∀(t:AV) (H':Hp),Chg ρ L H H'->H' hd=AA (.dK (XV ρ L))->Rws kC H' hd ρ L g'->H' t=AA (.tup (K4.map V.int))->H t=OA->Q (.ref t) H'
theorem zRC(hc:X.calm=AQ):CallR X (.type "list") (λxs H Q=>∃(d:AV) (kvs:List (List Key×V)) (ps:List (Int×Int)),xs=[.ref d]/\Rd H d (.dT kvs)/\kvs.map (·.1)=ps.map pk2/\∀(zs:List V) (l:AV),Prs H zs ps->H l=AL->Q (.ref l) (DZ H l (.lst zs))):=by
 intro AJ s σ H xs us Q I r h;have{d,kvs,ps,rfl,hd,iT,q}:=h;have{u,rfl,ru}:=Y6 r;cases ru;have{es,ep,MO,MW,hz,MQ}:=n9 (hd.ok I.hok);have hl:es.toList.length=ps.length:=by have:=congrArg KP iT;simp only[AK] at this;rw[GZ,MW,this]
 have{ys,rv,aR}:=Vd es.toList ps hl λi e p e1 e2=>by have{hi,e1}:=AH.mp e1;have{b,k,h1,h2,h3}:=MQ i (by simpa using hi);rw[iT,AY,e2] at h2;cases h2;refine{b,?_,h3};rw[<-e1,<-h1];rfl
 refine cD yA8 (I.ok.hd hc) MO (by rw[MW];exact hz) λh' tk B0 c GR kZ Og=>?_;have e:B0.toList=es.toList.map (·.key):=RH λi=>by
  by_cases hi:i<es.size
  .have QA:i<B0.size:=by rw[Og.1];exact hi
   have{_,q}:=Og.2 i B0[i] (by simp[QA]);simp[hi,QA,q]
  .have QA:¬i<B0.size:=by rw[Og.1];exact hi
   simp[hi,QA]
 refine{.ref s.heap.objs.size,_,I.laid (o:=.lst ys) GR (AM _) {?_,B0.toList,c,by rw[e];exact rv,by simpa using kZ},rfl,q ys _ aR I.fresh};rw[rv.length,AK,GZ,MW];exact hz
def uR:List D->Out D
 |[.dt kvs]=>match toPr2 (kvs.map (·.1)) with
  |some ps=>.ok (.lst (ps.map E8))
  |none=>.bad
 |_=>.bad
theorem zXF{K:AC}:qV K (λxs H Q=>∃(d:AV) (kvs:List (List Key×V)) (ps:List (Int×Int)),xs=[.ref d]/\Rd H d (.dT kvs)/\kvs.map (·.1)=ps.map pk2/\∀(zs:List V) (l:AV),Prs H zs ps->H l=AL->Q (.ref l) (DZ H l (.lst zs))) uR:=λvs xs F H d Q s r hf k=>by
 unfold uR at hf;split at hf
 .split at hf
  .rename_i kvs _ ps e;cases hf;have{v,rfl,r1}:=Sh r;cases r1 with
   |dt h1 h2 =>
    refine{_,_,ps,rfl,s.rd h1,?_,λzs q hz hq=>?_}
    .rw[h2.keys,Vc e,DA];rfl
    .have n1:=New.tups s;have n2:=pA6 (H':=DZ H q (.lst zs)) n1.2 (Gr.new hq);refine k q _ _ (n1.trans n2) ?_ hq {_,GO,yBA hz};rw[Ad λxs e=>by rw[hq] at e;cases e];exact pAH s hq
  .cases hf
 .cases hf
theorem yBQ(hc:X.calm=AQ)(hm:X.mg "list"=AL)(ha:VA X (e::es) gs)(hg:Gl X "list":=by rfl)(he:AW (e::es) X.env=(AE,eval e X.env)::AW es X.env:=by rfl)(LS:(EW pos (AW es X.env)).any (·.1)=AE:=by rfl) : FE X (.Call (.Name "list" p) (e::es) [] pos) (gN uR gs):=Yq (zRC hc) zXF hm (by decide +kernel) ha hg 'D' 'D' he LS
section
theorem zOQ{tk tv:Hp->TE}(n:CompNm X scope xo cl own CL js)(hc:X.calm=AQ)(hi:PI X tg iter wi) (hg:∀C s H fp,PG (MY X scope xo cl (own++CL) C s H fp) tg (g H)) (ht:∀C s H fp,PTs (MY X scope xo cl (own++CL) C s H fp) ifs (tt H)) (hk:∀C s H fp,PE (MY X scope xo cl (own++CL) C s H fp) kx (tk H)) (hv:∀C s H fp,PE (MY X scope xo cl (own++CL) C s H fp) vx (tv H)) (hN:X.N.Nodup) (hx:X.N[i]?=AA x) (hl:X.env.scope.names.lookup x=AA .local) (xO:J3 (.DictComp kx vx [{tg,iter,ifs,0}] scope pos) (AA (.Name x OU)) spos.line X.env=pure AQ) (hs:∀x,DK iter X.env x=pure x:=by intro _;rfl):PS X (.Assign [.Name x OU] (.DictComp kx vx [{tg,iter,ifs,0}] scope pos) spos) (r9 (oA wi own.length js (.dK []) g tt λH B0=>Ab B0 (tk H) (tv H)) (lR i)):=by
 intro AJ s σ H D I h;rw[i4 _ _ _ _ xO];refine AB (G8 (AB ?_));refine AB (DN (G9 rfl hs n.clos n.kind n.loc
  (DN (hi AJ s σ H _ I h) (λxv EO HB=>DN HB (λmN MN J8=>?_) λ_ _ e=>e) λ_ _ e=>e)) (λ_ s' hq=>wpAny_pure (wpAny_pure hq)) λ_ _ e=>e)
 have{it,fp,tn,J,H2,e,I2,T,st2,f2,hW}:=J8;subst e;refine vP (V:=wF) (pp:=iter.pos) (ifs:=ifs) (tg:=tg) (Q:=λx H1=>lR i x σ H1 D.nx)
  (λ{Q s} h=>C9 h) (Ur MN.heap I2.big) (λ_ _=>rfl) (λ_ _=>rfl) (λ_ _=>rfl) (λh0 h1=>gG h0 h1) n hc hg ht
  (λC s H fp B0=>Uo (hk C s H fp) (hv C s H fp)) (λ_ _ z=>z.elim) I2 T st2 f2 hW ?_
 intro B0 C H' s' m I' hC h1 h2 h3 h4 hn q;refine UP (Hu I' hN hx (.inl hl) (v:=.ref B0) rfl (λcS Pt sb=>?_) (.inr hl));have{a,sb,ha}:=sb;have Ox:C≠a:=by
  rcases ha with ha|ha
  .rw[ha];exact h1
  .exact λz=>h3 x a ha z.symm
 exact{m,hn.sameBut sb Ox,λh' Ma=>{_,H',Pt.turned (t':=cS.toks) (λb o hb e=>Ma.extBut b o hb e) hC h1 (.inr h2) h3 h4,q}}
end
end _L
namespace _L
open PySem PySem.SetTable PyProof.Rows
end _L
namespace _L
open PySem PySem.Spec PyProof.Rows
end _L
namespace _M
open PySem _L
noncomputable def OS(i:Nat):FP:=PySem.Challenge.pw_waymusts_k37_whole_musts_by_ways_apart.main.body.getD i (.Pass {0,0,0,0})
structure Bt(mg:C7->Option AI):Prop where
 b_enumerate:mg "enumerate"=AL
 b_len:mg "len"=AL
 b_list:mg "list"=AL
 b_min:mg "min"=AL
 b_range:mg "range"=AL
 b_reversed:mg "reversed"=AL
 b_sorted:mg "sorted"=AL
 b_tuple:mg "tuple"=AL
 b_zip:mg "zip"=AL
abbrev Gz:FP:=OS 5
abbrev Iu:FP:=OS 6
abbrev Bv:FP:=OS 8
abbrev Jb:FP:=OS 14
abbrev Ig:FP:=OS 16
abbrev Hn:FP:=OS 19
abbrev Ip:FP:=OS 25
abbrev Ew:FP:=OS 29
abbrev Ie:FP:=OS 34
abbrev Ic:FP:=OS 35
abbrev Ib:FP:=OS 36
abbrev Io:FP:=OS 9
abbrev Ja:FP:=OS 37
abbrev Ia:FP:=OS 10
abbrev Ir:FP:=OS 11
abbrev Ii:FP:=OS 38
abbrev Hm:FP:=OS 12
abbrev Hz:FP:=OS 15
abbrev Iy:FP:=OS 31
abbrev Bu:FP:=OS 17
abbrev Iz:FP:=OS 18
abbrev Hl:FP:=OS 23
abbrev Im:FP:=OS 27
abbrev Il:FP:=OS 20
abbrev Ih:FP:=OS 21
abbrev rN:FP:=OS 24
abbrev Fm:FP:=OS 26
abbrev Ik:FP:=OS 39
abbrev Jc:FP:=OS 40
abbrev Hy:FP:=OS 32
abbrev jR:FP:=OS 41
theorem O2{N P:List C7}{sc:JS}(h1:sc.kind=.function:=by rfl)(h2:sc.isCoroutine=AE:=by rfl)(h3:sc.isGenerator=AE:=by rfl)(h4:N.Nodup:=by decide +kernel)(h5:N.take P.length=P:=by rfl)(h6:∀x∈P,sc.names.lookup x=AA .local\/sc.names.lookup x=AA .cell:=by decide +kernel)(h7:∀y∈sc.names,y.2≠.free:=by decide +kernel):FnScope N P sc:={h1,h2,h3,h4,h5,h6,h7}
theorem zAcn{α:Type}{P:α->Prop}{a:α}{l:List α}(h:P a)(k:∀x∈l,P x):∀x∈a::l,P x:=λ_ e=>(List.mem_cons.mp e).elim (λe=>e▸h) (k _)
theorem cn{X:Cx}{scope:JS}{xo:Option C7}{cl:List (C7×AV)}{own CL:List C7}{js:List Nat}(h1:Z1 scope X.env=pure cl)(h2:scope.kind=.function:=by rfl)(ho:∀n,RB n scope.names cl=wC xo n cl:=by intro _;rfl)(hp:∀h,pushCells h scope.names=pC xo h:=by intro _;rfl)(h4:∀y∈scope.names,y.2=.local->scope.names.lookup y.1=AA .local:=by decide +kernel)(h5:∀y∈scope.names,y.2=.free->y.1∈CL:=by decide +kernel)(h6:cl.map (·.1)=CL:=by rfl) (h7:∀p∈cl,X.env.cells.lookup p.1=AA p.2:=by repeat first|exact Cb|exact rfl|refine zAcn ?_ ?_) (h8:CL.map AA=js.map λj=>X.N[j]?:=by rfl) (h9:∀x∈CL,X.env.kindOf x=AA .cell\/X.env.kindOf x=AA .free:=by repeat first|exact Cb|exact .inl rfl|exact .inr rfl|refine zAcn ?_ ?_) (h10:∀x∈CL,(gE scope X.env).names.lookup x=AA .cell\/(gE scope X.env).names.lookup x=AA .free:=by repeat first|exact Cb|exact .inl rfl|exact .inr rfl|refine zAcn ?_ ?_) (hd:∀y∈scope.names,y.2=.cell->xo=AA y.1:=by decide +kernel) (h11:∀x∈CL,xo≠AA x:=by decide +kernel):CompNm X scope xo cl own CL js:={h1,h2,ho,hp,h4,h5,hd,h6,h7,h8,h9,h10,h11}
theorem QI{X:Cx}{scope:JS}{xo:Option C7}{cl:List (C7×AV)}{own CL:List C7}{C:AV}{s:AN}{H:Hp}{fp:List AV}{x:C7}{pos:Pos}(i:Nat)(hN:(own++CL).Nodup:=by decide +kernel)(hi:(own++CL)[i]?=AA x:=by rfl)(hx:_L.Loc (MY X scope xo cl (own++CL) C s H fp).env.scope x:=by exact BM rfl)(hf:(MY X scope xo cl (own++CL) C s H fp).fn x=AQ\/(MY X scope xo cl (own++CL) C s H fp).env.scope.names.lookup x=AA .local:=by exact D5 rfl):VG (MY X scope xo cl (own++CL) C s H fp) (.Name x pos) (.nm i):=P9 hN hi hx hf
theorem yBR{J:It}{n:Nat}{g:TG}{tt:TT}{te:TE}{B0:AV}{σ₀:St}{N:St->Hp->Prop}{H1:Hp}(Pv:Nat->List V->St->Hp->Prop)(h0:Pv 0 [] σ₀ (DZ H1 B0 (.lst [])))(ha:∀i ys σ H,i<=n->Pv i ys σ H->H B0=AA (.lst ys)) (hs:∀i ys σ H,i<n->Pv i ys σ H->J.go i H/\∀x H',J.yld i H x H'->g x σ H' λσ2 H2=>tt σ2 H2 λb H3 =>
   if b=AQ then te σ2 H3 λy H4=>H4 B0=AA (.lst ys)/\ys.length<sizeLine/\∃m',m'<n-i/\m'=n-(i+1)/\i+1<=n/\Pv (i+1) (ys++[y]) σ2 (DZ H4 B0 (.lst (ys++[y])))
   else ∃m',m'<n-i/\m'=n-(i+1)/\i+1<=n/\Pv (i+1) ys σ2 H3)
  (hd:∀ys σ H,Pv n ys σ H->J.stop n H/\N σ H) (mg:∀x σ H P P',(∀σ2 H2,P σ2 H2->P' σ2 H2)->g x σ H P->g x σ H P') (mt:∀σ H P P',(∀b H2,P b H2->P' b H2)->tt σ H P->tt σ H P') (me:∀σ H P P',(∀v H2,P v H2->P' v H2)->te σ H P->te σ H P'):tWalkC J g tt (lS B0 te) σ₀ (DZ H1 B0 (.lst [])) N:=by
 refine{λi m σ H=>m=n-i/\i<=n/\∃ys,Pv i ys σ H,{n,by lia,BN _,[],h0},?_};intro i m σ H zz';have{rfl,hi,ys,p}:=zz';by_cases IS:i<n
 .have{go,st}:=hs i ys σ H IS p;refine .inr {go,λx H' y=>mg _ _ _ _ _ (λσ2 H2 q=>mt _ _ _ _ (λb H3 q=>?_) q) (st x H' y)};cases b with
  |true=>rw[if_pos rfl] at q ⊢;exact me _ _ _ _ (λv H4 ⟨q1,q2,m',a,b,c,q3⟩=>{ys,q1,q2,m',a,b,c,_,q3}) q
  |false=>rw[if_neg BH] at q ⊢;have{m',a,b,c,q3}:=q;exact{m',a,b,c,_,q3}
 .have e:i=n:=by lia
  subst e;exact .inl (hd ys σ H p)
theorem Hx{α:Type}(f:α->Bool){l:List α}{i:Nat}{x:α}(h:l[i]?=AA x):(l.take (i+1)).filter f=(l.take i).filter f++(if f x=AQ then[x] else[]):=by
 have{hi,e}:=AH.mp h;rw[CI hi,List.filter_append,e];by_cases hf:f x=AQ
 .simp[hf]
 .simp[hf]
theorem Ux{K:AC}{H:Hp}:∀{zs:List V} {ps:List (Int×Int)} {i:Nat} {z:V},PairsAt K H zs ps->zs[i]?=AA z->∃(q:AV) (x y:Int),z=.ref q/\SqT K H q [.int x,.int y]/\ps[i]?=AA (x,y)
 |_,_,_,_,.nil,h=>by simp at h
 |_,_,0,_,.cons ⟨q,e,s⟩ t,h=>by simp at h;subst h;exact{q,_,_,e,s,rfl}
 |_,_,i+1,_,.cons _ t,h=>by simp at h;simpa using Ux t h
theorem pAP{H1 H':Hp}{B0:AV}{o:HO}(g:Gr H1 H')(h:H1 B0=AL):Gr H1 (DZ H' B0 o):=λb u e=>by rw[EH (SF e h)];exact g b u e
def yKY(K:AC)(H:Hp)(q:AV)(AD:Int)(ps:List (Int×Int)):Prop:=∃(t:AV) (zs:List V),SqT K H q [.int AD,.ref t]/\SqT K H t zs/\PairsAt K H zs ps
noncomputable def SE(ps:List (Int×Int))(j:Nat):List Int:=(ps.filter λp=>decide (p.1=(j:Int))).map (·.2)
def yBS(H:Hp)(L:AV)(rs:List AV)(AD:Int)(ps:List (Int×Int)):Prop:=H L=AA (.lst (rs.map V.ref))/\(rs.length:Int)=AD/\∀(j:Nat) (hj:j<rs.length),H rs[j]=AA (.lst ((SE ps j).map V.int))
def yBT(K:AC):Sp:=λvs H Q _=>∃(q:AV) (AD:Int) (ps:List (Int×Int)),vs=[.ref q]/\yKY K H q AD ps/\ps.length<=1000/\0<=AD/\AD<=100/\(∀p∈ps,0<=p.1/\p.1<AD) /\ ∀(L:AV) (H':Hp) (rs:List AV),Gr H H'->yBS H' L rs AD ps->H L=AL->(∀r∈rs,H r=AL)->Q (.ref L) H'
section
variable{P:CA}{w:DL}{K:AC}{mg:C7->Option AI}{base:CN}
theorem bK:FnScope ["net","many","lanes","nexts","one","other"] ["net"] (J4 Bv):={rfl,rfl,rfl,by decide +kernel,rfl,by decide +kernel,by decide +kernel}
theorem Ym:((["place"]:List C7)++([]:List C7)).Nodup:=by decide +kernel
theorem zXG{f:AV}{fd:CM}(F:Fun K "next_places" "next_places" Bv f fd)(T:Bt mg):FnOk P w K mg base KW 1 f fd ["net"] (yBT K):=by
 refine F.ok bK (λvs H Q E h=>?_) (λHN A outer s H vs Q E hr h=>?_)
 .have{q,AD,ps,rfl,_}:=h;rfl
 .have{q,AD,ps,rfl,zz',LS,yB,aT,hrg,q0}:=h;have{t,zs,hq,ht,aR}:=zz';refine{_,cQ (Fi (pv 0) (Af rfl (oK (j2 (i:=1) bK.nd rfl (BM rfl)) (oK (j2 (i:=2) bK.nd rfl (BM rfl)) SG))))
   (cQ (Xc (i:=3) (own:=["place"]) (CL:=[]) (js:=[]) (cn (xo:=AL) rfl) rfl (Ht rfl T.b_range (PB (pv 1) FO))
     (λC s H fp=>j2 (i:=0) Ym rfl (BM rfl) (D5 rfl)) (λC s H fp=>VV) (λC s H fp=>rD FO) bK.nd rfl rfl rfl)
   (cQ (Ae C2 rfl (Qz (pv 2)) (Af rfl (oK (j2 (i:=4) bK.nd rfl (BM rfl)) (oK (j2 (i:=5) bK.nd rfl (BM rfl)) SG)))
    (j3 (vH (nY EE GH GG rQ (lQ SJ (pv 3) (pv 4) (λ_ _=>rfl)) (PB (pv 5) FO)))))
   (j3 (uU (pv 3))))),?_}
  have sm:∀n:Nat,n<=1000->n<=sizeLine:=λn h=>CS (Hr h);have hzl:zs.length=ps.length:=Paired.length aR;refine{_,rfl,q,_,rfl,hq,rfl,_,_,rfl,_,_,rfl,rfl,?_};refine{_,rfl,_,rfl,by lia,by lia,λB0 fS=>?_};refine yBR (J:=sR 0 AD.toNat) (g:=lR 0) (tt:=Zc) (te:=Zj Zk) (n:=AD.toNat) (λi ys σ H'=>∃(u:Option V) (rs:List AV),σ=[u]/\ys=rs.map V.ref/\rs.length=i/\rs.Nodup/\(∀r∈rs,H' r=AA (.lst [])/\H r=AL/\r≠B0)/\H' B0=AA (.lst ys)/\Gr H H')
   {AL,[],rfl,rfl,rfl,G5,Cb,GO,Gr.new fS} (λi ys σ H' _ ⟨_,_,_,_,_,_,_,h,_⟩=>h) ?_ ?_ (λx σ H P P' h q=>h _ _ q) (λσ H P P' h q=>h _ _ q) (λσ H P P' h q=>{q.1,λp hp=>h _ _ (q.2 p hp)})
  .intro i ys σ H' hi zz';have{u,rs,rfl,rfl,hl,nd,kN,ha,gr}:=zz';refine{hi,?_};intro x zI zz';have{rfl,rfl}:=zz';refine{sm 0 'D',λpt tM=>?_};have hpa:pt≠B0:=CT (SF ha tM);have xX:H pt=AL:=by
    cases e:H pt with
    |none=>rfl
    |some o=>have:=gr _ _ e;rw[tM] at this;cases this
   have hnr:pt∉rs:=λz=>by have:=(kN pt z).1;rw[tM] at this;cases this
   refine{Gr.new tM _ _ ha,Hr (by rw[AK];lia),_,by lia,rfl,by lia,_,rs++[pt],rfl,by simp,by simp[hl],?_,λr X4=>?_,GO,pAP (gr.trans (Gr.new tM)) fS}
   .rw[FI];exact{nd,EZ.mpr {by simp,G5},λa yX b X8=>by rw[AS.mp X8];exact λz=>hnr (z▸yX)}
   .rcases BR.mp X4 with h|h
    .have{h1,h2,h3}:=kN r h;exact{by rw[EH h3,EH (SF h1 tM)];exact h1,h2,h3}
    .rw[AS.mp h];exact{by rw[EH hpa,GO],xX,hpa}
  .intro ys σ H2 zz';have{u,rs,rfl,rfl,hl,nd,kN,ha,gr}:=zz';refine{AM _,?_};refine{_,rfl,t,rfl,{_,ht.gr gr},zZK (K:=K) (a:=t) (xs:=zs) (λi σ H3=>∃u4 u5:Option V,σ=[AA (.ref q),AA (.int AD),AA (.ref t),AA (.ref B0),u4,u5]/\H3 B0=AA (.lst (rs.map V.ref))/\(∀(j:Nat) (hj:j<rs.length),H3 rs[j]=AA (.lst ((SE (ps.take i) j).map V.int)))/\Gr H H3)
    {AL,AL,rfl,ha,λj hj=>(kN _ (IP hj)).1,gr} (λi σ H3 _ ⟨_,_,_,_,_,g⟩=>ht.gr g) ?_ ?_}
   .intro i z σ H3 hi zz';have{u4,u5,rfl,Ee,tL,g3}:=zz';have{pq,x,y,rfl,OF,pX}:=Ux (aR.gr g3) hi;have{x0,x9}:=hrg _ (BS pX);have iO:x.toNat<rs.length:=by rw[hl];have:=x9;have:=x0;simp only at *;lia
    have bQ:((x.toNat:Nat):Int)=x:=by simp only at x0;lia
    have kZ:atI (rs.map V.ref) x=AA (.ref rs[x.toNat]):=by have z:=To (xs:=rs.map V.ref) (j:=x.toNat) (v:=.ref rs[x.toNat]) (by rw[AY,BD iO];rfl);rw[bQ] at z;exact z
    have Du:=(AH.mp pX).1;have hsl:(SE (ps.take i) x.toNat).length<=1000:=by unfold SE;rw[AK];have h1:=DH (λp:Int×Int=>decide (p.1=((x.toNat:Nat):Int))) (ps.take i);rw[F9] at h1;lia
    refine{pq,_,rfl,OF,rfl,_,_,rfl,_,_,rfl,rfl,?_};refine{_,rfl,_,rfl,B0,_,_,_,rfl,rfl,SqL.of Ee,kZ,.inl {rfl,_,SqL.of (tL _ iO)},_,rfl,rs[x.toNat],_,_,rfl,rfl,tL _ iO,Hr (by rw[AK];exact hsl),_,_,rfl,?_,λj hj=>?_,?_}
    .rw[EH (CT (kN _ (IP iO)).2.2)];exact Ee
    .have hf:=Hx (λp:Int×Int=>decide (p.1=(j:Int))) pX;by_cases hjx:j=x.toNat
     .subst hjx;rw[GO];unfold SE;rw[hf,if_pos (decide_eq_true (show x=((x.toNat:Nat):Int) from bQ.symm))];simp
     .have SK:rs[j]≠rs[x.toNat]:=λz=>by
       rcases Nat.lt_or_gt_of_ne hjx with h|h
       .exact B9.mp nd _ _ hj iO h z
       .exact B9.mp nd _ _ iO hj h z.symm
      rw[EH SK,tL j hj];unfold SE;rw[hf,if_neg (by simp only[decide_eq_true_eq];lia),E4]
    .exact pAP g3 (kN _ (IP iO)).2.1
   .intro σ H3 zz';have{u4,u5,rfl,Ee,tL,g3}:=zz';rw[hzl,G4] at tL;exact{_,rfl,q0 B0 H3 rs g3 {Ee,by rw[hl];lia,tL} fS λr X4=>(kN r X4).2.1}
end
def cK(AD:Int)(ps:List (Int×Int)):D:=.lst ((DM AD.toNat).map λj=>.lst ((SE ps j).map D.int))
def Bz(AD:Int)(ps:List (Int×Int)):D:=.tup [.int AD,.tup (ps.map E8)]
def wE(sl:Ev)(q:Int×List (Int×Int)):Prop:=sl=[.val (Bz q.1 q.2)]/\0<=q.1/\q.1<=100/\q.2.length<=1000/\∀p∈q.2,0<=p.1/\p.1<q.1
open Classical in
def iH:Mr:=λsl=>if h:∃q,wE sl q then .ok (AE,cK h.choose.1 h.choose.2,.non) else .bad
theorem yIF{sl:Ev}{r:Bool×D×D}(h:iH sl=.ok r):∃AD ps,wE sl (AD,ps)/\r=(AE,cK AD ps,.non):=by
 unfold iH at h;by_cases e:∃q,wE sl q
 .rw[dif_pos e] at h;cases h;exact{_,_,e.choose_spec,rfl}
 .rw[dif_neg e] at h;cases h
theorem yIG{AD:Int}{ps:List (Int×Int)}(h:wE [.val (Bz AD ps)] (AD,ps)):iH [.val (Bz AD ps)]=.ok (AE,cK AD ps,.non):=by have e:∃q,wE [.val (Bz AD ps)] q:={_,h};unfold iH;rw[dif_pos e];have z:=e.choose_spec.1;generalize e.choose=q at z;injection z with z _;injection z with z;injection z with z;injection z with z1 z2;injection z1 with z1;injection z2 with z2 _;injection z2 with z2;have:=congrArg l0 z2;rw[Bq,Bq] at this;injection this with this;rw[<-z1,<-this]
theorem pAQ{K:AC}{F H:Hp}(s:Sub F H):∀{ps:List (Int×Int)} {ys:List V},Reps K F ys (ps.map E8)->PairsAt K H ys ps:=λr=>pA0 (r.prs s) λ_ _ ⟨q,e,h⟩=>{q,e,SqT.of h}
theorem zI7{P:CA}{w:DL}{K:AC}{mg:C7->Option AI}{base:CN}{f:AV}{fd:CM}(Fn:Fun K "next_places" "next_places" Bv f fd)(T:Bt mg):FnOk P w K mg base KW 1 f fd ["net"] (ME K 1 iH) :=FnOk.imp (zXG Fn T) λvs H Q E h=>by
  have{hl,τ,F,sl,b,d,d',S,sh,hm,k}:=h;have{AD,ps,zz',er}:=yIF hm;have{rfl,g1,g2,g3,g4}:=zz';cases er;have{v,e1,r}:=S.val 0 _ rfl;have{v',rfl}:=YX.mp hl;cases e1;have{q,ws,rfl,r2,sq}:=r.tupSq;cases r2 with
  |cons ra r2 =>
   cases r2 with
   |cons rb r2 =>
    cases r2;cases ra;have{t,zs,rfl,r3,sq3}:=rb.tupSq;refine{q,AD,ps,rfl,{t,zs,sq F H (.refl _) S.sub,sq3 F H (.refl _) S.sub,pAQ S.sub r3},g3,g1,g2,g4,λL H' rs gr na hL kN=>?_};have n:=New.gro (F:=F) S.sub gr;refine k _ _ _ n.stp (S.new n) ?_;have{n1,n2,n3}:=na;have hL':gro F H H' L=AA (.lst (rs.map V.ref)):=by rw[Fx hL];exact n1
    refine .lst (.inl (.inl hL')) ?_;have KE:∀(l:List AV) (o:Nat),(∀r∈l,H r=AL)->(∀(j:Nat) (hj:j<l.length),H' l[j]=AA (.lst ((SE ps (o+j)).map V.int))) ->
      Reps K (gro F H H') (l.map V.ref) ((List.range' o l.length).map λj=>D.lst ((SE ps j).map D.int)):=by
     intro l;induction l with
     |nil=>intro o _ _;exact .nil
     |cons a l ih =>
      intro o h1 h2;rw[AU,A8,List.range'_succ,AU];refine .cons ?_ (ih (o+1) (λr hr=>h1 r (A2 _ hr)) λj hj=>?_)
      .have:=h2 0 'S';have hA':gro F H H' a=AA (.lst ((SE ps o).map V.int)):=by rw[Fx (h1 a AZ)];simpa using this
       exact .lst (.inl (.inl hA')) (Reps.ints _)
      .have:=h2 (j+1) (by simp;lia);rw[show o+1+j=o+(j+1) by lia];simpa using this
    have:=KE rs 0 kN (by simpa using n3);rw[show rs.length=AD.toNat by lia] at this;rw[List.range_eq_range'];exact this
section
variable{P:CA}{w:DL}{K:AC}{mg:C7->Option AI}{base:CN}
theorem j8:FnScope ["heads","one","other","way","head"] ["heads","one","other"] (J4 Ig):=O2
theorem zXH(xs:List Int)(n:Nat)(h:n<=xs.length):Y4 (xs.map V.int) AL (AA ((n:Nat):Int))=(xs.take n).map V.int:=by unfold Y4;rw[HT.sIx_none,HT.sIx_nat,AK,nK h,L0,Nat.sub_zero,List.map_take]
noncomputable def sWT(hd:AV)(one BV:Int)(wa:AV)(u:Option V):St:=[AA (.ref hd),AA (.int one),AA (.int BV),AA (.ref wa),u]
theorem yFT{f:AV}{fd:CM}(F:Fun K "way_taken" "way_taken" Ig f fd)(T:Bt mg):FnOk P w K mg base KW 1 f fd ["heads","one","other"] (Yn K):=by
 refine F.ok j8 (λvs H Q E h=>?_) (λHN A outer s H vs Q E hr h=>?_)
 .have{_,_,_,_,_,_,_,_,_,rfl,_}:=h;rfl
 .have{hd,one,BV,ρ,L,g,n,K4,g',rfl,p7,kM,hn,Nc,q}:=h;have hu:=hr.units;refine{_,cQ (rF (i:=3) j8.nd rfl (BM rfl) (rD (PB (pv 1) FO)))
   (cQ (Hi C2 (Gd yHB (lQ SJ (pv 3) (Ek Fh VX) (λ_ _=>rfl)) (pv 2) rfl)
    (cQ (rF (i:=4) j8.nd rfl (BM rfl) (yD5 EE XC XB yD6 (lQ (Aj hu) (pv 0) (lQ SJ (pv 3) (Ek Fh VX) (λ_ _=>rfl)) (λ_ _=>rfl))))
    (cQ (yDK (Gd zR7 (pv 4) (pv 3) rfl) (j3 (rF (i:=3) j8.nd rfl (BM rfl) (Ut Tl (pv 3) aO (Tq (nY EE VJ PySem.F.type_list_index zXD (pv 3) (PB (pv 4) FO)))))) aN)
    (j3 (vH (nY EE GH GG rQ (pv 3) (PB (pv 4) FO)))))))
   (j3 (uU (oN Ix rfl T.b_tuple (by decide +kernel) (PB (pv 3) FO))))),?_}
  have eO:∀k:Nat,k<=4000->k<sizeLine:=λk hk=>by rw[FM];lia
  refine{_,rfl,CS (eO 1 'D'),λwa kL=>?_};have V9:∀{a:AV},H a=AL->a≠hd/\∀p∈L,ρ p≠a:=λ{a} h=>{CT (SF p7 h),λp hp=>SF (kM.at' p hp).1 h};refine{λm σ' H'=>∃(wa:AV) (u:Option V) (ws:List Int) (gg:Int->List Int),σ'=sWT hd one BV wa u/\Chg ρ L H H'/\H' hd=AA (.dK (XV ρ L))/\Rws kC H' hd ρ L gg/\H' wa=AA (.lst (ws.map V.int))/\H wa=AL/\ws.length+m<=3001/\mB L BV m gg ws=AA (K4,g'),
   {n,wa,AL,[one],g,rfl,Chg.refl.new kL,by rw[EH (CT (V9 kL).1)];exact p7,kM.offU (V9 kL).2,GO,kL,by simp only[CV];lia,Nc},?_}
  intro m σ' H' zz';have{wa,u,ws,gg,rfl,hc,h1,h2,h3,h4,h5,h6}:=zz';cases m with
  |zero=>cases h6
  |succ m =>
   unfold mB at h6;split at h6
   .cases h6
   .rename_i x hx;refine{_,rfl,_,rfl,wa,_,_,_,rfl,rfl,SqL.of h3,Wg hx,_,rfl,rfl,_,rfl,?_};by_cases Dm:x=BV
    .rw[if_pos Dm] at h6;cases h6;rw[if_neg (by simp[Dm])];refine{_,rfl,wa,_,rfl,.inl {SqL.of h3,λt ht=>?_}};have tH:=hc.none ht λp hp=>by rw[(h2.at' p hp).1];exact nofun
     exact q t _ (hc.new tH) (by rw[EH (CT (V9 tH).1)];exact h1) (h2.offU (V9 tH).2) GO tH
    .rw[if_neg Dm] at h6;rw[if_pos (by simp[Dm])];split at h6
     .rename_i xM;split at h6
      .cases h6
      .rename_i h hh;refine{λσ' H'=>∃(wa:AV) (u:Option V) (ws:List Int) (gg:Int->List Int),σ'=sWT hd one BV wa u/\Chg ρ L H H'/\H' hd=AA (.dK (XV ρ L))/\Rws kC H' hd ρ L gg/\H' wa=AA (.lst (ws.map V.int))/\H wa=AL/\ws.length+m<=3001/\mB L BV m gg ws=AA (K4,g'),λσ' H' z=>{m,C4 m,z},?_};have{r1,_,r3}:=h2.at' x xM;have pw:=h2.pop xM;have hwr:=(V9 h4).2 x xM;have hdn:=(V9 h4).1;have qI:DZ H' (ρ x) (.lst ((gg x).map V.int).dropLast) wa=AA (.lst (ws.map V.int)):=by rw[EH (CT hwr)];exact h3
       have WG:DZ H' (ρ x) (.lst ((gg x).map V.int).dropLast) hd=AA (.dK (XV ρ L)):=by rw[EH (CT r3)];exact h1
       have VH:Chg ρ L H (DZ H' (ρ x) (.lst ((gg x).map V.int).dropLast)):=hc.row xM;generalize hH2:DZ H' (ρ x) (.lst ((gg x).map V.int).dropLast)=H2 at *;have Dv:((gg x).map V.int)[((gg x).map V.int).length-1]?=AA (.int h):=by rw[AK,AY,<-MG,hh];rfl
       refine{_,rfl,_,rfl,_,rfl,wa,_,_,_,rfl,rfl,SqL.of h3,Wg hx,hd,.ref (ρ x),rfl,.inl {XV ρ L,.inl x,.inl h1,rfl,(Be xM).symm},.inl {rfl,_,SqL.of r1},ρ x,_,.int h,rfl,rfl,r1,Dv,?_};rw[hH2];refine{_,rfl,_,rfl,wa,_,rfl,.inl (SqL.of qI),rfl,Wf _,_,rfl,?_};have eIn:(if AE=AQ then !sN (V.int h) (ws.map V.int) else sN (V.int h) (ws.map V.int))=decide (h∈ws):=by rw[if_neg BH];exact zXE
       rw[eIn];unfold back1 at h6;by_cases VF:h∈ws
       .rw[if_pos VF] at h6;refine Zx (decide_eq_true VF) ?_;refine{_,rfl,{_,rfl,.inl {rfl,_,SqL.of qI},_,rfl,wa,ws,h,rfl,rfl,SqL.of qI,by lia,VF,_,rfl,wa,_,rfl,SqL.of qI,λwb hwb=>?_}};have IS:=UX VF;have X6:Y4 (ws.map V.int) AL (AA ((ws.idxOf h:Nat):Int))=(ws.take (ws.idxOf h)).map V.int:=zXH ws _ (CS IS);rw[X6];have fG:=VH.none hwb λp hp=>by rw[(pw.at' p hp).1];exact nofun
        have htl:(ws.take (ws.idxOf h)).length<=ws.length:=by rw[F9];lia
        refine{_,rfl,.inl {rfl,_,SqL.of GO},_,rfl,wb,_,.int h,rfl,rfl,GO,eO _ (by rw[AK];lia),wb,_,ws.take (ws.idxOf h)++[h],_,rfl,?_,?_,?_,?_,fG,?_,h6}
        .exact(VH.new fG).new fG
        .rw[Tj,EH (CT (V9 fG).1)];exact WG
        .rw[Tj];exact pw.offU (V9 fG).2
        .rw[GO,D0];rfl
        .rw[BG,CV];lia
       .rw[if_neg VF] at h6;refine Zy (by simp[VF]) ?_;refine{_,rfl,.inl {rfl,_,SqL.of qI},_,rfl,wa,_,.int h,rfl,rfl,qI,eO _ (by rw[AK];lia),wa,_,ws++[h],_,rfl,?_,?_,?_,?_,h4,?_,h6}
        .exact VH.new h4
        .rw[EH (CT hdn)];exact WG
        .exact pw.offU (V9 h4).2
        .rw[GO,D0];rfl
        .rw[BG,CV];lia
     .cases h6
def Jf(P:CA)(w:DL)(K:AC)(mg:C7->Option AI)(base:CN):Prop:=∃(f:AV) (fd:CM),FnOk P w K mg base KW 1 f fd ["heads","one","other"] (Yn K)/\mg "way_taken"=AA (.ref f)/\GX K (.ref f)=AQ/\Binds K fd ["heads","one","other"] []
end
def LR(n:Nat):List Int:=(DM n).map λj:Nat=>(j:Int)
theorem VZ{n:Nat}{x:Int}:x∈LR n↔0<=x/\x<(n:Int):=by
 unfold LR;rw[BY];constructor
 .intro zz';have{j,hj,rfl}:=zz';have:=G6.mp hj;lia
 .exact λh=>{x.toNat,G6.mpr 'L',by lia}
theorem Sr(n:Nat):LR (n+1)=LR n++[(n:Int)]:=by unfold LR;rw[T6,D0];rfl
noncomputable def dQ(qs:List (Int×Int)):Int->List Int:=λp=>(qs.filter λq=>decide (q.1=p)).map (·.2)
def Yl:D->Option (List (Int×Int))
 |.dt kvs=>toPr2 (kvs.map (·.1))
 |_=>AL
noncomputable def E7(eU:D)(one BV:Int):Ev:=[.val eU,.val (.int one),.val (.int BV),.no,.no,.no,.no]
structure LaC(m:Mr)(E:Ev)(AD:Int)(ln:D)(one BV:Int)(ps:List (Int×Int))(ws:List (List Int)):Prop where
 env:E=E7 (.tup [.int AD,ln]) one BV
 call:∃b d d',m [.val (.tup [.int AD,ln]),.val (.int one),.val (.int BV)]=.ok (b,d,d')/\Yl d=AA ps
 rg:0<=AD/\AD<=100/\ps.length<=1000/\0<=one/\one<AD
 ends:∀p∈ps,0<=p.1/\p.1<AD
 ways:sM (LR AD.toNat) one BV 2000 (dQ (NG ps)) []=AA ws
open Classical in
noncomputable def sP(m:Mr):GS:=λE=>if h:∃q:(Int×D×Int×Int)×List (Int×Int)×List (List Int),LaC m E q.1.1 q.1.2.1 q.1.2.2.1 q.1.2.2.2 q.2.1 q.2.2 then .ok (.rt AE (.tup (h.choose.2.2.map λw=>.tup (w.map D.int))) E) else .bad
theorem yFU{m:Mr}{E:Ev}{r:Fl}(h:sP m E=.ok r):∃AD ln one BV ps ws,LaC m E AD ln one BV ps ws/\r=.rt AE (.tup (ws.map λw=>.tup (w.map D.int))) E:=by
 unfold sP at h;split at h
 .rename_i e;cases h;exact{_,_,_,_,_,_,e.choose_spec,rfl}
 .cases h
theorem yFV{m:Mr}{E:Ev}{AD:Int}{ln:D}{one BV:Int}{ps:List (Int×Int)}{ws:List (List Int)}(h:LaC m E AD ln one BV ps ws):sP m E=.ok (.rt AE (.tup (ws.map λw=>.tup (w.map D.int))) E):=by have e:∃q:(Int×D×Int×Int)×List (Int×Int)×List (List Int),LaC m E q.1.1 q.1.2.1 q.1.2.2.1 q.1.2.2.2 q.2.1 q.2.2:={((AD,ln,one,BV),ps,ws),h};unfold sP;rw[dif_pos e];have z:=e.choose_spec;generalize e.choose=q at z;have{zz',bN,pA}:=q;have{m',l',o',t'}:=zz';have ee:=h.env.symm.trans z.env;simp only[E7,QW,Sl.val.injEq,D.tup.injEq,D.int.injEq,and_true] at ee;have{zz',rfl,rfl}:=ee;have{rfl,rfl}:=zz';have{b,d,d1,e1,e2}:=h.call;have{b',d',qN,y8,y7}:=z.call;rw[e1] at y8;cases y8;rw[e2] at y7;cases y7;have:=h.ways.symm.trans z.ways;cases this;rfl
section
variable{K:AC}{eU:D}{vn:V}{PN M:AV->Prop}{Fs Hs F H F1 H1:Hp}{a:AV}{ρ:Int->AV}{L:List Int}{g:Int->List Int}
structure Th(K:AC)(eU:D)(vn:V)(PN:AV->Prop)(Fs Hs:Hp)(M:AV->Prop)(a:AV)(ρ:Int->AV)(L:List Int)(g:Int->List Int)(F H:Hp):Prop where
 sub:Sub F H
 n:Rep K F vn eU
 st:Stp PN Fs Hs F H M
 ma:M a/\∀p∈L,M (ρ p)
 fa:F a=AL
 ha:H a=AA (.dK (XV ρ L))
 rw:Rws F H a ρ L g
theorem Th.step{ow TF:AV->Prop}(T:Th K eU vn PN Fs Hs M a ρ L g F H)(h:∀a,¬ow a)(s:Stp ow F H F1 H1 TF)(sb:Sub F1 H1):Th K eU vn PN Fs Hs M a ρ L g F1 H1 :={sb,T.n.le s.le,T.st.trans (s.fr h),T.ma,s.nF T.fa T.ha trivial (h a),s.keep _ _ T.ha trivial T.fa (h a),T.rw.step h s}
theorem Th.app{p c:Int}{g':Int->List Int}(T:Th K eU vn PN Fs Hs M a ρ L g F H)(hp:p∈L)(h1:g' p=g p++[c])(h2:∀q∈L,q≠p->g' q=g q):Th K eU vn PN Fs Hs M a ρ L g' F (DZ H (ρ p) (.lst ((g p).map V.int++[.int c]))) :={T.sub.off (T.rw.at' p hp).2.1,T.n,T.st.trans (Stp.mine (T.ma.2 p hp)),T.ma,T.fa,by rw[EH (CT (T.rw.at' p hp).2.2)];exact T.ha,T.rw.app hp h1 h2}
theorem Rl{H₀:Hp}{τ:AV}{one BV:Int}{u3 u4 u5 u6:Option V}(s:Sub F H)(r:Rep K F vn eU):Sim K H₀ τ F H [AA vn,AA (.int one),AA (.int BV),u3,u4,u5,u6] (E7 eU one BV):=by
 refine yFJ s rfl (λi d e=>?_) λi t d e=>?_
 .match i,e with
  |0,e=>cases e;exact{_,rfl,r}
  |1,e=>cases e;exact{_,rfl,.int _}
  |2,e=>cases e;exact{_,rfl,.int _}
  |3,e=>cases e
  |4,e=>cases e
  |5,e=>cases e
  |6,e=>cases e
  |_+7,e=>cases e
 .match i,e with
  |0,e=>cases e
  |1,e=>cases e
  |2,e=>cases e
  |3,e=>cases e
  |4,e=>cases e
  |5,e=>cases e
  |6,e=>cases e
  |_+7,e=>cases e
theorem Eu{σ:St}{one BV:Int}(b:AV):¬EJ σ (E7 eU one BV) b:=λq0=>by
 have{i,t,d,e,_}:=q0;match i,e with
 |0,e=>cases e
 |1,e=>cases e
 |2,e=>cases e
 |3,e=>cases e
 |4,e=>cases e
 |5,e=>cases e
 |6,e=>cases e
 |_+7,e=>cases e
end
section
variable{P:CA}{w:DL}{K:AC}{mg:C7->Option AI}{base:CN}
theorem zXI{K:AC}{F H:Hp}{ts:List AV}{vs:List (List Int)}(h:Paired (λ(t:AV) (w:List Int)=>H t=AA (.tup (w.map V.int))) ts vs):Reps K (oW F H) (ts.map V.ref) (vs.map λw=>.tup (w.map D.int)):=by
 induction h with
 |nil=>exact .nil
 |cons r _ ih=>exact .cons (.tup (uN r) (Reps.ints _)) ih
theorem zUA{α β:Type}{R:α->β->Prop}{l:List α}{m:List β}{a:α}{b:β}(h:Paired R l m)(r:R a b):Paired R (l++[a]) (m++[b]):=by
 induction h with
 |nil=>exact .cons r .nil
 |cons q _ ih=>exact .cons q ih
theorem eA:FnScope ["net","one","other","heads","tail","head","ways"] ["net","one","other"] (J4 Bu):=O2
theorem yII{f:AV}{fd:CM}{m:Mr}(Fn:Fun K "lanes_apart" "lanes_apart" Bu f fd)(T:Bt mg)(cu:J2 P w K mg base "used_most" 4 3 m)(cw:Jf P w K mg base):FnOk P w K mg base KW 5 f fd ["net","one","other"] (ME K 3 (OC 7 (sP m))):=by
 refine P7 Fn eA λHN A outer s H E hr=>?_;have hu:=hr.units;have{fw,fwd,okW,mW,kW,bW}:=cw;refine PSs.imp (cQ (zOQ (i:=3) (own:=["place"]) (CL:=[]) (js:=[]) (cn (xo:=AL) rfl) rfl (Ht rfl T.b_range (PB (lQ eF (pv 0) VX (λ_ _=>rfl)) FO))
    (λC s H fp=>j2 (i:=0) Ym rfl (BM rfl) (D5 rfl)) (λC s H fp=>VV) (λC s H fp=>pv 0) (λC s H fp=>rD FO) eA.nd rfl rfl rfl)
  (cQ (Ae C2 rfl (U8 (pA8 (vL T.b_sorted (CK (pA8 (yBQ rfl T.b_list (CK (LN cu (hr.mono 'D') (CK (BO 0) (CK (BO 1) (CK (BO 2) D7)))) D7))) D7))))
    (Af rfl (oK (j2 (i:=4) eA.nd rfl (BM rfl)) (oK (j2 (i:=5) eA.nd rfl (BM rfl)) SG)))
    (j3 (vH (nY EE GH GG rQ (lQ (Aj hu) (pv 3) (pv 4) (λ_ _=>rfl)) (PB (pv 5) FO)))))
  (cQ (rF (i:=6) eA.nd rfl (BM rfl) (rD FO))
  (cQ (Hi C2 (Uw (lQ (Aj hu) (pv 3) (pv 1) (λ_ _=>rfl)) (λ_=>rfl))
    (j3 (vH (nY EE GH GG rQ (pv 6) (PB (vG okW (hr.mono 'D') rfl mW kW bW .nil uF (PB (pv 3) (PB (pv 1) (PB (pv 2) FO)))) FO)))))
  (j3 (uU (oN Ix rfl T.b_tuple (by decide +kernel) (PB (pv 6) FO)))))))) λD' σ H q=>?_
 have{τ,F,E0,r,S,hg,k}:=q;have{AD,ln,one,BV,ps,ws,C,rfl}:=yFU hg;obtain⟨rfl,⟨b0,d0,d0',hm,aR⟩,⟨g1,g2,g3,g4,g5⟩,aV,xN⟩:=C;have{w0,w1,w2,w3,w4,w5,w6,rfl}:=yH7 S.len;have{vn,hvn,rn}:=S.val 0 (.tup [.int AD,ln]) rfl;have{v1,tE,r1}:=S.val 1 (.int one) rfl;have{v2,hv2,r2}:=S.val 2 (.int BV) rfl;obtain rfl:=r1.vI;obtain rfl:=r2.vI;cases hvn;cases tE;cases hv2;have no7:∀b:AV,¬EJ [AA vn,AA (.int one),AA (.int BV),w3,w4,w5,w6] (E7 (.tup [.int AD,ln]) one BV) b:=Eu;generalize EJ [AA vn,AA (.int one),AA (.int BV),w3,w4,w5,w6] (E7 (.tup [.int AD,ln]) one BV)=ow at no7 k;have{nt,nvs,rfl,wQ,sqn}:=rn.tupSq;have sz:∀k:Nat,k<=4000->k<sizeLine:=λk hk=>by rw[FM];lia
 cases wQ with
 |cons ra wQ =>
 cases wQ with
 |cons rb wQ =>
 cases wQ;obtain rfl:=ra.vI;have hmn:((AD.toNat:Nat):Int)=AD:=P4 g1
 -- heads={..}
 refine{_,rfl,nt,_,0,.int AD,rfl,rfl,sqn F H (.refl _) S.sub,rfl,AD,rfl,by lia,by lia,λhd p7=>?_};refine{λi m σ' H'=>m=AD.toNat-i/\i<=AD.toNat/\∃(u:Option V) (ρ:Int->AV),σ'=[u]/\Gr H H'/\H' hd=AA (.dK (XV ρ (LR i)))/\Rws kC H' hd ρ (LR i) (λ_=>[])/\∀p∈LR i,H (ρ p)=AL,
  {AD.toNat,by lia,BN _,AL,λ_=>hd,rfl,Gr.new p7,GO,{λp hp=>absurd hp A7,λp hp=>absurd hp A7},λp hp=>absurd hp A7},?_}
 intro i m0 σ' H' zz';have{rfl,hi,u,ρ,rfl,gr,hk,kM,ZJ}:=zz';by_cases IS:i<AD.toNat
 .refine .inr {IS,?_};intro x zI zz';have{rfl,rfl}:=zz';refine{_,rfl,CS (sz 0 'D'),λq hq=>?_};have Dr:H q=AL:=by
   cases e:H q with
   |none=>rfl
   |some o=>have:=gr _ _ e;rw[hq] at this;cases this
  have Nl:q≠hd:=CT (SF hk hq);have VF:((i:Nat):Int)∉LR i:=λz=>by have:=VZ.mp z;lia
  have ex:(0:Int)+((i:Nat):Int)=(i:Int):=by lia
  have ne:∀z∈LR i,ρ z≠q:=λz hz=>SF (kM.at' z hz).1 hq;have mem:∀z,z∈LR (i+1)->z≠(i:Int)->z∈LR i:=λz hz e=>by rw[Sr,BR,AS] at hz;exact hz.resolve_right e
  refine{_,.inl ((0:Int)+((i:Nat):Int)),by rw[EH (CT Nl)];exact hk,rfl,by rw[yBJ];unfold LR;rw[AK,GP];exact sz _ 'L',_,Nat.sub_lt_sub_left IS (C4 i),rfl,IS,AA (.int ((0:Int)+((i:Nat):Int))),λz=>if z=(i:Int) then q else ρ z,rfl,?_,?_,{λz hz=>?_,λz hz z' cV h=>?_},λz hz=>?_}
  .exact pAP (gr.trans (Gr.new hq)) p7
  .rw[GO,ex,zXA VF,Sr]
  .by_cases e:z=(i:Int)
   .simp only[e,if_true];rw[EH Nl,GO];exact{rfl,trivial,Nl}
   .simp only[e,if_false];have{x,y,w}:=kM.at' z (mem z hz e);rw[EH w,EH (ne z (mem z hz e))];exact{x,trivial,w}
  .by_cases e:z=(i:Int)
   .by_cases e':z'=(i:Int)
    .rw[e,e']
    .simp only[e,e',if_true,if_false] at h;exact absurd h.symm (ne z' (mem z' cV e'))
   .by_cases e':z'=(i:Int)
    .simp only[e,e',if_true,if_false] at h;exact absurd h (ne z (mem z hz e))
    .simp only[e,e',if_false] at h;exact kM.inj z (mem z hz e) z' (mem z' cV e') h
  .by_cases e:z=(i:Int)
   .simp only[e,if_true];exact Dr
   .simp only[e,if_false];exact ZJ z (mem z hz e)
 .have ei:i=AD.toNat:=by lia
  subst ei;refine .inl {AM _,?_}
  -- for tail,head in ..
  have sF:Sub F H':=λb u e=>gr b u (S.sub b u e);have fn:∀{b:AV},H b=AL->F b=AL:=λ{b} h=>by
   cases e:F b with
   |none=>rfl
   |some u=>rw[S.sub b u e] at h;cases h
  have T0:Th K (.tup [.int AD,ln]) (.ref nt) ow F H (λb=>b=hd\/∃p∈LR AD.toNat,b=ρ p) hd ρ (LR AD.toNat) (λ_=>[]) F H' :=
   {sF,rn,{λb o e _ _ _=>gr b o e,gr.dom,.refl _,λb o e=>.inl (by rw[e];exact nofun),λb z=>.inr (by
    rcases z with rfl|⟨p,hp,rfl⟩
    .exact p7
    .exact ZJ p hp)},{.inl rfl,λp hp=>.inr {p,hp,rfl}},fn p7,hk,{λp hp=>{(kM.at' p hp).1,fn (ZJ p hp),(kM.at' p hp).2.2},kM.inj}}
  have eds:KN (gN bI [gN uR [HD m [AX 0,AX 1,AX 2]]]) (E7 (.tup [.int AD,ln]) one BV)=.ok ((NG ps).map E8,E7 (.tup [.int AD,ln]) one BV):=by
   refine uY (NS (JA (NS (JA (LO (ds:=[.tup [.int AD,ln],.int one,.int BV]) rfl hm)) ?_)) (Bp ps));cases d0 with
   |dt kvs=>have aR:toPr2 (kvs.map (·.1))=AA ps:=aR;simp only[uR,aR]
   |_=>cases aR
  refine{τ,F,E7 (.tup [.int AD,ln]) one BV,_,_,Rl sF rn,eds,λJ F1 H1 s1 S1 wk=>?_};have T1:=T0.step Eu s1 S1.sub;have hql:((NG ps).map E8).length=(NG ps).length:=AK ..;have hsl:(NG ps).length<=1000:=by rw[(dX ps).length_eq];exact g3
  refine yH6 (n:=(NG ps).length) (λi σ' H'=>∃F' u4 u5,σ'=[AA (.ref nt),AA (.int one),AA (.int BV),AA (.ref hd),u4,u5,w6]/\Th K (.tup [.int AD,ln]) (.ref nt) ow F H (λb=>b=hd\/∃p∈LR AD.toNat,b=ρ p) hd ρ (LR AD.toNat) (dQ ((NG ps).take i)) F' H'/\Le F1 F')
   {F1,w4,w5,rfl,T1,.refl _} (λi σ Hj hi h=>?_) (λσ Hj h=>?_) λi σ Hj x H2 IS h y=>?_
  .have{F',_,_,_,T',l'}:=h;exact(wk i F' Hj l' T'.sub).1 (by rw[hql];exact hi)
  .have{F',u4,u5,rfl,T',l'}:=h;refine{(wk _ F' Hj l' T'.sub).2.1 hql.symm,?_};rw[G4] at T'
   -- ways=[],while heads[one]
   refine{CS (sz 0 'D'),λwa kL=>?_};have iR:one∈LR AD.toNat:=VZ.mpr 'L';have fwa:F' wa=AL:=pAH T'.sub kL;have nwd:wa≠hd:=CT (SF T'.ha kL);have Mq:∀p∈LR AD.toNat,ρ p≠wa:=λp hp=>SF (T'.rw.at' p hp).1 kL;have T3:Th K (.tup [.int AD,ln]) (.ref nt) ow F H (λb=>(b=hd\/∃p∈LR AD.toNat,b=ρ p)\/b=wa) hd ρ (LR AD.toNat) (dQ (NG ps)) F' (DZ Hj wa (.lst [])) :=
    {T'.sub.off fwa,T'.n,T'.st.trans (pAN kL λb h=>h),{.inl T'.ma.1,λp hp=>.inl (T'.ma.2 p hp)},T'.fa,by rw[EH (CT nwd)];exact T'.ha,{λp hp=>by rw[EH (Mq p hp)];exact T'.rw.at' p hp,T'.rw.inj}}
   refine{λn σ' H'=>∃(g:Int->List Int) (ts:List AV) (vs:List (List Int)),σ'=[AA (.ref nt),AA (.int one),AA (.int BV),AA (.ref hd),u4,u5,AA (.ref wa)]/\Th K (.tup [.int AD,ln]) (.ref nt) ow F H (λb=>(b=hd\/∃p∈LR AD.toNat,b=ρ p)\/b=wa) hd ρ (LR AD.toNat) g F' H' /\
    H' wa=AA (.lst (ts.map V.ref))/\Paired (λ(t:AV) (w:List Int)=>H' t=AA (.tup (w.map V.int))) ts vs/\ts.length+n<=2000/\sM (LR AD.toNat) one BV n g vs=AA ws,{2000,_,[],[],rfl,T3,GO,.nil,AM _,xN},?_}
   intro n σ' Hc zz';have{g,ts,vs,rfl,Tc,mR,hts,hln,mT}:=zz';cases n with
   |zero=>cases mT
   |succ n =>
    have{o1,o2,o3}:=Tc.rw.at' one iR;unfold sM at mT;refine{_,rfl,_,rfl,hd,.ref (ρ one),rfl,.inl {XV ρ (LR AD.toNat),.inl one,.inl Tc.ha,rfl,(Be iR).symm},!((g one).map V.int).isEmpty,.inl {_,SqL.of o1,rfl},?_};by_cases bS:g one=[]
    .rw[if_pos bS] at mT;cases mT;refine Zy (by rw[bS];simp) ?_;refine{_,rfl,wa,_,rfl,.inl {SqL.of mR,λt ht=>?_}};have n0:New F' Hc F' (DZ Hc t (.tup (ts.map V.ref))):=pA6 Tc.sub (Gr.new ht);have n1:=New.tups n0.2;have st:=(Tc.st.trans n0.stp).trans n1.stp;exact k [AA (.ref nt),AA (.int one),AA (.int BV),AL,AL,AL,AL] (.ref t) _ _ (st.weak λb z=>(Eu b z).elim) (Rl n1.2 ((Tc.n.le n0.1.le).le n1.1.le)) (.tup (uN GO) (zXI (pA0 hts λa b e=>by rw[EH (SF e ht)];exact e)))
    .rw[if_neg bS] at mT;refine Zx (by cases hx:g one with
      |nil=>exact absurd hx bS
      |cons a l=>rfl) ?_
     split at mT
     .cases mT
     .rename_i q Nc;refine{_,λσ' H' z=>{n,C4 n,z},_,rfl,.inl {rfl,_,SqL.of mR},_,rfl,_,rfl,_,rfl,hd,one,BV,ρ,LR AD.toNat,g,3000,q.1,q.2,rfl,Tc.ha,{λp hp=>{(Tc.rw.at' p hp).1,rfl,(Tc.rw.at' p hp).2.2},Tc.rw.inj},AM _,Nc,λt H' hc Oj xU ht tH=>?_};have Mp:∀p∈LR AD.toNat,wa≠ρ p:=λp hp=>CT (Mq p hp);have Nd:=hc wa _ mR Mp;have ntw:t≠wa:=CT (SF mR tH);refine{wa,_,.ref t,rfl,rfl,Nd,sz _ (by rw[AK];lia),q.2,ts++[t],vs++[q.1],rfl,{λb u e=>?_,Tc.n,Tc.st.trans {λb o e hw hf hM=>?_,λb e=>?_,.refl _,λb o e=>.inl (by rw[e];exact nofun),λb z=>.inl z},Tc.ma,Tc.fa,by rw[EH (CT nwd)];exact Oj,{λp hp=>{?_,(Tc.rw.at' p hp).2},Tc.rw.inj}},by rw[GO,D0];rfl,zUA (pA0 hts λa b e=>?_) (by rw[EH ntw];exact ht),by rw[BG,CV];lia,mT}
      .rw[EH (SF e fwa)];exact hc b u (Tc.sub b u e) λp hp=>SF e (Tc.rw.at' p hp).2.1
      .rw[EH λz=>hM (.inr z)];exact hc b o e λp hp z=>hM (.inl (.inr {p,hp,z}))
      .exact hc.none (Fo e) λp hp=>by rw[(xU.at' p hp).1];exact nofun
      .rw[EH (Mq p hp)];exact(xU.at' p hp).1
      .rw[EH (zY e mR nofun)];exact hc a _ e λp hp=>zY e (Tc.rw.at' p hp).1 nofun
  .have{F',u4,u5,rfl,T',l'}:=h;have pX:=BD IS;have{F2,n2,rp}:=(wk i F' Hj l' T'.sub).2.2 x H2 (E8 (NG ps)[i]) (by rw[AY,pX];rfl) y;have T2:=T'.step (λ_ z=>z) n2.1 n2.2;have{pq,pvs,rfl,wP,sqp}:=rp.tupSq;cases wP with
   |cons rx wP =>
    cases wP with
    |cons ry wP =>
     cases wP;obtain rfl:=rx.vI;obtain rfl:=ry.vI;have kT:(NG ps)[i]∈ps:=(dX ps).mem_iff.mp (IP IS);have Np:(NG ps)[i].1∈LR AD.toNat:=VZ.mpr (by have:=aV _ kT;lia);have{h1,h2,h3}:=T2.rw.at' _ Np;have Dv:(dQ ((NG ps).take i) (NG ps)[i].1).length<=1000:=by unfold dQ;rw[AK];have:=DH (λq:Int×Int=>decide (q.1=(NG ps)[i].1)) ((NG ps).take i);rw[F9] at this;lia
     refine{pq,_,rfl,sqp F2 H2 (.refl _) n2.2,rfl,_,_,rfl,_,_,rfl,rfl,?_};refine{_,rfl,_,rfl,hd,.ref (ρ (NG ps)[i].1),rfl,.inl {XV ρ (LR AD.toNat),.inl (NG ps)[i].1,.inl T2.ha,rfl,(Be Np).symm},.inl {rfl,_,SqL.of h1},_,rfl,ρ (NG ps)[i].1,_,_,rfl,rfl,h1,sz _ (by rw[AK];lia),F2,_,_,rfl,T2.app Np ?_ (λq hq e=>?_),l'.trans n2.1.le}
     .unfold dQ;rw[Hx _ pX,if_pos (decide_eq_true rfl),D0];rfl
     .unfold dQ;rw[Hx _ pX,if_neg (by simp only[decide_eq_true_eq];exact λz=>e z.symm),E4]
end
def Ub:GS :=(FX (HM (.tp [(.nm 1),(.nm 2)]) (AX 0)) (L3 (IW [(AX 1),(gN TY [(gN bI [(OE (KN (AX 2)) 2 [] (.tp [(.nm 0),(.nm 1)]) RN (IW [(AX 1),(AX 0)]))])])])))
def l6:Mr:=OC 3 Ub
theorem SZ:FnScope ["net","many","lanes"] ["net"] (J4 Gz):=O2
theorem zUB{P:CA}{w:DL}{K:AC}{mg:C7->Option AI}{base:CN}{f:AV}{fd:CM}(Fn:Fun K "turned" "turned" Gz f fd)(T:Bt mg) :FnOk P w K mg base KW 1 f fd ["net"] (ME K 1 l6) :=P7 Fn SZ λHN A outer s H E hr=>by
  have hu:=hr.units;unfold Ub;exact(GY (n8 (BO 0) (XQ rfl (N7 (P9 (i:=1) SZ.nd rfl (BM rfl)) (N7 (P9 (i:=2) SZ.nd rfl (BM rfl)) XT))))
   (IR (NH (N5 (CK (BO 1) (CK (WX T.b_tuple (CK (pA8 (vL T.b_sorted (CK (pA8 (YM (own:=["one","other"]) (CL:=[]) (js:=[]) (cn (xo:=AL) rfl) rfl (U8 (BO 2)) (λC s H fp=>(XQ rfl (N7 (QI 0) (N7 (QI 1) XT)))) (λC s H fp=>iC) (λC s H fp=>(N5 (CK (BO 1) (CK (BO 0) D7)))))) D7))) D7)) D7))))))
def Ye:GS :=(FX (HM (.tp [(.nm 2),(.nm 3)]) (AX 0)) (FX (NR (gB (g2 UG (AX 1) (AX 3))) vZ PJ) (L3 (IW [(AX 2),(gN TY [(OE (KN (AX 3)) 1 [1] (.nm 0) (gB (g2 NI (AX 0) (AX 1))) (AX 0))])]))))
def vU:Mr:=OC 4 Ye
theorem K3:FnScope ["net","lane","many","lanes"] ["net","lane"] (J4 Iu):=O2
theorem zII{P:CA}{w:DL}{K:AC}{mg:C7->Option AI}{base:CN}{f:AV}{fd:CM}(Fn:Fun K "without_lane" "without_lane" Iu f fd)(T:Bt mg) :FnOk P w K mg base KW 1 f fd ["net","lane"] (ME K 2 vU) :=P7 Fn K3 λHN A outer s H E hr=>by
  have hu:=hr.units;unfold Ye;exact(GY (n8 (BO 0) (XQ rfl (N7 (P9 (i:=2) K3.nd rfl (BM rfl)) (N7 (P9 (i:=3) K3.nd rfl (BM rfl)) XT))))
   (GY (UF (rK hu (BO 1) (BO 3))
   (IR Aa)
   U9)
   (IR (NH (N5 (CK (BO 2) (CK (WX T.b_tuple (CK (pA8 (YM (own:=["kept"]) (CL:=["lane"]) (js:=[1]) (cn (xo:=AL) rfl) rfl (U8 (BO 3)) (λC s H fp=>(QI 0)) (λC s H fp=>(jY (lN hu (BO 0) (BO 1)))) (λC s H fp=>(BO 0)))) D7)) D7)))))))
def Yh:GS :=(FX (HM (.tp [(.nm 2),(.nm 3)]) (AX 0)) (L3 (IW [(AX 2),(gN TY [(OE (KN (AX 3)) 2 [1] (.tp [(.nm 0),(.nm 1)]) RN (wG (gB (g2 MM (IW [(AX 0),(AX 1)]) (AX 2))) (IW [(AX 1),(AX 0)]) (IW [(AX 0),(AX 1)])))])])))
def oR:Mr:=OC 4 Yh
theorem IJ:FnScope ["net","used","many","lanes"] ["net","used"] (J4 Jb):=O2
theorem zE0{P:CA}{w:DL}{K:AC}{mg:C7->Option AI}{base:CN}{f:AV}{fd:CM}(Fn:Fun K "turned_where_used" "turned_where_used" Jb f fd)(T:Bt mg) :FnOk P w K mg base KW 1 f fd ["net","used"] (ME K 2 oR) :=P7 Fn IJ λHN A outer s H E hr=>by
  have hu:=hr.units;unfold Yh;exact(GY (n8 (BO 0) (XQ rfl (N7 (P9 (i:=2) IJ.nd rfl (BM rfl)) (N7 (P9 (i:=3) IJ.nd rfl (BM rfl)) XT))))
   (IR (NH (N5 (CK (BO 2) (CK (WX T.b_tuple (CK (pA8 (YM (own:=["one","other"]) (CL:=["used"]) (js:=[1]) (cn (xo:=AL) rfl) rfl (U8 (BO 3)) (λC s H fp=>(XQ rfl (N7 (QI 0) (N7 (QI 1) XT)))) (λC s H fp=>iC) (λC s H fp=>(Yu (lM hu (N5 (CK (BO 0) (CK (BO 1) D7))) (BO 2)) (N5 (CK (BO 1) (CK (BO 0) D7))) (N5 (CK (BO 0) (CK (BO 1) D7))))))) D7)) D7))))))
def We:GS :=(FX (HM (.tp [(.nm 1),(.nm 2)]) (AX 0)) (FX (HM (.nm 3) (OE (jL (AX 1)) 1 [1] (.nm 0) RN (IW [(AX 0),(g2 K2 (AX 0) (AX 1))]))) (L3 (IW [(g2 YK (gC (.int 2)) (AX 1)),(gN TY [(gN bI [(g2 K2 (AX 3) (OE (KN (AX 2)) 2 [1] (.tp [(.nm 0),(.nm 1)]) RN (IW [(g2 K2 (AX 0) (AX 2)),(AX 1)])))])])]))))
def rM:Mr:=OC 4 We
theorem N8:FnScope ["net","many","lanes","through"] ["net"] (J4 Hn):=O2
theorem zRD{P:CA}{w:DL}{K:AC}{mg:C7->Option AI}{base:CN}{f:AV}{fd:CM}(Fn:Fun K "doubled" "doubled" Hn f fd)(T:Bt mg) :FnOk P w K mg base KW 1 f fd ["net"] (ME K 1 rM) :=P7 Fn N8 λHN A outer s H E hr=>by
  have hu:=hr.units;unfold We;exact(GY (n8 (BO 0) (XQ rfl (N7 (P9 (i:=1) N8.nd rfl (D5 rfl)) (N7 (P9 (i:=2) N8.nd rfl (BM rfl)) XT))))
   (GY (Xr (i:=3) (own:=["place"]) (CL:=["many"]) (js:=[1]) (cn (xo:=AL) rfl) rfl (Hq T.b_range (BO 1)) (λC s H fp=>(QI 0)) (λC s H fp=>iC) (λC s H fp=>(N5 (CK (BO 0) (CK (U7 (BO 0) (BO 1)) D7)))) N8.nd rfl rfl rfl)
   (IR (NH (N5 (CK (t9 GU (BO 1)) (CK (WX T.b_tuple (CK (pA8 (vL T.b_sorted (CK (U7 (BO 3) (pA8 (YM (own:=["tail","head"]) (CL:=["many"]) (js:=[1]) (cn (xo:=AL) rfl) rfl (U8 (BO 2)) (λC s H fp=>(XQ rfl (N7 (QI 0) (N7 (QI 1) XT)))) (λC s H fp=>iC) (λC s H fp=>(N5 (CK (U7 (BO 0) (BO 2)) (CK (BO 1) D7))))))) D7))) D7)) D7)))))))
def Xz:GS :=(FX (NR (gB (g2 cJ (g2 ER (AX 0) (AX 1)) (gC .non))) vZ PJ) (FX (aF 2 (OD [(AX 1)])) (FX (ZA (YL [2] (gB (g2 NI (g2 ER (AX 0) (g2 ER (AX 2) (g1 SD (gC (.int 1))))) (g2 ER (AX 2) (g1 SD (gC (.int 1))))))) (g9 (XM 2 XI [(O9 [2] (g2 ER (AX 0) (g2 ER (AX 2) (g1 SD (gC (.int 1))))))])) 100000) (L3 (O9 [2] (gN TY [(Jn (AX 2) (g1 SD (gC (.int 1))))]))))))
def Br:Mr:=OC 3 Xz
theorem PC:FnScope ["held","place","line"] ["held","place"] (J4 Ip):=O2
theorem zK9{P:CA}{w:DL}{K:AC}{mg:C7->Option AI}{base:CN}{f:AV}{fd:CM}(Fn:Fun K "musts_held" "musts_held" Ip f fd)(T:Bt mg) :FnOk P w K mg base KW 1 f fd ["held","place"] (ME K 2 Br) :=P7 Fn PC λHN A outer s H E hr=>by
  have hu:=hr.units;unfold Xz;exact(GY (UF (z9 (LB hu (BO 0) (BO 1)) hJ)
   (IR Aa)
   U9)
   (GY (jZ (i:=2) PC.nd rfl (BM rfl) (Y5 (CK (BO 1) D7)))
   (GY (Bj 100000 C2 (rA [2] (lN hu (LB hu (BO 0) (LB hu (BO 2) (nR GU))) (LB hu (BO 2) (nR GU))))
   (IR (Ao (Bi 2 (CK (aG [2] (LB hu (BO 0) (LB hu (BO 2) (nR GU)))) D7)))))
   (IR (NH (aG [2] (WX T.b_tuple (CK (pA8 (yH2 (BO 2) (nR GU))) D7))))))))
def Rk:GS :=(FX (HM (.tp [(.nm 2),(.nm 3)]) (AX 0)) (L3 (IW [(AX 2),(gN TY [(OE (KN (AX 3)) 2 [1] (.tp [(.nm 0),(.nm 1)]) (cM (gB (g2 MM (AX 0) (AX 2))) (gB (g2 MM (AX 1) (AX 2)))) (IW [(AX 0),(AX 1)]))])])))
def uQ:Mr:=OC 4 Rk
theorem Y8:FnScope ["net","places","many","lanes"] ["net","places"] (J4 Ew):=O2
theorem yBU{P:CA}{w:DL}{K:AC}{mg:C7->Option AI}{base:CN}{f:AV}{fd:CM}(Fn:Fun K "only" "only" Ew f fd)(T:Bt mg) :FnOk P w K mg base KW 1 f fd ["net","places"] (ME K 2 uQ) :=P7 Fn Y8 λHN A outer s H E hr=>by
  have hu:=hr.units;unfold Rk;exact(GY (n8 (BO 0) (XQ rfl (N7 (P9 (i:=2) Y8.nd rfl (BM rfl)) (N7 (P9 (i:=3) Y8.nd rfl (BM rfl)) XT))))
   (IR (NH (N5 (CK (BO 2) (CK (WX T.b_tuple (CK (pA8 (YM (own:=["one","other"]) (CL:=["places"]) (js:=[1]) (cn (xo:=AL) rfl) rfl (U8 (BO 3)) (λC s H fp=>(XQ rfl (N7 (QI 0) (N7 (QI 1) XT)))) (λC s H fp=>(jY (VW.t (uO (lM hu (BO 0) (BO 2)) (vA (lM hu (BO 1) (BO 2))))))) (λC s H fp=>(N5 (CK (BO 0) (CK (BO 1) D7)))))) D7)) D7))))))
def Xo:GS :=(FX (NR (gB (g2 Y9 (AX 1) (gN OQ [(AX 0)]))) (L3 (g2 ER (AX 0) (AX 1))) PJ) (L3 (gC (.int 0))))
def rV:Mr:=OC 2 Xo
theorem zOS:FnScope ["script","k"] ["script","k"] (J4 Ie):=O2
theorem zM6{P:CA}{w:DL}{K:AC}{mg:C7->Option AI}{base:CN}{f:AV}{fd:CM}(Fn:Fun K "_law_cell" "_law_cell" Ie f fd)(T:Bt mg) :FnOk P w K mg base KW 1 f fd ["script","k"] (ME K 2 rV) :=P7 Fn zOS λHN A outer s H E hr=>by
  have hu:=hr.units;unfold Xo;exact(GY (UF (zR hu (BO 1) (jO T.b_len (CK (BO 0) D7)))
   (IR (NH (LB hu (BO 0) (BO 1))))
   U9)
   (IR (NH GU)))
def Xn:GS :=(FX (NR (gB (g2 Kk (AX 0) (g2 cI (gC (.int 10)) (gC (.int 18))))) (zU (OD [(g2 lH (AX 0) (g2 cI (gC (.int 10)) (gC (.int 18)))),(g2 TZ (AX 0) (gC (.int 2305843009213693951))),(AX 1)])) PJ) (zU (OD [(gC (.int 0)),(g2 TZ (AX 0) (gC (.int 2305843009213693951))),(AX 1)])))
def rT:Mr:=OC 2 Xn
theorem zOT:FnScope ["cell","turn"] ["cell","turn"] (J4 Ic):=O2
theorem zM7{P:CA}{w:DL}{K:AC}{mg:C7->Option AI}{base:CN}{f:AV}{fd:CM}(Fn:Fun K "_law_well" "_law_well" Ic f fd)(T:Bt mg) :FnOk P w K mg base KW 1 f fd ["cell","turn"] (ME K 2 rT) :=P7 Fn zOT λHN A outer s H E hr=>by
  have hu:=hr.units;unfold Xn;exact(GY (UF (yHV (BO 0) (zQ GU GU))
   (IR (Tf (Y5 (CK (Kb (BO 0) (zQ GU GU)) (CK (jP (BO 0) GU) (CK (BO 1) D7))))))
   U9)
   (IR (Tf (Y5 (CK GU (CK (jP (BO 0) GU) (CK (BO 1) D7)))))))
def Xm:GS :=(FX (NR (YL [0] (gB (g2 bL (g2 ER (AX 0) (gC (.int 0))) (gC (.int 0))))) (FX (HM (.nm 2) (O9 [0] (g2 TZ (g2 ER (AX 0) (gC (.int 0))) (AX 1)))) (FX (VU 0 (gC (.int 0)) (O9 [0] (g2 nS (g2 ER (AX 0) (gC (.int 0))) (AX 1)))) (L3 (AX 2)))) PJ) (FX (VU 0 (gC (.int 2)) (O9 [0] (g2 K2 (g2 ER (AX 0) (gC (.int 2))) (gC (.int 1))))) (FX (HM (.nm 3) (gC (.int 2305843009213693951))) (FX (HM (.nm 4) (O9 [0] (g2 TZ (g2 K2 (g2 ER (AX 0) (gC (.int 1))) (g2 YK (gC (.int 1000003)) (g2 ER (AX 0) (gC (.int 2))))) (AX 3)))) (FX (HM (.nm 4) (O9 [0] (g2 TZ (g2 K2 (g2 K2 (g2 YK (AX 4) (AX 4)) (g2 YK (gC (.int 7919)) (g2 cI (g2 ER (AX 0) (gC (.int 2))) (gC (.int 2))))) (gC (.int 5))) (AX 3)))) (L3 (g2 TZ (g2 nS (g2 TZ (g2 cI (AX 4) (gC (.int 3))) (AX 3)) (gC (.int 13))) (AX 1))))))))
def L7:Mr:=OC 5 Xm
theorem J6:FnScope ["bag","many","found","p","n"] ["bag","many"] (J4 Ib):=O2
theorem zM8{P:CA}{w:DL}{K:AC}{mg:C7->Option AI}{base:CN}{f:AV}{fd:CM}(Fn:Fun K "_law_take" "_law_take" Ib f fd)(T:Bt mg) :FnOk P w K mg base KW 1 f fd ["bag","many"] (ME K 2 L7) :=P7 Fn J6 λHN A outer s H E hr=>by
  have hu:=hr.units;unfold Xm;exact(GY (UF (rA [0] (yEW (LB hu (BO 0) GU) GU))
   (GY (NM (i:=2) J6.nd rfl (BM rfl) (aG [0] (jP (LB hu (BO 0) GU) (BO 1))))
   (GY (j6 0 hu GU (aG [0] (Qi (LB hu (BO 0) GU) (BO 1))))
   (IR (NH (BO 2)))))
   U9)
   (GY (j6 0 hu GU (aG [0] (U7 (LB hu (BO 0) GU) GU)))
   (GY (NM (i:=3) J6.nd rfl (BM rfl) GU)
   (GY (NM (i:=4) J6.nd rfl (BM rfl) (aG [0] (jP (U7 (LB hu (BO 0) GU) (t9 GU (LB hu (BO 0) GU))) (BO 3))))
   (GY (NM (i:=4) J6.nd rfl (BM rfl) (aG [0] (jP (U7 (U7 (t9 (BO 4) (BO 4)) (t9 GU (zQ (LB hu (BO 0) GU) GU))) GU) (BO 3))))
   (IR (NH (jP (Qi (jP (zQ (BO 4) GU) (BO 3)) GU) (BO 1)))))))))
def Xy:GS :=(FX (HM (.nm 3) (g2 ER (AX 0) (gC (.int 0)))) (FX (aF 4 (g2 jF (OD [(gC .non)]) (AX 3))) (FX (NR (gB (g2 MM (AX 1) (AX 2))) (L3 (AX 4)) PJ) (FX (HM (.nm 5) (HD iH [(AX 0)])) (FX (HM (.nm 6) (OE (jL (AX 3)) 1 [2] (.nm 0) RN (g2 MM (AX 0) (AX 1)))) (FX (VU 4 (AX 1) (gC (.int 0))) (FX (HM (.nm 7) (OD [(AX 1)])) (FX (ZA (bG (AX 7)) (FX (aF 8 (OD [])) (FX (RO (KN (AX 7)) (.nm 9) (RO (KN (g2 ER (AX 5) (AX 9))) (.nm 10) (NR (YL [4] (cM (gB (g2 cJ (g2 ER (AX 4) (AX 10)) (gC .non))) (hG (bG (g2 ER (AX 6) (AX 10)))))) (FX (VU 4 (AX 10) (O9 [4] (g2 K2 (g2 ER (AX 4) (AX 9)) (gC (.int 1))))) (g9 (XM 8 XI [(AX 10)]))) PJ))) (HM (.nm 7) (AX 8)))) 100000) (L3 (AX 4))))))))))
def oQ:Mr:=OC 11 Xy
theorem FK:FnScope ["net","start","closed","many","away","nexts","shut","layer","further","place","head"] ["net","start","closed"] (J4 Io):=O2
theorem zLA{P:CA}{w:DL}{K:AC}{mg:C7->Option AI}{base:CN}{f:AV}{fd:CM}(Fn:Fun K "lanes_away" "lanes_away" Io f fd)(T:Bt mg)(L9:J2 P w K mg base "next_places" 1 1 iH):FnOk P w K mg base KW 2 f fd ["net","start","closed"] (ME K 3 oQ) :=P7 Fn FK λHN A outer s H E hr=>by
  have hu:=hr.units;unfold Xy;exact(GY (NM (i:=3) FK.nd rfl (BM rfl) (LB hu (BO 0) GU))
   (GY (jZ (i:=4) FK.nd rfl (BM rfl) (yE3 (CK hJ D7) (BO 3)))
   (GY (UF (lM hu (BO 1) (BO 2))
   (IR (NH (BO 4)))
   U9)
   (GY (NM (i:=5) FK.nd rfl (BM rfl) (LN L9 (hr.mono 'D') (CK (BO 0) D7)))
   (GY (Xr (i:=6) (own:=["place"]) (CL:=["closed"]) (js:=[2]) (cn (xo:=AL) rfl) rfl (Hq T.b_range (BO 3)) (λC s H fp=>(QI 0)) (λC s H fp=>iC) (λC s H fp=>(Cd hu (BO 0) (BO 1))) FK.nd rfl rfl rfl)
   (GY (j6 4 hu (BO 1) GU)
   (GY (NM (i:=7) FK.nd rfl (BM rfl) (pA8 (Y5 (CK (BO 1) D7))))
   (GY (Bj 100000 C2 (Bh (BO 7))
   (GY (jZ (i:=8) FK.nd rfl (BM rfl) (Y5 D7))
   (GY (hZ C2 rfl (U8 (BO 7)) (P9 (i:=9) FK.nd rfl (BM rfl))
   (IR (hZ C2 rfl (U8 (LB hu (BO 5) (BO 9))) (P9 (i:=10) FK.nd rfl (BM rfl))
   (IR (UF (rA [4] (VW.t (uO (z9 (LB hu (BO 4) (BO 10)) hJ) (vA (Ff (Bh (LB hu (BO 6) (BO 10))))))))
   (GY (j6 4 hu (BO 10) (aG [4] (U7 (LB hu (BO 4) (BO 9)) GU)))
   (IR (Ao (Bi 8 (CK (BO 10) D7)))))
   U9)))))
   (IR (NM (i:=7) FK.nd rfl (BM rfl) (BO 8))))))
   (IR (NH (BO 4)))))))))))
def Yc:GS :=(FX (aF 2 (gN jN [(AX 1)])) (FX (aF 3 (OD [])) (FX (ZA (YL [2] (gB (g2 NI (AX 2) (OD [])))) (g9 (XM 3 XI [(XM 2 lV [(LM L7 0 [(O9 [2] (gN OQ [(AX 2)]))])])])) 100000) (L3 (AX 3)))))
def vT:Mr:=OC 4 Yc
theorem KD:FnScope ["bag","some","left","found"] ["bag","some"] (J4 Ja):=O2
theorem zGX{P:CA}{w:DL}{K:AC}{mg:C7->Option AI}{base:CN}{f:AV}{fd:CM}(Fn:Fun K "_law_shuffled" "_law_shuffled" Ja f fd)(T:Bt mg)(D6:J2 P w K mg base "_law_take" 1 2 L7):FnOk P w K mg base KW 2 f fd ["bag","some"] (ME K 2 vT) :=P7 Fn KD λHN A outer s H E hr=>by
  have hu:=hr.units;unfold Yc;exact(GY (jZ (i:=2) KD.nd rfl (BM rfl) (Et rfl T.b_list (CK (BO 1) D7)))
   (GY (jZ (i:=3) KD.nd rfl (BM rfl) (Y5 D7))
   (GY (Bj 100000 C2 (rA [2] (lN hu (BO 2) (pA8 (Y5 D7))))
   (IR (Ao (Bi 3 (CK (yAZ 2 (CK (XS 0 D6 (hr.mono 'D') (CK (aG [2] (jO T.b_len (CK (BO 2) D7))) D7)) D7)) D7)))))
   (IR (NH (BO 3))))))
def Xl:GS :=(FX (HM (.nm 4) (HD oQ [(HD l6 [(AX 0)]),(AX 2),(AX 3)])) (FX (NR (gB (g2 cJ (g2 ER (AX 4) (AX 1)) (gC .non))) (L3 (gC .non)) PJ) (FX (HM (.nm 5) (HD iH [(AX 0)])) (FX (aF 6 (OD [(AX 1)])) (FX (RO (zM (g2 ER (AX 4) (AX 1))) (.nm 7) (g9 (XM 6 XI [(O9 [6] (gN sB [(OE (KN (g2 ER (AX 5) (g2 ER (AX 6) (g1 SD (gC (.int 1)))))) 1 [7,4] (.nm 0) (gB (g2 RP (g2 ER (AX 2) (AX 0)) (AX 1))) (AX 0))]))]))) (L3 (O9 [6] (gN TY [(AX 6)]))))))))
def cP:Mr:=OC 8 Xl
theorem J5:FnScope ["net","one","other","closed","left","nexts","way","more"] ["net","one","other","closed"] (J4 Ia):=O2
theorem zM9{P:CA}{w:DL}{K:AC}{mg:C7->Option AI}{base:CN}{f:AV}{fd:CM}(Fn:Fun K "least_way" "least_way" Ia f fd)(T:Bt mg)(M4:J2 P w K mg base "lanes_away" 2 3 oQ)(L9:J2 P w K mg base "next_places" 1 1 iH)(TR:J2 P w K mg base "turned" 1 1 l6):FnOk P w K mg base KW 3 f fd ["net","one","other","closed"] (ME K 4 cP) :=P7 Fn J5 λHN A outer s H E hr=>by
  have hu:=hr.units;unfold Xl;exact(GY (NM (i:=4) J5.nd rfl (D5 rfl) (LN M4 (hr.mono 'D') (CK (LN TR (hr.mono 'D') (CK (BO 0) D7)) (CK (BO 2) (CK (BO 3) D7)))))
   (GY (UF (z9 (LB hu (BO 4) (BO 1)) hJ)
   (IR (NH hJ))
   U9)
   (GY (NM (i:=5) J5.nd rfl (BM rfl) (LN L9 (hr.mono 'D') (CK (BO 0) D7)))
   (GY (jZ (i:=6) J5.nd rfl (BM rfl) (Y5 (CK (BO 1) D7)))
   (GY (hZ C2 rfl (yFM T.b_reversed T.b_range (LB hu (BO 4) (BO 1))) (P9 (i:=7) J5.nd rfl (D5 rfl))
   (IR (Ao (Bi 6 (CK (aG [6] (yFH rfl T.b_min (CK (pA8 (YM (own:=["head"]) (CL:=["more","left"]) (js:=[7,4]) (cn (xo:=AL) rfl) rfl (U8 (LB hu (BO 5) (LB hu (BO 6) (nR GU)))) (λC s H fp=>(QI 0)) (λC s H fp=>(jY (Kc hu (LB hu (BO 2) (BO 0)) (BO 1)))) (λC s H fp=>(BO 0)))) D7))) D7)))))
   (IR (NH (aG [6] (WX T.b_tuple (CK (BO 6) D7))))))))))
def Yd:GS :=(FX (HM (.nm 3) (HD oQ [(AX 0),(AX 1),(AX 2)])) (L3 (gN TY [(OE (Es (AX 3)) 2 [] (.tp [(.nm 0),(.nm 1)]) (gB (g2 nU (AX 1) (gC .non))) (AX 0))])))
def dZ:Mr:=OC 4 Yd
theorem NT:FnScope ["net","gate","closed","away"] ["net","gate","closed"] (J4 Ir):=O2
theorem zIN{P:CA}{w:DL}{K:AC}{mg:C7->Option AI}{base:CN}{f:AV}{fd:CM}(Fn:Fun K "reached_past" "reached_past" Ir f fd)(T:Bt mg)(M4:J2 P w K mg base "lanes_away" 2 3 oQ):FnOk P w K mg base KW 3 f fd ["net","gate","closed"] (ME K 3 dZ) :=P7 Fn NT λHN A outer s H E hr=>by
  have hu:=hr.units;unfold Yd;exact(GY (NM (i:=3) NT.nd rfl (BM rfl) (LN M4 (hr.mono 'D') (CK (BO 0) (CK (BO 1) (CK (BO 2) D7)))))
   (IR (NH (WX T.b_tuple (CK (pA8 (YM (own:=["place","steps"]) (CL:=[]) (js:=[]) (cn (xo:=AL) rfl) rfl (zWW T.b_enumerate (BO 3)) (λC s H fp=>(XQ rfl (N7 (QI 0) (N7 (QI 1) XT)))) (λC s H fp=>(jY (Sk (BO 1) hJ))) (λC s H fp=>(BO 0)))) D7)))))
def Wu:GS :=(FX (HM (.nm 2) (g2 ER (OD [(AX 1),(g2 K2 (gC (.int 1)) (LM L7 0 [(AX 1)])),(g2 K2 (gC (.int 1)) (LM L7 0 [(gN jM [(gC (.int 7)),(AX 1)])]))]) (LM L7 0 [(gC (.int 3))]))) (FX (HM (.nm 3) (LM L7 0 [(gC (.int 4))])) (FX (HM (.nm 4) (g2 ER (OD [(gC (.int 0)),(gC (.int 1)),(LM L7 0 [(g2 K2 (AX 2) (gC (.int 1)))]),(g2 K2 (AX 2) (LM L7 0 [(g2 YK (gC (.int 5)) (AX 2))])),(gC (.int 120))]) (LM L7 0 [(gC (.int 5))]))) (FX (aF 5 (gC (.dt []))) (FX (RO (t8 (gC (.int 1)) (AX 2)) (.nm 6) (NR (gB (g2 Y9 (AX 3) (gC (.int 3)))) (VU 5 (IW [(g2 ER (OD [(LM L7 0 [(AX 6)]),(g2 lH (g2 lH (AX 6) (gC (.int 1))) (LM L7 0 [(gN jM [(AX 6),(gC (.int 2))])])),(gC (.int 0))]) (AX 3)),(AX 6)]) (gC (.bl AQ))) PJ)) (FX (RO (jL (AX 4)) (.nm 7) (FX (HM (.nm 8) (LM L7 0 [(AX 2)])) (FX (HM (.nm 9) (g2 ER (OD [(LM L7 0 [(AX 2)]),(g2 TZ (g2 K2 (g2 K2 (AX 8) (gC (.int 1))) (LM L7 0 [(gC (.int 2))])) (AX 2))]) (LM L7 0 [(gC (.int 2))]))) (NR (YL [5] (cM (gB (g2 NI (AX 8) (AX 9))) (gB (g2 Y9 (gN OQ [(AX 5)]) (gC (.int 120)))))) (VU 5 (IW [(AX 8),(AX 9)]) (gC (.bl AQ))) PJ)))) (FX (HM (.nm 10) (LM vT 0 [(Kl (AX 2))])) (FX (HM (.nm 11) (g2 ER (OD [(g2 ER (AX 10) (gC (.int 0))),(g2 ER (AX 10) (gC (.int 0))),(LM L7 0 [(AX 2)])]) (LM L7 0 [(gC (.int 3))]))) (L3 (O9 [5] (IW [(IW [(AX 2),(gN TY [(gN bI [(OE (KN (AX 5)) 2 [10] (.tp [(.nm 0),(.nm 1)]) RN (IW [(g2 ER (AX 2) (AX 0)),(g2 ER (AX 2) (AX 1))]))])])]),(AX 11)])))))))))))
def rR:Mr:=OC 12 Wu
theorem FZ:FnScope ["bag","most","many","way","more","lanes","k","turn","one","other","names","gate"] ["bag","most"] (J4 Ii):=O2
theorem zOU{P:CA}{w:DL}{K:AC}{mg:C7->Option AI}{base:CN}{f:AV}{fd:CM}(Fn:Fun K "_law_net" "_law_net" Ii f fd)(T:Bt mg)(D6:J2 P w K mg base "_law_take" 1 2 L7)(RV:J2 P w K mg base "_law_shuffled" 2 2 vT):FnOk P w K mg base KW 3 f fd ["bag","most"] (ME K 2 rR) :=P7 Fn FZ λHN A outer s H E hr=>by
  have hu:=hr.units;unfold Wu;exact(GY (NM (i:=2) FZ.nd rfl (BM rfl) (LB hu (pA8 (Y5 (CK (BO 1) (CK (U7 GU (XS 0 D6 (hr.mono 'D') (CK (BO 1) D7))) (CK (U7 GU (XS 0 D6 (hr.mono 'D') (CK (Qg rfl T.b_min (CK GU (CK (BO 1) D7))) D7))) D7))))) (XS 0 D6 (hr.mono 'D') (CK GU D7))))
   (GY (NM (i:=3) FZ.nd rfl (BM rfl) (XS 0 D6 (hr.mono 'D') (CK GU D7)))
   (GY (NM (i:=4) FZ.nd rfl (BM rfl) (LB hu (pA8 (Y5 (CK GU (CK GU (CK (XS 0 D6 (hr.mono 'D') (CK (U7 (BO 2) GU) D7)) (CK (U7 (BO 2) (XS 0 D6 (hr.mono 'D') (CK (t9 GU (BO 2)) D7))) (CK GU D7))))))) (XS 0 D6 (hr.mono 'D') (CK GU D7))))
   (GY (jZ (i:=5) FZ.nd rfl (BM rfl) Si)
   (GY (hZ C2 rfl (zTP T.b_range GU (BO 2)) (P9 (i:=6) FZ.nd rfl (BM rfl))
   (IR (UF (zR hu (BO 3) GU)
   (IR (j6 5 hu (N5 (CK (LB hu (pA8 (Y5 (CK (XS 0 D6 (hr.mono 'D') (CK (BO 6) D7)) (CK (Kb (Kb (BO 6) GU) (XS 0 D6 (hr.mono 'D') (CK (Qg rfl T.b_min (CK (BO 6) (CK GU D7))) D7))) (CK GU D7))))) (BO 3)) (CK (BO 6) D7))) jJ))
   U9)))
   (GY (hZ C2 rfl (Hq T.b_range (BO 4)) (P9 (i:=7) FZ.nd rfl (BM rfl))
   (GY (NM (i:=8) FZ.nd rfl (BM rfl) (XS 0 D6 (hr.mono 'D') (CK (BO 2) D7)))
   (GY (NM (i:=9) FZ.nd rfl (BM rfl) (LB hu (pA8 (Y5 (CK (XS 0 D6 (hr.mono 'D') (CK (BO 2) D7)) (CK (jP (U7 (U7 (BO 8) GU) (XS 0 D6 (hr.mono 'D') (CK GU D7))) (BO 2)) D7)))) (XS 0 D6 (hr.mono 'D') (CK GU D7))))
   (IR (UF (rA [5] (VW.t (uO (lN hu (BO 8) (BO 9)) (vA (zR hu (jO T.b_len (CK (BO 5) D7)) GU)))))
   (IR (j6 5 hu (N5 (CK (BO 8) (CK (BO 9) D7))) jJ))
   U9)))))
   (GY (NM (i:=10) FZ.nd rfl (D5 rfl) (XS 0 RV (hr.mono 'D') (CK (pA8 (zOM rfl T.b_range T.b_list (BO 2))) D7)))
   (GY (NM (i:=11) FZ.nd rfl (BM rfl) (LB hu (pA8 (Y5 (CK (LB hu (BO 10) GU) (CK (LB hu (BO 10) GU) (CK (XS 0 D6 (hr.mono 'D') (CK (BO 2) D7)) D7))))) (XS 0 D6 (hr.mono 'D') (CK GU D7))))
   (IR (NH (aG [5] (N5 (CK (N5 (CK (BO 2) (CK (WX T.b_tuple (CK (pA8 (vL T.b_sorted (CK (pA8 (YM (own:=["one","other"]) (CL:=["names"]) (js:=[10]) (cn (xo:=AL) rfl) rfl (U8 (BO 5)) (λC s H fp=>(XQ rfl (N7 (QI 0) (N7 (QI 1) XT)))) (λC s H fp=>iC) (λC s H fp=>(N5 (CK (LB hu (BO 2) (BO 0)) (CK (LB hu (BO 2) (BO 1)) D7)))))) D7))) D7)) D7))) (CK (BO 11) D7))))))))))))))
def Vs:GS :=(L3 (HD dZ [(AX 0),(AX 1),(IW [])]))
def YN:Mr:=OC 2 Vs
theorem zUC:FnScope ["net","gate"] ["net","gate"] (J4 Hm):=O2
theorem zRE{P:CA}{w:DL}{K:AC}{mg:C7->Option AI}{base:CN}{f:AV}{fd:CM}(Fn:Fun K "reached" "reached" Hm f fd)(T:Bt mg)(GW:J2 P w K mg base "reached_past" 3 3 dZ):FnOk P w K mg base KW 4 f fd ["net","gate"] (ME K 2 YN) :=P7 Fn zUC λHN A outer s H E hr=>by have hu:=hr.units;unfold Vs;exact(IR (NH (LN GW (hr.mono 'D') (CK (BO 0) (CK (BO 1) (CK (N5 D7) D7))))))
def Xk:GS :=(FX (aF 3 (gC (.dt []))) (FX (HM (.nm 4) (HD cP [(AX 0),(AX 1),(AX 2),(IW [])])) (FX (ZA (gB (g2 nU (AX 4) (gC .non))) (FX (RO (gY (AX 4) (XO (AX 4) (AA (gC (.int 1))) AL)) (.tp [(.nm 5),(.nm 6)]) (NR (YL [3] (gB (g2 MM (IW [(AX 6),(AX 5)]) (AX 3)))) (r8 3 (IW [(AX 6),(AX 5)])) (VU 3 (IW [(AX 5),(AX 6)]) (gC (.bl AQ))))) (HM (.nm 4) (O9 [3] (HD cP [(HD oR [(AX 0),(AX 3)]),(AX 1),(AX 2),(IW [])])))) 100000) (L3 (AX 3)))))
def iF:Mr:=OC 7 Xk
theorem JB:FnScope ["net","one","other","used","way","tail","head"] ["net","one","other"] (J4 Hz):=O2
theorem zNB{P:CA}{w:DL}{K:AC}{mg:C7->Option AI}{base:CN}{f:AV}{fd:CM}(Fn:Fun K "used_most" "used_most" Hz f fd)(T:Bt mg)(LU:J2 P w K mg base "least_way" 3 4 cP)(IL:J2 P w K mg base "turned_where_used" 1 2 oR):FnOk P w K mg base KW 4 f fd ["net","one","other"] (ME K 3 iF) :=P7 Fn JB λHN A outer s H E hr=>by
  have hu:=hr.units;unfold Xk;exact(GY (jZ (i:=3) JB.nd rfl (BM rfl) Si)
   (GY (NM (i:=4) JB.nd rfl (BM rfl) (LN LU (hr.mono 'D') (CK (BO 0) (CK (BO 1) (CK (BO 2) (CK (N5 D7) D7))))))
   (GY (Bj 100000 C2 (Sk (BO 4) hJ)
   (GY (hZ C2 rfl (Er T.b_zip (BO 4) (uZ (BO 4) (oI GU) Ft)) (XQ rfl (N7 (P9 (i:=5) JB.nd rfl (BM rfl)) (N7 (P9 (i:=6) JB.nd rfl (BM rfl)) XT)))
   (IR (UF (rA [3] (lM hu (N5 (CK (BO 6) (CK (BO 5) D7))) (BO 3)))
   (IR (yFS 3 hu (N5 (CK (BO 6) (CK (BO 5) D7)))))
   (IR (j6 3 hu (N5 (CK (BO 5) (CK (BO 6) D7))) jJ)))))
   (IR (NM (i:=4) JB.nd rfl (BM rfl) (aG [3] (LN LU (hr.mono 'D') (CK (LN IL (hr.mono 'D') (CK (BO 0) (CK (BO 3) D7))) (CK (BO 1) (CK (BO 2) (CK (N5 D7) D7))))))))))
   (IR (NH (BO 3))))))
def Yf:GS :=(FX (HM (.nm 3) (HD dZ [(AX 0),(AX 1),(IW [(AX 2)])])) (FX (HM (.nm 4) (HD dZ [(HD l6 [(AX 0)]),(AX 2),(IW [(AX 1)])])) (L3 (gN TY [(OE (KN (AX 3)) 1 [4] (.nm 0) (gB (g2 MM (AX 0) (AX 1))) (AX 0))]))))
def rX:Mr:=OC 5 Yf
theorem JI:FnScope ["net","one","other","onward","leading"] ["net","one","other"] (J4 Iy):=O2
theorem zFW{P:CA}{w:DL}{K:AC}{mg:C7->Option AI}{base:CN}{f:AV}{fd:CM}(Fn:Fun K "stretch_between" "stretch_between" Iy f fd)(T:Bt mg)(GW:J2 P w K mg base "reached_past" 3 3 dZ)(TR:J2 P w K mg base "turned" 1 1 l6):FnOk P w K mg base KW 4 f fd ["net","one","other"] (ME K 3 rX) :=P7 Fn JI λHN A outer s H E hr=>by
  have hu:=hr.units;unfold Yf;exact(GY (NM (i:=3) JI.nd rfl (BM rfl) (LN GW (hr.mono 'D') (CK (BO 0) (CK (BO 1) (CK (N5 (CK (BO 2) D7)) D7)))))
   (GY (NM (i:=4) JI.nd rfl (D5 rfl) (LN GW (hr.mono 'D') (CK (LN TR (hr.mono 'D') (CK (BO 0) D7)) (CK (BO 2) (CK (N5 (CK (BO 1) D7)) D7)))))
   (IR (NH (WX T.b_tuple (CK (pA8 (YM (own:=["place"]) (CL:=["leading"]) (js:=[4]) (cn (xo:=AL) rfl) rfl (U8 (BO 3)) (λC s H fp=>(QI 0)) (λC s H fp=>(jY (lM hu (BO 0) (BO 1)))) (λC s H fp=>(BO 0)))) D7))))))
def l8:Mr:=OC 7 (sP iF)
theorem zI8{P:CA}{w:DL}{K:AC}{mg:C7->Option AI}{base:CN}{f:AV}{fd:CM}(Fn:Fun K "lanes_apart" "lanes_apart" Bu f fd)(T:Bt mg)(NV:J2 P w K mg base "used_most" 4 3 iF)(YA:Jf P w K mg base):FnOk P w K mg base KW 5 f fd ["net","one","other"] (ME K 3 l8):=yII Fn T NV YA
def Yb:GS :=(FX (HM (.nm 3) (HD YN [(HD oR [(AX 0),(HD iF [(AX 0),(AX 1),(AX 2)])]),(AX 1)])) (L3 (gN TY [(OE (KN (g2 ER (AX 0) (gC (.int 1)))) 1 [3] (.nm 0) (cM (gB (g2 MM (g2 ER (AX 0) (gC (.int 0))) (AX 1))) (gB (g2 UG (g2 ER (AX 0) (gC (.int 1))) (AX 1)))) (AX 0))])))
def l9:Mr:=OC 4 Yb
theorem NB:FnScope ["net","one","other","near"] ["net","one","other"] (J4 Iz):=O2
theorem zGY{P:CA}{w:DL}{K:AC}{mg:C7->Option AI}{base:CN}{f:AV}{fd:CM}(Fn:Fun K "lane_blockers" "lane_blockers" Iz f fd)(T:Bt mg)(IF:J2 P w K mg base "reached" 4 2 YN)(IL:J2 P w K mg base "turned_where_used" 1 2 oR)(NV:J2 P w K mg base "used_most" 4 3 iF):FnOk P w K mg base KW 5 f fd ["net","one","other"] (ME K 3 l9) :=P7 Fn NB λHN A outer s H E hr=>by
  have hu:=hr.units;unfold Yb;exact(GY (NM (i:=3) NB.nd rfl (D5 rfl) (LN IF (hr.mono 'D') (CK (LN IL (hr.mono 'D') (CK (BO 0) (CK (LN NV (hr.mono 'D') (CK (BO 0) (CK (BO 1) (CK (BO 2) D7)))) D7))) (CK (BO 1) D7))))
   (IR (NH (WX T.b_tuple (CK (pA8 (YM (own:=["lane"]) (CL:=["near"]) (js:=[3]) (cn (xo:=AL) rfl) rfl (U8 (LB hu (BO 0) GU)) (λC s H fp=>(QI 0)) (λC s H fp=>(jY (VW.t (uO (lM hu (LB hu (BO 0) GU) (BO 1)) (vA (rK hu (LB hu (BO 0) GU) (BO 1))))))) (λC s H fp=>(BO 0)))) D7)))))
def Vr:GS :=(FX (HM (.nm 3) (HD YN [(AX 0),(AX 1)])) (FX (NR (gB (g2 UG (AX 2) (AX 3))) vZ PJ) (FX (HM (.nm 4) (HD dZ [(AX 0),(AX 1),(IW [(AX 2)])])) (L3 (gN TY [(OE (KN (AX 3)) 1 [4] (.nm 0) (gB (g2 UG (AX 0) (AX 1))) (AX 0))])))))
def oP:Mr:=OC 5 Vr
theorem QJ:FnScope ["net","gate","place","all_reached","still"] ["net","gate","place"] (J4 Hl):=O2
theorem zRF{P:CA}{w:DL}{K:AC}{mg:C7->Option AI}{base:CN}{f:AV}{fd:CM}(Fn:Fun K "cut_off" "cut_off" Hl f fd)(T:Bt mg)(IF:J2 P w K mg base "reached" 4 2 YN)(GW:J2 P w K mg base "reached_past" 3 3 dZ):FnOk P w K mg base KW 5 f fd ["net","gate","place"] (ME K 3 oP) :=P7 Fn QJ λHN A outer s H E hr=>by
  have hu:=hr.units;unfold Vr;exact(GY (NM (i:=3) QJ.nd rfl (BM rfl) (LN IF (hr.mono 'D') (CK (BO 0) (CK (BO 1) D7))))
   (GY (UF (rK hu (BO 2) (BO 3))
   (IR Aa)
   U9)
   (GY (NM (i:=4) QJ.nd rfl (D5 rfl) (LN GW (hr.mono 'D') (CK (BO 0) (CK (BO 1) (CK (N5 (CK (BO 2) D7)) D7)))))
   (IR (NH (WX T.b_tuple (CK (pA8 (YM (own:=["other"]) (CL:=["still"]) (js:=[4]) (cn (xo:=AL) rfl) rfl (U8 (BO 3)) (λC s H fp=>(QI 0)) (λC s H fp=>(jY (rK hu (BO 0) (BO 1)))) (λC s H fp=>(BO 0)))) D7)))))))
def Xx:GS :=(FX (HM (.nm 3) (HD cP [(AX 0),(AX 1),(AX 2),(IW [])])) (FX (NR (gB (g2 cJ (AX 3) (gC .non))) vZ PJ) (L3 (gN TY [(OE (gY (AX 3) (XO (AX 3) (AA (gC (.int 1))) AL)) 1 [2,0,1] (.nm 0) (gB (g2 UG (AX 1) (HD YN [(HD vU [(AX 2),(AX 0)]),(AX 3)]))) (AX 0))]))))
def rW:Mr:=OC 4 Xx
theorem PD:FnScope ["net","gate","place","way"] ["net","gate","place"] (J4 Im):=O2
theorem zLB{P:CA}{w:DL}{K:AC}{mg:C7->Option AI}{base:CN}{f:AV}{fd:CM}(Fn:Fun K "must_lanes" "must_lanes" Im f fd)(T:Bt mg)(LU:J2 P w K mg base "least_way" 3 4 cP)(IF:J2 P w K mg base "reached" 4 2 YN)(TQ:J2 P w K mg base "without_lane" 1 2 vU):FnOk P w K mg base KW 5 f fd ["net","gate","place"] (ME K 3 rW) :=P7 Fn PD λHN A outer s H E hr=>by
  have hu:=hr.units;unfold Xx;exact(GY (NM (i:=3) PD.nd rfl (BM rfl) (LN LU (hr.mono 'D') (CK (BO 0) (CK (BO 1) (CK (BO 2) (CK (N5 D7) D7))))))
   (GY (UF (z9 (BO 3) hJ)
   (IR Aa)
   U9)
   (IR (NH (WX T.b_tuple (CK (pA8 (YM (own:=["lane"]) (CL:=["place","net","gate"]) (js:=[2,0,1]) (cn (xo:=AL) rfl) rfl (Er T.b_zip (BO 3) (uZ (BO 3) (oI GU) Ft)) (λC s H fp=>(QI 0)) (λC s H fp=>(jY (rK hu (BO 1) (LN IF (hr.mono 'D') (CK (LN TQ (hr.mono 'D') (CK (BO 2) (CK (BO 0) D7))) (CK (BO 3) D7)))))) (λC s H fp=>(BO 0)))) D7))))))
def Xw:GS :=(FX (HM (.nm 3) (g2 ER (AX 0) (gC (.int 0)))) (FX (HM (.nm 4) (HD l8 [(HD rM [(AX 0)]),(g2 K2 (AX 1) (AX 3)),(AX 2)])) (L3 (gN TY [(OE (KN (AX 4)) 1 [1,3] (.nm 0) RN (g2 K2 (IW [(AX 1)]) (gN TY [(OE (KN (AX 0)) 1 [2] (.nm 0) (gB (g2 Y9 (AX 0) (AX 1))) (AX 0))])))]))))
def iG:Mr:=OC 5 Xw
theorem MZ:FnScope ["net","one","other","many","ways"] ["net","one","other"] (J4 Il):=O2
theorem zLC{P:CA}{w:DL}{K:AC}{mg:C7->Option AI}{base:CN}{f:AV}{fd:CM}(Fn:Fun K "ways_apart" "ways_apart" Il f fd)(T:Bt mg)(MA:J2 P w K mg base "lanes_apart" 5 3 l8)(QN:J2 P w K mg base "doubled" 1 1 rM):FnOk P w K mg base KW 6 f fd ["net","one","other"] (ME K 3 iG) :=P7 Fn MZ λHN A outer s H E hr=>by
  have hu:=hr.units;unfold Xw;exact(GY (NM (i:=3) MZ.nd rfl (D5 rfl) (LB hu (BO 0) GU))
   (GY (NM (i:=4) MZ.nd rfl (BM rfl) (LN MA (hr.mono 'D') (CK (LN QN (hr.mono 'D') (CK (BO 0) D7)) (CK (U7 (BO 1) (BO 3)) (CK (BO 2) D7)))))
   (IR (NH (WX T.b_tuple (CK (pA8 (YM (own:=["way"]) (CL:=["one","many"]) (js:=[1,3]) (cn (xo:=AL) rfl) rfl (U8 (BO 4)) (λC s H fp=>(QI 0)) (λC s H fp=>iC) (λC s H fp=>(U7 (N5 (CK (BO 1) D7)) (WX T.b_tuple (CK (pA8 (YM (own:=["place"]) (CL:=["many"]) (js:=[2]) (cn (xo:=AL) rfl) rfl (U8 (BO 0)) (λC s H fp=>(QI 0)) (λC s H fp=>(jY (zR hu (BO 0) (BO 1)))) (λC s H fp=>(BO 0)))) D7)))))) D7))))))
def Wt:GS :=(FX (HM (.tp [(.nm 3),(.nm 4)]) (AX 0)) (FX (NR (gB (g2 MM (IW [(AX 1),(AX 2)]) (AX 4))) (L3 (gC .non)) PJ) (FX (HM (.nm 5) (HD l9 [(HD rM [(AX 0)]),(g2 K2 (AX 1) (AX 3)),(AX 2)])) (L3 (gN TY [(gN bI [(OE (KN (AX 5)) 2 [2,3] (.tp [(.nm 0),(.nm 1)]) RN (g2 TZ (wG (gB (g2 RP (AX 1) (AX 2))) (AX 0) (AX 1)) (AX 3)))])])))))
def oO:Mr:=OC 6 Wt
theorem M0:FnScope ["net","one","other","many","lanes","blocking"] ["net","one","other"] (J4 Ih):=O2
theorem zOV{P:CA}{w:DL}{K:AC}{mg:C7->Option AI}{base:CN}{f:AV}{fd:CM}(Fn:Fun K "blockers" "blockers" Ih f fd)(T:Bt mg)(KG:J2 P w K mg base "lane_blockers" 5 3 l9)(QN:J2 P w K mg base "doubled" 1 1 rM):FnOk P w K mg base KW 6 f fd ["net","one","other"] (ME K 3 oO) :=P7 Fn M0 λHN A outer s H E hr=>by
  have hu:=hr.units;unfold Wt;exact(GY (n8 (BO 0) (XQ rfl (N7 (P9 (i:=3) M0.nd rfl (D5 rfl)) (N7 (P9 (i:=4) M0.nd rfl (BM rfl)) XT))))
   (GY (UF (lM hu (N5 (CK (BO 1) (CK (BO 2) D7))) (BO 4))
   (IR (NH hJ))
   U9)
   (GY (NM (i:=5) M0.nd rfl (BM rfl) (LN KG (hr.mono 'D') (CK (LN QN (hr.mono 'D') (CK (BO 0) D7)) (CK (U7 (BO 1) (BO 3)) (CK (BO 2) D7)))))
   (IR (NH (WX T.b_tuple (CK (pA8 (vL T.b_sorted (CK (pA8 (YM (own:=["tail","head"]) (CL:=["other","many"]) (js:=[2,3]) (cn (xo:=AL) rfl) rfl (U8 (BO 5)) (λC s H fp=>(XQ rfl (N7 (QI 0) (N7 (QI 1) XT)))) (λC s H fp=>iC) (λC s H fp=>(jP (Yu (Kc hu (BO 1) (BO 2)) (BO 0) (BO 1)) (BO 3))))) D7))) D7)))))))
def Vq:GS :=(FX (HM (.nm 2) (n6 (KN (HD YN [(AX 0),(AX 1)])) 1 [0,1] (.dk []) (.nm 0) RN (qX (AX 0) (HD oP [(AX 1),(AX 2),(AX 0)])))) (FX (aF 3 (g2 jF (OD [(gC .non)]) (g2 ER (AX 0) (gC (.int 0))))) (FX (zW (gN jN [(AX 2)]) [2] (g1 SD (gN OQ [(g2 ER (AX 1) (AX 0))])) (.nm 4) (RO (KN (g2 ER (AX 2) (AX 4))) (.nm 5) (NR (gB (g2 NI (AX 5) (AX 4))) (VU 3 (AX 5) (AX 4)) PJ)) [4,5]) (FX (VU 3 (AX 1) (AX 1)) (L3 (O9 [3] (gN TY [(AX 3)])))))))
def Bl:Mr:=OC 6 Vq
theorem MH:FnScope ["net","gate","cuts","held","place","below"] ["net","gate"] (J4 rN):=O2
theorem zRG{P:CA}{w:DL}{K:AC}{mg:C7->Option AI}{base:CN}{f:AV}{fd:CM}(Fn:Fun K "holders" "holders" rN f fd)(T:Bt mg){cc TT:AV}(OG:fd.code=.ref cc)(hC:K7 base cc TT)(hT:TB K TT ("holders"++".<locals>.<lambda>"))(bV:J2 P w K mg base "cut_off" 5 3 oP)(IF:J2 P w K mg base "reached" 4 2 YN):FnOk P w K mg base KW 6 f fd ["net","gate"] (ME K 2 Bl) :=yER Fn MH λHN A outer s H E Oq hr=>by
  have hu:=hr.units;have Oq:=Oq.trans OG;unfold Vq;exact(GY (NM (i:=2) MH.nd rfl (D5 rfl) (pA8 (yA3 (own:=["place"]) (CL:=["net","gate"]) (js:=[0,1]) (cn (xo:=AL) rfl) rfl (U8 (LN IF (hr.mono 'D') (CK (BO 0) (CK (BO 1) D7)))) (λC s H fp=>(QI 0)) (λC s H fp=>iC) (λC s H fp=>(BO 0)) (λC s H fp=>(LN bV (hr.mono 'D') (CK (BO 1) (CK (BO 2) (CK (BO 0) D7))))))))
   (GY (jZ (i:=3) MH.nd rfl (BM rfl) (yE3 (CK hJ D7) (LB hu (BO 0) GU)))
   (GY (yA5 C2 rfl T.b_sorted (pA8 (Et rfl T.b_list (CK (BO 2) D7))) ({{rfl,rfl,rfl,rfl,by decide +kernel,by decide +kernel,rfl,(o8 rfl),rfl,(o8 (by first|exact BM rfl|exact D5 rfl)),(o8 rfl),rfl},hr.mono 'D',Oq,hC,hT,{"holders"++".<locals>.",rfl,(by decide +kernel:("holders"++".<locals>.":C7)++("<lambda>":C7)=("holders"++".<locals>.<lambda>":C7))},rfl,λ_ _ _ _=>rfl}:LamOk _ _ _ "must" ["cuts"] [2] _ _ _ _ _) (λf c s H=>yH3 (hr.mono 'D') λhu=>(nR (jO T.b_len (CK (LB hu (BO 1) (BO 0)) D7)))) (P9 (i:=4) MH.nd rfl (BM rfl))
   (IR (hZ C2 rfl (U8 (LB hu (BO 2) (BO 4))) (P9 (i:=5) MH.nd rfl (BM rfl))
   (IR (UF (lN hu (BO 5) (BO 4))
   (IR (j6 3 hu (BO 5) (BO 4)))
   U9)))))
   (GY (j6 3 hu (BO 1) (BO 1))
   (IR (NH (aG [3] (WX T.b_tuple (CK (BO 3) D7)))))))))
def Sb:GS :=(L3 (HD Br [(HD Bl [(AX 0),(AX 1)]),(AX 2)]))
def oG:Mr:=OC 3 Sb
theorem yBV:FnScope ["net","gate","place"] ["net","gate","place"] (J4 Fm):=O2
theorem zXJ{P:CA}{w:DL}{K:AC}{mg:C7->Option AI}{base:CN}{f:AV}{fd:CM}(Fn:Fun K "musts" "musts" Fm f fd)(T:Bt mg)(WI:J2 P w K mg base "musts_held" 1 2 Br)(bU:J2 P w K mg base "holders" 6 2 Bl):FnOk P w K mg base KW 7 f fd ["net","gate","place"] (ME K 3 oG) :=P7 Fn yBV λHN A outer s H E hr=>by have hu:=hr.units;unfold Sb;exact(IR (NH (LN WI (hr.mono 'D') (CK (LN bU (hr.mono 'D') (CK (BO 0) (CK (BO 1) D7))) (CK (BO 2) D7)))))
def Xv:GS :=(FX (HM (.nm 4) (HD iG [(AX 0),(AX 1),(AX 2)])) (FX (HM (.nm 5) (g2 MM (IW [(AX 1),(AX 2)]) (g2 ER (AX 0) (gC (.int 1))))) (FX (NR (Cf (gB (g2 NI (g2 RP (gN OQ [(AX 3)]) (gC (.int 2))) (iL (AX 5) (g2 bL (gN OQ [(AX 4)]) (gC (.int 1)))))) (gB (g2 RP (AX 4) (IW [])))) (L3 (gC (.bl AE))) PJ) (FX (NR (cM (gB (g2 bL (gN OQ [(AX 3)]) (gC (.int 2)))) (gB (g2 UG (g2 ER (HD oO [(AX 0),(AX 1),(AX 2)]) (gC (.int 0))) (XO (AX 3) (AA (gC (.int 1))) (AA (g1 SD (gC (.int 1)))))))) (L3 (gC (.bl AE))) PJ) (FX (HM (.nm 6) (HD rW [(AX 0),(AX 1),(AX 2)])) (FX (NR (gB (g2 NI (g2 NI (AX 6) (IW [])) (g2 RP (gN OQ [(HD l8 [(AX 0),(AX 1),(AX 2)])]) (gC (.int 1))))) (L3 (gC (.bl AE))) PJ) (L3 (iL (g2 RP (AX 6) (IW [])) (g2 MM (g2 ER (HD l9 [(AX 0),(AX 1),(AX 2)]) (gC (.int 0))) (AX 6))))))))))
def vR:Mr:=OC 7 Xv
theorem KR:FnScope ["net","gate","place","row","ways","straight","lanes"] ["net","gate","place","row"] (J4 Ik):=O2
theorem zLD{P:CA}{w:DL}{K:AC}{mg:C7->Option AI}{base:CN}{f:AV}{fd:CM}(Fn:Fun K "_law_right" "_law_right" Ik f fd)(T:Bt mg)(M3:J2 P w K mg base "ways_apart" 6 3 iG)(WK:J2 P w K mg base "must_lanes" 5 3 rW)(ZT:J2 P w K mg base "blockers" 6 3 oO)(MA:J2 P w K mg base "lanes_apart" 5 3 l8)(KG:J2 P w K mg base "lane_blockers" 5 3 l9):FnOk P w K mg base KW 7 f fd ["net","gate","place","row"] (ME K 4 vR) :=P7 Fn KR λHN A outer s H E hr=>by
  have hu:=hr.units;unfold Xv;exact(GY (NM (i:=4) KR.nd rfl (BM rfl) (LN M3 (hr.mono 'D') (CK (BO 0) (CK (BO 1) (CK (BO 2) D7)))))
   (GY (NM (i:=5) KR.nd rfl (BM rfl) (Cd hu (N5 (CK (BO 1) (CK (BO 2) D7))) (LB hu (BO 0) GU)))
   (GY (UF (VW.t (yHP (lN hu (Jh hu (jO T.b_len (CK (BO 3) D7)) GU) (Jj (BO 5) (Ke (Yt (jO T.b_len (CK (BO 4) D7)) GU)))) (yEK (Kc hu (BO 4) (N5 D7)))))
   (IR (NH jJ))
   U9)
   (GY (UF (VW.t (uO (yEW (jO T.b_len (CK (BO 3) D7)) GU) (vA (rK hu (LB hu (LN ZT (hr.mono 'D') (CK (BO 0) (CK (BO 1) (CK (BO 2) D7)))) GU) (uZ (BO 3) (oI GU) (oI (nR GU)))))))
   (IR (NH jJ))
   U9)
   (GY (NM (i:=6) KR.nd rfl (BM rfl) (LN WK (hr.mono 'D') (CK (BO 0) (CK (BO 1) (CK (BO 2) D7)))))
   (GY (UF (lN hu (yKR hu (BO 6) (N5 D7)) (Jh hu (jO T.b_len (CK (LN MA (hr.mono 'D') (CK (BO 0) (CK (BO 1) (CK (BO 2) D7)))) D7)) GU))
   (IR (NH jJ))
   U9)
   (IR (NH (Jj (Jh hu (BO 6) (N5 D7)) (Ke (Cd hu (LB hu (LN KG (hr.mono 'D') (CK (BO 0) (CK (BO 1) (CK (BO 2) D7)))) GU) (BO 6))))))))))))
def Yg:GS :=(FX (HM (.nm 4) (HD uQ [(AX 0),(g2 K2 (OD [(AX 1),(AX 2)]) (gN jN [(AX 3)]))])) (L3 (iL (g2 MM (IW [(AX 1),(AX 2)]) (g2 ER (AX 0) (gC (.int 1)))) (g2 bL (gN OQ [(HD iG [(AX 4),(AX 1),(AX 2)])]) (gC (.int 1))))))
def rY:Mr:=OC 5 Yg
theorem J7:FnScope ["net","one","other","places","some"] ["net","one","other","places"] (J4 Jc):=O2
theorem zER{P:CA}{w:DL}{K:AC}{mg:C7->Option AI}{base:CN}{f:AV}{fd:CM}(Fn:Fun K "_law_stretch_right" "_law_stretch_right" Jc f fd)(T:Bt mg)(qQ:J2 P w K mg base "only" 1 2 uQ)(M3:J2 P w K mg base "ways_apart" 6 3 iG):FnOk P w K mg base KW 7 f fd ["net","one","other","places"] (ME K 4 rY) :=P7 Fn J7 λHN A outer s H E hr=>by
  have hu:=hr.units;unfold Yg;exact(GY (NM (i:=4) J7.nd rfl (BM rfl) (LN qQ (hr.mono 'D') (CK (BO 0) (CK (U7 (pA8 (Y5 (CK (BO 1) (CK (BO 2) D7)))) (pA8 (Et rfl T.b_list (CK (BO 3) D7)))) D7))))
   (IR (NH (Jj (Cd hu (N5 (CK (BO 1) (CK (BO 2) D7))) (LB hu (BO 0) GU)) (Ke (Yt (jO T.b_len (CK (LN M3 (hr.mono 'D') (CK (BO 4) (CK (BO 1) (CK (BO 2) D7)))) D7)) GU))))))
def Xj:GS :=(FX (HM (.nm 3) (HD oG [(AX 0),(AX 1),(AX 2)])) (L3 (gN TY [(OE (gY (AX 3) (XO (AX 3) (AA (gC (.int 1))) AL)) 2 [0] (.tp [(.nm 0),(.nm 1)]) RN (HD rX [(AX 2),(AX 0),(AX 1)]))])))
def rS:Mr:=OC 4 Xj
theorem Q4:FnScope ["net","gate","place","line"] ["net","gate","place"] (J4 Hy):=O2
theorem zNE{P:CA}{w:DL}{K:AC}{mg:C7->Option AI}{base:CN}{f:AV}{fd:CM}(Fn:Fun K "stretches" "stretches" Hy f fd)(T:Bt mg)(WJ:J2 P w K mg base "musts" 7 3 oG)(PZ:J2 P w K mg base "stretch_between" 4 3 rX):FnOk P w K mg base KW 8 f fd ["net","gate","place"] (ME K 3 rS) :=P7 Fn Q4 λHN A outer s H E hr=>by
  have hu:=hr.units;unfold Xj;exact(GY (NM (i:=3) Q4.nd rfl (BM rfl) (LN WJ (hr.mono 'D') (CK (BO 0) (CK (BO 1) (CK (BO 2) D7)))))
   (IR (NH (WX T.b_tuple (CK (pA8 (YM (own:=["one","other"]) (CL:=["net"]) (js:=[0]) (cn (xo:=AL) rfl) rfl (Er T.b_zip (BO 3) (uZ (BO 3) (oI GU) Ft)) (λC s H fp=>(XQ rfl (N7 (QI 0) (N7 (QI 1) XT)))) (λC s H fp=>iC) (λC s H fp=>(LN PZ (hr.mono 'D') (CK (BO 2) (CK (BO 0) (CK (BO 1) D7))))))) D7)))))
def Zt:GS :=(FX (RO (KN (g2 K2 (OD [(HD rV [(AX 0),(gC (.int 0))])]) (XO (AX 0) (AA (gC (.int 1))) (AA (gC (.int 4)))))) (.nm 1) (FX (HM (.tp [(.nm 2),(.nm 3)]) (qY rR (qZ rT [(AX 1),(gC (.int 0))]) [(gC (.int 16))])) (RO (KN (HD YN [(AX 2),(AX 3)])) (.nm 4) (NR (gB (g2 NI (AX 4) (AX 3))) (FX (HM (.nm 5) (HD oG [(AX 2),(AX 3),(AX 4)])) (FX (NR (hG (bG (HD vR [(AX 2),(AX 3),(AX 4),(AX 5)]))) (L3 (gC (.bl AE))) PJ) (RO (zP (HD rS [(AX 2),(AX 3),(AX 4)])) (.tp [(.nm 6),(.nm 7)]) (NR (hG (bG (HD rY [(AX 2),(g2 ER (AX 5) (AX 6)),(g2 ER (AX 5) (g2 K2 (AX 6) (gC (.int 1)))),(AX 7)]))) (L3 (gC (.bl AE))) PJ)))) PJ)))) (L3 (gC (.bl AQ))))
def m_law:Mr:=OC 8 Zt
theorem Q5:FnScope ["script","cell","net","gate","place","row","k","places"] ["script"] (J4 jR):=O2
theorem yFX{P:CA}{w:DL}{K:AC}{mg:C7->Option AI}{base:CN}{f:AV}{fd:CM}(Fn:Fun K "law" "law" jR f fd)(T:Bt mg)(ZU:J2 P w K mg base "_law_net" 3 2 rR)(IF:J2 P w K mg base "reached" 4 2 YN)(YD:J2 P w K mg base "_law_cell" 1 2 rV)(YC:J2 P w K mg base "_law_well" 1 2 rT)(WJ:J2 P w K mg base "musts" 7 3 oG)(WL:J2 P w K mg base "_law_right" 7 4 vR)(YB:J2 P w K mg base "stretches" 8 3 rS)(NW:J2 P w K mg base "_law_stretch_right" 7 4 rY):FnOk P w K mg base KW 9 f fd ["script"] (ME K 1 m_law) :=P7 Fn Q5 λHN A outer s H E hr=>by
  have hu:=hr.units;unfold Zt;exact(GY (hZ C2 rfl (U8 (U7 (pA8 (Y5 (CK (LN YD (hr.mono 'D') (CK (BO 0) (CK GU D7))) D7))) (uZ (BO 0) (oI GU) (oI GU)))) (P9 (i:=1) Q5.nd rfl (BM rfl))
   (GY (n8 (yA2 ZU (hr.mono 'D') (yES YC (hr.mono 'D') (CK (BO 1) (CK GU D7))) (CK GU D7)) (XQ rfl (N7 (P9 (i:=2) Q5.nd rfl (BM rfl)) (N7 (P9 (i:=3) Q5.nd rfl (BM rfl)) XT))))
   (IR (hZ C2 rfl (U8 (LN IF (hr.mono 'D') (CK (BO 2) (CK (BO 3) D7)))) (P9 (i:=4) Q5.nd rfl (BM rfl))
   (IR (UF (lN hu (BO 4) (BO 3))
   (GY (NM (i:=5) Q5.nd rfl (BM rfl) (LN WJ (hr.mono 'D') (CK (BO 2) (CK (BO 3) (CK (BO 4) D7)))))
   (GY (UF (Ff (Bh (LN WL (hr.mono 'D') (CK (BO 2) (CK (BO 3) (CK (BO 4) (CK (BO 5) D7)))))))
   (IR (NH jJ))
   U9)
   (IR (hZ C2 rfl (yA0 T.b_enumerate (LN YB (hr.mono 'D') (CK (BO 2) (CK (BO 3) (CK (BO 4) D7))))) (XQ rfl (N7 (P9 (i:=6) Q5.nd rfl (BM rfl)) (N7 (P9 (i:=7) Q5.nd rfl (BM rfl)) XT)))
   (IR (UF (Ff (Bh (LN NW (hr.mono 'D') (CK (BO 2) (CK (LB hu (BO 5) (BO 6)) (CK (LB hu (BO 5) (U7 (BO 6) GU)) (CK (BO 7) D7)))))))
   (IR (NH jJ))
   U9))))))
   U9))))))
   (IR (NH jJ)))
theorem lK{i j:Int}(h:0<j):TZ (.int i) (.int j)=.ok (.int (i % j)):=if_pos h
theorem Rj{i j:Int}(h:0<j/\j<2 ^ 200):nS (.int i) (.int j)=.ok (.int (i / j)):=if_pos h
theorem zL{i j:Int}(h:rJ i\/rJ j):YK (.int i) (.int j)=.ok (.int (i * j)):=if_pos h
theorem Ju{i j:Int}(h:0<=j/\j<=1000000/\i.natAbs<2 ^ 64):cI (.int i) (.int j)=.ok (.int (i ^ j.toNat)):=if_pos h
noncomputable def VP(a b c n:Int)(u2 u3 u4:Sl):Ev:=[.own AQ (.lst [.int a,.int b,.int c]),.val (.int n),u2,u3,u4]
theorem Ri{a b c n:Int}{u2 u3 u4:Sl}:YL [0] (gB (g2 bL (g2 ER (AX 0) (gC (.int 0))) (gC (.int 0)))) (VP a b c n u2 u3 u4)=.ok (decide (0<a),VP a b c n u2 u3 u4) :=dW (NL (FC (FC (x:=.lst [.int a,.int b,.int c]) (y:=.int 0) rfl rfl (d:=.int a) rfl) (y:=.int 0) rfl rfl))
theorem zXL{a b c n:Int}(ha:0<a)(hn:1<=n)(bR:n<2 ^ 200) : L7 [.own AQ (.lst [.int a,.int b,.int c]),.val (.int n)]=.ok (AE,.int (a % n),.lst [.int (a / n),.int b,.int c]):=by
 have h1:0<n:=by lia
 have t:=Ri (a:=a) (b:=b) (c:=c) (n:=n) (u2:=.no) (u3:=.no) (u4:=.no);rw[decide_eq_true ha] at t;exact N6 (uM (dN t (GN (E1:=VP a b c n (.val (.int (a % n))) .no .no) (LL (aI (FC (FC (x:=.lst [.int a,.int b,.int c]) (y:=.int 0) rfl rfl (d:=.int a) rfl) (y:=.int n) rfl (lK h1)) rfl) rfl)
  (GN (E1:=VP (a / n) b c n (.val (.int (a % n))) .no .no) (j5 (i:=0) (E1:=VP a b c n (.val (.int (a % n))) .no .no) (E2:=VP a b c n (.val (.int (a % n))) .no .no) (t:=AQ) (d:=.lst [.int a,.int b,.int c]) (k:=.int 0) (d':=.lst [.int (a / n),.int b,.int c]) rfl (aI (FC (FC (x:=.lst [.int a,.int b,.int c]) (y:=.int 0) rfl rfl (d:=.int a) rfl) (y:=.int n) rfl (Rj {h1,bR})) rfl) rfl rfl rfl) (OR (d:=.int (a % n)) rfl))))) rfl
def jD(b c:Int):Int:=(b+1000003 * c) % 2305843009213693951
def jC(b c:Int):Int:=(jD b c * jD b c+7919 * c ^ 2+5) % 2305843009213693951
theorem s64{i:Int}(h0:0<=i)(h:i<2305843009213693951):rJ i:={by lia,by lia}
theorem zXO{a b c n:Int}(ha:¬0<a)(hc:0<=c)(iW:c<1000000)(hn:1<=n)(bR:n<2 ^ 200) : L7 [.own AQ (.lst [.int a,.int b,.int c]),.val (.int n)]=.ok (AE,.int (jC b (c+1) ^ 3 % 2305843009213693951 / 13 % n),.lst [.int a,.int b,.int (c+1)]):=by
 have h1:0<n:=by lia
 have m1:0<=jD b (c+1):=JH _ 'D';have m2:jD b (c+1)<2305843009213693951:=HL _ 'D';have m3:0<=jC b (c+1):=JH _ 'D';have m4:jC b (c+1)<2305843009213693951:=HL _ 'D';have t:=Ri (a:=a) (b:=b) (c:=c) (n:=n) (u2:=.no) (u3:=.no) (u4:=.no);rw[decide_eq_false ha] at t;have hp:(0:Int)<2305843009213693951:=by decide
 have bag:AX 0 (P8 [0] (VP a b (c+1) n .no .no .no))=.ok (.lst [.int a,.int b,.int (c+1)],P8 [0] (VP a b (c+1) n .no .no .no)):=rfl;have s1:VU 0 (gC (.int 2)) (O9 [0] (g2 K2 (g2 ER (AX 0) (gC (.int 2))) (gC (.int 1)))) (VP a b c n .no .no .no)=.ok (.nx (VP a b (c+1) n .no .no .no)) :=
  j5 (i:=0) (E1:=VP a b c n .no .no .no) (E2:=VP a b c n .no .no .no) (t:=AQ) (d:=.lst [.int a,.int b,.int c]) (k:=.int 2) (d':=.lst [.int a,.int b,.int (c+1)]) rfl (aI (FC (FC (x:=.lst [.int a,.int b,.int c]) (y:=.int 2) rfl rfl (d:=.int c) rfl) (y:=.int 1) rfl rfl) rfl) rfl rfl rfl
 have s3:HM (.nm 4) (O9 [0] (g2 TZ (g2 K2 (g2 ER (AX 0) (gC (.int 1))) (g2 YK (gC (.int 1000003)) (g2 ER (AX 0) (gC (.int 2))))) (AX 3))) (VP a b (c+1) n .no (.val (.int 2305843009213693951)) .no)=.ok (.nx (VP a b (c+1) n .no (.val (.int 2305843009213693951)) (.val (.int (jD b (c+1)))))) :=
  LL (aI (d:=.int (jD b (c+1))) (FC (FC (FC (x:=.lst [.int a,.int b,.int (c+1)]) (y:=.int 1) rfl rfl (d:=.int b) rfl) (FC (x:=.int 1000003) rfl (FC (x:=.lst [.int a,.int b,.int (c+1)]) (y:=.int 2) rfl rfl (d:=.int (c+1)) rfl) (zL (.inl {by decide,by decide}))) rfl) (y:=.int 2305843009213693951) rfl (lK hp)) rfl) rfl
 have s4:HM (.nm 4) (O9 [0] (g2 TZ (g2 K2 (g2 K2 (g2 YK (AX 4) (AX 4)) (g2 YK (gC (.int 7919)) (g2 cI (g2 ER (AX 0) (gC (.int 2))) (gC (.int 2))))) (gC (.int 5))) (AX 3))) (VP a b (c+1) n .no (.val (.int 2305843009213693951)) (.val (.int (jD b (c+1)))))=.ok (.nx (VP a b (c+1) n .no (.val (.int 2305843009213693951)) (.val (.int (jC b (c+1)))))) :=
  LL (aI (d:=.int (jC b (c+1))) (FC (FC (FC (FC (x:=.int (jD b (c+1))) (y:=.int (jD b (c+1))) rfl rfl (zL (.inl (s64 m1 m2)))) (FC (x:=.int 7919) rfl (FC (FC (x:=.lst [.int a,.int b,.int (c+1)]) (y:=.int 2) rfl rfl (d:=.int (c+1)) rfl) (y:=.int 2) rfl (Ju {by decide,by decide,by lia})) (zL (.inl {by decide,by decide}))) rfl) (y:=.int 5) rfl rfl) (y:=.int 2305843009213693951) rfl (lK hp)) rfl) rfl
 have s5:L3 (g2 TZ (g2 nS (g2 TZ (g2 cI (AX 4) (gC (.int 3))) (AX 3)) (gC (.int 13))) (AX 1)) (VP a b (c+1) n .no (.val (.int 2305843009213693951)) (.val (.int (jC b (c+1)))))=.ok (.rt AE (.int (jC b (c+1) ^ 3 % 2305843009213693951 / 13 % n)) (VP a b (c+1) n .no (.val (.int 2305843009213693951)) (.val (.int (jC b (c+1)))))) :=
  OR (FC (FC (FC (FC (x:=.int (jC b (c+1))) (y:=.int 3) rfl rfl (Ju {by decide,by decide,by lia})) (y:=.int 2305843009213693951) rfl (lK hp)) (y:=.int 13) rfl (Rj {by decide,by decide})) (y:=.int n) rfl (lK h1))
 exact N6 (GN (SY t rfl) (GN s1 (GN (E1:=VP a b (c+1) n .no (.val (.int 2305843009213693951)) .no) rfl (GN s3 (GN s4 s5))))) rfl
def Bag(k:Nat)(d:D):Prop:=∃a b c:Int,d=.lst [.int a,.int b,.int c]/\0<=c/\c<=k
theorem Bag.mono{k k':Nat}{d:D}(h:Bag k d)(l:k<=k'):Bag k' d:=by have{a,b,c,e,h0,h1}:=h;exact{a,b,c,e,h0,by lia}
theorem yBX{k:Nat}{d:D}{n:Int}(B:Bag k d)(hk:k<900000)(hn:1<=n)(bR:n<2 ^ 200) : ∃r d',L7 [.own AQ d,.val (.int n)]=.ok (AE,.int r,d')/\0<=r/\r<n/\Bag (k+1) d':=by
 have{a,b,c,rfl,h0,h1}:=B;by_cases ha:0<a
 .exact{_,_,zXL ha hn bR,JH _ 'L',HL _ 'L',_,_,_,rfl,h0,by lia}
 .exact{_,_,zXO ha h0 'L' hn bR,JH _ 'L',HL _ 'L',_,_,_,rfl,by lia,by lia}
theorem yBY(n:Int):∃d,rT [.val (.int n),.val (.int 0)]=.ok (AQ,d,.non)/\Bag 0 d:=by
 have hp:(0:Int)<2305843009213693951:=by decide
 have pw:∀E:Ev,g2 cI (gC (.int 10)) (gC (.int 18)) E=.ok (.int 1000000000000000000,E):=λE=>FC (x:=.int 10) (y:=.int 18) rfl rfl (Ju {by decide,by decide,by decide});have t:gB (g2 Kk (AX 0) (g2 cI (gC (.int 10)) (gC (.int 18)))) [.val (.int n),.val (.int 0)]=.ok (decide (1000000000000000000<=n),[.val (.int n),.val (.int 0)]):=NL (FC (x:=.int n) rfl (pw _) rfl);by_cases h:1000000000000000000<=n
 .rw[decide_eq_true h] at t;exact{.lst [.int (n-1000000000000000000),.int (n % 2305843009213693951),.int 0],N6 (uM (dN t (Ss (lU (NA (FC (x:=.int n) rfl (pw _) (d:=.int (n-1000000000000000000)) rfl) (NA (FC (x:=.int n) (y:=.int 2305843009213693951) rfl rfl (lK hp)) (JA (d:=.int 0) rfl))) (show 3<10000 by decide))))) rfl,_,_,_,rfl,by decide,by decide}
 .rw[decide_eq_false h] at t;exact{.lst [.int 0,.int (n % 2305843009213693951),.int 0],N6 (GN (SY t rfl) (Ss (lU (NA (d:=.int 0) rfl (NA (FC (x:=.int n) (y:=.int 2305843009213693951) rfl rfl (lK hp)) (JA (d:=.int 0) rfl))) (show 3<10000 by decide)))) rfl,_,_,_,rfl,by decide,by decide}
def ED(AD:Int)(ps:List (Int×Int)):D:=.tup [.int AD,.tup (ps.map E8)]
def Jt(p:Int×Int):Int×Int:=(p.2,p.1)
structure Net(AD:Int)(ps:List (Int×Int)):Prop where
 m1:1<=AD
 m2:AD<=24
 len:ps.length<=120
 rg:∀p∈ps,0<=p.1/\p.1<AD/\0<=p.2/\p.2<AD/\p.1≠p.2
 pw:ps.Pairwise λa b=>UH a b=AQ
def back(ps:List (Int×Int)):List (Int×Int):=NG (ps.map Jt)
theorem Fk(Ec:Ev)(k:Nat):∀(j:Nat) (E:Ev),dO Ec k [] j E=E
 |_,[]=>rfl
 |j,s::E=>by rw[dO,Fk Ec k (j+1) E];cases s<;>rfl
theorem Rh{E:Ev}(h:E.length=2):∃x y,E=[x,y]:=by
 match E,h with
 |[x,y],_=>exact{x,y,rfl}
theorem zUE{gi:GI}{E E1:Ev}{ps:List (Int×Int)}(hi:gi E=.ok (ps.map E8,E1))(hl:ps.length<10000) : OE gi 2 [] (.tp [.nm 0,.nm 1]) RN (IW [AX 1,AX 0]) E=.ok (.lst ((ps.map Jt).map E8),E1):=by
 have:=iA (k:=2) (js:=[]) (t:=.tp [.nm 0,.nm 1]) (tt:=RN) (ge:=IW [AX 1,AX 0]) (λd=>match d with|.tup [a,b]=>[.tup [b,a]]|_=>[]) (λE=>E.length=2) hi rfl (by simpa using hl) (λd hd E hE=>by have{p,_,rfl}:=BY.mp hd;have{x,y,rfl}:=Rh hE;exact{_,rfl,AQ,_,rfl,.inl {rfl,_,_,rfl,rfl,rfl}}) λEc _=>Fk Ec 2 0 E1;rw[this];congr 3;clear this hi hl;induction ps with
 |nil=>rfl
 |cons p ps ih=>simp only[AU,DW,ih];rfl
theorem Vp{AD:Int}{ps:List (Int×Int)}(hl:ps.length<10000):l6 [.val (ED AD ps)]=.ok (AE,ED AD (back ps),.non):=by have h1:=zUE (gi:=KN (AX 2)) (E:=[.val (ED AD ps),.val (.int AD),.val (.tup (ps.map E8))]) (E1:=[.val (ED AD ps),.val (.int AD),.val (.tup (ps.map E8))]) (ps:=ps) rfl hl;exact N6 (GN (LL (d:=ED AD ps) rfl rfl) (OR (jT (NA (d:=.int AD) rfl (JA (NS (JA (NS (JA h1) (Bp _))) rfl))) (show 2<10000 by decide)))) rfl
theorem yKZ{ps:List (Int×Int)}(h:ps.Pairwise λa b=>UH a b=AQ):ps.Pairwise λa b=>cR a b=AQ :=h.imp λ{a b} e=>by simp only[cR,UH,decide_eq_true_eq,RM,decide_eq_false_iff_not] at *;lia
theorem zOX{a b:Int×Int}(h:cR a b=AQ)(hn:a≠b):UH a b=AQ:=by have{a1,a2}:=a;have{b1,b2}:=b;simp only[cR,UH,decide_eq_true_eq,RM,decide_eq_false_iff_not] at *;have:¬(a1=b1/\a2=b2):=(λq0=>by have{x,y}:=q0;exact hn (by rw[x,y]));lia
theorem yFY{a b:Int×Int}(h:UH a b=AQ):a≠b:=λz=>by subst z;simp only[UH,decide_eq_true_eq] at h;lia
theorem zXP{ps:List (Int×Int)}(h:ps.Nodup):(NG ps).Pairwise λa b=>UH a b=AQ:=by have h2:(NG ps).Nodup:=(dX ps).nodup_iff.mpr h;exact((Uc ps).and h2).imp λ{a b} e=>zOX e.1 e.2
theorem Yk{α:Type}(xs:List α):U6 xs (AA 1) AL=xs.drop 1:=by
 unfold U6 HT.sIx;cases xs with
 |nil=>simp
 |cons x xs=>simp
def LK:Option Int->D
 |none=>.non
 |some i=>.int i
inductive Rc(ps:List (Int×Int))(cl:List Int)(g:Int):Int->Prop
 |refl:g∉cl->Rc ps cl g g
 |step {x y:Int}:Rc ps cl g x->(x,y)∈ps->y∉cl->Rc ps cl g y
def vis(aw:List (Option Int))(x:Int):Prop:=0<=x/\∃v,aw[x.toNat]?=AA (AA v)
noncomputable def zNH:List (Option Int)->Nat
 |[]=>0
 |none::r=>zNH r+1
 |some _::r=>zNH r
theorem Bd:∀{l:List (Option Int)} {i:Nat} {v:Int},l[i]?=AA AL->zNH (l.set i (AA v))+1=zNH l
 |[],_,_,h=>by simp at h
 |o::l,0,v,h=>by simp at h;subst h;rfl
 |o::l,i+1,v,h=>by have:=Bd (l:=l) (i:=i) (v:=v) (by simpa using h);cases o<;>simp[zNH]<;>lia
theorem uW:∀l:List (Option Int),zNH l<=l.length
 |[]=>AM _
 |none::r=>by have:=uW r;simp[zNH];lia
 |some _::r=>by have:=uW r;simp[zNH];lia
theorem oF{aw:List (Option Int)}{j v x:Int}(h0:0<=j)(h1:j.toNat<aw.length):vis (aw.set j.toNat (AA v)) x↔vis aw x\/x=j:=by
 unfold vis;by_cases e:x=j
 .subst e;simp only[or_true,iff_true];exact{h0,v,by rw[BQ h1]}
 .constructor
  .intro zz';have{a,w,b}:=zz';rw[BK 'L'] at b;exact .inl {a,w,b}
  .rintro(⟨a,w,b⟩|h)
   .exact{a,w,by rw[BK 'L'];exact b}
   .exact absurd h e
theorem MJ{ps:List (Int×Int)}{j:Nat}{y:Int}:y∈SE ps j↔((j:Int),y)∈ps:=by
 unfold SE;constructor
 .intro h;have{p,hp,rfl}:=BY.mp h;have{hp,e}:=A4.mp hp;have:=of_decide_eq_true e;rw[<-this];exact hp
 .intro h;exact BY.mpr {_,A4.mpr {h,decide_eq_true rfl},rfl}
noncomputable def nP(AD:Int)(cl:List Int):D:=.lst ((DM AD.toNat).map λ(j:Nat)=>.bl (decide ((j:Int)∈cl)))
def env(AD:Int)(ps:List (Int×Int))(cl:List Int)(start:Int)(aw:List (Option Int))(IK:List Int)(u8 u9 u10:Sl):Ev :=[.val (ED AD ps),.val (.int start),.val (.tup (cl.map D.int)),.val (.int AD),.own AE (.lst (aw.map LK)),.val (cK AD ps),.val (nP AD cl),.val (.lst (IK.map D.int)),u8,u9,u10]
abbrev WU(D8:List Int):Sl:=.own AE (.lst (D8.map D.int))
structure Rg(AD:Int)(ps:List (Int×Int)):Prop where
 m1:0<=AD
 m2:AD<=100
 len:ps.length<=1000
 rg:∀p∈ps,0<=p.1/\p.1<AD/\0<=p.2/\p.2<AD
section
variable{AD:Int}{ps:List (Int×Int)}{cl:List Int}{start:Int}
abbrev Kj:GS:=NR (YL [4] (cM (gB (g2 cJ (g2 ER (AX 4) (AX 10)) (gC .non))) (hG (bG (g2 ER (AX 6) (AX 10)))))) (FX (VU 4 (AX 10) (O9 [4] (g2 K2 (g2 ER (AX 4) (AX 9)) (gC (.int 1))))) (g9 (XM 8 XI [(AX 10)]))) PJ
theorem t7{aw:List (Option Int)}{x:Int}{o:Option Int}(h0:0<=x)(h:aw[x.toNat]?=AA o):ER (.lst (aw.map LK)) (.int x)=.ok (LK o):=by have:=qW (xs:=aw.map LK) (x:=LK o) h0 (by rw[AY,h];rfl);exact sA this
theorem yB0{x:Int}(h0:0<=x)(h:x<AD):ER (nP AD cl) (.int x)=.ok (.bl (decide (x∈cl))):=by have:=qW (xs:=(DM AD.toNat).map λ(j:Nat)=>D.bl (decide ((j:Int)∈cl))) (x:=.bl (decide (x∈cl))) h0 (by rw[AY,LA 'L',I9,show((x.toNat:Nat):Int)=x by lia]);exact sA this
theorem Sa{x:Int}(h0:0<=x)(h:x<AD):ER (cK AD ps) (.int x)=.ok (.lst ((SE ps x.toNat).map D.int)):=by have:=qW (xs:=(DM AD.toNat).map λ(j:Nat)=>D.lst ((SE ps j).map D.int)) (x:=.lst ((SE ps x.toNat).map D.int)) h0 (by rw[AY,LA 'L',I9]);exact sA this
theorem yB1{aw:List (Option Int)}{IK D8:List Int}{one BV v:Int}(hl:aw.length=AD.toNat)(h1:0<=one)(hv:aw[one.toNat]?=AA (AA v))(h2:0<=BV)(h3:BV<AD)(hll:D8.length<10000) : ∃fY OV,Kj (env AD ps cl start aw IK (WU D8) (.val (.int one)) (.val (.int BV)))=.ok (.nx (env AD ps cl start fY IK (WU OV) (.val (.int one)) (.val (.int BV)))) /\ ((aw[BV.toNat]?=AA AL/\BV∉cl/\fY=aw.set BV.toNat (AA (v+1))/\OV=D8++[BV])\/(fY=aw/\OV=D8/\(BV∉cl->vis aw BV))):=by
 obtain⟨o,ho⟩:∃o,aw[BV.toNat]?=AA o:={_,BD 'L'};have t1:∀b,(match o with|none=>AQ|_=>AE)=b->gB (g2 cJ (g2 ER (AX 4) (AX 10)) (gC .non)) (P8 [4] (env AD ps cl start aw IK (WU D8) (.val (.int one)) (.val (.int BV))))=.ok (b,P8 [4] (env AD ps cl start aw IK (WU D8) (.val (.int one)) (.val (.int BV)))):=λb hb =>
  NL (FC (FC (x:=.lst (aw.map LK)) (y:=.int BV) rfl rfl (t7 h2 ho)) (y:=.non) rfl (by cases o<;>subst hb<;>rfl))
 have t2:hG (bG (g2 ER (AX 6) (AX 10))) (P8 [4] (env AD ps cl start aw IK (WU D8) (.val (.int one)) (.val (.int BV))))=.ok (!decide (BV∈cl),P8 [4] (env AD ps cl start aw IK (WU D8) (.val (.int one)) (.val (.int BV)))) :=
  Fq (uC (FC (x:=nP AD cl) (y:=.int BV) rfl rfl (yB0 h2 h3)) rfl)
 cases o with
 |some w=>refine{aw,D8,SY (dW (uS (t1 AE rfl))) rfl,.inr {rfl,rfl,λ_=>{h2,w,ho}}}
 |none =>
  by_cases hc:BV∈cl
  .rw[decide_eq_true hc] at t2;exact{aw,D8,SY (dW (oD (t1 AQ rfl) t2)) rfl,.inr {rfl,rfl,λz=>absurd hc z}}
  .rw[decide_eq_false hc] at t2;refine{_,_,dN (dW (oD (t1 AQ rfl) t2)) (GN (E1:=env AD ps cl start (aw.set BV.toNat (AA (v+1))) IK (WU D8) (.val (.int one)) (.val (.int BV))) ?_ ?_),.inl {ho,hc,rfl,rfl}}
   .have hb:O9 [4] (g2 K2 (g2 ER (AX 4) (AX 9)) (gC (.int 1))) (env AD ps cl start aw IK (WU D8) (.val (.int one)) (.val (.int BV)))=.ok (.int (v+1),env AD ps cl start aw IK (WU D8) (.val (.int one)) (.val (.int BV))) :=
     aI (FC (FC (x:=.lst (aw.map LK)) (y:=.int one) rfl rfl (t7 h1 hv)) (y:=.int 1) rfl rfl) rfl
    have:=j5 (i:=4) (gk:=AX 10) (t:=AE) (d:=.lst (aw.map LK)) (k:=.int BV) (d':=.lst ((aw.set BV.toNat (AA (v+1))).map LK)) rfl hb rfl rfl (by rw[Jv (Ez h2 (by rw[AK];lia)),List.map_set];rfl);exact this
   .have:=uX (i:=8) (f:=XI) (gs:=[AX 10]) (E:=env AD ps cl start (aw.set BV.toNat (AA (v+1))) IK (WU D8) (.val (.int one)) (.val (.int BV))) (xs:=D8.map D.int) (ds:=[.int BV]) (x:=.non) (YT:=(D8++[BV]).map D.int) rfl rfl rfl (by simp only[XI,AK];rw[dR hll];simp);exact As this
def Lv(ps:List (Int×Int))(start:Int)(aw:List (Option Int)):Prop:=∀x v:Int,0<=x->aw[x.toNat]?=AA (AA v)->v+1+(zNH aw:Nat)<=(aw.length:Nat)/\((x=start/\v=0)\/(0<v/\∃y,0<=y/\(y,x)∈ps/\aw[y.toNat]?=AA (AA (v-1))))
theorem Lv.put{ps:List (Int×Int)}{start one BV v:Int}{aw:List (Option Int)}(L:Lv ps start aw)(h0:0<=one)(hw:aw[one.toNat]?=AA (AA v))(he:(one,BV)∈ps)(h2:0<=BV)(h4:aw[BV.toNat]?=AA AL):Lv ps start (aw.set BV.toNat (AA (v+1))):=by
 have IS:BV.toNat<aw.length:=(AH.mp h4).1;have GR:∀{y u:Int},aw[y.toNat]?=AA (AA u)->(aw.set BV.toNat (AA (v+1)))[y.toNat]?=AA (AA u):=λ{y u} e=>by rw[BK (λz=>by rw[<-z,h4] at e;cases e)];exact e
 have v0:0<=v:=by rcases(L one v h0 hw).2 with⟨_,e⟩|⟨e,_⟩<;>lia
 have hc:=Bd (v:=v+1) h4;intro x u hx e;by_cases ex:BV.toNat=x.toNat
 .have:x=BV:=by lia
  subst this;rw[BQ IS] at e;cases e;exact{by have:=(L one v h0 hw).1;rw[DI];lia,.inr {by lia,one,h0,he,by rw[show v+1-1=v by lia];exact GR hw}}
 .rw[BK ex] at e;have{h0,h}:=L x u hx e;refine{by rw[DI];lia,?_};rcases h with h|⟨h,y,y0,y1,y2⟩
  .exact .inl h
  .exact .inr {h,y,y0,y1,GR y2}
structure Bf(ps:List (Int×Int))(cl:List Int)(start:Int)(n:Nat)(N9 aw:List (Option Int))(D8:List Int):Prop where
 len:aw.length=n
 mono:∀x,vis N9 x->vis aw x
 new:∀x,vis aw x->vis N9 x\/x∈D8
 lat:∀x∈D8,vis aw x
 rc:∀x,vis aw x->Rc ps cl start x
 cnt:zNH aw+D8.length=zNH N9
 lv:Lv ps start aw
theorem Bf.step{N9 aw:List (Option Int)}{D8:List Int}{one BV v:Int}{n:Nat}(B:Bf ps cl start n N9 aw D8)(h1:vis aw one)(hw:aw[one.toNat]?=AA (AA v))(he:(one,BV)∈ps)(h2:0<=BV)(h3:BV.toNat<n)(h4:aw[BV.toNat]?=AA AL)(h5:BV∉cl) : Bf ps cl start n N9 (aw.set BV.toNat (AA (v+1))) (D8++[BV]) where
 len:=by rw[DI];exact B.len
 mono:=λx h=>(oF h2 (by rw[B.len];exact h3)).mpr (.inl (B.mono x h))
 new:=λx h=>by
  rcases(oF h2 (by rw[B.len];exact h3)).mp h with h|rfl
  .rcases B.new x h with h|h
   .exact .inl h
   .exact .inr (FS _ h)
  .exact .inr 'S'
 lat:=λx h=>by
  refine(oF h2 (by rw[B.len];exact h3)).mpr ?_;rcases BR.mp h with h|h
  .exact .inl (B.lat x h)
  .exact .inr (AS.mp h)
 rc:=λx h=>by
  rcases(oF h2 (by rw[B.len];exact h3)).mp h with h|rfl
  .exact B.rc x h
  .exact .step (B.rc one h1) he h5
 cnt:=by have:=Bd (v:=v+1) h4;have:=B.cnt;rw[BG,CV];lia
 lv:=B.lv.put h1.1 hw he h2 h4
abbrev By:GS:=RO (KN (g2 ER (AX 5) (AX 9))) (.nm 10) Kj
theorem zXQ(R:Rg AD ps){N9 RW:List (Option Int)}{IK WB:List Int}{one:Int}{u10:Sl}(B1:Bf ps cl start AD.toNat N9 RW WB)(hv:vis RW one)(ho:one<AD)(iX:zNH N9<=100) : ∃aw D8 u,By (env AD ps cl start RW IK (WU WB) (.val (.int one)) u10)=.ok (.nx (env AD ps cl start aw IK (WU D8) (.val (.int one)) u))/\Bf ps cl start AD.toNat N9 aw D8/\(∀x,vis RW x->vis aw x)/\∀y,(one,y)∈ps->y∉cl->vis aw y:=by
 have h0:=hv.1;have{E',e,aw,D8,u,rfl,B,mo,ex}:=iB (gi:=KN (g2 ER (AX 5) (AX 9))) (t:=.nm 10) (g:=Kj) (E:=env AD ps cl start RW IK (WU WB) (.val (.int one)) u10) (ds:=(SE ps one.toNat).map D.int)
  (λi E=>∃aw D8 u,E=env AD ps cl start aw IK (WU D8) (.val (.int one)) u/\Bf ps cl start AD.toNat N9 aw D8/\(∀x,vis RW x->vis aw x)/\∀y∈(SE ps one.toNat).take i,y∉cl->vis aw y)
  (uY (FC (x:=cK AD ps) (y:=.int one) rfl rfl (Sa h0 ho))) {RW,WB,u10,rfl,B1,λ_ h=>h,λy h=>by simp at h}
  (λi d E hd q0=>by
   have{aw,D8,u,hE,B,mo,ex}:=q0;subst hE;rw[AY] at hd;have{y,hy,rfl}:=BU.mp hd;have Di:(one,y)∈ps:=by have:=MJ.mp (BS hy);rwa [show((one.toNat:Nat):Int)=one by lia] at this
   have{_,_,y0,y1}:=R.rg _ Di;simp only at y0 y1;have{w,hw}:=(mo one hv).2;have hcn:=B.cnt;have{fY,OV,e,h}:=yB1 (ps:=ps) (cl:=cl) (start:=start) (IK:=IK) (D8:=D8) B.len h0 hw y0 y1 'L';refine{_,rfl,_,e,fY,OV,_,rfl,?_};have htk:(SE ps one.toNat).take (i+1)=(SE ps one.toNat).take i++[y]:=by have{hi,e}:=AH.mp hy;rw[CI hi,e]
   rcases h with⟨a,b,rfl,rfl⟩|⟨rfl,rfl,hz⟩
   .have B':=B.step (v:=w) (mo one hv) hw Di y0 'L' a b;refine{B',λx hx=>(oF y0 (by rw[B.len];lia)).mpr (.inl (mo x hx)),λz hz xK=>?_};rw[htk] at hz;refine(oF y0 (by rw[B.len];lia)).mpr ?_;rcases BR.mp hz with h|h
    .exact .inl (ex z h xK)
    .exact .inr (AS.mp h)
   .refine{B,mo,λz h xK=>?_};rw[htk] at h;rcases BR.mp h with h|h
    .exact ex z h xK
    .rw[AS.mp h] at xK ⊢;exact hz xK)
 refine{aw,D8,u,e,B,mo,λy hy Dj=>ex y ?_ Dj};rw[AK,G4];exact MJ.mpr (by rwa [show((one.toNat:Nat):Int)=one by lia])
end
section
variable{AD:Int}{ps:List (Int×Int)}{cl:List Int}{start:Int}
theorem yFZ{aw:List (Option Int)}{x:Int}{n:Nat}(hl:aw.length=n)(h:vis aw x):0<=x/\x<n:=by have{a,v,b}:=h;have:=(AH.mp b).1;exact{a,by lia}
theorem zXR(R:Rg AD ps){N9:List (Option Int)}{IK:List Int}{u9 u10:Sl}(hl:N9.length=AD.toNat)(tJ:∀x,vis N9 x->Rc ps cl start x)(pT:∀x∈IK,vis N9 x)(Ny:Lv ps start N9) : ∃aw D8 u v,RO (KN (AX 7)) (.nm 9) By (env AD ps cl start N9 IK (WU []) u9 u10)=.ok (.nx (env AD ps cl start aw IK (WU D8) u v))/\Bf ps cl start AD.toNat N9 aw D8/\∀x∈IK,∀y,(x,y)∈ps->y∉cl->vis aw y:=by
 have iX:zNH N9<=100:=by have:=uW N9;have:=R.m2;lia
 have{E',e,aw,D8,u,v,rfl,B,ex}:=iB (gi:=KN (AX 7)) (t:=.nm 9) (g:=By) (E:=env AD ps cl start N9 IK (WU []) u9 u10) (ds:=IK.map D.int)
  (λi E=>∃aw D8 u v,E=env AD ps cl start aw IK (WU D8) u v/\Bf ps cl start AD.toNat N9 aw D8/\∀x∈IK.take i,∀y,(x,y)∈ps->y∉cl->vis aw y)
  (uY rfl) {N9,[],u9,u10,rfl,{hl,λ_ h=>h,λ_ h=>.inl h,λ_ h=>by simp at h,tJ,rfl,Ny},λy h=>by simp at h}
  (λi d E hd q0=>by
   have{aw,D8,u,v,hE,B,ex}:=q0;subst hE;rw[AY] at hd;have{x,hx,rfl}:=BU.mp hd;have hvx:=B.mono x (pT x (BS hx));have IS:=yFZ B.len hvx;have{fY,OV,u',e,B',mo,ex'}:=zXQ R (IK:=IK) (u10:=v) B hvx (by have:=R.m1;lia) iX;refine{_,rfl,_,e,fY,OV,_,u',rfl,B',λz hz y hy Dj=>?_};have{hi,e}:=AH.mp hx;rw[CI hi,e] at hz;rcases BR.mp hz with h|h
   .exact mo y (ex z h y hy Dj)
   .rw[AS.mp h] at hy;exact ex' y hy Dj)
 rw[AK,G4] at ex;exact{aw,D8,u,v,e,B,ex}
abbrev whB:GS:=(FX (aF 8 (OD [])) (FX (RO (KN (AX 7)) (.nm 9) By) (HM (.nm 7) (AX 8))))
theorem zXS(R:Rg AD ps){N9:List (Option Int)}(hl:N9.length=AD.toNat)(hv:∀x,vis N9 x↔x=start)(hs:start∉cl)(Ny:Lv ps start N9) : ∃aw u8 u9 u10,ZA (bG (AX 7)) whB 100000 (env AD ps cl start N9 [start] .no .no .no)=.ok (.nx (env AD ps cl start aw [] u8 u9 u10))/\aw.length=AD.toNat/\(∀x,vis aw x↔Rc ps cl start x)/\Lv ps start aw:=by
 have iX:zNH N9<=100:=by have:=uW N9;have:=R.m2;lia
 have{E',e,aw,u8,u9,u10,rfl,h1,h2,h3}:=uL (t:=bG (AX 7)) (g:=whB)
  (λn E=>∃aw IK u8 u9 u10,E=env AD ps cl start aw IK u8 u9 u10/\aw.length=AD.toNat/\(∀x,vis aw x->Rc ps cl start x)/\vis aw start/\(∀x∈IK,vis aw x)/\(∀x,vis aw x->x∈IK\/∀y,(x,y)∈ps->y∉cl->vis aw y)/\n=zNH aw+(if IK=[] then 0 else 1)/\Lv ps start aw)
  (λE=>∃aw u8 u9 u10,E=env AD ps cl start aw [] u8 u9 u10/\aw.length=AD.toNat/\(∀x,vis aw x↔Rc ps cl start x)/\Lv ps start aw)
  (λn E hP=>by
   have{aw,IK,u8,u9,u10,hE,hl,tJ,RU,pT,hex,hn,hL}:=hP;subst hE;cases IK with
   |nil =>
    refine .inl {_,uC (d:=.lst []) rfl rfl,aw,u8,u9,u10,rfl,hl,λx=>{tJ x,λh=>?_},hL};induction h with
    |refl _=>exact RU
    |step _ he hc ih =>
     rcases hex _ ih with h|h
     .simp at h
     .exact h _ he hc
   |cons r IK =>
    have{fY,D8,u,v,e,B,ex}:=zXR R (IK:=r::IK) (u9:=u9) (u10:=u10) hl tJ pT hL;refine .inr {_,env AD ps cl start fY D8 (.val (.lst (D8.map D.int))) u v,zNH fY+(if D8=[] then 0 else 1),uC (d:=.lst ((r::IK).map D.int)) rfl rfl,GN (jX (d:=.lst []) rfl) (GN e (LL (d:=.lst (D8.map D.int)) rfl rfl)),?_,fY,D8,_,_,_,rfl,B.len,B.rc,B.mono _ RU,B.lat,λx hx=>?_,rfl,B.lv}
    .have:=B.cnt;rw[show(if(r::IK:List Int)=[] then 0 else 1)=1 from if_neg 'S'] at hn;cases D8 with
     |nil=>simp at this ⊢;lia
     |cons a l=>simp at this ⊢;lia
    .rcases B.new x hx with h|h
     .refine .inr ?_;rcases hex x h with h|h
      .exact ex x h
      .exact λy hy hc=>B.mono y (h y hy hc)
     .exact .inl h) 100000 (zNH N9+1) (env AD ps cl start N9 [start] .no .no .no) 'L'
  {N9,[start],_,_,_,rfl,hl,λx h=>by rw[(hv x).mp h];exact .refl hs,(hv _).mpr rfl,λx h=>by rw[AS.mp h];exact(hv _).mpr rfl,λx h=>.inl (by rw[(hv x).mp h];simp),rfl,Ny}
 exact{aw,u8,u9,u10,e,h1,h2,h3}
theorem Rz(R:Rg AD ps):iH [.val (ED AD ps)]=.ok (AE,cK AD ps,.non):=by exact yIG {rfl,R.m1,R.m2,R.len,λp hp=>{(R.rg p hp).1,(R.rg p hp).2.1}}
theorem yB2(R:Rg AD ps){E:Ev}(h3:E[3]?=AA (.val (.int AD)))(h2:E[2]?=AA (.val (.tup (cl.map D.int))))(hb:∀Ec,V3 E Ec 1 [2]=E):OE (jL (AX 3)) 1 [2] (.nm 0) RN (g2 MM (AX 0) (AX 1)) E=.ok (nP AD cl,E):=by
 have aT:=R.m1;have aS:=R.m2;have hg:AX 3 E=.ok (.int AD,E):=by simp[AX,h3]
 have:=iA (k:=1) (js:=[2]) (t:=.nm 0) (tt:=RN) (ge:=g2 MM (AX 0) (AX 1)) (λd=>match d with|.int j=>[.bl (decide (j∈cl))]|_=>[]) (λE=>∃x,E=[x,.val (.tup (cl.map D.int))]) (Fp hg {by lia,by lia}) {.no,by simp[VQ,h2]} (by simp[U5];lia) (λd hd E q0=>by have{x,hE}:=q0;subst hE;have{j,_,rfl}:=BY.mp hd;exact{_,rfl,AQ,_,rfl,.inl {rfl,_,_,FC (x:=.int (0+(j:Int))) (y:=.tup (cl.map D.int)) rfl rfl (rH _ _),rfl,_,rfl}}) λEc _=>hb Ec;rw[this];congr 3;simp only[nP,U5];clear this;rw[List.flatMap_map];generalize DM AD.toNat=l;induction l with
 |nil=>rfl
 |cons p ps ih=>simp only[AU,DW];rw[ih];simp
theorem Ry(R:Rg AD ps)(h0:0<=start)(h1:start<AD):∃aw,oQ [.val (ED AD ps),.val (.int start),.val (.tup (cl.map D.int))]=.ok (AE,.lst (aw.map LK),.non)/\aw.length=AD.toNat/\(∀x,vis aw x↔Rc ps cl start x)/\Lv ps start aw:=by
 have aT:=R.m1;have aS:=R.m2;obtain⟨RW,X9⟩:∃RW:List (Option Int),RW=BP AD.toNat AL:={_,rfl};have Nk:jF (.lst [.non]) (.int AD)=.ok (.lst (RW.map LK)):=by
  have e:(BP AD.toNat [D.non]).flatten=RW.map LK:=by
   rw[X9,List.map_replicate];generalize AD.toNat=n;induction n with
   |zero=>rfl
   |succ n ih=>rw[ES,ES,GQ,ih];rfl
  simp only[jF,_L.guard];rw[if_pos {by lia,by lia,by simp;lia},e]
 have tE:∀x,¬vis RW x:=by intro x zz';have{_,v,b}:=zz';rw[X9,FG] at b;split at b<;>simp at b
 obtain⟨E3,YS⟩:∃E3:Ev,E3=[.val (ED AD ps),.val (.int start),.val (.tup (cl.map D.int)),.val (.int AD),.own AE (.lst (RW.map LK)),.no,.no,.no,.no,.no,.no]:={_,rfl};have Db:gB (g2 MM (AX 1) (AX 2)) E3=.ok (decide (start∈cl),E3):=by rw[YS];exact NL (FC (x:=.int start) (y:=.tup (cl.map D.int)) rfl rfl (rH _ _))
 have s1:∀{g:GS} {r:Out Fl},g E3=r->(FX (HM (.nm 3) (g2 ER (AX 0) (gC (.int 0)))) (FX (aF 4 (g2 jF (OD [(gC .non)]) (AX 3))) g)) ([.val (ED AD ps),.val (.int start),.val (.tup (cl.map D.int))]++BP 8 .no)=r:=λh =>
  GN (LL (d:=.int AD) (FC (x:=ED AD ps) (y:=.int 0) rfl rfl rfl) rfl) (GN (jX (FC (x:=.lst [.non]) (y:=.int AD) rfl rfl Nk)) (by rw[YS] at h;exact h))
 by_cases hs:start∈cl
 .rw[decide_eq_true hs] at Db;refine{RW,N6 (s1 (uM (b:=AE) (d:=.lst (RW.map LK)) (dN Db (OR (by rw[YS];rfl))))) rfl,by rw[X9];simp,λx=>{λh=>absurd h (tE x),λh=>?_},λx v hx e=>absurd {hx,v,e} (tE x)};induction h with
  |refl h=>exact absurd hs h
  |step _ _ _ ih=>exact absurd ih (tE _)
 .rw[decide_eq_false hs] at Db;have xR:∀x,vis (RW.set start.toNat (AA 0)) x↔x=start:=λx=>by rw[oF h0 (by rw[X9];simp;lia)];exact{λh=>h.resolve_left (tE x),.inr}
  have hL:Lv ps start (RW.set start.toNat (AA 0)):=λx v hx e=>by have ex:=(xR x).mp {hx,v,e};subst ex;rw[BQ (by rw[X9];simp;lia)] at e;cases e;refine{?_,.inl {rfl,rfl}};have c1:=Bd (l:=RW) (i:=x.toNat) (v:=0) (by rw[X9,FG,if_pos 'L']);have c2:=uW RW;rw[DI];lia
  have{aw,u8,u9,u10,ew,hl,hr,hL}:=zXS (cl:=cl) (start:=start) R (N9:=RW.set start.toNat (AA 0)) (by rw[X9];simp) xR hs hL;refine{aw,N6 (s1 (GN (SY Db rfl) (GN (E1:=E3.set 5 (.val (cK AD ps))) (LL (LO (ds:=[ED AD ps]) (by rw[YS];rfl) (Rz R)) rfl) (GN (E1:=(E3.set 5 (.val (cK AD ps))).set 6 (.val (nP AD cl))) (LL (yB2 R (by rw[YS];rfl) (by rw[YS];rfl) (λEc=>by rw[YS];rfl)) rfl)
   (GN (E1:=(((E3.set 5 (.val (cK AD ps))).set 6 (.val (nP AD cl))).set 4 (.own AE (.lst ((RW.set start.toNat (AA 0)).map LK))))) ?_ (GN (E1:=env AD ps cl start (RW.set start.toNat (AA 0)) [start] .no .no .no) (LL (d:=.lst [.int start]) (by rw[YS];rfl) (by first|rfl|(rw[YS];rfl))) (GN ew (OR (d:=.lst (aw.map LK)) rfl)))))))) rfl,hl,hr,hL}
  rw[YS];exact j5 (i:=4) (gk:=AX 1) (gv:=gC (.int 0)) (t:=AE) (d:=.lst (RW.map LK)) (v:=.int 0) (k:=.int start) (d':=.lst ((RW.set start.toNat (AA 0)).map LK)) rfl rfl rfl rfl (by rw[Jv (Ez h0 (by rw[AK,X9];simp;lia)),List.map_set];rfl)
end
noncomputable def gU:List (Option Int)->Nat->List Int
 |[],_=>[]
 |none::r,k=>gU r (k+1)
 |some _::r,k=>(k:Int)::gU r (k+1)
theorem PF:∀{aw:List (Option Int)} {k:Nat} {x:Int},x∈gU aw k↔(k:Int)<=x/\∃v,aw[x.toNat-k]?=AA (AA v)
 |[],k,x=>by simp[gU]
 |none::r,k,x=>by
  rw[gU,PF];constructor
  .intro zz';have{a,v,b}:=zz';refine{by lia,v,?_};rw[show x.toNat-k=(x.toNat-(k+1))+1 by lia,FW];exact b
  .intro zz';have{a,v,b}:=zz';by_cases e:x=k
   .subst e;simp at b
   .refine{by lia,v,?_};rw[show x.toNat-k=(x.toNat-(k+1))+1 by lia,FW] at b;exact b
 |some w::r,k,x=>by
  rw[gU,A3,PF];constructor
  .rintro(rfl|⟨a,v,b⟩)
   .exact{T9 _,w,by simp}
   .refine{by lia,v,?_};rw[show x.toNat-k=(x.toNat-(k+1))+1 by lia,FW];exact b
  .intro zz';have{a,v,b}:=zz';by_cases e:x=k
   .exact .inl e
   .refine .inr {by lia,v,?_};rw[show x.toNat-k=(x.toNat-(k+1))+1 by lia,FW] at b;exact b
theorem Fj:∀(aw:List (Option Int)) (k:Nat),(gU aw k).Pairwise (· < ·)
 |[],_=>.nil
 |none::r,k=>Fj r (k+1)
 |some _::r,k=>LY.mpr {λx h=>by have:=(PF.mp h).1;lia,Fj r (k+1)}
noncomputable def Jy(d:D):List D:=match d with
 |.tup [_,.non]=>[]
 |.tup [i,_]=>[i]
 |_=>[]
theorem Gq:∀(aw:List (Option Int)) (k:Nat),(((aw.map LK).zipIdx k).map λp=>D.tup [.int (p.2:Int),p.1]).flatMap Jy=(gU aw k).map D.int
 |[],_=>rfl
 |none::r,k=>by simp only[AU,SX,DW,Gq r (k+1)];rfl
 |some _::r,k=>by simp only[AU,SX,DW,Gq r (k+1)];rfl
section
variable{AD:Int}{ps:List (Int×Int)}{cl:List Int}{start:Int}
theorem Ah(R:Rg AD ps)(h0:0<=start)(h1:start<AD):∃xs:List Int,dZ [.val (ED AD ps),.val (.int start),.val (.tup (cl.map D.int))]=.ok (AE,.tup (xs.map D.int),.non)/\xs.Pairwise (· < ·)/\∀x,x∈xs↔Rc ps cl start x:=by
 have{aw,e,hl,hr,_}:=Ry (cl:=cl) R h0 h1;have aS:=R.m2;refine{gU aw 0,?_,Fj aw 0,λx=>?_}
 .have hc:=iA (gi:=Es (AX 3)) (k:=2) (js:=[]) (t:=.tp [.nm 0,.nm 1]) (tt:=gB (g2 nU (AX 1) (gC .non))) (ge:=AX 0) (E:=[.val (ED AD ps),.val (.int start),.val (.tup (cl.map D.int)),.val (.lst (aw.map LK))]) (E1:=[.val (ED AD ps),.val (.int start),.val (.tup (cl.map D.int)),.val (.lst (aw.map LK))]) (ds:=bH (aw.map LK)) Jy (λE=>E.length=2) rfl rfl (by simp[bH];lia) (λd hd E hE=>by
   have{zz',ho,rfl}:=BY.mp hd;have{o,j}:=zz';have{x,y,rfl}:=Rh hE;have:∃w,LK w=o:=by have:=List.mem_zipIdx ho;have{w,_,hw}:=BY.mp (List.mem_of_getElem (this.2.2.symm));exact{w,hw}
   have{w,rfl}:=this;cases w with
   |none=>exact{_,rfl,AE,_,rfl,.inr {rfl,rfl,rfl}}
   |some w=>exact{_,rfl,AQ,_,rfl,.inl {rfl,_,_,rfl,rfl,rfl}}) λEc _=>Fk Ec 2 0 _
  have hf:(bH (aw.map LK)).flatMap Jy=(gU aw 0).map D.int:=Gq aw 0;rw[hf] at hc;exact N6 (GN (LL (LO (ds:=[ED AD ps,.int start,.tup (cl.map D.int)]) rfl e) rfl) (OR (NS (JA hc) rfl))) rfl
 .rw[PF,<-hr];exact Iff.rfl
theorem vO(R:Rg AD ps)(h0:0<=start)(h1:start<AD):∃xs:List Int,YN [.val (ED AD ps),.val (.int start)]=.ok (AE,.tup (xs.map D.int),.non)/\xs.Pairwise (· < ·)/\∀x,x∈xs↔Rc ps [] start x:=by have{xs,e,h}:=Ah (cl:=[]) R h0 h1;exact{xs,N6 (OR (LO (ds:=[ED AD ps,.int start,.tup []]) rfl e)) rfl,h}
end
noncomputable def sc(ps:List (Int×Int))(x:Int):List Int:=(ps.filter λp=>decide (p.1=x)).map (·.2)
theorem Bk:∀ns:List Int,pAA (ns.map D.int)=AQ
 |[]=>by simp[pAA]
 |n::ns=>by simp[pAA,D.nod,Bk ns]
theorem Hw:∀ns:List Int,pA9 (ns.map D.int)=AQ
 |[]=>by simp[pA9]
 |n::ns=>by simp[pA9,D.flat,Hw ns]
theorem tk{g:G}{E:Ev}{d:D}{k:Nat}{n:Int}(h0:E[0]?=AA (.own AQ d))(B:Bag k d)(hk:k<900000)(hg:g E=.ok (.int n,E))(hn:1<=n)(bR:n<2 ^ 200) : ∃r d',LM L7 0 [g] E=.ok (.int r,E.set 0 (.own AQ d'))/\0<=r/\r<n/\Bag (k+1) d':=by have{r,d',e,a,b,B'}:=yBX B hk hn bR;exact{r,d',Uz h0 (JA hg) h0 e,a,b,B'}
theorem Vo{α β:Type}(f:α->β):∀(l:List α) (i:Nat),(l.map f).eraseIdx i=(l.eraseIdx i).map f
 |[],_=>rfl
 |_::_,0=>rfl
 |a::l,i+1=>by simp[Vo f l i]
theorem Ws{α:Type}:∀{l:List α} {i:Nat} (h:i<l.length),(l[i]::l.eraseIdx i).Perm l
 |a::l,0,_=>.refl _
 |a::l,i+1,h=>by have:=Ws (l:=l) (i:=i) (by simpa using h);simp only[List.getElem_cons_succ,YH];exact(HR _ _ _).trans (this.cons a)
theorem yB4{d:D}{k:Nat}{xs:List Int}(B:Bag k d)(hx:xs.length<=1000)(hk:k<800000) : ∃(ys:List Int) (d':D),vT [.own AQ d,.val (.lst (xs.map D.int))]=.ok (AE,.lst (ys.map D.int),d')/\ys.Perm xs/\Bag (k+xs.length) d':=by
 have{E',e,ys,d',rfl,hp,B'}:=uL (t:=YL [2] (gB (g2 NI (AX 2) (OD [])))) (g:=g9 (XM 3 XI [(XM 2 lV [(LM L7 0 [(O9 [2] (gN OQ [(AX 2)]))])])]))
  (λn E=>∃(rest JK:List Int) (d:D),E=[.own AQ d,.val (.lst (xs.map D.int)),.own AE (.lst (rest.map D.int)),.own AE (.lst (JK.map D.int))]/\(JK++rest).Perm xs/\Bag (k+JK.length) d/\n=rest.length)
  (λE=>∃(JK:List Int) (d:D),E=[.own AQ d,.val (.lst (xs.map D.int)),.own AE (.lst []),.own AE (.lst (JK.map D.int))]/\JK.Perm xs/\Bag (k+xs.length) d)
  (λn E hP=>by
   have{rest,JK,d,hE,hp,B,hn}:=hP;subst hE;have EV:=hp.length_eq;rw[BG] at EV;have tw:YL [2] (gB (g2 NI (AX 2) (OD []))) [.own AQ d,.val (.lst (xs.map D.int)),.own AE (.lst (rest.map D.int)),.own AE (.lst (JK.map D.int))]=.ok (!(rest.map D.int).isEmpty,[.own AQ d,.val (.lst (xs.map D.int)),.own AE (.lst (rest.map D.int)),.own AE (.lst (JK.map D.int))]) :=
    dW (NL (FC (x:=.lst (rest.map D.int)) (y:=.lst []) rfl rfl (yBC (Pls.ints 0 rest))))
   by_cases hr:rest=[]
   .subst hr;rw[E4] at hp;exact .inl {_,tw,JK,d,rfl,hp,by rw[<-hp.length_eq];exact B}
   .have pW:0<rest.length:=O7.mpr hr;have hg:O9 [2] (gN OQ [(AX 2)]) [.own AQ d,.val (.lst (xs.map D.int)),.own AE (.lst (rest.map D.int)),.own AE (.lst (JK.map D.int))]=.ok (.int (rest.length:Int),[.own AQ d,.val (.lst (xs.map D.int)),.own AE (.lst (rest.map D.int)),.own AE (.lst (JK.map D.int))]) :=
     aI (NS (JA (d:=.lst (rest.map D.int)) rfl) (yH5 (by rw[AK]))) rfl
    have{r,d',et,r0,r1,B'}:=tk (g:=O9 [2] (gN OQ [(AX 2)])) (E:=[.own AQ d,.val (.lst (xs.map D.int)),.own AE (.lst (rest.map D.int)),.own AE (.lst (JK.map D.int))]) rfl B 'L' hg 'L' 'L';have Nj:r.toNat<rest.length:=by lia
    have No:XM 2 lV [(LM L7 0 [(O9 [2] (gN OQ [(AX 2)]))])] [.own AQ d,.val (.lst (xs.map D.int)),.own AE (.lst (rest.map D.int)),.own AE (.lst (JK.map D.int))]=.ok (.int rest[r.toNat],[.own AQ d',.val (.lst (xs.map D.int)),.own AE (.lst ((rest.eraseIdx r.toNat).map D.int)),.own AE (.lst (JK.map D.int))]) :=
     uX (i:=2) (f:=lV) (t:=AE) (xs:=rest.map D.int) (ds:=[.int r]) (x:=.int rest[r.toNat]) (YT:=(rest.eraseIdx r.toNat).map D.int) rfl (JA et) rfl (by simp only[lV,AK,_L.guard];rw[if_pos {r0,r1,by lia},AY,BD Nj];simp[Vo])
    refine .inr {_,_,(rest.eraseIdx r.toNat).length,?_,As (uX (i:=3) (f:=XI) (t:=AE) (xs:=JK.map D.int) (ds:=[.int rest[r.toNat]]) (x:=.non) (YT:=(JK++[rest[r.toNat]]).map D.int) rfl (JA No) rfl (by simp only[XI,AK];rw[dR 'L'];simp)),?_,rest.eraseIdx r.toNat,JK++[rest[r.toNat]],d',rfl,?_,?_,rfl}
    .rw[tw];cases rest with
     |nil=>exact absurd rfl hr
     |cons a l=>rfl
    .rw[List.length_eraseIdx_of_lt Nj];lia
    .rw[C0];exact((Ws Nj).append_left JK).trans hp
    .rw[BG,CV,<-Nat.add_assoc];exact B') 100000 xs.length [.own AQ d,.val (.lst (xs.map D.int)),.own AE (.lst (xs.map D.int)),.own AE (.lst [])] (i9 (A0 hx (DU _ _)))
  {xs,[],d,rfl,GT _,B,rfl}
 exact{ys,d',N6 (GN (jX (d:=.lst (xs.map D.int)) rfl) (GN (jX (d:=.lst []) rfl) (GN e (OR (d:=.lst (ys.map D.int)) rfl)))) rfl,hp,B'}
noncomputable def VN(d:D)(EA:Int)(u2 u3 u4 u5 u6 u7 u8 u9 u10 u11:Sl):Ev:=[.own AQ d,.val (.int EA),u2,u3,u4,u5,u6,u7,u8,u9,u10,u11]
theorem oU{xs:List Int}{ds:List D}{x:D}{i:Int}(h0:0<=i)(h:ds[i.toNat]?=AA x):ER (.lst ds) (.int i)=.ok x:=by exact sA (qW h0 h)
theorem yK0{d:D}{k:Nat}{EA:Int}(B:Bag k d)(hk:k<800000)(h1:1<=EA)(h2:EA<=24) : ∃AD d',HM (.nm 2) (g2 ER (OD [(AX 1),(g2 K2 (gC (.int 1)) (LM L7 0 [(AX 1)])),(g2 K2 (gC (.int 1)) (LM L7 0 [(gN jM [(gC (.int 7)),(AX 1)])]))]) (LM L7 0 [(gC (.int 3))])) (VN d EA .no .no .no .no .no .no .no .no .no .no)=.ok (.nx (VN d' EA (.val (.int AD)) .no .no .no .no .no .no .no .no .no))/\1<=AD/\AD<=EA/\Bag (k+3) d':=by
 have{a,d1,e1,a0,a1,B1}:=tk (g:=AX 1) (E:=VN d EA .no .no .no .no .no .no .no .no .no .no) rfl B (AO hk (DU _ _)) rfl h1 'L';have{b,d2,e2,b0,b1,B2}:=tk (g:=gN jM [(gC (.int 7)),(AX 1)]) (E:=VN d1 EA .no .no .no .no .no .no .no .no .no .no) (n:=if EA<7 then EA else 7) rfl B1 'L' rfl (by split<;>lia) (by split<;>lia);have{c,d3,e3,c0,c1,B3}:=tk (g:=gC (.int 3)) (E:=VN d2 EA .no .no .no .no .no .no .no .no .no .no) rfl B2 'L' rfl 'L' 'L';have hb:b<EA:=by split at b1<;>lia
 have KE:∃AD:Int,([D.int EA,.int (1+a),.int (1+b)])[c.toNat]?=AA (.int AD)/\1<=AD/\AD<=EA:=by
  have:c=0\/c=1\/c=2:=by lia
  rcases this with rfl|rfl|rfl
  .exact{EA,rfl,h1,T9 _}
  .exact{1+a,rfl,by lia,by lia}
  .exact{1+b,rfl,by lia,by lia}
 have{AD,hm,m0,m1}:=KE;refine{AD,d3,LL (FC (lU (NA (d:=.int EA) rfl (NA (FC (x:=.int 1) rfl e1 (d:=.int (1+a)) rfl) (JA (FC (x:=.int 1) rfl e2 (d:=.int (1+b)) rfl)))) (show 3<10000 by decide)) e3 (oU (xs:=[]) c0 hm)) rfl,m0,m1,B3}
theorem yK1{d:D}{k:Nat}{EA AD kind:Int}(B:Bag k d)(hk:k<800000)(h1:1<=AD)(h2:AD<=24) : ∃wanted d',HM (.nm 4) (g2 ER (OD [(gC (.int 0)),(gC (.int 1)),(LM L7 0 [(g2 K2 (AX 2) (gC (.int 1)))]),(g2 K2 (AX 2) (LM L7 0 [(g2 YK (gC (.int 5)) (AX 2))])),(gC (.int 120))]) (LM L7 0 [(gC (.int 5))])) (VN d EA (.val (.int AD)) (.val (.int kind)) .no .no .no .no .no .no .no .no)=.ok (.nx (VN d' EA (.val (.int AD)) (.val (.int kind)) (.val (.int wanted)) .no .no .no .no .no .no .no))/\0<=wanted/\wanted<=200/\Bag (k+3) d':=by
 have{a,d1,e1,a0,a1,B1}:=tk (g:=g2 K2 (AX 2) (gC (.int 1))) (E:=VN d EA (.val (.int AD)) (.val (.int kind)) .no .no .no .no .no .no .no .no) rfl B (AO hk (DU _ _)) rfl 'L' 'L';have Nv:YK (.int 5) (.int AD)=.ok (.int (5 * AD)):=by simp only[YK,_L.guard];rw[if_pos (.inl {by decide,by decide})]
 have{b,d2,e2,b0,b1,B2}:=tk (g:=g2 YK (gC (.int 5)) (AX 2)) (E:=VN d1 EA (.val (.int AD)) (.val (.int kind)) .no .no .no .no .no .no .no .no) rfl B1 'L' (FC (x:=.int 5) (y:=.int AD) rfl rfl Nv) 'L' 'L';have{c,d3,e3,c0,c1,B3}:=tk (g:=gC (.int 5)) (E:=VN d2 EA (.val (.int AD)) (.val (.int kind)) .no .no .no .no .no .no .no .no) rfl B2 'L' rfl 'L' 'L';have KE:∃w:Int,([D.int 0,.int 1,.int a,.int (AD+b),.int 120])[c.toNat]?=AA (.int w)/\0<=w/\w<=200:=by
  have:c=0\/c=1\/c=2\/c=3\/c=4:=by lia
  rcases this with rfl|rfl|rfl|rfl|rfl
  .exact{0,rfl,by decide,by decide}
  .exact{1,rfl,by decide,by decide}
  .exact{a,rfl,a0,by lia}
  .exact{AD+b,rfl,by lia,by lia}
  .exact{120,rfl,by decide,by decide}
 have{w,hw,w0,w1}:=KE;exact{w,d3,LL (FC (lU (NA (d:=.int 0) rfl (NA (d:=.int 1) rfl (NA e1 (NA (FC (x:=.int AD) rfl e2 (d:=.int (AD+b)) rfl) (JA (d:=.int 120) rfl))))) (show 5<10000 by decide)) e3 (oU (xs:=[]) c0 hw)) rfl,w0,w1,B3}
structure Ln(AD:Int)(kvs:List (List Int×D)):Prop where
 nd:(kvs.map (·.1)).Nodup
 rg:∀k∈kvs.map (·.1),∃a b:Int,k=[a,b]/\0<=a/\a<AD/\0<=b/\b<AD/\a≠b
theorem Vn(kvs:List (List Int×D))(k:List Int)(v:D):(UD kvs k v).map (·.1)=if k∈kvs.map (·.1) then kvs.map (·.1) else kvs.map (·.1)++[k]:=by
 unfold UD;by_cases h:k∈kvs.map (·.1)
 .rw[if_pos h,if_pos]
  .rw[DA];refine K9 λkv _=>?_;simp only[OL];split<;>rfl
  .have{kv,Ob,e}:=BY.mp h;exact IQ.mpr {kv,Ob,decide_eq_true e}
 .rw[if_neg h,if_neg]
  .simp
  .intro z;have{kv,Ob,e}:=IQ.mp z;exact h (BY.mpr {kv,Ob,of_decide_eq_true e})
theorem Ln.put{AD:Int}{kvs:List (List Int×D)}(L:Ln AD kvs){a b:Int}(h:0<=a/\a<AD/\0<=b/\b<AD/\a≠b)(v:D):Ln AD (UD kvs [a,b] v):=by
 constructor
 .rw[Vn];split
  .exact L.nd
  .rename_i hn;rw[FI];exact{L.nd,EZ.mpr {by simp,G5},λp hp q hq=>by rw[AS.mp hq];exact λz=>hn (z▸hp)}
 .rw[Vn];split
  .exact L.rg
  .intro k hk;rcases BR.mp hk with h'|h'
   .exact L.rg k h'
   .exact{a,b,AS.mp h',h}
theorem Eo{kvs:List (List Int×D)}{a b:Int}(h:kvs.length<10000):sC (.dt kvs) (.tup [.int a,.int b]) (.bl AQ)=.ok (.dt (UD kvs [a,b] (.bl AQ))):=by exact dR h
abbrev l1B:GS:=NR (gB (g2 Y9 (AX 3) (gC (.int 3)))) (VU 5 (IW [(g2 ER (OD [(LM L7 0 [(AX 6)]),(g2 lH (g2 lH (AX 6) (gC (.int 1))) (LM L7 0 [(gN jM [(AX 6),(gC (.int 2))])])),(gC (.int 0))]) (AX 3)),(AX 6)]) (gC (.bl AQ))) PJ
section
variable{EA AD kind wanted:Int}
abbrev O1(d:D)(EA AD kind wanted:Int)(kvs:List (List Int×D))(u6 u7 u8 u9:Sl):Ev:=VN d EA (.val (.int AD)) (.val (.int kind)) (.val (.int wanted)) (.own AE (.dt kvs)) u6 u7 u8 u9 .no .no
theorem yIJ{d:D}{k:Nat}(B:Bag k d)(hk:k<800000)(h1:1<=AD)(h2:AD<=24)(p6:0<=kind) : ∃(d':D) (kvs:List (List Int×D)) (u6:Sl),RO (t8 (gC (.int 1)) (AX 2)) (.nm 6) l1B (O1 d EA AD kind wanted [] .no .no .no .no)=.ok (.nx (O1 d' EA AD kind wanted kvs u6 .no .no .no))/\Bag (k+48) d'/\Ln AD kvs/\kvs.length<=24:=by
 have{E',e,d',kvs,u6,rfl,B',L,hl}:=iB (gi:=t8 (gC (.int 1)) (AX 2)) (t:=.nm 6) (g:=l1B) (E:=O1 d EA AD kind wanted [] .no .no .no .no)
  (λi E=>∃(d':D) (kvs:List (List Int×D)) (u6:Sl),E=O1 d' EA AD kind wanted kvs u6 .no .no .no/\Bag (k+2 * i) d'/\Ln AD kvs/\kvs.length<=i) (yBE (i:=1) (j:=AD) rfl rfl {{by decide,by decide},by lia,by lia}) {d,[],.no,rfl,B,{G5,λ_ h=>by simp at h},AM _}
  (λi x E hx hP=>by
   have{d,kvs,u6,hE,B,L,hl}:=hP;subst hE;have hi:=(AH.mp hx).1;simp only[U5,AK,GP] at hi;simp only[U5] at hx;rw[AY,LA hi] at hx;obtain rfl:=BJ hx;obtain⟨p,hp⟩:∃p:Int,p=1+(i:Int):={_,rfl};show ∃E1,YQ (Tg.nm 6) (.int (1+(i:Int))) (O1 d EA AD kind wanted kvs u6 Sl.no Sl.no Sl.no)=Out.ok E1/\_;rw[<-hp];refine{_,rfl,?_};by_cases hk3:kind<3
   .have{a,d1,e1,a0,a1,B1}:=tk (g:=AX 6) (E:=O1 d EA AD kind wanted kvs (.val (.int p)) .no .no .no) (n:=p) rfl B 'L' rfl 'L' 'L';have{b,d2,e2,b0,b1,B2}:=tk (g:=gN jM [(AX 6),(gC (.int 2))]) (E:=O1 d1 EA AD kind wanted kvs (.val (.int p)) .no .no .no) (n:=if 2<p then 2 else p) rfl B1 'L' rfl (by split<;>lia) (by split<;>lia);have KE:∃v:Int,([D.int a,.int (p-1-b),.int 0])[kind.toNat]?=AA (.int v)/\0<=v/\v<p:=by
     have:kind=0\/kind=1\/kind=2:=by lia
     rcases this with h|h|h
     .exact{a,by rw[h];rfl,a0,a1}
     .exact{p-1-b,by rw[h];rfl,by split at b1<;>lia,by lia}
     .exact{0,by rw[h];rfl,T9 _,HK a0 a1}
    have{v,hv,v0,v1}:=KE;refine{_,dN (NL (FC (x:=.int kind) (y:=.int 3) rfl rfl (d:=.bl AQ) (by simp only[Y9];rw[decide_eq_true hk3]))) (j5 (i:=5) (E1:=O1 d EA AD kind wanted kvs (.val (.int p)) .no .no .no) (E2:=O1 d2 EA AD kind wanted kvs (.val (.int p)) .no .no .no) (t:=AE) (d:=.dt kvs) (v:=.bl AQ) rfl rfl (jT (NA (FC (lU (NA e1 (NA (FC (x:=.int (p-1)) rfl e2 (d:=.int (p-1-b)) rfl) (JA (d:=.int 0) rfl))) (show 3<10000 by decide)) (y:=.int kind) rfl (oU (xs:=[]) p6 hv)) (JA (d:=.int p) rfl)) (show 2<10000 by decide)) rfl (Eo 'L')),d2,_,_,rfl,B2.mono 'L',L.put {v0,by lia,SC (HK a0 a1),by lia,Z9 v1} _,A0 (Va _ _ _) (EY hl (AM _))}
   .exact{_,SY (NL (FC (x:=.int kind) (y:=.int 3) rfl rfl (d:=.bl AE) (by simp only[Y9];rw[decide_eq_false hk3]))) rfl,d,kvs,_,rfl,B.mono 'L',L,A0 hl (A5 _ _)})
 simp only[U5,AK,GP] at B' hl;exact{d',kvs,u6,e,B'.mono 'L',L,by lia}
abbrev l2B:GS:=(FX (HM (.nm 8) (LM L7 0 [(AX 2)])) (FX (HM (.nm 9) (g2 ER (OD [(LM L7 0 [(AX 2)]),(g2 TZ (g2 K2 (g2 K2 (AX 8) (gC (.int 1))) (LM L7 0 [(gC (.int 2))])) (AX 2))]) (LM L7 0 [(gC (.int 2))]))) (NR (YL [5] (cM (gB (g2 NI (AX 8) (AX 9))) (gB (g2 Y9 (gN OQ [(AX 5)]) (gC (.int 120)))))) (VU 5 (IW [(AX 8),(AX 9)]) (gC (.bl AQ))) PJ)))
theorem yIK{d:D}{k:Nat}{u6:Sl}{kvs:List (List Int×D)}(B:Bag k d)(hk:k<800000)(h1:1<=AD)(h2:AD<=24)(hw0:0<=wanted)(hw1:wanted<=200)(L:Ln AD kvs)(hl:kvs.length<=120) : ∃(d':D) (eX:List (List Int×D)) (u7 u8 u9:Sl),RO (jL (AX 4)) (.nm 7) l2B (O1 d EA AD kind wanted kvs u6 .no .no .no)=.ok (.nx (O1 d' EA AD kind wanted eX u6 u7 u8 u9))/\Bag (k+800) d'/\Ln AD eX/\eX.length<=120:=by
 have{E',e,d',eX,u7,u8,u9,rfl,B',L',p5}:=iB (gi:=jL (AX 4)) (t:=.nm 7) (g:=l2B) (E:=O1 d EA AD kind wanted kvs u6 .no .no .no)
  (λi E=>∃(d':D) (kvs:List (List Int×D)) (u7 u8 u9:Sl),E=O1 d' EA AD kind wanted kvs u6 u7 u8 u9/\Bag (k+4 * i) d'/\Ln AD kvs/\kvs.length<=120) (Fp (j:=wanted) rfl {by lia,by lia}) {d,kvs,.no,.no,.no,rfl,B,L,hl}
  (λi x E hx hP=>by
   have{d,kvs,u7,u8,u9,hE,B,L,hl}:=hP;subst hE;have hi:=(AH.mp hx).1;simp only[U5,AK,GP] at hi;have{a,d1,e1,a0,a1,B1}:=tk (g:=AX 2) (E:=O1 d EA AD kind wanted kvs u6 (.val x) u8 u9) (n:=AD) rfl B 'L' rfl (h1) 'L';have{b,d2,e2,b0,b1,B2}:=tk (g:=AX 2) (E:=O1 d1 EA AD kind wanted kvs u6 (.val x) (.val (.int a)) u9) (n:=AD) rfl B1 'L' rfl (h1) 'L';have{c,d3,e3,c0,c1,B3}:=tk (g:=gC (.int 2)) (E:=O1 d2 EA AD kind wanted kvs u6 (.val x) (.val (.int a)) u9) (n:=2) rfl B2 'L' rfl 'L' 'L';have{f,d4,e4,f0,f1,B4}:=tk (g:=gC (.int 2)) (E:=O1 d3 EA AD kind wanted kvs u6 (.val x) (.val (.int a)) u9) (n:=2) rfl B3 'L' rfl 'L' 'L';have m0:0<=(a+1+c) % AD:=JH _ (Int.ne_of_gt (HK a0 a1));have m1:(a+1+c) % AD<AD:=HL _ (HK a0 a1);have Nx:TZ (.int (a+1+c)) (.int AD)=.ok (.int ((a+1+c) % AD)):=by simp only[TZ,_L.guard];rw[if_pos (HK a0 a1)]
   have KE:∃v:Int,([D.int b,.int ((a+1+c) % AD)])[f.toNat]?=AA (.int v)/\0<=v/\v<AD:=by
    have:f=0\/f=1:=by lia
    rcases this with h|h
    .exact{b,by rw[h];rfl,b0,b1}
    .exact{(a+1+c) % AD,by rw[h];rfl,m0,m1}
   have{v,hv,v0,v1}:=KE;refine{_,rfl,?_};have s1:HM (.nm 8) (LM L7 0 [(AX 2)]) (O1 d EA AD kind wanted kvs u6 (.val x) u8 u9)=.ok (.nx (O1 d1 EA AD kind wanted kvs u6 (.val x) (.val (.int a)) u9)):=LL e1 rfl;have s2:HM (.nm 9) (g2 ER (OD [(LM L7 0 [(AX 2)]),(g2 TZ (g2 K2 (g2 K2 (AX 8) (gC (.int 1))) (LM L7 0 [(gC (.int 2))])) (AX 2))]) (LM L7 0 [(gC (.int 2))])) (O1 d1 EA AD kind wanted kvs u6 (.val x) (.val (.int a)) u9)=.ok (.nx (O1 d4 EA AD kind wanted kvs u6 (.val x) (.val (.int a)) (.val (.int v)))) :=
    LL (FC (lU (NA e2 (JA (FC (FC (x:=.int (a+1)) rfl e3 (d:=.int (a+1+c)) rfl) (y:=.int AD) rfl Nx))) (show 2<10000 by decide)) e4 (oU (xs:=[]) f0 hv)) rfl
   have t1:gB (g2 NI (AX 8) (AX 9)) (P8 [5] (O1 d4 EA AD kind wanted kvs u6 (.val x) (.val (.int a)) (.val (.int v))))=.ok (decide (a≠v),P8 [5] (O1 d4 EA AD kind wanted kvs u6 (.val x) (.val (.int a)) (.val (.int v)))) :=
    NL (FC (x:=.int a) (y:=.int v) rfl rfl (At _ _))
   have t2:gB (g2 Y9 (gN OQ [(AX 5)]) (gC (.int 120))) (P8 [5] (O1 d4 EA AD kind wanted kvs u6 (.val x) (.val (.int a)) (.val (.int v))))=.ok (decide ((kvs.length:Int)<120),P8 [5] (O1 d4 EA AD kind wanted kvs u6 (.val x) (.val (.int a)) (.val (.int v)))) :=
    NL (FC (x:=.int kvs.length) (NS (JA (d:=.dt kvs) rfl) rfl) (y:=.int 120) rfl rfl)
   by_cases Ov:a=v
   .rw[decide_eq_false (λz=>z Ov)] at t1;exact{_,GN s1 (GN s2 (SY (dW (uS t1)) rfl)),d4,kvs,_,_,_,rfl,B4.mono 'L',L,hl}
   rw[decide_eq_true Ov] at t1;by_cases mX:(kvs.length:Int)<120
   .rw[decide_eq_true mX] at t2;exact{_,GN s1 (GN s2 (dN (dW (oD t1 t2)) (j5 (i:=5) (E1:=O1 d4 EA AD kind wanted kvs u6 (.val x) (.val (.int a)) (.val (.int v))) (E2:=O1 d4 EA AD kind wanted kvs u6 (.val x) (.val (.int a)) (.val (.int v))) (t:=AE) (d:=.dt kvs) (v:=.bl AQ) (k:=.tup [.int a,.int v]) rfl rfl rfl rfl (Eo (i9 (A0 hl (DU _ _))))))),d4,_,_,_,_,rfl,B4.mono 'L',L.put {a0,a1,v0,v1,Ov} _,A0 (Va _ _ _) 'L'}
   .rw[decide_eq_false mX] at t2;exact{_,GN s1 (GN s2 (SY (dW (oD t1 t2)) rfl)),d4,kvs,_,_,_,rfl,B4.mono 'L',L,hl})
 simp only[U5,AK,GP] at B';exact{d',eX,u7,u8,u9,e,B'.mono 'L',L',p5}
end
def ri(n:Nat):List Int:=(DM n).map λ(j:Nat)=>(0:Int)+(j:Int)
theorem Rf(n:Nat):U5 0 n=(ri n).map D.int:=by simp[U5,ri]
theorem M1{n:Nat}{x:Int}:x∈ri n↔0<=x/\x<n:=by
 unfold ri;constructor
 .intro h;have{j,hj,rfl}:=BY.mp h;have:=G6.mp hj;lia
 .intro zz';have{a,b}:=zz';exact BY.mpr {x.toNat,G6.mpr 'L',by lia}
theorem zK(n:Nat):(ri n).Nodup:=List.Pairwise.map _ (λa b h z=>h 'L') List.nodup_range
theorem cN(n:Nat):(ri n).length=n:=by simp[ri]
def XU(ys:List Int)(a:Int):Int:=ys.getD a.toNat 0
def pk(ys:List Int)(k:List Int):Int×Int:=match k with
 |[a,b]=>(XU ys a,XU ys b)
 |_=>(0,0)
theorem zJ{ys:List Int}{a:Int}(h0:0<=a)(h:a.toNat<ys.length):ER (.lst (ys.map D.int)) (.int a)=.ok (.int (XU ys a)):=by refine oU (xs:=[]) h0 ?_;rw[AY,BD h];simp[XU,h]
theorem En{ys:List Int}{a:Int}(h:a.toNat<ys.length):XU ys a∈ys:=by
 have:XU ys a=ys[a.toNat]:=by simp[XU,h]
 rw[this];exact IP h
theorem Em{ys:List Int}(hn:ys.Nodup){a b:Int}(a0:0<=a)(b0:0<=b)(ha:a.toNat<ys.length)(hb:b.toNat<ys.length)(e:XU ys a=XU ys b):a=b:=by
 have e1:XU ys a=ys[a.toNat]:=by simp[XU,ha]
 have e2:XU ys b=ys[b.toNat]:=by simp[XU,hb]
 rw[e1,e2] at e;rcases JZ a.toNat b.toNat with h|h|h
 .exact absurd e (B9.mp hn _ _ ha hb h)
 .lia
 .exact absurd e.symm (B9.mp hn _ _ hb ha h)
theorem Wr:∀ps:List (Int×Int),pAA (ps.map E8)=AQ
 |[]=>by simp[pAA]
 |p::ps=>by simp[pAA,D.nod,E8,Wr ps]
section
variable{EA AD kind wanted:Int}
def Rx(ys:List Int)(d:D):List D:=match d with
 |.tup [.int a,.int b]=>[E8 (XU ys a,XU ys b)]
 |_=>[]
theorem Ua{ys:List Int}:∀{ks:List (List Int)},(∀k∈ks,∃a b:Int,k=[a,b]/\0<=a/\a<AD/\0<=b/\b<AD/\a≠b)->(ks.map vX).flatMap (Rx ys)=(ks.map (pk ys)).map E8
 |[],_=>rfl
 |k::ks,h=>by have{a,b,rfl,_}:=h k AZ;simp only[AU,DW,Ua λk hk=>h k (A2 _ hk)];rfl
theorem hX{x AD:Int}{n:Nat}(h:n=AD.toNat)(h0:0<=x)(h1:x<AD):x.toNat<n:=by lia
theorem yB6{d:D}{k:Nat}(B:Bag k d)(hk:k<700000)(h1:1<=EA)(h2:EA<=24) : ∃(AD:Int) (ps:List (Int×Int)) (C8:Int) (d':D),rR [.own AQ d,.val (.int EA)]=.ok (AE,.tup [ED AD ps,.int C8],d')/\Net AD ps/\AD<=EA/\0<=C8/\C8<AD/\Bag (k+1000) d':=by
 have{AD,d1,e1,m1,m2,B1}:=yK0 B (AO hk (DU _ _)) h1 h2;have{kind,d2,e2,k0,k1,B2}:=tk (g:=gC (.int 4)) (E:=VN d1 EA (.val (.int AD)) .no .no .no .no .no .no .no .no .no) rfl B1 'L' rfl 'L' 'L';have{wanted,d3,e3,w0,w1,B3}:=yK1 (EA:=EA) (AD:=AD) (kind:=kind) B2 'L' m1 (LI m2 h2);have{d4,kvs,u6,e4,B4,L4,l4}:=yIJ (EA:=EA) (AD:=AD) (kind:=kind) (wanted:=wanted) B3 'L' m1 (LI m2 h2) k0;have{d5,kvs,u7,u8,u9,e5,B5,L5,l5}:=yIK (EA:=EA) (AD:=AD) (kind:=kind) (wanted:=wanted) (u6:=u6) B4 'L' m1 (LI m2 h2) w0 w1 L4 (A0 l4 (DU _ _));have{ys,d6,e6,hp,B6}:=yB4 (xs:=ri AD.toNat) B5 (by rw[cN];lia) 'L';have fF:ys.length=AD.toNat:=by rw[hp.length_eq,cN]
 have Mz:ys.Nodup:=hp.nodup_iff.mpr (zK _);have Na:∀x,x∈ys->0<=x/\x<AD:=λx hx=>by have:=M1.mp (hp.mem_iff.mp hx);lia
 rw[cN] at B6;have s6:HM (.nm 10) (LM vT 0 [(Kl (AX 2))]) (O1 d5 EA AD kind wanted kvs u6 u7 u8 u9)=.ok (.nx (VN d6 EA (.val (.int AD)) (.val (.int kind)) (.val (.int wanted)) (.own AE (.dt kvs)) u6 u7 u8 u9 (.val (.lst (ys.map D.int))) .no)):=by refine LL (Uz (ds:=[.lst ((ri AD.toNat).map D.int)]) (E1:=O1 d5 EA AD kind wanted kvs u6 u7 u8 u9) (t:=AQ) (d:=d5) rfl (JA (HW (a:=(.int AD,O1 d5 EA AD kind wanted kvs u6 u7 u8 u9)) rfl ?_)) rfl e6) rfl;simp only[_L.guard];rw[if_pos {by lia,by lia},Rf]
 have{a,d7,e7,a0,a1,B7}:=tk (g:=AX 2) (E:=VN d6 EA (.val (.int AD)) (.val (.int kind)) (.val (.int wanted)) (.own AE (.dt kvs)) u6 u7 u8 u9 (.val (.lst (ys.map D.int))) .no) (n:=AD) rfl B6 'L' rfl (m1) 'L';have{c,d8,e8,c0,c1,B8}:=tk (g:=gC (.int 3)) (E:=VN d7 EA (.val (.int AD)) (.val (.int kind)) (.val (.int wanted)) (.own AE (.dt kvs)) u6 u7 u8 u9 (.val (.lst (ys.map D.int))) .no) (n:=3) rfl B7 'L' rfl 'L' 'L';have hz:(0:Int).toNat<ys.length:=by rw[fF];lia
 have cU:=Na _ (En (ys:=ys) (a:=0) hz);have KE:∃g:Int,([D.int (XU ys 0),.int (XU ys 0),.int a])[c.toNat]?=AA (.int g)/\0<=g/\g<AD:=by
  have:c=0\/c=1\/c=2:=by lia
  rcases this with h|h|h
  .exact{_,by rw[h];rfl,cU.1,cU.2}
  .exact{_,by rw[h];rfl,cU.1,cU.2}
  .exact{a,by rw[h];rfl,a0,a1}
 have{C8,hg,g0,g1}:=KE;obtain⟨E9,nA⟩:∃E9,E9=VN d8 EA (.val (.int AD)) (.val (.int kind)) (.val (.int wanted)) (.own AE (.dt kvs)) u6 u7 u8 u9 (.val (.lst (ys.map D.int))) (.val (.int C8)):={_,rfl};have s7:HM (.nm 11) (g2 ER (OD [(g2 ER (AX 10) (gC (.int 0))),(g2 ER (AX 10) (gC (.int 0))),(LM L7 0 [(AX 2)])]) (LM L7 0 [(gC (.int 3))])) (VN d6 EA (.val (.int AD)) (.val (.int kind)) (.val (.int wanted)) (.own AE (.dt kvs)) u6 u7 u8 u9 (.val (.lst (ys.map D.int))) .no)=.ok (.nx E9):=by rw[nA];exact LL (FC (lU (NA (FC (x:=.lst (ys.map D.int)) (y:=.int 0) rfl rfl (zJ 'D' hz)) (NA (FC (x:=.lst (ys.map D.int)) (y:=.int 0) rfl rfl (zJ 'D' hz)) (JA e7))) (show 3<10000 by decide)) e8 (oU (xs:=[]) c0 hg)) rfl
 obtain⟨qs,kP⟩:∃qs,qs=(kvs.map (·.1)).map (pk ys):={_,rfl};have X7:OE (KN (AX 5)) 2 [10] (.tp [(.nm 0),(.nm 1)]) RN (IW [(g2 ER (AX 2) (AX 0)),(g2 ER (AX 2) (AX 1))]) (P8 [5] E9)=.ok (.lst (qs.map E8),P8 [5] E9):=by
  have:=iA (gi:=KN (AX 5)) (k:=2) (js:=[10]) (t:=.tp [(.nm 0),(.nm 1)]) (tt:=RN) (ge:=IW [(g2 ER (AX 2) (AX 0)),(g2 ER (AX 2) (AX 1))]) (E:=P8 [5] E9) (E1:=P8 [5] E9) (ds:=(kvs.map (·.1)).map vX) (Rx ys) (λE=>∃x y,E=[x,y,.val (.lst (ys.map D.int))]) (by rw[DA,nA];rfl) (by rw[nA];exact{_,_,rfl}) (by rw[AK,AK];lia) (λx hx E hE=>by
   have{ky,Oa,rfl}:=BY.mp hx;have{p,q,rfl}:=hE;have{a,b,rfl,a0,a1,b0,b1,_}:=L5.rg ky Oa;exact{_,rfl,AQ,_,rfl,.inl {rfl,_,_,jT (NA (FC (x:=.lst (ys.map D.int)) (y:=.int a) rfl rfl (zJ a0 (hX fF a0 a1))) (JA (FC (x:=.lst (ys.map D.int)) (y:=.int b) rfl rfl (zJ b0 (hX fF b0 b1))))) (show 2<10000 by decide),rfl,_,_,rfl}}) (λEc hEc=>by
   rw[nA];have:∀(u:Sl) (j:Nat),j≠10->lI Ec 2 [10] j (cL [5] j u)=cL [5] j u:=λu j hj=>by
    cases u with
    |no=>rfl
    |val d=>rfl
    |own t d=>simp only[cL];split<;>rfl
   simp only[V3,P8,VN,jQ,dO,FB,Nat.reduceAdd];rw[this u6 6 'D',this u7 7 'D',this u8 8 'D',this u9 9 'D'];rfl)
  rw[this,Ua L5.rg,kP]
 have Nu:Net AD (NG qs):=by
  have pm:=dX qs;refine{m1,LI m2 h2,by rw[pm.length_eq,kP,AK,AK];exact l5,λp hp=>?_,zXP ?_}
  .have hp:=pm.mem_iff.mp hp;rw[kP] at hp;have{ky,Oa,rfl}:=BY.mp hp;have{a,b,rfl,a0,a1,b0,b1,ab}:=L5.rg ky Oa;have ha:=Na _ (En (ys:=ys) (a:=a) (hX fF a0 a1));have hb:=Na _ (En (ys:=ys) (a:=b) (hX fF b0 b1));exact{ha.1,ha.2,hb.1,hb.2,λz=>ab (Em Mz a0 b0 (hX fF a0 a1) (hX fF b0 b1) z)}
  .rw[kP];refine DE.mpr (QX ?_ L5.nd);intro x y hx hy hxy z;have{a,b,rfl,a0,a1,b0,b1,ab}:=L5.rg x hx;have{a',b',rfl,a0',a1',b0',zF,ab'}:=L5.rg y hy;simp only[pk,i7] at z;exact hxy (by rw[Em Mz a0 a0' (hX fF a0 a1) (hX fF a0' a1') z.1,Em Mz b0 b0' (hX fF b0 b1) (hX fF b0' zF) z.2])
 refine{AD,NG qs,C8,d8,N6 (E':=E9) (GN e1 (GN (LL e2 rfl) (GN e3 (GN (jX (d:=.dt []) rfl) (GN e4 (GN e5 (GN s6 (GN s7 (OR (aI (d:=.tup [ED AD (NG qs),.int C8]) (jT (NA (jT (NA (d:=.int AD) (by rw[nA];rfl) (JA (NS (JA (NS (JA X7) (Bp qs))) rfl))) (show 2<10000 by decide)) (JA (d:=.int C8) (by rw[nA];rfl))) (show 2<10000 by decide)) ?_)))))))))) (by rw[nA];rfl),Nu,m2,g0,g1,B8.mono 'L'};rw[nA];simp only[jU,VN,ED,D.flat,pA9,D.nod,pAA,Wr];rfl
end
end _M
namespace _M
abbrev Pr:=Int×Int
def zQC(U:List Pr)(x:Int):Nat:=(U.filter λp=>decide (p.1=x)).length
def ins(U:List Pr)(x:Int):Nat:=(U.filter λp=>decide (p.2=x)).length
def bal(U:List Pr)(x:Int):Int:=(zQC U x:Int)-(ins U x:Int)
def XH(x y:Int):Int:=if x=y then 1 else 0
theorem yB7(x:Int):bal [] x=0:=rfl
theorem Gp(p:Pr)(U:List Pr)(x:Int):bal (p::U) x=bal U x+XH p.1 x-XH p.2 x:=by unfold bal zQC ins XH;rw[D2,D2];by_cases h1:p.1=x<;>by_cases h2:p.2=x<;>simp[h1,h2]<;>lia
theorem Tz(h:U.Perm V)(x:Int):bal U x=bal V x:=by unfold bal zQC ins;rw[(h.filter _).length_eq,(h.filter _).length_eq]
theorem zXV(U:List Pr)(p:Pr)(x:Int):bal (U++[p]) x=bal U x+XH p.1 x-XH p.2 x:=by rw[Tz (List.perm_append_singleton p U),Gp]
theorem Vm(h:p∈U)(x:Int):bal (U.erase p) x=bal U x-XH p.1 x+XH p.2 x:=by have:=Gp p (U.erase p) x;rw[<-Tz (List.perm_cons_erase h)] at this;lia
theorem yF0(h:U.Sublist V)(x:Int):ins U x<=ins V x:=(h.filter _).length_le
theorem XW:ins U x=0↔∀p∈U,p.2≠x:=by unfold ins;rw[JO,NP];simp
theorem MI:zQC U x=0↔∀p∈U,p.1≠x:=by unfold zQC;rw[JO,NP];simp
theorem zXW(h:0<bal U x):∃y,(x,y)∈U:=by
 have:zQC U x≠0:=λz=>by unfold bal at h;lia
 refine BL λn=>this (MI.mpr λp hp e=>n {p.2,?_});rw[<-e];exact hp
noncomputable def sO(U:List Pr)(S:Int->Bool):Int:=((U.filter λp=>S p.1).length:Int)-((U.filter λp=>S p.2).length:Int)
theorem Go(p:Pr)(U:List Pr)(S:Int->Bool):sO (p::U) S=sO U S+(if S p.1=AQ then 1 else 0)-(if S p.2=AQ then 1 else 0):=by unfold sO;rw[D2,D2];cases h1:S p.1<;>cases h2:S p.2<;>simp<;>lia
theorem Rw(U:List Pr):∀L:List Int,L.Nodup->(L.map (bal U)).sum=sO U λx=>decide (x∈L)
 |[],_=>by unfold sO;simp
 |a::L,nd=>by
  have{ha,nd}:=EZ.mp nd;rw[AU,List.sum_cons,Rw U L nd];induction U with
  |nil=>rfl
  |cons p U ih =>
   rw[Gp,Go,Go,<-ih];unfold XH;by_cases h1:p.1=a
   .have WG:=h1▸ha;by_cases h2:p.2=a
    .have UM:=h2▸ha;simp[h1,h2,ha]
    .by_cases h3:p.2∈L<;>simp[h1,h2,ha]<;>lia
   .by_cases h2:p.2=a
    .have UM:=h2▸ha;by_cases h3:p.1∈L<;>simp[h1,h2,ha]<;>lia
    .by_cases h3:p.1∈L<;>by_cases h4:p.2∈L<;>simp[h2,h3,h4]<;>lia
noncomputable def O0(ps:List Pr)(L:List Int):List Pr:=ps.filter λp=>decide (p.1∈L)&&decide (p.2∉L)
theorem yB8(U:List Pr)(L:List Int):sO U (λx=>decide (x∈L))=((O0 U L).length:Int)-((U.filter λp=>decide (p.1∉L)&&decide (p.2∈L)).length:Int):=by
 induction U with
 |nil=>rfl
 |cons p U ih=>rw[Go,ih];unfold O0;rw[D2,D2];by_cases h1:p.1∈L<;>by_cases h2:p.2∈L<;>simp[h1,h2]<;>lia
theorem Rv{f:Int->Int}{s k:Int}:∀{L:List Int},L.Nodup->(∀x∈L,f x=if x=s then k else 0)->(L.map f).sum=if s∈L then k else 0
 |[],_,_=>rfl
 |a::L,nd,h=>by
  have{ha,nd}:=EZ.mp nd;rw[AU,List.sum_cons,Rv nd λx hx=>h x (A2 _ hx),h a AZ];by_cases e:a=s
  .subst e;simp[ha]
  .have e':s≠a:=λz=>e z.symm;by_cases hs:s∈L<;>simp[e,e',hs]
structure Flw(ps:List Pr)(s t:Int)(k:Int)(U:List Pr):Prop where
 nd:U.Nodup
 sub:∀p∈U,p∈ps
 bal:∀x,x≠t->_M.bal U x=if x=s then k else 0
 src:ins U s=0
 snk:zQC U t=0
theorem Flw.cut{ps U:List Pr}{s t k:Int}{L:List Int}(F:Flw ps s t k U)(nd:L.Nodup)(hs:s∈L)(ht:t∉L):((O0 U L).length:Int)-((U.filter λp=>decide (p.1∉L)&&decide (p.2∈L)).length:Int)=k:=by rw[<-yB8,<-Rw U L nd,Rv nd λx hx=>F.bal x λz=>ht (z▸hx),if_pos hs]
theorem yF1(h:∀p∈U,p∈ps)(nd:U.Nodup)(L:List Int):(O0 U L).length<=(O0 ps L).length :=BF (nd.filter _) λp hp=>by have{h1,h2}:=A4.mp hp;exact A4.mpr {h p h1,h2}
theorem Flw.le(F:Flw ps s t k U)(nd:L.Nodup)(hs:s∈L)(ht:t∉L):k<=((O0 ps L).length:Int):=by have:=F.cut nd hs ht;have:=yF1 F.sub F.nd L;lia
noncomputable def res(ps U:List Pr):List Pr:=ps.map λp=>if p∈U then(p.2,p.1) else p
theorem LP:(a,b)∈res ps U↔((a,b)∈ps/\(a,b)∉U)\/((b,a)∈ps/\(b,a)∈U):=by
 unfold res;rw[BY];constructor
 .intro zz';have{p,hp,e}:=zz';split at e
  .rename_i h;cases e;exact .inr {hp,h}
  .rename_i h;subst e;exact .inl {hp,h}
 .rintro(⟨h1,h2⟩|⟨h1,h2⟩)
  .exact{_,h1,if_neg h2}
  .exact{_,h1,if_pos h2}
theorem Flw.eq(F:Flw ps s t k U)(pn:ps.Nodup)(nd:L.Nodup)(hs:s∈L)(ht:t∉L)(cl:∀a b,a∈L->(a,b)∈res ps U->b∈L):k=((O0 ps L).length:Int):=by
 have h:=F.cut nd hs ht;have e1:(U.filter λp=>decide (p.1∉L)&&decide (p.2∈L))=[]:=NP.mpr λp hp e=>by simp only[CP,decide_eq_true_eq] at e;exact e.1 (cl p.2 p.1 e.2 (LP.mpr (.inr {F.sub p hp,hp})))
 have e2:(O0 U L).Perm (O0 ps L):=(LX (F.nd.filter _) (pn.filter _)).mpr λp=>by
  rw[A4,A4];constructor
  .intro zz';have{h1,h2}:=zz';exact{F.sub p h1,h2}
  .intro zz';have{h1,h2}:=zz';refine{BL λn=>?_,h2};simp only[CP,decide_eq_true_eq] at h2;exact h2.2 (cl p.1 p.2 h2.1 (LP.mpr (.inl {h1,n})))
 rw[e1,e2.length_eq] at h;simp at h;lia
noncomputable def dL(U:List Pr)(a b:Int):List Pr:=if(b,a)∈U then U.erase (b,a) else U++[(a,b)]
structure AugI(ps U0:List Pr)(s t k:Int)(w:List Int)(i:Nat)(U:List Pr):Prop where
 nd:U.Nodup
 sub:∀p∈U,p∈ps
 bal:∀x y,x≠t->w[i]?=AA y->_M.bal U x=(if x=s then k+1 else 0)-XH y x
 src:ins U s=0
 snk:zQC U t=0
 same:∀(j:Nat) a b,i<=j->w[j]?=AA a->w[j+1]?=AA b->((a,b)∈U↔(a,b)∈U0)/\((b,a)∈U↔(b,a)∈U0)
section
variable{ps U0 U:List Pr}{s t k a b:Int}{w:List Int}{i:Nat}
theorem tZ{α:Type}{w:List α}(nd:w.Nodup){x:α}{i j:Nat}(e1:w[i]?=AA x)(e2:w[j]?=AA x):i=j:=by
 have{h1,e1}:=AH.mp e1;have{h2,e2}:=AH.mp e2;rcases JZ i j with z|z|z
 .exact absurd (e1.trans e2.symm) (B9.mp nd i j h1 h2 z)
 .exact z
 .exact absurd (e2.trans e1.symm) (B9.mp nd j i h2 h1 z)
theorem AugI.step(A:AugI ps U0 s t k w i U)(nd:w.Nodup)(h0:w[0]?=AA s)(hl:w[w.length-1]?=AA t)(ea:w[i]?=AA a)(eb:w[i+1]?=AA b)(hr:(a,b)∈res ps U0):AugI ps U0 s t k w (i+1) (dL U a b):=by
 have Du:=(AH.mp eb).1;have kZ:a≠t:=λz=>by subst z;have:=tZ nd ea hl;lia
 have yW:b≠s:=λz=>by subst z;have:=tZ nd eb h0;lia
 have{s1,s2}:=A.same i a b (AM _) ea eb;have Ot:∀x,_M.bal (dL U a b) x=_M.bal U x+XH a x-XH b x:=λx=>by
  unfold dL;split
  .rename_i h;rw[Vm h];simp only;lia
  .rw[zXV]
 have kT:∀p,p≠(a,b)->p≠(b,a)->(p∈dL U a b↔p∈U):=λp h1 h2=>by
  unfold dL;split
  .rw[A.nd.mem_erase_iff];exact{λz=>z.2,λz=>{h2,z}}
  .rw[BR,AS];exact{λz=>z.resolve_right h1,.inl}
 refine{?_,λp hp=>?_,λx y hx ey=>?_,?_,?_,λj c d hj ec ed=>?_}
 .unfold dL;split
  .exact A.nd.erase _
  .rename_i h;refine FI.mpr {A.nd,by simp,λp hp q hq=>?_};rw[AS] at hq;intro e;have qG:(a,b)∈U:=hq▸e▸hp;rcases LP.mp hr with⟨_,z⟩|⟨_,z⟩
   .exact z (s1.mp qG)
   .exact h (s2.mpr z)
 .unfold dL at hp;split at hp
  .exact A.sub p (KB hp)
  .rename_i h;rcases BR.mp hp with hp|hp
   .exact A.sub p hp
   .rw[AS.mp hp];rcases LP.mp hr with⟨z,_⟩|⟨_,z⟩
    .exact z
    .exact absurd (s2.mpr z) h
 .rw[eb] at ey;cases ey;rw[Ot,A.bal x a hx ea];lia
 .have:=XW.mp A.src;refine XW.mpr λp hp=>?_;unfold dL at hp;split at hp
  .exact this p (KB hp)
  .rcases BR.mp hp with hp|hp
   .exact this p hp
   .rw[AS.mp hp];exact yW
 .have:=MI.mp A.snk;refine MI.mpr λp hp=>?_;unfold dL at hp;split at hp
  .exact this p (KB hp)
  .rcases BR.mp hp with hp|hp
   .exact this p hp
   .rw[AS.mp hp];exact kZ
 .have{z1,z2}:=A.same j c d 'L' ec ed;have m8:c≠a:=λz=>by subst z;have:=tZ nd ec ea;lia
  have hda:d≠a:=λz=>by subst z;have:=tZ nd ed ea;lia
  rw[kT (c,d) (λz=>m8 (congrArg LW z)) (λz=>hda (congrArg GA z)),kT (d,c) (λz=>hda (congrArg LW z)) (λz=>m8 (congrArg GA z))];exact{z1,z2}
theorem Flw.start(F:Flw ps s t k U)(h0:w[0]?=AA s):AugI ps U s t k w 0 U :={F.nd,F.sub,λx y hx e=>by
  rw[h0] at e;cases e;rw[F.bal x hx];unfold XH;by_cases z:x=s
  .subst z;simp
  .have:s≠x:=λe=>z e.symm;simp[z,this],F.src,F.snk,λ_ _ _ _ _ _=>{.rfl,.rfl}}
theorem AugI.done(A:AugI ps U0 s t k w i U)(h:w[i]?=AA t):Flw ps s t (k+1) U :={A.nd,A.sub,λx hx=>by rw[A.bal x t hx h];unfold XH;have:t≠x:=λe=>hx e.symm;simp[this],A.src,A.snk}
theorem Flw.nil(ps:List Pr)(s t:Int):Flw ps s t 0 []:={G5,λp hp=>absurd hp A7,λx _=>by rw[yB7];split<;>rfl,rfl,rfl}
theorem Flw.k_le(F:Flw ps s t k U)(RU:s≠t):k<=(ps.length:Nat)/\0<=k:=by have h:=F.bal s RU;rw[if_pos rfl] at h;unfold _M.bal at h;rw[F.src] at h;have h1:zQC U s<=U.length:=DH _ _;have h2:U.length<=ps.length:=BF F.nd F.sub;lia
end
end _M
namespace _M
open _L
structure RowsOf(g:Int->List Int)(R:List Pr):Prop where
 nd:∀p,(g p).Nodup
 mem:∀p h,h∈g p↔(p,h)∈R
section
variable{L:List Int}{s t r x h:Int}{R0 R:List Pr}{g:Int->List Int}{K4:List Int}
theorem zRH{l:List Int}(e:l.getLast?=AA h):l=l.dropLast++[h]:=by
 have SK:l≠[]:=λz=>by rw[z] at e;cases e
 have:=List.dropLast_concat_getLast SK;rw[TW SK] at e;cases e;exact this.symm
theorem RowsOf.pop(Q:RowsOf g R)(nd:R.Nodup)(e:(g x).getLast?=AA h):(x,h)∈R/\RowsOf (offL g x) (R.erase (x,h)):=by
 have sp:=zRH e;have hn:=Q.nd x;rw[sp,FI] at hn;have hm:(x,h)∈R:=(Q.mem x h).mp (by rw[sp];exact CJ _ AZ);refine{hm,λp=>?_,λp y=>?_}
 .unfold offL;split
  .exact hn.1
  .exact Q.nd p
 .rw[nd.mem_erase_iff,<-Q.mem];unfold offL;by_cases z:p=x
  .subst z;rw[if_pos rfl];constructor
   .intro hy;refine{λz=>hn.2.2 y hy h AZ (congrArg GA z),?_};rw[sp];exact FS _ hy
   .intro zz';have{h1,h2}:=zz';rw[sp,BR,AS] at h2;exact h2.resolve_right λz=>h1 (by rw[z])
  .rw[if_neg z];exact{λhy=>{λw=>z (congrArg LW w),hy},λw=>w.2}
structure Wk(R0 R:List Pr)(s:Int)(K4:List Int):Prop where
 nd:K4.Nodup
 hd:K4[0]?=AA s
 ln:∀(i:Nat) a b,K4[i]?=AA a->K4[i+1]?=AA b->(a,b)∈R0/\(a,b)∉R
theorem Wk.less{R':List Pr}(W:Wk R0 R s K4)(h:∀p∈R',p∈R):Wk R0 R' s K4:={W.nd,W.hd,λi a b e1 e2=>let ⟨x,y⟩:=W.ln i a b e1 e2;{x,λz=>y (h _ z)}}
theorem yB9{l:List Int}(e:l.getLast?=AA h):l[l.length-1]?=AA h:=by rw[<-MG];exact e
theorem Wk.back1(W:Wk R0 R s K4)(hx:K4.getLast?=AA x)(hl:(x,h)∈R0/\(x,h)∉R):Wk R0 R s (_L.back1 K4 h)/\(_L.back1 K4 h).getLast?=AA h:=by
 unfold _L.back1;by_cases VF:h∈K4
 .rw[if_pos VF];have IS:=UX VF;have e:K4.take (K4.idxOf h)++[h]=K4.take (K4.idxOf h+1):=by rw[CI IS,dI IS]
  rw[e];refine{{W.nd.sublist (RF _ _),?_,λi a b e1 e2=>?_},?_}
  .rw[QE,if_pos (N3 _)];exact W.hd
  .rw[QE] at e1 e2;split at e1
   .split at e2
    .exact W.ln i a b e1 e2
    .cases e2
   .cases e1
  .rw[<-e];simp
 .rw[if_neg VF];refine{{FI.mpr {W.nd,by simp,λp hp q hq z=>VF (by rw[<-AS.mp hq,<-z];exact hp)},?_,λi a b e1 e2=>?_},by simp}
  .rw[CD (AH.mp W.hd).1];exact W.hd
  .have Oh:=(AH.mp e2).1;rw[BG,CV] at Oh;rw[CD 'L'] at e1;by_cases hi:i+1<K4.length
   .rw[CD hi] at e2;exact W.ln i a b e1 e2
   .have:i=K4.length-1:=by lia
    subst this;rw[yB9 hx] at e1;cases e1;rw[CZ 'L',show K4.length-1+1-K4.length=0 by lia] at e2;cases e2;exact hl
theorem yF2(hL:∀p∈R0,p.1∈L)(hr:1<=r):∀(n:Nat) (g:Int->List Int) (R:List Pr) (K4:List Int) (x:Int),R.length<n->RowsOf g R->R.Nodup->(∀p∈R,p∈R0)->(∀v,v≠t->bal R v=(if v=s then r-1 else 0)+XH x v)->Wk R0 R s K4->K4.getLast?=AA x ->∃ZF g' R',mB L t n g K4=AA (ZF,g')/\RowsOf g' R'/\R'.Nodup/\R'.Sublist R/\(∀v,v≠t->bal R' v=if v=s then r-1 else 0)/\Wk R0 R' s ZF/\ZF.getLast?=AA t:=by
 intro n;induction n with
 |zero=>intro g R K4 x hn;lia
 |succ n ih =>
  intro g R K4 x hn Q nd sub hb W hx;unfold mB;rw[hx];simp only;by_cases Dl:x=t
  .rw[if_pos Dl];subst Dl;exact{K4,g,R,rfl,Q,nd,List.Sublist.refl _,λv hv=>by have z:XH x v=0:=if_neg λz=>hv z.symm;rw[hb v hv,z];lia,W,hx}
  .rw[if_neg Dl];have pW:0<bal R x:=by rw[hb x Dl];unfold XH;rw[if_pos rfl];split<;>lia
   have{y,hy}:=zXW pW;rw[if_pos (hL _ (sub _ hy))];have SK:g x≠[]:=λz=>by have:=(Q.mem x y).mpr hy;rw[z] at this;cases this
   obtain⟨h,hh⟩:∃h,(g x).getLast?=AA h:={_,TW SK};rw[hh];simp only;have{hm,Q'}:=Q.pop nd hh;have EV:=List.length_erase_of_mem hm;have LS:0<R.length:=YW hm;have eN:∀p∈R.erase (x,h),p∈R:=λp hp=>KB hp;have W':=W.less eN;have{W2,cY}:=W'.back1 hx (h:=h) {sub _ hm,λz=>(nd.mem_erase_iff.mp z).1 rfl};have{ZF,g',R',e,q1,q2,q3,q4,q5,q6}:=ih (offL g x) (R.erase (x,h)) (_L.back1 K4 h) h 'L' Q' (nd.erase _) (λp hp=>sub p (eN p hp)) (λv hv=>by rw[Vm hm,hb v hv];simp only;lia) W2 cY;exact{ZF,g',R',e,q1,q2,q3.trans List.erase_sublist,q4,q5,q6}
def Q0(w:List Int):List Pr:=w.zip (w.drop 1)
theorem MK{a b:Int}{w:List Int}:(a,b)∈Q0 w↔∃i:Nat,w[i]?=AA a/\w[i+1]?=AA b:=by
 unfold Q0;rw[OB];constructor
 .intro zz';have{i,e}:=zz';rw[IV,FN] at e;exact{i,e.1,by rw[R8];exact e.2}
 .intro zz';have{i,e1,e2}:=zz';exact{i,by rw[IV,FN];exact{e1,by rw[R8];exact e2}}
structure WayU(U:List Pr)(s t:Int)(w:List Int):Prop where
 nd:w.Nodup
 hd:w[0]?=AA s
 ls:w.getLast?=AA t
 ln:∀l∈Q0 w,l∈U
theorem Wk.ways(W:Wk R0 R s K4)(hl:K4.getLast?=AA t):WayU R0 s t K4/\∀l∈Q0 K4,l∉R:=by
 refine{{W.nd,W.hd,hl,λl h=>?_},λl h=>?_}
 .have{i,e1,e2}:=MK.mp h;exact(W.ln i _ _ e1 e2).1
 .have{i,e1,e2}:=MK.mp h;exact(W.ln i _ _ e1 e2).2
theorem yF3{U:List Pr}(hL:∀p∈U,p.1∈L)(RU:s≠t):∀(n:Nat) (r:Int) (g:Int->List Int) (R:List Pr) (ws:List (List Int)),r.toNat<n->RowsOf g R->R.Nodup->(∀p∈R,p∈U)->R.length<3000->(∀v,v≠t->bal R v=if v=s then r else 0)->ins R s=0 ->(∀w∈ws,WayU U s t w/\∀l∈Q0 w,l∉R)->(ws.Pairwise λw w'=>∀l∈Q0 w,l∉Q0 w') ->∃pA,sM L s t n g ws=AA pA/\(∀w∈pA,WayU U s t w)/\(pA.Pairwise λw w'=>∀l∈Q0 w,l∉Q0 w')/\(pA.length:Int)=ws.length+r:=by
 intro n;induction n with
 |zero=>intro r g R ws hn;lia
 |succ n ih =>
  intro r g R ws hn Q nd sub hl hb hi hw hp;have yW:=hb s RU;rw[if_pos rfl] at yW;unfold bal at yW;rw[hi] at yW;unfold sM;by_cases hg:g s=[]
  .rw[if_pos hg];have:zQC R s=0:=MI.mpr λp fL e=>by have:=(Q.mem s p.2).mpr (by rw[<-e];exact fL);rw[hg] at this;cases this
   exact{ws,rfl,λw h=>(hw w h).1,hp,by lia}
  .rw[if_neg hg];have Dq:1<=r:=by have{y,l,e}:=List.exists_cons_of_ne_nil hg;have hm:=(Q.mem s y).mp (by rw[e];exact AZ);have:zQC R s≠0:=λz=>MI.mp z _ hm rfl;lia
   have{ZF,g',R',e,q1,q2,q3,q4,q5,q6}:=yF2 (L:=L) (t:=t) (s:=s) (R0:=R) (λp hp=>hL p (sub p hp)) Dq 3000 g R [s] s hl Q nd (λ_ h=>h) (λv hv=>by
    rw[hb v hv];unfold XH;by_cases z:v=s
    .subst z;simp
    .have:s≠v:=λe=>z e.symm;simp[z,this]) {by simp,rfl,λi a b _ e2=>by simp at e2} rfl
   rw[e];simp only;have{w1,w2}:=q5.ways q6;have eN:∀p∈R',p∈R:=λp hp=>q3.subset hp;have{pA,e',r1,r2,r3}:=ih (r-1) g' R' (ws++[ZF]) 'L' q1 q2 (λp hp=>sub p (eN p hp)) (AR q3.length_le hl) q4 (by have:=yF0 q3 s;lia) (λw pQ=>by
    rcases BR.mp pQ with z|z
    .exact{(hw w z).1,λl p5 z'=>(hw w z).2 l p5 (eN l z')}
    .rw[AS.mp z];exact{{w1.nd,w1.hd,w1.ls,λl h=>sub _ (w1.ln l h)},w2}) (by
    rw[FR];refine{hp,by simp,λw pQ w' hw2 l p5=>?_};rw[AS.mp hw2];exact λz=>(hw w pQ).2 l p5 (w1.ln l z))
   exact{pA,e',r1,r2,by rw[r3,BG,CV];lia}
end
end _M
namespace _M
open PySem _L
theorem Bc{gi:GI}{js:List Nat}{tt:Ev->Out (Bool×Ev)}{E E1:Ev}{ns:List Int}(p:Int->Bool)(cs:List Sl)(hi:gi E=.ok (ns.map D.int,E1))(hc:VQ 1 js E1=.no::cs)(hl:ns.length<10000) (ht:∀x∈ns,tt (.val (.int x)::cs)=.ok (p x,.val (.int x)::cs)) (hb:∀u,V3 E1 (u::cs) 1 js=E1):OE gi 1 js (.nm 0) tt (AX 0) E=.ok (.lst ((ns.filter p).map D.int),E1):=by
 have:=iA (gi:=gi) (k:=1) (js:=js) (t:=.nm 0) (tt:=tt) (ge:=AX 0) (E:=E) (E1:=E1) (ds:=ns.map D.int) (λd=>match d with|.int x=>if p x=AQ then[.int x] else[]|_=>[]) (λE=>∃u,E=u::cs) hi {_,hc} (by rw[AK];exact hl) (λd hd E hE=>by
  have{x,hx,rfl}:=BY.mp hd;have{u,rfl}:=hE;refine{_,rfl,p x,_,ht x hx,?_};by_cases h:p x=AQ
  .exact .inl {h,.int x,_,rfl,by simp only[h,if_true],_,rfl}
  .exact .inr {by simpa using h,by simp only[h,if_false];rfl,_,rfl}) ((λEc q0=>by have{u,e}:=q0;exact by rw[e];exact hb u))
 rw[this,Xp (g:=D.int) p λx=>rfl]
section
variable{ps qs:List (Int×Int)}{cl:List Int}{AD a b c g p x u v:Int}{L w:List Int}{l:Int×Int}
theorem Rc.ne(h:Rc ps cl g x):x∉cl:=by
 cases h with
 |refl h=>exact h
 |step _ _ h=>exact h
theorem Rc.mono{dl:List Int}(hs:∀z∈dl,z∈cl)(h:Rc ps cl g x):Rc ps dl g x:=by
 induction h with
 |refl h=>exact .refl λz=>h (hs _ z)
 |step _ e h ih=>exact .step ih e λz=>h (hs _ z)
theorem Rc.range{AD:Int}(R:Rg AD ps)(h0:0<=g)(h1:g<AD)(h:Rc ps cl g x):0<=x/\x<AD:=by
 cases h with
 |refl _=>exact{h0,h1}
 |step _ e _=>have{_,_,a,b}:=R.rg _ e;exact{a,b}
theorem PH:(a,b)∈back ps↔(b,a)∈ps:=by
 unfold back;rw[(dX _).mem_iff];constructor
 .intro h;have{q,hq,e}:=BY.mp h;cases e;exact hq
 .exact λh=>BY.mpr {_,h,rfl}
theorem Rc.trans(h1:Rc ps cl a b)(h2:Rc ps cl b c):Rc ps cl a c:=by
 induction h2 with
 |refl _=>exact h1
 |step _ e n ih=>exact .step ih e n
theorem Rc.rev(hq:∀a b,(a,b)∈ps->(b,a)∈qs)(h:Rc ps cl a b):Rc qs cl b a:=by
 induction h with
 |refl n=>exact .refl n
 |step h e n ih=>exact Rc.trans (.step (.refl n) (hq _ _ e) h.ne) ih
theorem aM:Rc (back ps) cl b a↔Rc ps cl a b:={λh=>h.rev λ_ _ e=>PH.mp e,λh=>h.rev λ_ _ e=>PH.mpr e}
structure Wy(ps:List (Int×Int))(g p:Int)(w:List Int):Prop where
 nd:w.Nodup
 hd:w[0]?=AA g
 ls:w[w.length-1]?=AA p
 ln:∀(i:Nat) x y,w[i]?=AA x->w[i+1]?=AA y->(x,y)∈ps
theorem rG(hd:w[0]?=AA g):∀(i:Nat) (x:Int),w[i]?=AA x->(∀(k:Nat) y,k<=i->w[k]?=AA y->y∉cl)->(∀(k:Nat) y z,k<i->w[k]?=AA y->w[k+1]?=AA z->(y,z)∈qs)->Rc qs cl g x
 |0,x,e,n,_=>by rw[hd] at e;cases e;exact .refl (n 0 _ (AM _) hd)
 |i+1,x,e,n,q=>by have{hi,_}:=AH.mp e;have e0:w[i]?=AA w[i]:=BD 'L';exact .step (rG hd i _ e0 (λk y hk=>n k y 'L') λk y z hk=>q k y z 'L') (q i _ _ 'L' e0 e) (n (i+1) x (AM _) e)
theorem Rg.back(R:Rg AD ps):Rg AD (_M.back ps):=by have pm:=dX (ps.map Jt);refine{R.m1,R.m2,by unfold _M.back;rw[pm.length_eq,AK];exact R.len,λp hp=>?_};have:=R.rg (p.2,p.1) (PH.mp hp);exact{this.2.2.1,this.2.2.2,this.1,this.2.1}
end
section
variable{ps:List (Int×Int)}{AD a b x:Int}{aw:List (Option Int)}{w:List Int}
theorem Net.rg'(N:Net AD ps):Rg AD ps:={by have:=N.m1;lia,by have:=N.m2;lia,by have:=N.len;lia,λp hp=>let ⟨a,b,c,d,_⟩:=N.rg p hp;{a,b,c,d}}
theorem zUR(ps:List (Int×Int))(j:Nat):(SE ps j).length<=ps.length:=by unfold SE;rw[AK];exact DH _ _
theorem zXX(k:Int):RP .non (.int k)=.ok (.bl AE):=by unfold RP;simp[D.py,GE,DD]
theorem zXY:∀{ns:List Int} {n:Int},ns.foldl min n∈n::ns:=λ{ns n}=>(Hf ns n).1
theorem yCA{ns:List Int}(h:ns≠[]):∃m∈ns,sB [.lst (ns.map D.int)]=.ok (.int m):=by
 cases ns with
 |nil=>exact absurd rfl h
 |cons n ns=>exact{_,zXY,by show(match QH ((n::ns).map D.int) with|some (n::ns)=>Out.ok (D.int (ns.foldl min n))|_=>.bad)=_;rw[Bn]}
def lJ(AD:Int)(ps:List (Int×Int))(a b:Int)(aw:List (Option Int))(w:List Int)(u:Sl):Ev :=[.val (ED AD ps),.val (.int a),.val (.int b),.val (.tup []),.val (.lst (aw.map LK)),.val (cK AD ps),.own AE (.lst (w.map D.int)),u]
structure Pc(ps:List (Int×Int))(AD a:Int)(aw:List (Option Int))(n v:Int)(w:List Int):Prop where
 hd:w[0]?=AA a
 len:(w.length:Int)+v=n+1
 rg:∀x∈w,0<=x/\x<AD
 num:∀(i:Nat) x,w[i]?=AA x->aw[x.toNat]?=AA (AA (n-i))
 ln:∀(i:Nat) x y,w[i]?=AA x->w[i+1]?=AA y->(x,y)∈ps
theorem Bb{α:Type}{w:List α}{m y:α}{i:Nat}(h:(w++[m])[i]?=AA y):w[i]?=AA y\/(i=w.length/\y=m):=by
 rw[List.getElem?_append] at h;split at h
 .exact .inl h
 .rename_i hi;have{h1,h2}:=AH.mp h;rw[CV] at h1;have:i-w.length=0:=by lia
  refine .inr {by lia,?_};simp[this] at h2;exact h2.symm
theorem Pc.snoc{n v m:Int}(P:Pc ps AD a aw n v w)(hx:w[w.length-1]?=AA x)(he:(x,m)∈ps)(m0:0<=m)(m1:m<AD)(hm:aw[m.toNat]?=AA (AA (v-1))):Pc ps AD a aw n (v-1) (w++[m]) where
 hd:=by have:=(AH.mp P.hd).1;rw[CD this];exact P.hd
 len:=by rw[BG,CV];have:=P.len;lia
 rg:=λy hy=>by
  rcases BR.mp hy with h|h
  .exact P.rg y h
  .rw[AS.mp h];exact{m0,m1}
 num:=λi y h=>by
  rcases Bb h with h|⟨rfl,rfl⟩
  .exact P.num i y h
  .rw[hm];congr 2;have:=P.len;lia
 ln:=λi y z h1 h2=>by
  rcases Bb h2 with h|⟨hi,rfl⟩
  .rcases Bb h1 with h'|⟨hi,_⟩
   .exact P.ln i y z h' h
   .have:=(AH.mp h).1;lia
  .rcases Bb h1 with h'|⟨QA,_⟩
   .rw[show i=w.length-1 by lia,hx] at h';cases h';exact he
   .lia
theorem Pc.nodup{n v:Int}(P:Pc ps AD a aw n v w):w.Nodup:=B9.mpr λi j hi hj MR e=>by have h1:=P.num i _ (BD hi);have h2:=P.num j _ (BD hj);rw[e,h2] at h1;have:=BJ (BJ h1);lia
abbrev lwB:GS:=g9 (XM 6 XI [(O9 [6] (gN sB [(OE (KN (g2 ER (AX 5) (g2 ER (AX 6) (g1 SD (gC (.int 1)))))) 1 [7,4] (.nm 0) (gB (g2 RP (g2 ER (AX 2) (AX 0)) (AX 1))) (AX 0))]))])
theorem yCB(R:Rg AD ps)(hl:aw.length=AD.toNat)(L:Lv (back ps) b aw){n v:Int}{u:Sl}(P:Pc ps AD a aw n v w)(hv:0<v)(hvn:v<=n)(hn:n<1000) : ∃m,lwB (lJ AD ps a b aw w (.val (.int (v-1))))=.ok (.nx (lJ AD ps a b aw (w++[m]) (.val (.int (v-1)))))/\Pc ps AD a aw n (v-1) (w++[m]):=by
 have hlw:=P.len;have hw0:0<w.length:=(AH.mp P.hd).1;obtain⟨x,hx⟩:∃x,w[w.length-1]?=AA x:={_,BD 'L'};have hxm:=BS hx;have{x0,x1}:=P.rg x hxm;have Dk:=P.num _ x hx;rw[show n-((w.length-1:Nat):Int)=v by lia] at Dk;have yG:ER (.lst (w.map D.int)) (.int (-1))=.ok (.int x):=by refine sA ?_;unfold atI WY;rw[AK,if_neg 'L',if_pos 'L'];simp only[Option.bind_some,AY];rw[show(-1+((w.length:Nat):Int)).toNat=w.length-1 by lia,hx];rfl
 have X7:=Bc (gi:=KN (g2 ER (AX 5) (g2 ER (AX 6) (g1 SD (gC (.int 1)))))) (js:=[7,4]) (tt:=gB (g2 RP (g2 ER (AX 2) (AX 0)) (AX 1)))
  (E:=P8 [6] (lJ AD ps a b aw w (.val (.int (v-1))))) (E1:=P8 [6] (lJ AD ps a b aw w (.val (.int (v-1))))) (ns:=SE ps x.toNat) (λy=>decide (aw[y.toNat]?=AA (AA (v-1)))) [.val (.int (v-1)),.val (.lst (aw.map LK))]
  (uY (FC (x:=cK AD ps) (y:=.int x) rfl (FC (x:=.lst (w.map D.int)) (y:=.int (-1)) rfl rfl yG) (Sa x0 x1))) rfl (by have:=R.len;have:=zUR ps x.toNat;lia)
  (λy hy=>by
   have Di:(x,y)∈ps:=by have:=MJ.mp hy;rwa [show((x.toNat:Nat):Int)=x by lia] at this
   have{_,_,y0,y1}:=R.rg _ Di;simp only at y0 y1;obtain⟨o,ho⟩:∃o,aw[y.toNat]?=AA o:={_,BD 'L'};refine NL (FC (x:=LK o) (y:=.int (v-1)) (FC (x:=.lst (aw.map LK)) (y:=.int y) rfl rfl (t7 y0 ho)) rfl ?_);rw[ho];cases o with
   |none=>exact(zXX _).trans 'S'
   |some z=>rw[show LK (AA z)=.int z from rfl,Au];simp) (λu=>rfl)
 have SK:(SE ps x.toNat).filter (λy=>decide (aw[y.toNat]?=AA (AA (v-1))))≠[]:=by
  rcases(L x v x0 Dk).2 with⟨_,e⟩|⟨_,y,y0,y1,y2⟩
  .lia
  .intro e;have:y∈(SE ps x.toNat).filter (λy=>decide (aw[y.toNat]?=AA (AA (v-1)))):=A4.mpr {MJ.mpr (by rw[show((x.toNat:Nat):Int)=x by lia];exact PH.mp y1),decide_eq_true y2};rw[e] at this;cases this
 have{m,hm,em}:=yCA SK;have{aT,aS}:=A4.mp hm;have hmp:(x,m)∈ps:=by have:=MJ.mp aT;rwa [show((x.toNat:Nat):Int)=x by lia] at this
 have{_,_,m0,m1}:=R.rg _ hmp;refine{m,As (d:=.non) ?_,P.snoc hx hmp m0 m1 (of_decide_eq_true aS)};exact uX (i:=6) (f:=XI) (E:=lJ AD ps a b aw w (.val (.int (v-1)))) (xs:=w.map D.int) (ds:=[.int m]) (x:=.non) (YT:=(w++[m]).map D.int) rfl (JA (aI (NS (JA X7) em) rfl)) rfl (by simp only[XI,AK];rw[dR 'L'];simp)
theorem yCC{g:G}{E E':Ev}{j:Int}(h:g E=.ok (.int j,E'))(h2:0<=j/\j<=1000):zM g E=.ok (gW j.toNat,E'):=HW h (if_pos h2)
theorem Gn(R:Rg AD ps)(a0:0<=a)(a1:a<AD)(b0:0<=b)(b1:b<AD) : (¬Rc ps [] a b/\cP [.val (ED AD ps),.val (.int a),.val (.int b),.val (.tup [])]=.ok (AE,.non,.non)) \/ (∃w,Wy ps a b w/\(∀x∈w,0<=x/\x<AD)/\w.length<=1000/\cP [.val (ED AD ps),.val (.int a),.val (.int b),.val (.tup [])]=.ok (AE,.tup (w.map D.int),.non)):=by
 have aS:=R.m2;have{aw,e1,hl,hr,L}:=Ry (cl:=[]) (start:=b) R.back b0 b1;have aR:ps.length<10000:=by have:=R.len;lia
 obtain⟨o,ho⟩:∃o,aw[a.toNat]?=AA o:={_,BD 'L'};have s1:∀{g:GS} {r:Out Fl},g [.val (ED AD ps),.val (.int a),.val (.int b),.val (.tup []),.val (.lst (aw.map LK)),.no,.no,.no]=r->(FX (HM (.nm 4) (HD oQ [(HD l6 [(AX 0)]),(AX 2),(AX 3)])) g) ([.val (ED AD ps),.val (.int a),.val (.int b),.val (.tup [])]++BP 4 .no)=r:=λh =>
  GN (LL (LO (ds:=[ED AD (back ps),.int b,.tup []]) (NA (LO (ds:=[ED AD ps]) rfl (Vp aR)) rfl) e1) rfl) h
 have tN:gB (g2 cJ (g2 ER (AX 4) (AX 1)) (gC .non)) [.val (ED AD ps),.val (.int a),.val (.int b),.val (.tup []),.val (.lst (aw.map LK)),.no,.no,.no]=.ok (o.isNone,[.val (ED AD ps),.val (.int a),.val (.int b),.val (.tup []),.val (.lst (aw.map LK)),.no,.no,.no]) :=
  NL (FC (x:=LK o) (y:=.non) (FC (x:=.lst (aw.map LK)) (y:=.int a) rfl rfl (t7 a0 ho)) rfl (by cases o<;>rfl))
 cases o with
 |none=>refine .inl {λh=>?_,N6 (s1 (uM (b:=AE) (d:=.non) (dN tN (OR rfl)))) rfl};have{_,v,hv}:=(hr a).mpr (aM.mpr h);rw[ho] at hv;cases hv
 |some n =>
  have{c1,c2}:=L a n a0 ho;have n0:0<=n:=by rcases c2 with⟨_,e⟩|⟨e,_⟩<;>lia
  have n1:n<1000:=by lia
  have P0:Pc ps AD a aw n n [a]:={rfl,by simp;lia,λx hx=>by rw[AS.mp hx];exact{a0,a1},λi x h=>by
   have{hi,e}:=AH.mp h;have:i=0:=by simp at hi;exact hi
   subst this;simp at e;subst e;rw[ho];congr 2;lia,λi x y _ h=>by have:=(AH.mp h).1;simp at this}
  have{E',e,w,u,rfl,P}:=iB (gi:=zM (g2 ER (AX 4) (AX 1))) (t:=.nm 7) (g:=lwB) (E:=lJ AD ps a b aw [a] .no) (ds:=gW n.toNat)
   (λi E=>∃w u,E=lJ AD ps a b aw w u/\Pc ps AD a aw n (n-i) w)
   (yCC (FC (x:=.lst (aw.map LK)) (y:=.int a) rfl rfl (t7 a0 ho)) {n0,by lia}) {[a],_,rfl,by rw[show n-((0:Nat):Int)=n by lia];exact P0}
   (λi d E hd q0=>by have{w,u,rfl,P}:=q0;unfold gW at hd;rw[AY] at hd;have{j,hj,rfl}:=BU.mp hd;have{hi,e}:=AH.mp hj;rw[QD] at e;subst e;rw[GP] at hi;have{m,em,Pm}:=yCB (b:=b) (u:=u) R hl L P 'L' 'L' n1;rw[show((n.toNat:Nat):Int)-1-(i:Int)=n-i-1 by lia];exact{_,rfl,_,em,w++[m],_,rfl,by rw[show n-((i+1:Nat):Int)=n-i-1 by lia];exact Pm})
  have hw0:0<w.length:=(AH.mp P.hd).1;have hln:=P.len;rw[show(gW n.toNat).length=n.toNat by simp[gW]] at hln P;obtain⟨x,hx⟩:∃x,w[w.length-1]?=AA x:={_,BD 'L'};have Dk:=P.num _ x hx;have Nb:x=b:=by
   rcases(L x _ (P.rg x (BS hx)).1 Dk).2 with⟨h,_⟩|⟨h,_⟩
   .exact h
   .lia
  refine .inr {w,{P.nodup,P.hd,by rw[hx,Nb],P.ln},P.rg,by lia,N6 (s1 (GN (SY tN rfl) (GN (LL (LO (ds:=[ED AD ps]) rfl (Rz R)) rfl) (GN (jX (d:=.lst [.int a]) rfl) (GN e (OR (aI (NS (d:=.tup (w.map D.int)) (JA (d:=.lst (w.map D.int)) rfl) rfl) (by simp[jU,lJ,sE,Ce,D.flat,D.nod,Hw,Bk])))))))) rfl}
end
theorem Gb(x:Int×Int):(E8 x).py=AA (.tuple [.int x.1,.int x.2]):=by simp[E8,D.py,pAI]
theorem Tx(x y:Int×Int):DD (.tuple [.int x.1,.int x.2]) (.tuple [.int y.1,.int y.2])=decide (x=y):=by have{a,b}:=x;have{c,d}:=y;simp only[DD,VL,i7];by_cases h1:a=c<;>by_cases h2:b=d<;>simp[h1,h2]
theorem zXZ(x y:Int×Int):NI (E8 x) (E8 y)=.ok (.bl (decide (x≠y))):=by unfold NI;simp only[Gb];rw[if_pos (A0 (UV _ _) (by simp[GE,I0])),Tx];by_cases h:x=y<;>simp[h]
theorem Vl:∀ps:List (Int×Int),pAI (ps.map E8)=AA (ps.map λx=>XD [.int x.1,.int x.2])
 |[]=>rfl
 |x::ps=>by rw[AU,pAI,Gb,Vl ps];rfl
theorem any_pairs(x:Int×Int):∀ps:List (Int×Int),((ps.map λx=>XD [.int x.1,.int x.2]).any λd=>DD d (.tuple [.int x.1,.int x.2]))=decide (x∈ps)
 |[]=>rfl
 |y::ps=>by rw[AU,EK,any_pairs x ps,Tx];by_cases h:y=x<;>by_cases h2:x∈ps<;>simp[h,h2,CT,eq_comm]
theorem vK(x:Int×Int)(ps:List (Int×Int)):MM (E8 x) (.tup (ps.map E8))=.ok (.bl (decide (x∈ps))):=by unfold MM;simp only[Vl,Gb];rw[if_pos (by simp[GE,I0]),any_pairs]
theorem zRI(x:Int×Int)(ps:List (Int×Int)):UG (E8 x) (.tup (ps.map E8))=.ok (.bl (decide (x∉ps))):=by rw[UG,vK];simp[Out.bind]
noncomputable def iJ:D->Int×Int:=λd=>match d with|.tup [.int a,.int b]=>(a,b)|_=>(0,0)
theorem uJ(x:Int×Int):iJ (E8 x)=x:=rfl
theorem Re{α:Type}{f:α->D}(r:D->α)(hr:∀c,r (f c)=c)(p:α->Bool):∀xs:List α,(xs.map f).flatMap (λd=>if p (r d)=AQ then[d] else[])=(xs.filter p).map f
 |[]=>rfl
 |x::l=>by
  rw[AU,DW,Re r hr p l,hr,D2];by_cases e:p x=AQ
  .rw[if_pos e,if_pos e];rfl
  .rw[if_neg e,if_neg e];rfl
theorem Js{α:Type}{f:α->D}(r:D->α)(hr:∀c,r (f c)=c){gi:GI}{js:List Nat}{tt:Ev->Out (Bool×Ev)}{E E1:Ev}{xs:List α}(p:α->Bool)(cs:List Sl)(hi:gi E=.ok (xs.map f,E1))(hc:VQ 1 js E1=.no::cs)(hl:xs.length<10000) (ht:∀x∈xs,tt (.val (f x)::cs)=.ok (p x,.val (f x)::cs)) (hb:∀u,V3 E1 (u::cs) 1 js=E1):OE gi 1 js (.nm 0) tt (AX 0) E=.ok (.lst ((xs.filter p).map f),E1):=by
 have:=iA (gi:=gi) (k:=1) (js:=js) (t:=.nm 0) (tt:=tt) (ge:=AX 0) (E:=E) (E1:=E1) (ds:=xs.map f) (λd=>if p (r d)=AQ then[d] else[]) (λE=>∃u,E=u::cs) hi {_,hc} (by rw[AK];exact hl) (λd hd E hE=>by
  have{x,hx,rfl}:=BY.mp hd;have{u,rfl}:=hE;refine{_,rfl,p x,_,ht x hx,?_};by_cases h:p x=AQ
  .exact .inl {h,f x,_,rfl,by simp only[hr,h,if_true],_,rfl}
  .exact .inr {by simpa using h,by simp only[hr,h,if_false];rfl,_,rfl}) ((λEc q0=>by have{u,e}:=q0;exact by rw[e];exact hb u))
 rw[this,Re r hr]
section
variable{ps fl:List (Int×Int)}{AD g p u v a b x:Int}{L w zs:List Int}{l:Int×Int}
theorem Rb{h:Int×Int->D}:∀fl:List (Int×Int),(fl.map E8).flatMap (λd=>[h (iJ d)])=fl.map h
 |[]=>rfl
 |x::l=>by rw[AU,DW,Rb l,AU];rfl
theorem zO{gi:GI}{js:List Nat}{ge:G}{E E1:Ev}(h:Int×Int->D)(cs:List Sl)(hi:gi E=.ok (fl.map E8,E1))(hc:VQ 2 js E1=.no::.no::cs)(hl:fl.length<10000) (hg:∀l∈fl,ge (.val (.int l.1)::.val (.int l.2)::cs)=.ok (h l,.val (.int l.1)::.val (.int l.2)::cs)) (hb:∀u v,V3 E1 (u::v::cs) 2 js=E1):OE gi 2 js (.tp [.nm 0,.nm 1]) RN ge E=.ok (.lst (fl.map h),E1):=by
 have:=iA (gi:=gi) (k:=2) (js:=js) (t:=.tp [.nm 0,.nm 1]) (tt:=RN) (ge:=ge) (E:=E) (E1:=E1) (ds:=fl.map E8) (λd=>[h (iJ d)]) (λE=>∃u v,E=u::v::cs) hi {_,_,hc} (by rw[AK];exact hl) (λd hd E hE=>by have{x,hx,rfl}:=BY.mp hd;have{u,v,rfl}:=hE;exact{_,rfl,AQ,_,rfl,.inl {rfl,h x,_,hg x hx,rfl,_,_,rfl}}) (λEc q0=>by have{u,v,e}:=q0;rw[e];exact hb u v);rw[this,Rb]
theorem Tw{α β:Type}(f:α->β)(xs:List α)(lo hi:Option Int):U6 (xs.map f) lo hi=(U6 xs lo hi).map f:=by unfold U6;rw[AK,<-P3,<-List.map_take]
theorem yCE(ns:List Int):∃c:Int,rV [.val (.lst (ns.map D.int)),.val (.int 0)]=.ok (AE,.int c,.non):=by
 unfold rV;cases ns with
 |nil=>exact{0,N6 (GN (SY (E1:=[.val (.lst []),.val (.int 0)]) (NL (FC (x:=.int 0) (y:=.int 0) rfl (NS (JA (d:=.lst []) rfl) rfl) rfl)) rfl) (OR (d:=.int 0) rfl)) rfl}
 |cons n ns=>refine{n,N6 (uM (E1:=[.val (.lst ((n::ns).map D.int)),.val (.int 0)]) (dN (E1:=[.val (.lst ((n::ns).map D.int)),.val (.int 0)]) (NL (FC (x:=.int 0) (y:=.int ((n::ns).map D.int).length) rfl (NS (JA (d:=.lst ((n::ns).map D.int)) rfl) rfl) ?_)) (OR (FC (x:=.lst ((n::ns).map D.int)) (y:=.int 0) rfl rfl (oU (xs:=[]) 'D' rfl))))) rfl};simp only[Y9];rw[decide_eq_true (by simp only[AU,A8];lia)]
theorem Tv{E Ec:Ev}{k:Nat}{js:List Nat}(h:∀n j,js[n]?=AA j->Ec[k+n]?=E[j]?):V3 E Ec k js=E:=RH λi=>by
 rw[Gs,FB];cases e:E[i]? with
 |none=>rfl
 |some s =>
  cases s with
  |own t d =>
   simp only[a7,lI];cases q:lO i js 0 with
   |none=>rfl
   |some n=>have{m,yB,hm}:=Ij q;rw[FB] at yB;subst yB;simp only[h _ i hm,e,Option.getD_some]
  |_=>rfl
theorem yK2{E:Ev}{a b:Sl}{j:Nat}(h:E[j]?=AA b):V3 E [a,b] 1 [j]=E:=Tv λn i e=>by
 cases n with
 |zero=>cases e;exact h.symm
 |succ n=>simp at e
noncomputable def eG(f:Int×Int->D)(qs:List (Int×Int)):List (List Int×D):=qs.map λl=>([l.1,l.2],f l)
theorem rZ{l m:Int×Int}(e:([l.1,l.2]:List Int)=[m.1,m.2]):l=m:=by injection e with e1 e2;injection e2 with e2 _;exact KO e1 e2
theorem zX1{f:Int×Int->D}{m:Int×Int}{qs:List (Int×Int)}(h:m∉qs):UD (eG f qs) [m.1,m.2] (f m)=eG f (qs++[m]):=by
 unfold UD eG;rw[if_neg,D0]
 .rfl
 .simp only[RI,IQ,OL,decide_eq_true_eq,not_exists,not_and];exact λq hq z=>h (rZ z▸hq)
end
def uK(U:List Pr):List (List Int×D):=eG (λ_=>.bl AQ) U
theorem Ru{l:Pr}:∀{U:List Pr},(UE (uK U) [l.1,l.2]).isSome=decide (l∈U)
 |[]=>rfl
 |m::U=>by
  have ih:=Ru (l:=l) (U:=U);unfold UE uK eG at ih ⊢;rw[AU,T8];by_cases e:m=l
  .subst e;simp
  .have:decide (([m.1,m.2]:List Int)=[l.1,l.2])=AE:=decide_eq_false λz=>e (rZ z);simp only[this];rw[ih];have e':l≠m:=λz=>e z.symm;simp[e']
theorem uIn(l:Pr)(U:List Pr):MM (E8 l) (.dt (uK U))=.ok (.bl (decide (l∈U))):=by rw[<-Ru];rfl
theorem yK3{l:Pr}{U:List Pr}(h:l∉U)(hl:U.length<10000):sC (.dt (uK U)) (E8 l) (.bl AQ)=.ok (.dt (uK (U++[l]))):=by have:=Eo (kvs:=uK U) (a:=l.1) (b:=l.2) (by unfold uK eG;rw[AK];exact hl);rw[show UD (uK U) [l.1,l.2] (.bl AQ)=uK (U++[l]) from zX1 (f:=λ_=>.bl AQ) h] at this;exact this
theorem Rs{l:Pr}{f:Pr->D}:∀{U:List Pr},l∈U->(eG f U).findIdx? (λp=>p.1==[l.1,l.2])=AA (U.idxOf l)
 |m::U,h=>by
  unfold eG;rw[AU,List.findIdx?_cons];by_cases e:m=l
  .subst e;simp
  .have h1:(([m.1,m.2]:List Int)==[l.1,l.2])=AE:=beq_eq_false_iff_ne.mpr λz=>e (rZ z);have ih:=Rs (f:=f) (U:=U) ((A3.mp h).resolve_left λz=>e z.symm);unfold eG at ih;have h2:(m==l)=AE:=beq_eq_false_iff_ne.mpr e;rw[h1,ih,List.idxOf_cons,h2];rfl
theorem yK4{l:Pr}{U:List Pr}(h:l∈U):vW (.dt (uK U)) (E8 l)=.ok (.dt (uK (U.erase l))):=by
 have e1:vW (.dt (uK U)) (E8 l)=match(uK U).findIdx? (λp=>p.1==[l.1,l.2]) with|some j=>.ok (.dt ((uK U).eraseIdx j))|none=>.bad:=rfl
 rw[e1,show(uK U).findIdx? (λp=>p.1==[l.1,l.2])=AA (U.idxOf l) from Rs h];simp only;unfold uK eG;rw[Ho,<-List.erase_eq_eraseIdx_of_idxOf (by rfl)]
section
variable{AD s t:Int}{ps U:List Pr}
theorem Ra(hl:ps.length<10000):oR [.val (ED AD ps),.val (.dt (uK U))]=.ok (AE,ED AD (res ps U),.non):=by
 obtain⟨E,hE⟩:∃E:Ev,E=[.val (ED AD ps),.val (.dt (uK U)),.val (.int AD),.val (.tup (ps.map E8))]:={_,rfl};have hc:=zO (fl:=ps) (gi:=KN (AX 3)) (js:=[1]) (ge:=wG (gB (g2 MM (IW [(AX 0),(AX 1)]) (AX 2))) (IW [(AX 1),(AX 0)]) (IW [(AX 0),(AX 1)])) (E:=E) (E1:=E)
  (λp=>E8 (if p∈U then(p.2,p.1) else p)) [.val (.dt (uK U))] (by rw[hE];rfl) (by rw[hE];rfl) hl (λp hp=>by refine HW (NL (FC (x:=E8 p) (y:=.dt (uK U)) rfl rfl (uIn p U))) ?_;simp only[decide_eq_true_eq];split<;>rfl) (λu v=>by rw[hE];rfl)
 have e:(res ps U).map E8=ps.map λp=>E8 (if p∈U then(p.2,p.1) else p):=by unfold res;rw[DA];rfl
 rw[<-e,hE] at hc;exact N6 (GN (LL (d:=ED AD ps) rfl rfl) (OR (jT (ds:=[.int AD,.tup ((res ps U).map E8)]) (NA (d:=.int AD) rfl (JA (NS (JA hc) rfl))) (show 2<10000 by decide)))) rfl
theorem Rg.res(R:Rg AD ps)(U:List Pr):Rg AD (_M.res ps U):=by
 refine{R.m1,R.m2,by unfold _M.res;rw[AK];exact R.len,λp hp=>?_};rcases LP.mp (show(p.1,p.2)∈_M.res ps U from hp) with⟨h,_⟩|⟨h,_⟩
 .exact R.rg _ h
 .have{a,b,c,d}:=R.rg _ h;exact{c,d,a,b}
def uE(AD:Int)(ps:List Pr)(s t:Int)(U:List Pr)(w u5 u6:Sl):Ev:=[.val (ED AD ps),.val (.int s),.val (.int t),.own AE (.dt (uK U)),w,u5,u6]
theorem yF4{i:Nat}{gk:G}{E E2:Ev}{t t2:Bool}{d0 d k d':D}(h0:E[i]?=AA (.own t2 d0))(h2:gk E=.ok (k,E2))(h3:E2[i]?=AA (.own t d))(h4:vW d k=.ok d'):r8 i gk E=.ok (.nx (E2.set i (.own t d'))):=by unfold r8;rw[h0];exact HW h2 (by simp only[h3];exact HW h4 rfl)
abbrev Cj:GS:=NR (YL [3] (gB (g2 MM (IW [(AX 6),(AX 5)]) (AX 3)))) (r8 3 (IW [(AX 6),(AX 5)])) (VU 3 (IW [(AX 5),(AX 6)]) (gC (.bl AQ)))
theorem yCF{a b:Int}{w:Sl}(hU:U.length<10000)(ha:(b,a)∉U->(a,b)∉U):Cj (uE AD ps s t U w (.val (.int a)) (.val (.int b)))=.ok (.nx (uE AD ps s t (dL U a b) w (.val (.int a)) (.val (.int b)))):=by
 have ht:YL [3] (gB (g2 MM (IW [(AX 6),(AX 5)]) (AX 3))) (uE AD ps s t U w (.val (.int a)) (.val (.int b)))=.ok (decide ((b,a)∈U),uE AD ps s t U w (.val (.int a)) (.val (.int b))) :=
  dW (NL (FC (x:=E8 (b,a)) (y:=.dt (uK U)) rfl rfl (uIn (b,a) U)))
 unfold dL;by_cases h:(b,a)∈U
 .rw[if_pos h];rw[decide_eq_true h] at ht;refine dN ht ?_;exact yF4 (i:=3) (E:=uE AD ps s t U w (.val (.int a)) (.val (.int b))) (E2:=uE AD ps s t U w (.val (.int a)) (.val (.int b))) (d0:=.dt (uK U)) (d:=.dt (uK U)) (k:=E8 (b,a)) (t:=AE) (t2:=AE) rfl rfl rfl (yK4 h)
 .rw[if_neg h];rw[decide_eq_false h] at ht;exact SY ht (j5 (i:=3) (E:=uE AD ps s t U w (.val (.int a)) (.val (.int b))) (E1:=uE AD ps s t U w (.val (.int a)) (.val (.int b))) (E2:=uE AD ps s t U w (.val (.int a)) (.val (.int b))) (d0:=.dt (uK U)) (d:=.dt (uK U)) (v:=.bl AQ) (k:=E8 (a,b)) (d':=.dt (uK (U++[(a,b)]))) (t:=AE) (t2:=AE) rfl rfl rfl rfl (yK3 (ha h) hU))
theorem Qc{g:G}{E:Ev}{w:List Int}(h:g E=.ok (.tup (w.map D.int),E)):gY g (XO g (AA (gC (.int 1))) AL) E=.ok ((Q0 w).map E8,E):=by
 have sl:XO g (AA (gC (.int 1))) AL E=.ok (.tup ((w.drop 1).map D.int),E):=by refine HW h (HW (a:=(AA 1,E)) rfl (HW (a:=(AL,E)) rfl ?_));show Out.ok (D.tup (U6 (w.map D.int) (AA 1) AL),_)=_;rw[Yk,P3]
 refine HW h (HW sl ?_);show Out.ok (jE (w.map D.int) ((w.drop 1).map D.int),_)=_;unfold jE Q0;rw[List.zip_map,DA];rfl
theorem Ag{w:List Int}{i:Nat}{l:Pr}(h:(Q0 w)[i]?=AA l):w[i]?=AA l.1/\w[i+1]?=AA l.2:=by unfold Q0 at h;rw[IV,FN] at h;exact{h.1,by rw[R8];exact h.2}
theorem Gm(w:List Int):(Q0 w).length=w.length-1:=by unfold Q0;rw[T7,ND];lia
theorem yF5{k:Int}{w:List Int}{u5 u6:Sl}(R:Rg AD ps)(F:Flw ps s t k U)(W:Wy (res ps U) s t w)(hw:w.length<=1000):∃U' v5 v6,RO (gY (AX 4) (XO (AX 4) (AA (gC (.int 1))) AL)) (.tp [(.nm 5),(.nm 6)]) Cj (uE AD ps s t U (.val (.tup (w.map D.int))) u5 u6)=.ok (.nx (uE AD ps s t U' (.val (.tup (w.map D.int))) v5 v6))/\Flw ps s t (k+1) U':=by
 have{E',e,U',v5,v6,rfl,A}:=iB (gi:=gY (AX 4) (XO (AX 4) (AA (gC (.int 1))) AL)) (t:=.tp [(.nm 5),(.nm 6)]) (g:=Cj) (E:=uE AD ps s t U (.val (.tup (w.map D.int))) u5 u6) (ds:=(Q0 w).map E8)
  (λi E=>∃V v5 v6,E=uE AD ps s t V (.val (.tup (w.map D.int))) v5 v6/\AugI ps U s t k w i V) (Qc rfl) {U,u5,u6,rfl,F.start W.hd} (λi d E hd q0=>by
   have{V,v5,v6,rfl,A}:=q0;rw[AY] at hd;have{l,hl,rfl}:=BU.mp hd;have{e1,e2}:=Ag hl;have hr:=W.ln i _ _ e1 e2;have hV:V.length<10000:=by have:=BF A.nd A.sub;have:=R.len;lia
   have{s1,s2}:=A.same i _ _ (AM _) e1 e2;refine{_,rfl,_,yCF hV λh h'=>?_,_,_,_,rfl,A.step W.nd W.hd W.ls e1 e2 hr};rcases LP.mp hr with⟨_,z⟩|⟨_,z⟩
   .exact z (s1.mp h')
   .exact h (s2.mpr z))
 refine{U',v5,v6,e,A.done ?_};rw[AK,Gm];exact W.ls
end
section
variable{AD s t:Int}{ps U:List Pr}
theorem yCG(ps:List Pr):res ps []=ps:=by
 unfold res;conv=>rhs;rw[<-bB ps]
 exact K9 λp _=>if_neg A7
def WOk(ps:List Pr)(s t:Int)(U:List Pr)(d:D):Prop:=(d=.non/\¬Rc (res ps U) [] s t)\/∃w:List Int,d=.tup (w.map D.int)/\Wy (res ps U) s t w/\w.length<=1000
theorem yF6(R:Rg AD ps)(U:List Pr)(s0:0<=s)(s1:s<AD)(t0:0<=t)(t1:t<AD):∃d,cP [.val (ED AD (res ps U)),.val (.int s),.val (.int t),.val (.tup [])]=.ok (AE,d,.non)/\WOk ps s t U d/\d.nod=AQ:=by
 rcases Gn (R.res U) s0 s1 t0 t1 with⟨h,e⟩|⟨w,W,_,hl,e⟩
 .exact{_,e,.inl {rfl,h},rfl}
 .exact{_,e,.inr {w,rfl,W,hl},by rw[D.nod];exact Bk _}
theorem yCH(R:Rg AD ps)(s0:0<=s)(s1:s<AD)(t0:0<=t)(t1:t<AD)(RU:s≠t):∃U k,iF [.val (ED AD ps),.val (.int s),.val (.int t)]=.ok (AE,.dt (uK U),.non)/\Flw ps s t k U/\¬Rc (res ps U) [] s t:=by
 have hl:ps.length<10000:=by have:=R.len;lia
 have{d0,e0,w0,_}:=yF6 (s:=s) (t:=t) R [] s0 s1 t0 t1;rw[yCG] at e0;have{E',e,U,k,u5,u6,rfl,F,hn}:=uL (t:=gB (g2 nU (AX 4) (gC .non)))
  (g:=FX (RO (gY (AX 4) (XO (AX 4) (AA (gC (.int 1))) AL)) (.tp [(.nm 5),(.nm 6)]) Cj) (HM (.nm 4) (O9 [3] (HD cP [(HD oR [(AX 0),(AX 3)]),(AX 1),(AX 2),(IW [])]))))
  (λn E=>∃U k d u5 u6,E=uE AD ps s t U (.val d) u5 u6/\Flw ps s t k U/\WOk ps s t U d/\n=((ps.length:Int)-k).toNat)
  (λE=>∃U k u5 u6,E=uE AD ps s t U (.val .non) u5 u6/\Flw ps s t k U/\¬Rc (res ps U) [] s t)
  (λn E q0=>by
   have{U,k,d,u5,u6,rfl,F,w,rfl}:=q0;rcases w with⟨rfl,hn⟩|⟨w,rfl,W,hw⟩
   .exact .inl {_,rfl,U,k,u5,u6,rfl,F,hn}
   .have{U',v5,v6,e,F'}:=yF5 (u5:=u5) (u6:=u6) R F W hw;have{d,e1,w1,hd}:=yF6 (s:=s) (t:=t) R U' s0 s1 t0 t1;have hk:=(F'.k_le RU).1;refine .inr {_,_,_,rfl,GN e (LL (aI (d:=d) (LO (ds:=[ED AD (res ps U'),.int s,.int t,.tup []]) (NA (LO (ds:=[ED AD ps,.dt (uK U')]) rfl (Ra hl)) rfl) e1) ?_) rfl),?_,U',k+1,d,v5,v6,rfl,F',w1,rfl}
    .show(AQ&&(AE||d.nod))=AQ;rw[hd];rfl
    .lia) 100000 ps.length (uE AD ps s t [] (.val d0) .no .no) 'L' {[],0,d0,.no,.no,rfl,Flw.nil ps s t,w0,by lia}
 exact{U,k,N6 (GN (jX rfl) (GN (LL (LO (ds:=[ED AD ps,.int s,.int t,.tup []]) rfl e0) rfl) (GN e (OR rfl)))) rfl,F,hn}
theorem yCI(U:List Pr):Yl (.dt (uK U))=AA U:=by show toPr2 ((uK U).map (·.1))=AA U;unfold uK eG;rw[DA];exact zT0 U
theorem yF7(nd:U.Nodup):RowsOf (dQ (NG U)) U:=by
 have pm:=dX U;have nd':(NG U).Nodup:=pm.nodup_iff.mpr nd;refine{λp=>?_,λp h=>?_}
 .unfold dQ;refine DE.mpr (QX (λ{a b} ha hb qG e=>?_) (nd'.filter _));have h1:=of_decide_eq_true (A4.mp ha).2;have h2:=of_decide_eq_true (A4.mp hb).2;exact qG (KO (h1.trans h2.symm) e)
 .unfold dQ;rw[BY];constructor
  .intro zz';have{q,hq,rfl}:=zz';have{h1,h2}:=A4.mp hq;rw[<-of_decide_eq_true h2];exact pm.mem_iff.mp h1
  .exact λhm=>{(p,h),A4.mpr {pm.mem_iff.mpr hm,decide_eq_true rfl},rfl}
def aH(ws:List (List Int)):D:=.tup (ws.map λw=>.tup (w.map D.int))
structure Apart(AD:Int)(ps:List Pr)(s t:Int)(ws:List (List Int))(U:List Pr)(k:Int):Prop where
 ways:∀w∈ws,WayU U s t w
 dis:ws.Pairwise λw w'=>∀l∈Q0 w,l∉Q0 w'
 len:(ws.length:Int)=k
 flw:Flw ps s t k U
 no:¬Rc (res ps U) [] s t
theorem yF8(R:Rg AD ps)(s0:0<=s)(s1:s<AD)(t0:0<=t)(t1:t<AD)(RU:s≠t):∃ws U k,l8 [.val (ED AD ps),.val (.int s),.val (.int t)]=.ok (AE,aH ws,.non)/\iF [.val (ED AD ps),.val (.int s),.val (.int t)]=.ok (AE,.dt (uK U),.non)/\Apart AD ps s t ws U k:=by have{U,k,e,F,hn}:=yCH R s0 s1 t0 t1 RU;have hm:=R.m2;have hUl:U.length<=1000:=A0 (BF F.nd F.sub) R.len;have aV:∀p∈U,0<=p.1/\p.1<AD:=λp hp=>let ⟨a,b,_,_⟩:=R.rg p (F.sub p hp);{a,b};have hkk:=F.k_le RU;have EV:=R.len;have{ws,e1,r1,r2,r3}:=yF3 (L:=LR AD.toNat) (s:=s) (t:=t) (U:=U) (λp hp=>VZ.mpr (by have:=aV p hp;lia)) RU 2000 k (dQ (NG U)) U [] 'L' (yF7 F.nd) F.nd (λ_ h=>h) 'L' F.bal F.src (λw hw=>absurd hw A7) KQ;have C:LaC iF (E7 (ED AD ps) s t) AD (.tup (ps.map E8)) s t U ws:={rfl,{_,_,_,e,yCI U},{R.m1,R.m2,hUl,s0,s1},aV,e1};exact{ws,U,k,N6 (yFV C) rfl,e,r1,r2,by simpa using r3,F,hn}
end
section
variable{AD s t:Int}{ps U:List Pr}{xs:List Int}
theorem zX2(p:Pr):ER (E8 p) (.int 0)=.ok (.int p.1):=rfl
theorem zX3(p:Pr):ER (E8 p) (.int 1)=.ok (.int p.2):=rfl
structure Near(ps U:List Pr)(s t:Int)(xs:List Int):Prop where
 pw:xs.Pairwise (· < ·)
 mem:∀x,x∈xs↔Rc (res ps U) [] s x
theorem Near.nd(N:Near ps U s t xs):xs.Nodup:=N.pw.imp λh=>by lia
theorem Near.src(N:Near ps U s t xs):s∈xs:=(N.mem s).mpr (.refl A7)
theorem Near.eq{k:Int}(N:Near ps U s t xs)(F:Flw ps s t k U)(pn:ps.Nodup)(hn:¬Rc (res ps U) [] s t):k=((O0 ps xs).length:Int) :=F.eq pn N.nd N.src (λz=>hn ((N.mem t).mp z)) λa b ha qG=>(N.mem b).mpr (.step ((N.mem a).mp ha) qG A7)
theorem Jr(R:Rg AD ps)(s0:0<=s)(s1:s<AD)(e:iF [.val (ED AD ps),.val (.int s),.val (.int t)]=.ok (AE,.dt (uK U),.non)) : ∃xs,l9 [.val (ED AD ps),.val (.int s),.val (.int t)]=.ok (AE,.tup ((O0 ps xs).map E8),.non)/\Near ps U s t xs:=by
 have hl:ps.length<10000:=by have:=R.len;lia
 have{xs,e1,pw,mx}:=vO (R.res U) s0 s1;refine{xs,?_,pw,mx};obtain⟨E,hE⟩:∃E:Ev,E=[.val (ED AD ps),.val (.int s),.val (.int t),.val (.tup (xs.map D.int))]:={_,rfl};have hc:=Js iJ uJ (f:=E8) (gi:=KN (g2 ER (AX 0) (gC (.int 1)))) (js:=[3]) (tt:=cM (gB (g2 MM (g2 ER (AX 0) (gC (.int 0))) (AX 1))) (gB (g2 UG (g2 ER (AX 0) (gC (.int 1))) (AX 1)))) (E:=E) (E1:=E) (xs:=ps) (λp=>decide (p.1∈xs)&&decide (p.2∉xs)) [.val (.tup (xs.map D.int))]
  (by rw[hE];rfl) (by rw[hE];rfl) hl (λp hp=>by
   have h1:gB (g2 MM (g2 ER (AX 0) (gC (.int 0))) (AX 1)) [.val (E8 p),.val (.tup (xs.map D.int))]=.ok (decide (p.1∈xs),[.val (E8 p),.val (.tup (xs.map D.int))]):=NL (FC (x:=.int p.1) (y:=.tup (xs.map D.int)) (FC (x:=E8 p) (y:=.int 0) (E:=[.val (E8 p),.val (.tup (xs.map D.int))]) rfl rfl (zX2 p)) rfl (rH p.1 xs));have h2:gB (g2 UG (g2 ER (AX 0) (gC (.int 1))) (AX 1)) [.val (E8 p),.val (.tup (xs.map D.int))]=.ok (decide (p.2∉xs),[.val (E8 p),.val (.tup (xs.map D.int))]):=NL (FC (f:=UG) (x:=.int p.2) (y:=.tup (xs.map D.int)) (d:=.bl (decide (p.2∉xs))) (FC (x:=E8 p) (y:=.int 1) (E:=[.val (E8 p),.val (.tup (xs.map D.int))]) rfl rfl (zX3 p)) rfl (by unfold UG;rw[rH];simp[Out.bind]));by_cases h:p.1∈xs
   .rw[decide_eq_true h] at h1 ⊢;rw[Bool.true_and];exact oD h1 h2
   .rw[decide_eq_false h] at h1 ⊢;exact uS h1) (λu=>by rw[hE];rfl)
 rw[hE] at hc;exact N6 (GN (LL (LO (ds:=[ED AD (res ps U),.int s]) (NA (LO (ds:=[ED AD ps,.dt (uK U)]) (NA (d:=ED AD ps) rfl (JA (LO (ds:=[ED AD ps,.int s,.int t]) rfl e))) (Ra hl)) rfl) e1) rfl) (OR (NS (JA hc) rfl))) rfl
def vY(AD:Int)(ps:List Pr):List Pr:=(ri AD.toNat).map (λx=>(x,x+AD))++ps.map λp=>(p.1+AD,p.2)
def dbl(AD:Int)(ps:List Pr):List Pr:=NG (vY AD ps)
def Yj:D->Int:=λd=>match d with|.int x=>x|_=>0
theorem Rr{h:Int->D}:∀ns:List Int,(ns.map D.int).flatMap (λd=>[h (Yj d)])=ns.map h
 |[]=>rfl
 |n::ns=>by rw[AU,DW,Rr ns];rfl
theorem yIL{gi:GI}{js:List Nat}{ge:G}{E E1:Ev}{ns:List Int}(h:Int->D)(cs:List Sl)(hi:gi E=.ok (ns.map D.int,E1))(hc:VQ 1 js E1=.no::cs)(hl:ns.length<10000) (he:∀x∈ns,ge (.val (.int x)::cs)=.ok (h x,.val (.int x)::cs)) (hb:∀u,V3 E1 (u::cs) 1 js=E1):OE gi 1 js (.nm 0) RN ge E=.ok (.lst (ns.map h),E1):=by
 have:=iA (gi:=gi) (k:=1) (js:=js) (t:=.nm 0) (tt:=RN) (ge:=ge) (E:=E) (E1:=E1) (ds:=ns.map D.int) (λd=>[h (Yj d)]) (λE=>∃u,E=u::cs) hi {_,hc} (by rw[AK];exact hl) (λd hd E hE=>by have{x,hx,rfl}:=BY.mp hd;have{u,rfl}:=hE;exact{_,rfl,AQ,_,rfl,.inl {rfl,_,_,he x hx,rfl,_,rfl}}) (λEc q0=>by have{u,e}:=q0;rw[e];exact hb u);rw[this,Rr]
theorem Qb(m1:1<=AD)(m2:AD<=24)(hl:ps.length<=120):rM [.val (ED AD ps)]=.ok (AE,ED (2 * AD) (dbl AD ps),.non):=by
 obtain⟨A,hA⟩:∃A,A=(ri AD.toNat).map λx=>(x,x+AD):={_,rfl};obtain⟨B,hB⟩:∃B,B=ps.map λp:Pr=>(p.1+AD,p.2):={_,rfl};have hAl:A.length<=24:=by rw[hA,AK,cN];lia
 have hBl:B.length<=120:=by rw[hB,AK];exact hl
 have c1:=yIL (gi:=jL (AX 1)) (js:=[1]) (ge:=IW [(AX 0),(g2 K2 (AX 0) (AX 1))]) (E:=[.val (ED AD ps),.val (.int AD),.val (.tup (ps.map E8)),.no]) (E1:=[.val (ED AD ps),.val (.int AD),.val (.tup (ps.map E8)),.no]) (ns:=ri AD.toNat) (λx=>E8 (x,x+AD)) [.val (.int AD)]
  (by rw[<-Rf];exact Fp rfl {by lia,by lia}) rfl (by rw[cN];lia) (λx hx=>rfl) (λu=>rfl)
 have c2:=zO (fl:=ps) (gi:=KN (AX 2)) (js:=[1]) (ge:=IW [(g2 K2 (AX 0) (AX 2)),(AX 1)]) (E:=[.val (ED AD ps),.val (.int AD),.val (.tup (ps.map E8)),.val (.lst (A.map E8))]) (E1:=[.val (ED AD ps),.val (.int AD),.val (.tup (ps.map E8)),.val (.lst (A.map E8))])
  (λp=>E8 (p.1+AD,p.2)) [.val (.int AD)] rfl rfl 'L' (λp hp=>rfl) (λu v=>rfl)
 have e1:((ri AD.toNat).map λx=>E8 (x,x+AD))=A.map E8:=by rw[hA,DA];rfl
 have e2:(ps.map λp=>E8 (p.1+AD,p.2))=B.map E8:=by rw[hB,DA];rfl
 have e3:dbl AD ps=NG (A++B):=by unfold dbl vY;rw[hA,hB]
 rw[e1] at c1;rw[e2] at c2;rw[e3];refine N6 (GN (LL (d:=ED AD ps) rfl rfl) (GN (LL c1 rfl) (OR (jT (ds:=[.int (2 * AD),.tup ((NG (A++B)).map E8)]) (NA (FC (x:=.int 2) (y:=.int AD) rfl rfl (zL (.inl {by decide,by decide}))) (JA (NS (JA (NS (JA (FC (x:=.lst (A.map E8)) (y:=.lst (B.map E8)) (d:=.lst ((A++B).map E8)) rfl c2 (Jw (by rw[AK,AK];lia) (D0 ..).symm))) (Bp _))) rfl))) (show 2<10000 by decide))))) rfl
theorem SI{p:Pr}:p∈dbl AD ps↔(0<=p.1/\p.1<(AD.toNat:Nat)/\p.2=p.1+AD)\/(p.1-AD,p.2)∈ps:=by
 unfold dbl;rw[(dX _).mem_iff];unfold vY;rw[BR,BY,BY];constructor
 .rintro(⟨x,hx,rfl⟩|⟨q,hq,rfl⟩)
  .have{a,b}:=M1.mp hx;exact .inl {a,b,rfl}
  .refine .inr ?_;rw[show q.1+AD-AD=q.1 by lia];exact hq
 .rintro(⟨a,b,c⟩|h)
  .exact .inl {p.1,M1.mpr {a,b},KO rfl c.symm}
  .exact .inr {_,h,KO (by show p.1-AD+AD=p.1;lia) rfl}
theorem Net.dbl(N:Net AD ps):Rg (2 * AD) (_M.dbl AD ps):=by
 have m1:=N.m1;have m2:=N.m2;refine{by lia,by lia,?_,λp hp=>?_}
 .unfold _M.dbl;rw[(dX _).length_eq];unfold vY;rw[BG,AK,AK,cN];have:=N.len;lia
 .rcases SI.mp hp with⟨a,b,c⟩|h
  .lia
  .have{a,b,c,d,_}:=N.rg _ h;simp only at a b c d;lia
end
section
variable{AD s t:Int}{ps U:List Pr}{xs w:List Int}{ws:List (List Int)}{k:Int}
theorem Qa{α:Type}{f:α->D}(r:D->α)(hr:∀c,r (f c)=c)(h:α->D):∀xs:List α,(xs.map f).flatMap (λd=>[h (r d)])=xs.map h
 |[]=>rfl
 |x::xs=>by rw[AU,DW,Qa r hr h xs,hr];rfl
theorem yIM{α:Type}{f:α->D}(r:D->α)(hr:∀c,r (f c)=c)(h:α->D){gi:GI}{js:List Nat}{ge:G}{E E1:Ev}{xs:List α}(cs:List Sl)(hi:gi E=.ok (xs.map f,E1))(hc:VQ 1 js E1=.no::cs)(hl:xs.length<10000) (he:∀x∈xs,ge (.val (f x)::cs)=.ok (h x,.val (f x)::cs)) (hb:∀u,V3 E1 (u::cs) 1 js=E1):OE gi 1 js (.nm 0) RN ge E=.ok (.lst (xs.map h),E1):=by
 have:=iA (gi:=gi) (k:=1) (js:=js) (t:=.nm 0) (tt:=RN) (ge:=ge) (E:=E) (E1:=E1) (ds:=xs.map f) (λd=>[h (r d)]) (λE=>∃u,E=u::cs) hi {_,hc} (by rw[AK];exact hl) (λd hd E hE=>by have{x,hx,rfl}:=BY.mp hd;have{u,rfl}:=hE;exact{_,rfl,AQ,_,rfl,.inl {rfl,_,_,he x hx,by rw[hr],_,rfl}}) (λEc q0=>by have{u,e}:=q0;rw[e];exact hb u);rw[this,Qa r hr h]
def Yi:D->List Int:=λd=>match d with|.tup ds=>(QH ds).getD []|_=>[]
def aC(w:List Int):D:=.tup (w.map D.int)
theorem yCK(w:List Int):Yi (aC w)=w:=by show(QH (w.map D.int)).getD []=w;rw[Bn];rfl
theorem yCL(h:w.Nodup):(Q0 w).Nodup:=B9.mpr λi j hi hj MR e=>by have e1:=Ag (BD hi);have e2:=Ag (BD hj);rw[e] at e1;have:=tZ h e1.1 e2.1;lia
theorem WayU.len(W:WayU U s t w):w.length<=U.length+1:=by have:=BF (yCL W.nd) W.ln;rw[Gm] at this;lia
theorem Flw.Ulen(F:Flw ps s t k U):U.length<=ps.length:=BF F.nd F.sub
theorem Net.nd(N:Net AD ps):ps.Nodup:=N.pw.imp λh=>yFY h
theorem Net.wo(N:Net AD ps)(p:Pr->Bool):Net AD (ps.filter p):={N.m1,N.m2,A0 (DH _ _) N.len,λq hq=>N.rg q (A4.mp hq).1,N.pw.filter _}
end
section
variable{AD s t:Int}{ps U:List Pr}{xs w:List Int}{ws:List (List Int)}{k:Int}
theorem Pz{w:List Int}{i:Int}{x:Int}(h0:0<=i)(h:w[i.toNat]?=AA x):ER (aC w) (.int i)=.ok (.int x):=Yo (qW h0 (by rw[AY,h];rfl))
end
section
variable{AD s t k:Int}{ps U V:List Pr}{xs ys w:List Int}
theorem zN(N:Net AD ps){p:Pr}(h:p∈dbl AD ps):(0<=p.1/\p.1<AD/\p.2=p.1+AD)\/(AD<=p.1/\p.1<2 * AD/\0<=p.2/\p.2<AD/\(p.1-AD,p.2)∈ps):=by
 have m1:=N.m1;rcases SI.mp h with⟨a,b,c⟩|h
 .exact .inl {a,by lia,c}
 .have{a,b,c,d,_}:=N.rg _ h;simp only at a b c d;exact .inr {by lia,by lia,c,d,h}
theorem Zs(N:Net AD ps){v:Int}(h0:0<=v)(h1:v<AD):(v,v+AD)∈dbl AD ps:=SI.mpr (.inl {h0,by have:=N.m1;simp only;lia,rfl})
theorem Zr{u v:Int}(h:(u,v)∈ps):(u+AD,v)∈dbl AD ps:=SI.mpr (.inr (by simp only;rw[show u+AD-AD=u by lia];exact h))
theorem Cu(N:Net AD ps):(dbl AD ps).Nodup:=by
 have m1:=N.m1;unfold dbl;refine(dX _).nodup_iff.mpr ?_;unfold vY;refine FI.mpr {?_,?_,λa ha b hb z=>?_}
 .exact DE.mpr ((zK _).imp λh z=>h (by injection z))
 .exact DE.mpr (N.nd.imp λh z=>h (KO (by injection z with z1 z2;lia) (by injection z)))
 .have{x,hx,rfl}:=BY.mp ha;have{q,hq,rfl}:=BY.mp hb;have:=(M1.mp hx).2;have:=(N.rg q hq).1;injection z with z1 z2;lia
end
section
variable{AD s t k:Int}{ps U V:List Pr}{xs ys w:List Int}
theorem yIN(N:Net AD ps)(F:Flw (dbl AD ps) (s+AD) t k U){v:Int}(h1:v<AD):zQC U v<=1:=by
 unfold zQC;have:=BF (l₂:=[(v,v+AD)]) (F.nd.filter λp=>decide (p.1=v)) λp hp=>by
  have{hp,e}:=A4.mp hp;have e:=of_decide_eq_true e;rcases zN N (F.sub p hp) with⟨_,_,z⟩|⟨z,_⟩
  .exact AS.mpr (KO e (by rw[z,e]))
  .lia
 exact this
theorem Py(N:Net AD ps)(s0:0<=s)(F:Flw (dbl AD ps) (s+AD) t k U){v:Int}(h1:v<AD)(hv:v≠t):zQC U v=ins U v:=by have:=F.bal v hv;rw[if_neg 'L'] at this;unfold bal at this;lia
theorem yCM{x:Int}{p:Pr}(h:p∈U)(e:p.2=x):1<=ins U x:=YW (A4.mpr {h,decide_eq_true e})
theorem Rq(N:Net AD ps)(s0:0<=s)(F:Flw (dbl AD ps) (s+AD) t k U){a v:Int}(h1:v<AD)(hv:v≠t)(h:(a,v)∈U):(v,v+AD)∈U:=by
 have h2:=yCM h rfl;rw[<-Py N s0 F h1 hv] at h2;have{p,hp}:=List.exists_mem_of_length_pos (show 0<(U.filter λp=>decide (p.1=v)).length from h2);have{hp,e}:=A4.mp hp;have e:=of_decide_eq_true e;rcases zN N (F.sub p hp) with⟨_,_,z⟩|⟨z,_⟩
 .rw[show(v,v+AD)=p from KO e.symm (by rw[z,e])];exact hp
 .lia
theorem yGC(N:Net AD ps)(s0:0<=s)(F:Flw (dbl AD ps) (s+AD) t k U){a b v:Int}(h1:v<AD)(hv:v≠t)(ha:(a,v)∈U)(hb:(b,v)∈U):a=b:=by
 refine BL λSK=>?_;have h2:=yIN N F h1;rw[Py N s0 F h1 hv] at h2;have:=BF (l₁:=[(a,v),(b,v)]) (l₂:=U.filter λp=>decide (p.2=v)) (by simp[SK]) λp hp=>by
  rcases A3.mp hp with rfl|hp
  .exact A4.mpr {ha,decide_eq_true rfl}
  .rw[AS.mp hp];exact A4.mpr {hb,decide_eq_true rfl}
 have h3:2<=ins U v:=this;lia
def blk(AD t:Int)(p:Pr):Int:=(if p.2=t then p.1 else p.2) % AD
structure Cut(AD:Int)(ps:List Pr)(s t:Int)(U:List Pr)(xs:List Int):Prop where
 src:s+AD∈xs
 snk:t∉xs
 back:∀a b,a∈xs->(b,a)∈U->b∈xs
 used:∀p,p∈dbl AD ps->p.1∈xs->p.2∉xs->p∈U
theorem Near.cut(N:Net AD ps)(F:Flw (dbl AD ps) (s+AD) t k U)(R:Near (dbl AD ps) U (s+AD) t xs)(no:¬Rc (res (dbl AD ps) U) [] (s+AD) t):Cut AD ps s t U xs where
 src:=R.src
 snk:=λz=>no ((R.mem t).mp z)
 back:=λa b ha hb=>(R.mem b).mpr (.step ((R.mem a).mp ha) (LP.mpr (.inr {F.sub _ hb,hb})) A7)
 used:=λp hp h1 h2=>BL λhn=>h2 ((R.mem p.2).mpr (.step ((R.mem p.1).mp h1) (LP.mpr (.inl {hp,hn})) A7))
theorem Cut.kind(N:Net AD ps)(s0:0<=s)(t0:0<=t)(t1:t<AD)(C:Cut AD ps s t U xs){p:Pr}(hp:p∈dbl AD ps)(h1:p.1∈xs)(h2:p.2∉xs) : (∃v,p=(v,v+AD)/\0<=v/\v<AD/\blk AD t p=v/\v∈xs)\/(∃u v,p=(u+AD,v)/\(u,v)∈ps/\v≠t/\blk AD t p=v/\v∉xs)\/(∃u,p=(u+AD,t)/\(u,t)∈ps/\blk AD t p=u/\u+AD∈xs):=by
 have m1:=N.m1;have{a,b}:=p;simp only at h1 h2;rcases zN N hp with⟨x,y,z⟩|⟨x,y,z,z',h⟩
 .simp only at x y z;subst z;refine .inl {a,rfl,x,y,?_,h1};unfold blk;simp only;rw[if_neg 'L',MD,IE x y]
 .simp only at x y z z' h;have e:a=(a-AD)+AD:=by lia
  by_cases hb:b=t
  .subst hb;refine .inr (.inr {a-AD,by rw[<-e],h,?_,by rw[<-e];exact h1});unfold blk;rw[if_pos rfl];show a % AD=_;conv=>lhs;rw[e]
   rw[MD,IE 'L' 'L']
  .refine .inr (.inl {a-AD,b,by rw[<-e],h,hb,?_,h2});unfold blk;simp only;rw[if_neg hb,IE z z']
theorem Cut.inj(N:Net AD ps)(s0:0<=s)(t0:0<=t)(t1:t<AD)(F:Flw (dbl AD ps) (s+AD) t k U)(C:Cut AD ps s t U xs){p q:Pr}(hp:p∈O0 (dbl AD ps) xs)(hq:q∈O0 (dbl AD ps) xs)(e:blk AD t p=blk AD t q):p=q:=by
 have{hp,h}:=A4.mp hp;have{hq,h'}:=A4.mp hq;simp only[CP,decide_eq_true_eq] at h h';have up:=C.used p hp h.1 h.2;have uq:=C.used q hq h'.1 h'.2;have lm:∀u v u',(u,v)∈ps->v≠t->(u+AD,v)∈U->v∉xs->v+AD∈xs->u'=v->False:=λu v u' hm hv hU hn hy _=>by have:=(N.rg _ hm);simp only at this;exact hn (C.back _ _ hy (Rq N s0 F 'L' hv hU))
 rcases C.kind N s0 t0 t1 hp h.1 h.2 with⟨v,rfl,v0,v1,b1,m1⟩|⟨u,v,rfl,hm,hv,b1,m1⟩|⟨u,rfl,hm,b1,m1⟩<;>rcases C.kind N s0 t0 t1 hq h'.1 h'.2 with⟨v',rfl,v0',v1',zF,pK⟩|⟨u',v',rfl,hm',hv',zF,pK⟩|⟨u',rfl,hm',zF,pK⟩<;>rw[b1,zF] at e<;>subst e
 .rfl
 .exact absurd m1 pK
 .exact absurd pK h.2
 .exact absurd pK m1
 .have:=(N.rg _ hm);simp only at this;rw[yGC N s0 F 'L' hv up uq]
 .exact(lm u v v hm hv up m1 pK rfl).elim
 .exact absurd m1 h'.2
 .exact(lm u' _ _ hm' hv' uq pK m1 rfl).elim
 .rfl
theorem Cut.ends(N:Net AD ps)(s0:0<=s)(s1:s<AD)(t0:0<=t)(t1:t<AD)(RU:s≠t)(X5:(s,t)∉ps)(F:Flw (dbl AD ps) (s+AD) t k U)(C:Cut AD ps s t U xs){p:Pr}(hp:p∈O0 (dbl AD ps) xs) : 0<=blk AD t p/\blk AD t p<AD/\blk AD t p≠s/\blk AD t p≠t:=by
 have{hp,h}:=A4.mp hp;simp only[CP,decide_eq_true_eq] at h;have up:=C.used p hp h.1 h.2;rcases C.kind N s0 t0 t1 hp h.1 h.2 with⟨v,rfl,v0,v1,b1,m1⟩|⟨u,v,rfl,hm,hv,b1,m1⟩|⟨u,rfl,hm,b1,m1⟩<;>rw[b1]
 .exact{v0,v1,λz=>h.2 (by rw[z];exact C.src),λz=>C.snk (z▸m1)}
 .have r:=N.rg _ hm;simp only at r;refine{r.2.2.1,r.2.2.2.1,λz=>?_,hv};subst z;exact m1 (C.back _ _ C.src (Rq N s0 F r.2.2.2.1 hv up))
 .have r:=N.rg _ hm;simp only at r;exact{r.1,r.2.1,λz=>X5 (z▸hm),r.2.2.2.2}
theorem Cut.step(N:Net AD ps)(s0:0<=s)(t0:0<=t)(t1:t<AD)(X5:(s,t)∉ps)(C:Cut AD ps s t U xs){bs:List Int}(hb:∀p∈O0 (dbl AD ps) xs,blk AD t p∈bs){x b:Int}(hx:x+AD∈xs)(Nb:x=s\/x∉bs)(hl:(x,b)∈ps)(Dz:b∉bs):b+AD∈xs/\b≠t:=by
 have r:=N.rg _ hl;simp only at r;have m1:=N.m1;have inb:b∈xs:=BL λhn=>by
  have hc:(x+AD,b)∈O0 (dbl AD ps) xs:=A4.mpr {Zr hl,by simp only[CP,decide_eq_true_eq];exact{hx,hn}};have:=hb _ hc;unfold blk at this;simp only at this;split at this
  .rename_i e;subst e;rw[MD,IE r.1 r.2.1] at this;rcases Nb with rfl|z
   .exact X5 hl
   .exact z this
  .rw[IE r.2.2.1 r.2.2.2.1] at this;exact Dz this
 refine{BL λhn=>?_,λz=>C.snk (z▸inb)};have hc:(b,b+AD)∈O0 (dbl AD ps) xs:=A4.mpr {Zs N r.2.2.1 r.2.2.2.1,by simp only[CP,decide_eq_true_eq];exact{inb,hn}};have:=hb _ hc;unfold blk at this;simp only at this;rw[if_neg 'L',MD,IE r.2.2.1 r.2.2.2.1] at this;exact Dz this
end
section
variable{AD s t k:Int}{ps qs U V:List Pr}{xs ys w:List Int}{ws:List (List Int)}
abbrev low(AD:Int)(w:List Int):List Int:=w.filter λx=>decide (x<AD)
end
section
variable{AD s t k:Int}{ps qs U V:List Pr}{xs ys w bs:List Int}{ws:List (List Int)}
structure WA(AD:Int)(ps:List Pr)(s t:Int)(ws:List (List Int))(U:List Pr)(k:Int):Prop where
 wa:iG [.val (ED AD ps),.val (.int s),.val (.int t)]=.ok (AE,aH (ws.map λw=>s::low AD w),.non)
 um:iF [.val (ED (2 * AD) (dbl AD ps)),.val (.int (s+AD)),.val (.int t)]=.ok (AE,.dt (uK U),.non)
 A:Apart (2 * AD) (dbl AD ps) (s+AD) t ws U k
theorem Rp(N:Net AD ps)(s0:0<=s)(s1:s<AD)(t0:0<=t)(t1:t<AD):∃ws U k,WA AD ps s t ws U k:=by
 have m1:=N.m1;have m2:=N.m2;have RD:=N.dbl;have{ws,V,k,e,eu,A}:=yF8 (s:=s+AD) (t:=t) RD 'L' 'L' t0 'L' 'L';have hVl:=A.flw.Ulen;have tQ:=RD.len;have hkl:=A.flw.k_le 'L';have EV:=A.len;have hc:=yIM Yi yCK (λw=>.tup (.int s::(w.filter λx=>decide (x<AD)).map D.int)) (gi:=KN (AX 4)) (js:=[1,3]) (ge:=g2 K2 (IW [(AX 1)]) (gN TY [(OE (KN (AX 0)) 1 [2] (.nm 0) (gB (g2 Y9 (AX 0) (AX 1))) (AX 0))]))
  (E:=[.val (ED AD ps),.val (.int s),.val (.int t),.val (.int AD),.val (aH ws)]) (E1:=[.val (ED AD ps),.val (.int s),.val (.int t),.val (.int AD),.val (aH ws)]) (xs:=ws) [.val (.int s),.val (.int AD)] rfl rfl 'L' (λw hw=>by have Dn:=(A.ways w hw).len;have ci:=Bc (gi:=KN (AX 0)) (js:=[2]) (tt:=gB (g2 Y9 (AX 0) (AX 1))) (E:=[.val (aC w),.val (.int s),.val (.int AD)]) (E1:=[.val (aC w),.val (.int s),.val (.int AD)]) (ns:=w) (λx=>decide (x<AD)) [.val (.int AD)] rfl rfl 'L' (λx _=>rfl) (λu=>rfl);refine FC (x:=.tup [.int s]) (y:=.tup ((w.filter λx=>decide (x<AD)).map D.int)) rfl (NS (JA ci) rfl) ?_;show T4 _ _=_;have:=DH (λx=>decide (x<AD)) w;rw[dR (by simp only[AK,A8,GK];lia)];rfl) (λu=>rfl)
 refine{ws,V,k,?_,eu,A};have:iG [.val (ED AD ps),.val (.int s),.val (.int t)]=.ok (AE,.tup (ws.map λw=>.tup (.int s::(w.filter λx=>decide (x<AD)).map D.int)),.non):=N6 (GN (LL (FC (x:=ED AD ps) (y:=.int 0) (d:=.int AD) rfl rfl rfl) rfl) (GN (LL (LO (ds:=[ED (2 * AD) (dbl AD ps),.int (s+AD),.int t]) (NA (LO (ds:=[ED AD ps]) rfl (Qb m1 m2 N.len)) rfl) e) rfl) (OR (NS (JA hc) rfl)))) rfl;refine Eq.trans this ?_;unfold aH;rw[DA];rfl
theorem WA.wlen(N:Net AD ps)(s0:0<=s)(s1:s<AD)(t1:t<AD)(X:WA AD ps s t ws U k):ws.length<=1000/\(∀w∈ws,w.length<=1001)/\0<=k:=by have m1:=N.m1;have tQ:=N.dbl.len;have hVl:=X.A.flw.Ulen;have hkl:=X.A.flw.k_le 'L';have EV:=X.A.len;exact{by lia,λw hw=>by have:=(X.A.ways w hw).len;lia,hkl.2}
theorem Zq(N:Net AD ps)(s0:0<=s)(s1:s<AD)(t0:0<=t)(t1:t<AD)(RU:s≠t)(X5:(s,t)∉ps)(X:WA AD ps s t ws U k):∃(xs bs:List Int),oO [.val (ED AD ps),.val (.int s),.val (.int t)]=.ok (AE,.tup (bs.map D.int),.non) /\ Cut AD ps s t U xs/\(∀p∈O0 (dbl AD ps) xs,blk AD t p∈bs)/\bs.Nodup/\bs.Pairwise (·<=·)/\(bs.length:Int)=k/\∀b∈bs,0<=b/\b<AD/\b≠s/\b≠t:=by
 have m1:=N.m1;have m2:=N.m2;have RD:=N.dbl;have tQ:=RD.len;have{xs,eb,Q}:=Jr (t:=t) RD 'L' 'L' X.um;have C:=Q.cut N X.A.flw X.A.no;have hk:=Q.eq X.A.flw (Cu N) X.A.no;obtain⟨cs,Q8⟩:∃cs,cs=O0 (dbl AD ps) xs:={_,rfl};rw[<-Q8] at eb hk;have tR:cs.length<=(dbl AD ps).length:=by rw[Q8];exact DH _ _
 have nd:(cs.map (blk AD t)).Nodup:=by
  refine DE.mpr ?_;have hn:cs.Nodup:=by rw[Q8];exact(Cu N).filter _
  refine RG.mpr λ{a b} h e=>?_;have ha:a∈cs:=h.subset AZ;have hb:b∈cs:=h.subset (A2 _ AZ);exact RG.mp hn h (C.inj N s0 t0 t1 X.A.flw (Q8▸ha) (Q8▸hb) e)
 have pm:=Wv (cs.map (blk AD t));refine{xs,lL (cs.map (blk AD t)),?_,C,λp hp=>pm.mem_iff.mpr (BY.mpr {p,by rw[Q8];exact hp,rfl}),pm.nodup_iff.mpr nd,Ud _,by rw[pm.length_eq,AK,hk],λb hb=>?_}
 .obtain⟨E,hE⟩:∃E:Ev,E=[.val (ED AD ps),.val (.int s),.val (.int t),.val (.int AD),.val (.tup (ps.map E8)),.val (.tup (cs.map E8))]:={_,rfl};have c:=zO (fl:=cs) (gi:=KN (AX 5)) (js:=[2,3]) (ge:=g2 TZ (wG (gB (g2 RP (AX 1) (AX 2))) (AX 0) (AX 1)) (AX 3)) (E:=E) (E1:=E) (λp=>.int (blk AD t p)) [.val (.int t),.val (.int AD)] (oH (by rw[hE];rfl)) (by rw[hE];rfl) 'L' (λp hp=>by
   refine FC (E1:=[.val (.int p.1),.val (.int p.2),.val (.int t),.val (.int AD)]) (x:=.int (if p.2=t then p.1 else p.2)) (y:=.int AD) ?_ rfl (lK 'L');refine HW (a:=(decide (p.2=t),[.val (.int p.1),.val (.int p.2),.val (.int t),.val (.int AD)])) (NL (FC (x:=.int p.2) (y:=.int t) rfl rfl (Au _ _))) ?_;by_cases h:p.2=t
   .simp only[h,decide_true,if_true];rfl
   .simp only[h,decide_false,if_false,L1];rfl) (λu v=>by rw[hE];rfl)
  have e2:(cs.map λp=>D.int (blk AD t p))=(cs.map (blk AD t)).map D.int:=by rw[DA];rfl
  rw[e2] at c;refine N6 (E':=E) (GN (E1:=[.val (ED AD ps),.val (.int s),.val (.int t),.val (.int AD),.val (.tup (ps.map E8)),.no]) (LL (d:=ED AD ps) rfl rfl) (GN (SY (NL (FC (x:=E8 (s,t)) (y:=.tup (ps.map E8)) rfl rfl (by rw[vK,decide_eq_false X5]))) rfl) (GN (E1:=E) (LL (LO (ds:=[ED (2 * AD) (dbl AD ps),.int (s+AD),.int t]) (NA (LO (ds:=[ED AD ps]) rfl (Qb m1 m2 N.len)) rfl) eb) (by rw[hE];rfl)) (OR (NS (JA (NS (JA c) (zRA _))) rfl))))) (by rw[hE];rfl)
 .have{p,hp,rfl}:=BY.mp (pm.mem_iff.mp hb);exact C.ends N s0 s1 t0 t1 RU X5 X.A.flw (Q8▸hp)
end
section
variable{ps:List (Int×Int)}{cl:List Int}{g x a b c:Int}
theorem Rc.st(h:Rc ps cl g x):g∉cl:=by
 induction h with
 |refl h=>exact h
 |step _ _ _ ih=>exact ih
theorem U4(h:a≠b):a∉[b]:=λz=>h (AS.mp z)
theorem Rc.by(b:Int)(h:Rc ps cl g x):Rc ps [b] g x\/Rc ps cl g b:=by
 induction h with
 |refl h =>
  by_cases e:g=b
  .exact .inr (by rw[<-e];exact .refl h)
  .exact .inl (.refl (U4 e))
 |@step x y h e c ih =>
  rcases ih with ih|ih
  .by_cases eb:y=b
   .exact .inr (by rw[<-eb];exact .step h e c)
   .exact .inl (.step ih e (U4 eb))
  .exact .inr ih
def Dom(ps:List (Int×Int))(g c x:Int):Prop:=Rc ps [] g x/\¬Rc ps [c] g x
theorem Dom.refl(h:Rc ps [] g x):Dom ps g x x:={h,λz=>z.ne AZ}
theorem Dom.gate(h:Rc ps [] g x):Dom ps g g x:={h,λz=>z.st AZ}
theorem Dom.rc(h:Dom ps g c x):Rc ps [] g c:=(h.1.by c).resolve_left h.2
theorem Dom.trans(h1:Dom ps g a b)(h2:Dom ps g b c):Dom ps g a c:={h2.1,λz=>(z.by b).elim h2.2 h1.2}
theorem Dom.anti(h1:Dom ps g a b)(h2:Dom ps g b a):a=b:=BL λne=>by
 have KE:∀x,Rc ps [] g x->Rc ps [a,b] g x:=λx h=>by
  have two:∀y:Int,y≠a->y≠b->y∉[a,b]:=λy p q z=>by simp only[A3,A7,or_false] at z;exact z.elim p q
  induction h with
  |refl _ =>
   refine .refl (two g (λe=>h2.2 ?_) (λe=>h1.2 ?_))
   .rw[<-e];exact .refl (U4 (by rw[e];exact ne))
   .rw[<-e];exact .refl (U4 (by rw[e];exact CT ne))
  |@step x y _ e _ ih =>
   refine .step ih e (two y (λq=>h2.2 ?_) (λq=>h1.2 ?_))
   .rw[<-q];exact .step (ih.mono 'S') e (U4 (by rw[q];exact ne))
   .rw[<-q];exact .step (ih.mono 'S') e (U4 (by rw[q];exact CT ne))
 exact(KE a h2.1).ne AZ
theorem Dom.lin(h1:Dom ps g a x)(h2:Dom ps g b x):Dom ps g a b\/Dom ps g b a:=by
 by_cases e:Rc ps [a] g b
 .refine .inr {h1.rc,λz=>?_};have ne:a≠b:=λq=>e.ne (by rw[q];exact AZ);have KE:∀x,Rc ps [] g x->Rc ps [a] g x\/Rc ps [b] g x:=λx h=>by
   induction h with
   |refl _ =>
    by_cases q:g=a
    .exact .inr (.refl (U4 (by rw[q];exact ne)))
    .exact .inl (.refl (U4 q))
   |@step x y _ e' _ ih =>
    rcases ih with ih|ih
    .by_cases q:y=a
     .exact .inr (by rw[q];exact z)
     .exact .inl (.step ih e' (U4 q))
    .by_cases q:y=b
     .exact .inl (by rw[q];exact e)
     .exact .inr (.step ih e' (U4 q))
  exact(KE x h1.1).elim h1.2 h2.2
 .exact .inl {h2.rc,e}
theorem Xi{p q:Int->Bool}:∀{l:List Int},(∀x∈l,p x=AQ->q x=AQ)->(l.filter p).length<=(l.filter q).length
 |[],_=>AM _
 |x::l,h=>by
  have ih:=Xi (l:=l) λy hy=>h y (A2 _ hy);have hx:=h x AZ;rw[D2,D2];split
  .rename_i e;rw[if_pos (hx e)];simp only[A8];lia
  .split
   .simp only[A8];lia
   .exact ih
theorem Hv{p q:Int->Bool}{y:Int}(hq:q y=AQ)(hp:¬p y=AQ):∀{l:List Int},(∀x∈l,p x=AQ->q x=AQ)->y∈l->(l.filter p).length<(l.filter q).length
 |x::l,h,hy=>by
  have cT:=Xi (l:=l) λy hy=>h y (A2 _ hy);have hx:=h x AZ;rw[D2,D2];rcases A3.mp hy with e|hy
  .subst e;rw[if_neg hp,if_pos hq];simp only[A8];lia
  .have ih:=Hv hq hp (l:=l) (λy hy=>h y (A2 _ hy)) hy;split
   .rename_i e;rw[if_pos (hx e)];simp only[A8];lia
   .split
    .simp only[A8];lia
    .exact ih
structure All(ps:List (Int×Int))(g:Int)(L:List Int):Prop where
 nd:L.Nodup
 mem:∀x,x∈L↔Rc ps [] g x
noncomputable instance domDec (ps:List (Int×Int)) (g c x:Int):Decidable (Dom ps g c x):=UB _
noncomputable def mu(ps:List (Int×Int))(g:Int)(L:List Int)(x:Int):List Int:=L.filter λc=>decide (Dom ps g c x)
noncomputable def cu(ps:List (Int×Int))(g:Int)(L:List Int)(c:Int):List Int:=L.filter λx=>decide (Dom ps g c x)
variable{L zs zs':List Int}{p h:Int}
theorem z7(A:All ps g L):c∈mu ps g L x↔Dom ps g c x:=by unfold mu;rw[A4,decide_eq_true_eq,A.mem];exact{λz=>z.2,λz=>{z.rc,z}}
theorem yGE(A:All ps g L):x∈cu ps g L c↔Dom ps g c x:=by unfold cu;rw[A4,decide_eq_true_eq,A.mem];exact{λz=>z.2,λz=>{z.1,z}}
theorem nV(A:All ps g L)(d:Dom ps g a b)(ne:a≠b):(mu ps g L a).length<(mu ps g L b).length:=by refine Hv (y:=b) (decide_eq_true (Dom.refl d.1)) (λz=>ne (d.anti (of_decide_eq_true z))) (λx _ z=>decide_eq_true ((of_decide_eq_true z:Dom ps g x a).trans d)) ((A.mem b).mpr d.1)
theorem yIO(A:All ps g L)(d:Dom ps g a b)(ne:a≠b):(cu ps g L b).length<(cu ps g L a).length:=by refine Hv (y:=a) (decide_eq_true (Dom.refl d.rc)) (λz=>ne (d.anti (of_decide_eq_true z))) (λx _ z=>decide_eq_true (d.trans (of_decide_eq_true z:Dom ps g b x))) ((A.mem a).mpr d.rc)
structure Srt(ps:List (Int×Int))(g:Int)(L:List Int)(x:Int)(zs:List Int):Prop where
 pm:zs.Perm (mu ps g L x)
 pw:zs.Pairwise λa b=>(mu ps g L a).length<(mu ps g L b).length
theorem Srt.mem(A:All ps g L)(S:Srt ps g L x zs):c∈zs↔Dom ps g c x:=by rw[S.pm.mem_iff,z7 A]
theorem Srt.uniq(S:Srt ps g L x zs)(S':Srt ps g L x zs'):zs=zs' :=LH (le:=λa b=>(mu ps g L a).length<(mu ps g L b).length) (λa b _ _ h1 h2=>by lia) S.pw S'.pw (S.pm.trans S'.pm.symm)
theorem Ro(h1:zs.Nodup)(A:All ps g L)(h:∀c,c∈zs↔Dom ps g c x):zs.Perm (mu ps g L x) :=(LX h1 (A.nd.filter _)).mpr λc=>by rw[h];exact(z7 A).symm
theorem Ba(h:Dom ps g c g):c=g:=h.anti (Dom.gate h.rc)
theorem Srt.gate(A:All ps g L)(hg:Rc ps [] g g):Srt ps g L g [g] :={Ro (EZ.mpr {by simp,G5}) A λc=>by rw[AS];exact{λz=>by rw[z];exact .refl hg,Ba},JM _ _}
structure IsH(ps:List (Int×Int))(g p h:Int):Prop where
 dom:Dom ps g h p
 ne:h≠p
 last:∀c,Dom ps g c p->c≠p->Dom ps g c h
theorem IsH.uniq{h':Int}(I:IsH ps g p h)(I':IsH ps g p h'):h=h':=(I'.last h I.dom I.ne).anti (I.last h' I'.dom I'.ne)
theorem Srt.nodup(S:Srt ps g L x zs):zs.Nodup:=S.pw.imp λh e=>by rw[e] at h;lia
theorem Srt.snoc(A:All ps g L)(I:IsH ps g p h)(S:Srt ps g L h zs):Srt ps g L p (zs++[p]):=by
 have hp:p∉zs:=λz=>I.ne (I.dom.anti ((S.mem A).mp z));refine{Ro (FI.mpr {S.nodup,EZ.mpr {by simp,G5},λa ha b hb e=>hp (by rw[<-AS.mp hb,<-e];exact ha)}) A λc=>?_,FR.mpr {S.pw,JM _ _,λa ha b hb=>?_}}
 .rw[BR,AS,S.mem A];constructor
  .rintro(z|z)
   .exact z.trans I.dom
   .rw[z];exact .refl I.dom.1
  .intro z;by_cases e:c=p
   .exact .inr e
   .exact .inl (I.last c z e)
 .rw[AS.mp hb];exact nV A (((S.mem A).mp ha).trans I.dom) λe=>hp (by rw[<-e];exact ha)
theorem Srt.last(A:All ps g L)(S:Srt ps g L p zs)(hp:Rc ps [] g p)(ne:p≠g):∃pre h,zs=pre++[h,p]/\IsH ps g p h:=by
 have{pre,post,e}:=dJ ((S.mem A).mpr (Dom.refl hp));have pw:=S.pw;rw[e,FR] at pw;have{w1,w2,w3}:=pw;rw[LY] at w2;have xW:post=[]:=by
  cases post with
  |nil=>rfl
  |cons c post =>
   exfalso;have h1:=w2.1 c AZ;have hc:Dom ps g c p:=(S.mem A).mp (by rw[e];simp);by_cases q:c=p
   .rw[q] at h1;lia
   .have:=nV A hc q;lia
 subst xW;rcases List.eq_nil_or_concat pre with UK|⟨wU,h,UK⟩
 .exfalso;have:=(S.mem A).mpr (Dom.gate hp);rw[e,UK] at this;exact ne (AS.mp this).symm
 .have UK:pre=wU++[h]:=by simpa using UK
  subst UK;refine{wU,h,by rw[e];simp,{(S.mem A).mp (by rw[e];simp),λq=>?_,λc hc q=>?_}}
  .have:=w3 h 'S' p AZ;rw[q] at this;lia
  .have hh:Dom ps g h p:=(S.mem A).mp (by rw[e];simp);have hcm:=(S.mem A).mpr hc;rw[e,BR,BR,AS,AS] at hcm;rcases hcm with(hcm|hcm)|hcm
   .have lt:=(FR.mp w1).2.2 c hcm h AZ;rcases hc.lin hh with z|z
    .exact z
    .by_cases q2:h=c
     .rw[q2] at lt;lia
     .have:=nV A z q2;lia
   .rw[hcm];exact .refl hh.rc
   .exact absurd hcm q
open Classical in
noncomputable def oS(ps:List (Int×Int))(g p:Int):Int:=if h:∃h,IsH ps g p h then h.choose else g
theorem Rn(I:IsH ps g p h):oS ps g p=h:=by have e:∃h,IsH ps g p h:={h,I};unfold oS;rw[dif_pos e];exact e.choose_spec.uniq I
theorem Vk:oS ps g g=g:=by unfold oS;rw[dif_neg];intro zz';have{h,I}:=zz';exact I.ne (Ba I.dom)
noncomputable def g8(ps:List (Int×Int))(g b:Int)(zs:List Int):Option Int:=zs.foldl (λB0 c=>if Dom ps g c b/\b≠c then AA c else B0) AL
theorem Xh:g8 ps g b (zs++[c])=if Dom ps g c b/\b≠c then AA c else g8 ps g b zs:=by unfold g8;rw[gS];rfl
theorem Ga:∀{ys:List Int} {B0:Option Int},(∀c∈ys,¬(Dom ps g c b/\b≠c))->ys.foldl (λB0 c=>if Dom ps g c b/\b≠c then AA c else B0) B0=B0
 |[],_,_=>rfl
 |c::ys,B0,h=>by rw[N4,if_neg (h c AZ)];exact Ga λd hd=>h d (A2 _ hd)
theorem Xg(h:∀c∈zs,¬(Dom ps g c b/\b≠c)):g8 ps g b zs=AL:=Ga h
theorem zUZ{ys:List Int}(h:∀c∈ys,¬(Dom ps g c b/\b≠c)):g8 ps g b (zs++ys)=g8 ps g b zs:=by unfold g8;rw[gS];exact Ga h
theorem zRJ(A:All ps g L)(pm:zs.Perm L)(pw:zs.Pairwise λa b=>(cu ps g L b).length<=(cu ps g L a).length)(I:IsH ps g b h):g8 ps g b zs=AA h:=by have{pre,post,e}:=dJ (pm.mem_iff.mpr ((A.mem h).mpr I.dom.rc));have nd:zs.Nodup:=pm.nodup_iff.mpr A.nd;rw[e,show pre++h::post=(pre++[h])++post by simp,zUZ,Xh,if_pos {I.dom,CT I.ne}];intro c hc zz';have{d,ne}:=zz';rw[e,FR,LY] at pw;rw[e,FI,EZ] at nd;have h1:=pw.2.1.1 c hc;have:=yIO A (I.last c d (CT ne)) (λq=>nd.2.1.1 (by rw[<-q];exact hc));lia
end
section
variable{AD C8 c:Int}{ps:List (Int×Int)}
theorem Px(R:Rg AD ps)(h0:0<=C8)(h1:C8<AD)(hc:Rc ps [] C8 c):∃xs:List Int,oP [.val (ED AD ps),.val (.int C8),.val (.int c)]=.ok (AE,.tup (xs.map D.int),.non)/\xs.Nodup/\∀x,x∈xs↔Dom ps C8 c x:=by
 have{xs,e1,p1,m1}:=vO (start:=C8) R h0 h1;have{ys,e2,p2,m2}:=Ah (cl:=[c]) (start:=C8) R h0 h1;have aS:=R.m2;have nx:xs.Nodup:=p1.imp λe=>Z9 e;have hl:xs.length<10000:=by have:=BF (l₂:=ri AD.toNat) nx λx hx=>M1.mpr (by have:=((m1 x).mp hx).range R h0 h1;lia);rw[cN] at this;lia
 refine{xs.filter λx=>decide (x∉ys),?_,nx.filter _,λx=>?_}
 .have X7:=Bc (gi:=KN (AX 3)) (js:=[4]) (tt:=gB (g2 UG (AX 0) (AX 1))) (E:=[.val (ED AD ps),.val (.int C8),.val (.int c),.val (.tup (xs.map D.int)),.val (.tup (ys.map D.int))]) (E1:=[.val (ED AD ps),.val (.int C8),.val (.int c),.val (.tup (xs.map D.int)),.val (.tup (ys.map D.int))]) (λx=>decide (x∉ys)) [.val (.tup (ys.map D.int))] rfl rfl hl
   (λx _=>NL (FC (x:=.int x) (y:=.tup (ys.map D.int)) rfl rfl (Bm x ys))) λu=>rfl
  have t1:gB (g2 UG (AX 2) (AX 3)) [.val (ED AD ps),.val (.int C8),.val (.int c),.val (.tup (xs.map D.int)),.no]=.ok (AE,[.val (ED AD ps),.val (.int C8),.val (.int c),.val (.tup (xs.map D.int)),.no]) :=
   NL (FC (x:=.int c) (y:=.tup (xs.map D.int)) rfl rfl (by rw[Bm,decide_eq_false (λz=>z ((m1 c).mpr hc))]))
  exact N6 (GN (LL (LO (ds:=[ED AD ps,.int C8]) rfl e1) rfl) (GN (SY t1 rfl) (GN (LL (LO (ds:=[ED AD ps,.int C8,.tup [.int c]]) rfl e2) rfl) (OR (NS (JA X7) rfl))))) rfl
 .rw[A4,m1,decide_eq_true_eq,m2];rfl
def YR(f:Int->D)(L:List Int):List (Key×D):=L.map λp=>(C1 p,f p)
theorem Tu{f:Int->D}{p:Int}:∀{L:List Int},p∈L->UE (YR f L) (.inl p)=AA (f p)
 |x::L,h=>by
  unfold UE YR;rw[AU,T8];by_cases e:x=p
  .subst e;simp
  .have:decide ((C1 x:Key)=C1 p)=AE:=decide_eq_false λz=>e (N2 z);simp only[this];exact Tu (L:=L) ((A3.mp h).resolve_left (CT e))
theorem zX5{f:Int->D}{p:Int}{L:List Int}(h:p∉L):UD (YR f L) (.inl p) (f p)=YR f (L++[p]):=by
 unfold UD YR;rw[if_neg,D0]
 .rfl
 .simp only[RI,IQ,OL,decide_eq_true_eq,not_exists,not_and];exact λq hq z=>h (N2 z▸hq)
theorem zX6{f:Int->D}{L:List Int}:(YR f L).map (λkv=>oV kv.1)=L.map D.int:=by unfold YR;rw[DA];rfl
theorem Pw{gv:G}(f:Int->D)(cs:List Sl):∀{ns B0:List Int} {u:Sl},(B0++ns).Nodup->(B0++ns).length<10000->(∀x∈ns,gv (.val (.int x)::cs)=.ok (f x,.val (.int x)::cs)) ->∃u',aD (.nm 0) RN (qX (AX 0) gv) (ns.map D.int) (.dk (YR f B0)) (u::cs)=.ok (.dk (YR f (B0++ns)),u'::cs)
 |[],B0,u,_,_,_=>{u,by rw[E4];rfl}
 |x::ns,B0,u,nd,hl,hv=>by
  have hx:x∉B0:=λz=>(FI.mp nd).2.2 x z x AZ rfl;have hla:(YR f B0).length<10000:=by unfold YR;rw[AK];rw[BG] at hl;lia
  have{u',e}:=Pw f cs (ns:=ns) (B0:=B0++[x]) (u:=.val (.int x)) (by rw[C0];exact nd) (by rw[C0];exact hl) λy hy=>hv y (A2 _ hy);refine{u',?_};rw[C0] at e;have ge:qX (AX 0) gv (.dk (YR f B0)) (.val (.int x)::cs)=.ok (.dk (YR f (B0++[x])),.val (.int x)::cs):=by refine HW (a:=(.int x,.val (.int x)::cs)) rfl (HW (hv x AZ) ?_);show T4 (YR f B0).length (Out.ok (D.dk (UD (YR f B0) (.inl x) (f x)),Sl.val (.int x)::cs))=_;rw[dR hla,zX5 hx]
  rw[AU,aD];refine HW (a:=.val (.int x)::cs) rfl (HW (a:=(AQ,.val (.int x)::cs)) rfl ?_);show(if AQ=AQ then _ else _)=_;rw[if_pos rfl];exact HW ge e
theorem Sg{ge:G}{ds:List D}(k:Int->Int):∀{cs:List Int},(∀c∈cs,ge (.val (.int c)::ds.map .val)=.ok (.int (k c),.val (.int c)::ds.map .val))->jH ge ds (cs.map D.int)=.ok (cs.map k)
 |[],_=>rfl
 |c::cs,h=>by rw[AU,jH];exact HW (a:=k c) (HW (h c AZ) rfl) (HW (Sg k λd hd=>h d (A2 _ hd)) rfl)
theorem zX7{gl ge:G}{js:List Nat}{E E1:Ev}{cs:List Int}{ds:List D}(k:Int->Int)(hl:gl E=.ok (.lst (cs.map D.int),E1))(hv:valsJ (shareJ js E1) js=AA ds)(hn:cs.length<64) (hk:∀c∈cs,ge (.val (.int c)::ds.map .val)=.ok (.int (k c),.val (.int c)::ds.map .val)):z8 gl js ge E=.ok ((cs.map D.int,cs.map k),shareJ js E1):=by refine HW hl ?_;show(match D.lst (cs.map D.int),valsJ (shareJ js E1) js with|.lst ys,AA ds=>if ys.length<64 then(jH ge ds ys).bind λkz=>.ok ((ys,kz),shareJ js E1) else .bad|_,_=>.bad)=_;rw[hv];show(if(cs.map D.int).length<64 then(jH ge ds (cs.map D.int)).bind λkz=>Out.ok ((cs.map D.int,kz),shareJ js E1) else .bad)=_;rw[if_pos (by rw[AK];exact hn)];exact HW (Sg k hk) rfl
theorem Gk{α β γ:Type}(f:α->β)(h:α->γ):∀l:List α,(l.map f).zip (l.map h)=l.map λx=>(f x,h x)
 |[]=>rfl
 |x::l=>by rw[AU,AU,QC,Gk f h l];rfl
theorem zU1{k:Int->Int}{cs:List Int}{qs:List (Int×D)}(h:oX (cs.map k) (cs.map D.int) qs):∃zs:List Int,qs=zs.map (λc=>(k c,D.int c))/\zs.Perm cs/\zs.Pairwise λa b=>k a<=k b:=by
 have{pm,pw}:=h;rw[Gk] at pm;have un:∀q∈qs,q=(k (match q.2 with|.int c=>c|_=>0),D.int (match q.2 with|.int c=>c|_=>0)):=λq hq=>by have{c,_,rfl}:=BY.mp (pm.mem_iff.mp hq);rfl
 have e:qs=(qs.map λq=>match q.2 with|.int c=>c|_=>0).map (λc=>(k c,D.int c)):=by rw[DA];exact((K9 λq hq=>(un q hq).symm).trans (bB _)).symm
 refine{_,e,?_,?_}
 .have:=pm.map (λq:Int×D=>match q.2 with|.int c=>c|_=>0);rw[DA] at this;exact this.trans (by rw[show((λq:Int×D=>match q.2 with|.int c=>c|_=>0)∘λc=>(k c,D.int c))=id from rfl,bB])
 .rw[e,DE] at pw;exact pw
end
def SH(n:Nat)(φ:Int->Option Int):List D:=(ri n).map λb=>LK (φ b)
theorem yCO(n:Nat)(φ:Int->Option Int):(SH n φ).length=n:=by unfold SH;rw[AK,cN]
theorem Zp{n j:Nat}(h:j<n):(ri n)[j]?=AA (j:Int):=by unfold ri;rw[AY,LA h];simp
theorem yCP{n:Nat}{φ:Int->Option Int}{b:Int}(h0:0<=b)(h1:b<n):atI (SH n φ) b=AA (LK (φ b)):=by refine qW h0 ?_;unfold SH;rw[AY,Zp 'L'];simp only[I9];rw[show((b.toNat:Nat):Int)=b by lia]
theorem yCQ{AD:Int}(h0:0<=AD)(h1:AD<=100):jF (.lst [.non]) (.int AD)=.ok (.lst (SH AD.toNat λ_=>AL)):=by
 have e:(BP AD.toNat [D.non]).flatten=SH AD.toNat λ_=>AL:=by
  unfold SH ri;rw[DA];generalize AD.toNat=n;induction n with
  |zero=>rfl
  |succ n ih=>rw[T6,D0,<-ih,List.replicate_succ',List.flatten_append];rfl
 simp only[jF,_L.guard];rw[if_pos {by lia,by lia,by simp;lia},e]
theorem Sf{n:Nat}{φ:Int->Option Int}{b c:Int}(h0:0<=b)(h1:b<n):sC (.lst (SH n φ)) (.int b) (.int c)=.ok (.lst (SH n λx=>if x=b then AA c else φ x)):=by
 rw[Jv (j:=b.toNat) (by rw[yCO];exact Ez h0 h1)];congr 2;refine RH λj=>?_;rw[List.getElem?_set];unfold SH;rw[AY,AY,AK,cN];by_cases hj:j<n
 .rw[Zp hj];by_cases e:b.toNat=j
  .have:(j:Int)=b:=by lia
   simp[e,hj,this,LK]
  .have:¬(j:Int)=b:=by lia
   simp[e,this]
 .have:(ri n)[j]?=AL:=Z8 (by rw[cN];lia);rw[this];by_cases e:b.toNat=j
  .lia
  .simp[e]
theorem Tt(φ:Int->Option Int):∀l:List Int,pA9 (l.map λb=>LK (φ b))=AQ/\pAA (l.map λb=>LK (φ b))=AQ
 |[]=>by simp[pA9,pAA]
 |b::l=>by have{h1,h2}:=Tt φ l;rw[AU,pA9,pAA,h1,h2];cases φ b<;>simp[LK,D.flat,D.nod]
section
variable{ps:List (Int×Int)}{g:Int}{L:List Int}{p:Int}
def MF(ps:List (Int×Int))(g:Int)(L:List Int)(p:Int):List Int:=(mu ps g L p).mergeSort λa b=>decide ((mu ps g L a).length<=(mu ps g L b).length)
theorem dU(A:All ps g L):Srt ps g L p (MF ps g L p):=by
 have pm:(MF ps g L p).Perm (mu ps g L p):=K8 _ _;have nd:(MF ps g L p).Nodup:=pm.nodup_iff.mpr (A.nd.filter _);have pw:=JN (le:=λa b=>decide ((mu ps g L a).length<=(mu ps g L b).length)) (λa b c h1 h2=>decide_eq_true (A0 (of_decide_eq_true h1) (of_decide_eq_true h2)))
  (λa b=>by rcases Nat.le_total (mu ps g L a).length (mu ps g L b).length with h|h<;>simp[h]) (mu ps g L p)
 refine{pm,(pw.and nd).imp_of_mem λ{a b} ha hb h=>?_};have h1:=of_decide_eq_true h.1;have da:=(z7 A).mp (pm.mem_iff.mp ha);have db:=(z7 A).mp (pm.mem_iff.mp hb);rcases da.lin db with z|z
 .exact nV A z h.2
 .have:=nV A z (CT h.2);lia
theorem Vj(A:All ps g L)(hp:Rc ps [] g p)(ne:p≠g):∃h,IsH ps g p h:=let ⟨_,h,_,I⟩:=(dU A).last A hp ne;{h,I}
end
theorem Se{AD C8:Int}{ps:List (Int×Int)}{L:List Int}(R:Rg AD ps)(h0:0<=C8)(h1:C8<AD)(A:All ps C8 L):L.length<=AD.toNat:=by have:=BF (l₂:=ri AD.toNat) A.nd λx hx=>M1.mpr (by have:=((A.mem x).mp hx).range R h0 h1;lia);rwa [cN] at this
section
variable{AD C8:Int}{ps:List (Int×Int)}
open Classical in
theorem yCR{gl ge:G}{js ks:List Nat}{t:Tg}{g:GS}{E E1 Ef:Ev}{cs:List Int}{k:Int->Int}(h:z8 gl js ge E=.ok ((cs.map D.int,cs.map k),E1)) (hz:∀zs:List Int,zs.Perm cs->zs.Pairwise (λa b=>k a<=k b)->∃E2,VR t g (zs.map D.int) E1=.ok (.nx E2)/\hush ks E2=Ef):zW gl js ge t g ks E=.ok (.nx Ef):=by
 refine HW h ?_;have pm:(cs.mergeSort λa b=>decide (k a<=k b)).Perm cs:=K8 _ _;have pw:=JN (le:=λa b=>decide (k a<=k b)) (λa b c h1 h2=>decide_eq_true (LI (of_decide_eq_true h1) (of_decide_eq_true h2)))
  (λa b=>by rcases aA (k a) (k b) with h|h<;>simp[h]) cs
 have q0:oX (cs.map k) (cs.map D.int) ((cs.mergeSort λa b=>decide (k a<=k b)).map λc=>(k c,D.int c)):={by rw[Gk];exact pm.map _,DE.mpr (pw.imp λh=>of_decide_eq_true h)};have al:∀qs,oX (cs.map k) (cs.map D.int) qs->∃E2,VR t g (qs.map GA) E1=.ok (.nx E2)/\hush ks E2=Ef:=λqs hq=>by have{ws,rfl,p1,p2}:=zU1 hq;rw[DA];exact hz ws p1 p2
 have ex:∃E0,∀qs,oX (cs.map k) (cs.map D.int) qs->∃E2,VR t g (qs.map GA) E1=.ok (.nx E2)/\hush ks E2=E0:={Ef,al};show(if h:∃E0,∀qs,oX (cs.map k) (cs.map D.int) qs->∃E2,VR t g (qs.map GA) E1=.ok (.nx E2)/\hush ks E2=E0 then Out.ok (Fl.nx h.choose) else .bad)=_;rw[dif_pos ex];have{E2,a1,a2}:=ex.choose_spec _ q0;have{E3,b1,b2}:=al _ q0;rw[a1] at b1;cases b1;rw[<-a2,b2]
end
section
variable{AD C8:Int}{ps:List (Int×Int)}
open Classical in
def hO(ps:List (Int×Int))(g b:Int):Option Int:=if Rc ps [] g b then AA (oS ps g b) else AL
def hE(AD:Int)(ps:List (Int×Int))(C8:Int)(IX:D)(φ:Int->Option Int)(o4 o5:Option D):Ev:=[.val (ED AD ps),.val (.int C8),.val IX,.own AE (.lst (SH AD.toNat φ)),slO o4,slO o5]
abbrev hB:GS:=NR (gB (g2 NI (AX 5) (AX 4))) (VU 3 (AX 5) (AX 4)) PJ
theorem yGG{IX:D}{φ:Int->Option Int}{o5:Option D}{c:Int}{xs:List Int}(hx:ER IX (.int c)=.ok (.tup (xs.map D.int)))(hr:∀x∈xs,0<=x/\x<AD) : ∃pI,RO (KN (g2 ER (AX 2) (AX 4))) (.nm 5) hB (hE AD ps C8 IX φ (AA (.int c)) o5)=.ok (.nx (hE AD ps C8 IX (λb=>if b∈xs/\b≠c then AA c else φ b) (AA (.int c)) pI)):=by
 have{E',e,pI,rfl}:=iB (gi:=KN (g2 ER (AX 2) (AX 4))) (t:=.nm 5) (g:=hB) (E:=hE AD ps C8 IX φ (AA (.int c)) o5) (ds:=xs.map D.int)
  (λi E=>∃pI,E=hE AD ps C8 IX (λb=>if b∈xs.take i/\b≠c then AA c else φ b) (AA (.int c)) pI)
  (oH (FC (x:=IX) (y:=.int c) rfl rfl hx)) {o5,by simp}
  (λi x E hx hP=>by
   have{o5,rfl}:=hP;rw[AY] at hx;have{b,hb,rfl}:=BU.mp hx;have{hi,X8}:=AH.mp hb;have{b0,b1}:=hr b (BS hb);have tm:∀q,q∈xs.take (i+1)↔q∈xs.take i\/q=b:=by rw[<-X8];exact zXB hi
   have t1:gB (g2 NI (AX 5) (AX 4)) (hE AD ps C8 IX (λb=>if b∈xs.take i/\b≠c then AA c else φ b) (AA (.int c)) (AA (.int b)))=.ok (decide (b≠c),hE AD ps C8 IX (λb=>if b∈xs.take i/\b≠c then AA c else φ b) (AA (.int c)) (AA (.int b))) :=
    NL (FC (x:=.int b) (y:=.int c) rfl rfl (At _ _))
   by_cases e:b=c
   .rw[decide_eq_false (λz=>z e)] at t1;refine{_,rfl,_,SY t1 rfl,AA (.int b),?_};congr 1;funext q;have:(q∈xs.take (i+1)/\q≠c)↔(q∈xs.take i/\q≠c):=by
     rw[tm];constructor
     .rintro⟨z|z,n⟩
      .exact{z,n}
      .exact absurd (z.trans e) n
     .intro zz';have{z,n}:=zz';exact{.inl z,n}
    simp only[this]
   .rw[decide_eq_true e] at t1;refine{_,rfl,_,dN t1 (j5 (i:=3) (t:=AE) (d:=.lst (SH AD.toNat λb=>if b∈xs.take i/\b≠c then AA c else φ b)) (v:=.int c) (k:=.int b) rfl rfl rfl rfl (Sf b0 'L')),AA (.int b),?_};show hE AD ps C8 IX _ (AA (.int c)) (AA (.int b))=_;congr 1;funext q;by_cases eq:q=b
    .subst eq;rw[if_pos rfl,if_pos {(tm q).mpr (.inr rfl),e}]
    .have:(q∈xs.take (i+1)/\q≠c)↔(q∈xs.take i/\q≠c):=by
      rw[tm];constructor
      .rintro⟨z|z,n⟩
       .exact{z,n}
       .exact absurd z eq
      .intro zz';have{z,n}:=zz';exact{.inl z,n}
     simp only[this,if_neg eq])
 rw[AK,G4] at e;exact{pI,e}
theorem zRK(R:Rg AD ps)(hm:AD<=24)(h0:0<=C8)(h1:C8<AD):Bl [.val (ED AD ps),.val (.int C8)]=.ok (AE,.tup (SH AD.toNat (hO ps C8)),.non):=by
 have{xs,e1,p1,m1}:=vO (start:=C8) R h0 h1;have A:All ps C8 xs:={p1.imp λe=>Z9 e,m1};have hl:=Se R h0 h1 A;obtain⟨fX,X6⟩:∃fX:Int->List Int,∀c∈xs,oP [.val (ED AD ps),.val (.int C8),.val (.int c)]=.ok (AE,.tup ((fX c).map D.int),.non)/\(fX c).Nodup/\∀x,x∈fX c↔Dom ps C8 c x:=by have:=λc=>Classical.em (Rc ps [] C8 c);refine{λc=>(open Classical in if h:Rc ps [] C8 c then(Px R h0 h1 h).choose else[]),λc hc=>?_};have h:=(m1 c).mp hc;simp only[dif_pos h];exact(Px R h0 h1 h).choose_spec
 have MQ:∀c∈xs,(fX c).length=(cu ps C8 xs c).length:=λc hc=>((LX (X6 c hc).2.1 (A.nd.filter _)).mpr λx=>by rw[(X6 c hc).2.2];exact(yGE A).symm).length_eq;obtain⟨IX,hc⟩:∃IX,IX=D.dk (YR (λp=>.tup ((fX p).map D.int)) xs):={_,rfl};have yN:∀p∈xs,ER IX (.int p)=.ok (.tup ((fX p).map D.int)):=λp hp=>by rw[hc];exact yKV (Tu hp)
 -- the IX
 have s1:n6 (KN (HD YN [(AX 0),(AX 1)])) 1 [0,1] (.dk []) (.nm 0) RN (qX (AX 0) (HD oP [(AX 1),(AX 2),(AX 0)])) [.val (ED AD ps),.val (.int C8),.no,.no,.no,.no]=.ok (IX,[.val (ED AD ps),.val (.int C8),.no,.no,.no,.no]):=by have{u',e}:=Pw (gv:=HD oP [(AX 1),(AX 2),(AX 0)]) (λp=>.tup ((fX p).map D.int)) [.val (ED AD ps),.val (.int C8)] (ns:=xs) (B0:=[]) (u:=.no) A.nd (by rw[GJ];lia) λx hx=>LO (ds:=[ED AD ps,.int C8,.int x]) rfl (X6 x hx).1;rw[GJ,<-hc] at e;exact HW (oH (LO (ds:=[ED AD ps,.int C8]) rfl e1)) (HW e rfl)
 have s3:zW (gN jN [(AX 2)]) [2] (g1 SD (gN OQ [(g2 ER (AX 1) (AX 0))])) (.nm 4) (RO (KN (g2 ER (AX 2) (AX 4))) (.nm 5) hB) [4,5] (hE AD ps C8 IX (λ_=>AL) AL AL)
   = .ok (.nx (hE AD ps C8 IX (λb=>if b=C8 then AL else hO ps C8 b) AL AL)):=by
  refine yCR (cs:=xs) (k:=λc=>-((fX c).length:Int)) (zX7 (λc=>-((fX c).length:Int)) (NS (ds:=[IX]) (JA rfl) (by rw[hc];exact congrArg (λz=>Out.ok (D.lst z)) zX6)) (ds:=[IX]) rfl 'L' λc yT=>?_) λzs pm pw=>?_
  .exact HW (NS (JA (FC (x:=IX) (y:=.int c) rfl rfl (yN c yT))) (Jx (by rw[AK]))) rfl
  .have{E',e,o4,o5,rfl}:=He (t:=.nm 4) (g:=RO (KN (g2 ER (AX 2) (AX 4))) (.nm 5) hB) (ds:=zs.map D.int) (E:=hE AD ps C8 IX (λ_=>AL) AL AL)
    (λi E=>∃o4 o5,E=hE AD ps C8 IX (λb=>g8 ps C8 b (zs.take i)) o4 o5) 0 {AL,AL,rfl} (λi x E hx hP=>by
     rw[FB] at hP ⊢;have{o4,o5,rfl}:=hP;rw[AY] at hx;have{c,hcz,rfl}:=BU.mp hx;have{hi,VH}:=AH.mp hcz;have yT:c∈xs:=pm.mem_iff.mp (BS hcz);have{pI,e}:=yGG (AD:=AD) (ps:=ps) (C8:=C8) (φ:=λb=>g8 ps C8 b (zs.take i)) (o5:=o5) (yN c yT) λx hx=>(((X6 c yT).2.2 x).mp hx).1.range R h0 h1;refine{_,rfl,_,e,AA (.int c),pI,?_};congr 1;funext b;rw[CI hi,VH,Xh];have:(b∈fX c/\b≠c)↔(Dom ps C8 c b/\b≠c):=by rw[(X6 c yT).2.2]
     simp only[this])
   refine{_,e,?_};rw[AK,FB,G4];have hh:∀φ:Int->Option Int,hush [4,5] (hE AD ps C8 IX φ o4 o5)=hE AD ps C8 IX φ AL AL:=λφ=>by cases o4<;>cases o5<;>rfl
   rw[hh];congr 1;funext b;have pw':zs.Pairwise λa b=>(cu ps C8 xs b).length<=(cu ps C8 xs a).length:=pw.imp_of_mem λ{a b} ha hb h=>by rw[MQ a (pm.mem_iff.mp ha),MQ b (pm.mem_iff.mp hb)] at h;lia
   by_cases eb:b=C8
   .rw[if_pos eb];exact Xg λc _ z=>z.2 (by rw[eb] at z ⊢;exact(Ba z.1).symm)
   .rw[if_neg eb];unfold hO;by_cases hb:Rc ps [] C8 b
    .rw[if_pos hb];have{h,I}:=Vj A hb eb;rw[Rn I];exact zRJ A pm pw' I
    .rw[if_neg hb];exact Xg λc _ z=>hb z.1.1
 have hg:Rc ps [] C8 C8:=.refl 'S';have On:(λx=>if x=C8 then AA C8 else if x=C8 then AL else hO ps C8 x)=hO ps C8:=by
  funext x;by_cases e:x=C8
  .rw[if_pos e,e];unfold hO;rw[if_pos hg,Vk]
  .rw[if_neg e,if_neg e]
 have s4:=j5 (i:=3) (gk:=AX 1) (gv:=AX 1) (E:=hE AD ps C8 IX (λb=>if b=C8 then AL else hO ps C8 b) AL AL) (E1:=hE AD ps C8 IX (λb=>if b=C8 then AL else hO ps C8 b) AL AL) (E2:=hE AD ps C8 IX (λb=>if b=C8 then AL else hO ps C8 b) AL AL) (t:=AE) (t2:=AE) (d0:=.lst (SH AD.toNat λb=>if b=C8 then AL else hO ps C8 b)) (d:=.lst (SH AD.toNat λb=>if b=C8 then AL else hO ps C8 b)) (v:=.int C8) (k:=.int C8) rfl rfl rfl rfl (Sf h0 'L');rw[On] at s4;have fl:=Tt (hO ps C8) (ri AD.toNat);have lo:jU [3] (hE AD ps C8 IX (hO ps C8) AL AL) (.tup (SH AD.toNat (hO ps C8)))=AQ:=by unfold jU;rw[D.flat,D.nod,SH,fl.1,fl.2];simp
 exact N6 (GN (LL s1 rfl) (GN (jX (FC (x:=.lst [.non]) (y:=.int AD) rfl (FC (x:=ED AD ps) (y:=.int 0) rfl rfl rfl) (yCQ (SC (HK h0 h1)) 'L'))) (GN s3 (GN s4 (OR (aI (E':=P8 [3] (hE AD ps C8 IX (hO ps C8) AL AL)) (NS (ds:=[.lst (SH AD.toNat (hO ps C8))]) (JA rfl) rfl) lo)))))) rfl
end
section
variable{ps qs:List (Int×Int)}{cl:List Int}{AD g p a b c x:Int}{L:List Int}
theorem zX8(A:All ps g L){q h:Int}(I:IsH ps g q h):MF ps g L q=MF ps g L h++[q]:=(dU A).uniq (Srt.snoc A I (dU A))
theorem Fz(R:Rg AD ps)(h0:0<=g)(h1:g<AD)(A:All ps g L)(q:Int):(MF ps g L q).length<=AD.toNat:=by have:=(dU (p:=q) A).pm.length_eq;have h2:=DH (λc=>decide (Dom ps g c q)) L;have h3:=Se R h0 h1 A;unfold mu at this;lia
def mE(AD:Int)(ps:List (Int×Int))(g p:Int)(u:Sl):Ev:=[.val (.tup (SH AD.toNat (hO ps g))),.val (.int p),u]
theorem Sd(R:Rg AD ps)(h0:0<=g)(h1:g<AD)(p0:0<=p)(p1:p<AD):ER (.tup (SH AD.toNat (hO ps g))) (.int p)=.ok (LK (hO ps g p)):=Yo (by rw[yCP p0 'L'])
theorem yCS(A:All ps g L)(R:Rg AD ps)(h0:0<=g)(h1:g<AD)(hm:AD<=24)(hp:Rc ps [] g p) : Br [.val (.tup (SH AD.toNat (hO ps g))),.val (.int p)]=.ok (AE,.tup ((MF ps g L p).map D.int),.non):=by
 have{p0,p1}:=hp.range R h0 h1;have t0:gB (g2 cJ (g2 ER (AX 0) (AX 1)) (gC .non)) (mE AD ps g p .no)=.ok (AE,mE AD ps g p .no) :=
  NL (FC (x:=LK (hO ps g p)) (y:=.non) (FC (x:=.tup (SH AD.toNat (hO ps g))) (y:=.int p) rfl rfl (Sd R h0 h1 p0 p1)) rfl (by unfold hO;rw[if_pos hp];rfl))
 have{E',e,r,rfl,hr}:=uL (t:=YL [2] (gB (g2 NI (g2 ER (AX 0) (g2 ER (AX 2) (g1 SD (gC (.int 1))))) (g2 ER (AX 2) (g1 SD (gC (.int 1)))))))
  (g:=g9 (XM 2 XI [(O9 [2] (g2 ER (AX 0) (g2 ER (AX 2) (g1 SD (gC (.int 1))))))]))
  (λn E=>∃r q,E=mE AD ps g p (.own AE (.lst ((r++[q]).map D.int)))/\Rc ps [] g q/\MF ps g L q++r.reverse=MF ps g L p/\n=(MF ps g L q).length)
  (λE=>∃r:List Int,E=mE AD ps g p (.own AE (.lst (r.map D.int)))/\r.reverse=MF ps g L p)
  (λn E hP=>by
   have{r,q,rfl,hq,hc,rfl}:=hP;have{q0,q1}:=hq.range R h0 h1;obtain⟨E0,yY⟩:∃E0,E0=P8 [2] (mE AD ps g p (.own AE (.lst ((r++[q]).map D.int)))):={_,rfl};have last:ER (.lst ((r++[q]).map D.int)) (.int (-1))=.ok (.int q):=sA (by rw[D0];exact zVR _ _);have lst:g2 ER (AX 2) (g1 SD (gC (.int 1))) E0=.ok (.int q,E0):=by rw[yY];exact FC (x:=.lst ((r++[q]).map D.int)) (y:=.int (-1)) rfl rfl last
   have hd:g2 ER (AX 0) (g2 ER (AX 2) (g1 SD (gC (.int 1)))) E0=.ok (LK (hO ps g q),E0):=FC (x:=.tup (SH AD.toNat (hO ps g))) (by rw[yY];rfl) lst (Sd R h0 h1 q0 q1);have hh0:hO ps g q=AA (oS ps g q):=by unfold hO;rw[if_pos hq]
   rw[hh0] at hd;have t1:gB (g2 NI (g2 ER (AX 0) (g2 ER (AX 2) (g1 SD (gC (.int 1))))) (g2 ER (AX 2) (g1 SD (gC (.int 1))))) E0=.ok (decide (oS ps g q≠q),E0):=NL (FC hd lst (At _ _));have EV:=congrArg KP hc;rw[BG,O6] at EV;have tR:=Fz R h0 h1 A p;by_cases e:q=g
   .rw[decide_eq_false (λz=>z (by rw[e];exact Vk))] at t1;refine .inl {_,dW (E':=E0) (by rw[<-yY];exact t1),r++[q],rfl,?_};rw[<-hc,e,(dU A).uniq (Srt.gate A (e▸hq))];simp
   .have{h,I}:=Vj A hq e;rw[Rn I] at t1 hd;rw[decide_eq_true I.ne] at t1;have Q8:=zX8 A I;rw[Q8,BG,CV] at EV;have bd:O9 [2] (g2 ER (AX 0) (g2 ER (AX 2) (g1 SD (gC (.int 1))))) (mE AD ps g p (.own AE (.lst ((r++[q]).map D.int))))=.ok (.int h,mE AD ps g p (.own AE (.lst ((r++[q]).map D.int)))):=by refine aI (E':=E0) ?_ rfl;rw[<-yY];exact hd
    refine .inr {_,_,_,dW (E':=E0) (by rw[<-yY];exact t1),As (uX (x:=.non) (i:=2) (t:=AE) (xs:=(r++[q]).map D.int) (YT:=(r++[q]++[h]).map D.int) rfl (JA bd) rfl ?_),?_,r++[q],h,rfl,I.dom.rc,?_,rfl}
    .show T4 _ (Out.ok (D.non,(r++[q]).map D.int++[.int h]))=_;rw[dR (by rw[AK,BG,CV];lia),D0 (l₁:=r++[q])];rfl
    .rw[Q8,BG,CV];lia
    .rw[<-hc,Q8];simp) 100000 (MF ps g L p).length (mE AD ps g p (.own AE (.lst (([]++[p]).map D.int)))) (by have:=Fz R h0 h1 A p;lia) {[],p,rfl,hp,by simp,rfl}
 obtain⟨E1,qH⟩:∃E1,E1=P8 [2] (mE AD ps g p (.own AE (.lst (r.map D.int)))):={_,rfl};have g1:Jn (AX 2) (g1 SD (gC (.int 1))) E1=.ok (.lst ((MF ps g L p).map D.int),E1):=by rw[<-hr,List.map_reverse,qH];rfl
 refine N6 (GN (SY t0 rfl) (GN (jX (d:=.lst [.int p]) rfl) (GN e (OR (aI (d:=.tup ((MF ps g L p).map D.int)) (E':=E1) ?_ ?_))))) rfl
 .rw[<-qH];exact NS (JA g1) rfl
 .simp[jU,mE,sE,Ce,D.flat,D.nod,Hw,Bk]
end
section
variable{ps qs:List (Int×Int)}{cl:List Int}{AD a b c g p x u v:Int}{L w:List Int}{l:Int×Int}
structure ML(ps:List (Int×Int))(g p:Int)(l:Int×Int):Prop where
 mem:l∈ps
 rc:Rc ps [] g p
 no:¬Rc (ps.filter λm=>decide (m≠l)) [] g p
theorem VY{m:Int×Int}:m∈(ps.filter λm=>decide (m≠l))↔m∈ps/\m≠l:=by rw[A4,decide_eq_true_eq]
theorem ML.on(M:ML ps g p (u,v))(W:Wy ps g p w):∃i:Nat,w[i]?=AA u/\w[i+1]?=AA v:=BL λno=>by refine M.no (rG W.hd _ _ W.ls (λ_ _ _ _=>A7) λk y z _ e1 e2=>VY.mpr {W.ln k y z e1 e2,λe=>no ?_});cases e;exact{k,e1,e2}
theorem Wy.inj(W:Wy ps g p w){i j:Nat}(e1:w[i]?=AA x)(e2:w[j]?=AA x):i=j:=by
 have{h1,q1}:=AH.mp e1;have{h2,q2}:=AH.mp e2;rcases JZ i j with h|h|h
 .exact absurd (q1.trans q2.symm) (B9.mp W.nd i j h1 h2 h)
 .exact h
 .exact absurd (q2.trans q1.symm) (B9.mp W.nd j i h2 h1 h)
theorem Wy.ahead(W:Wy ps g p w){i j:Nat}(MR:i<j)(e1:w[i]?=AA a)(e2:w[j]?=AA b):Rc ps [b] g a :=rG W.hd i a e1 (λk y hk e z=>by rw[AS.mp z] at e;have:=W.inj e e2;lia) λk y z _=>W.ln k y z
theorem Wy.rc(W:Wy ps g p w){i:Nat}(e1:w[i]?=AA a):Rc ps [] g a:=rG W.hd i a e1 (λ_ _ _ _=>A7) λk y z _=>W.ln k y z
end
section
variable{ps:List (Int×Int)}{AD g p:Int}{l:Int×Int}{w:List Int}
theorem yIP(hl:ps.length<10000)(h:l∈ps):vU [.val (ED AD ps),.val (E8 l)]=.ok (AE,ED AD (ps.filter λm=>decide (m≠l)),.non):=by
 have hc:=Js iJ uJ (gi:=KN (AX 3)) (js:=[1]) (tt:=gB (g2 NI (AX 0) (AX 1))) (E:=[.val (ED AD ps),.val (E8 l),.val (.int AD),.val (.tup (ps.map E8))]) (xs:=ps) (λm=>decide (m≠l)) [.val (E8 l)] (oH rfl) rfl hl
  (λx _=>NL (FC (x:=E8 x) (y:=E8 l) rfl rfl (zXZ x l))) (λu=>rfl)
 have t:gB (g2 UG (AX 1) (AX 3)) [.val (ED AD ps),.val (E8 l),.val (.int AD),.val (.tup (ps.map E8))]=.ok (AE,[.val (ED AD ps),.val (E8 l),.val (.int AD),.val (.tup (ps.map E8))]) :=
  NL (FC (x:=E8 l) (y:=.tup (ps.map E8)) rfl rfl ((zRI l ps).trans (blF λz=>z h)))
 exact N6 (GN (LL (d:=ED AD ps) rfl rfl) (GN (SY t rfl) (OR (jT (ds:=[.int AD,.tup ((ps.filter λm=>decide (m≠l)).map E8)]) (NA rfl (JA (NS (JA hc) rfl))) (show 2<10000 by decide))))) rfl
theorem Rg.wo(R:Rg AD ps):Rg AD (ps.filter λm=>decide (m≠l)):={R.m1,R.m2,A0 (DH _ _) R.len,λq hq=>R.rg q (A4.mp hq).1}
noncomputable instance rcDec (ps:List (Int×Int)) (cl:List Int) (g x:Int):Decidable (Rc ps cl g x):=UB _
noncomputable def Kh(ps:List (Int×Int))(g p:Int)(l:Int×Int):Bool:=decide (¬Rc (ps.filter λm=>decide (m≠l)) [] g p)
def vV(ps:List (Int×Int))(g p:Int)(w:List Int):List (Int×Int):=(Q0 w).filter (Kh ps g p)
theorem yCT(N:Net AD ps)(g0:0<=g)(g1:g<AD)(W:Wy ps g p w)(hw:w.length<=1000)(e:cP [.val (ED AD ps),.val (.int g),.val (.int p),.val (.tup [])]=.ok (AE,.tup (w.map D.int),.non)) : rW [.val (ED AD ps),.val (.int g),.val (.int p)]=.ok (AE,.tup ((vV ps g p w).map E8),.non):=by
 have R:=N.rg';obtain⟨E,hE⟩:∃E:Ev,E=[.val (ED AD ps),.val (.int g),.val (.int p),.val (.tup (w.map D.int))]:={_,rfl};have sl:XO (AX 3) (AA (gC (.int 1))) AL E=.ok (.tup ((w.drop 1).map D.int),E):=by rw[hE];show Out.ok (D.tup (U6 (w.map D.int) (AA 1) AL),_)=_;rw[Yk,P3]
 have zi:gY (AX 3) (XO (AX 3) (AA (gC (.int 1))) AL) E=.ok ((Q0 w).map E8,E):=by refine HW (a:=(.tup (w.map D.int),E)) (by rw[hE];rfl) (HW sl ?_);show Out.ok (jE (w.map D.int) ((w.drop 1).map D.int),_)=_;unfold jE Q0;rw[List.zip_map,DA];rfl
 have hc:=Js iJ uJ (gi:=gY (AX 3) (XO (AX 3) (AA (gC (.int 1))) AL)) (js:=[2,0,1]) (tt:=gB (g2 UG (AX 1) (HD YN [(HD vU [(AX 2),(AX 0)]),(AX 3)]))) (Kh ps g p) [.val (.int p),.val (ED AD ps),.val (.int g)] zi (by rw[hE];rfl)
  (by unfold Q0;rw[T7];lia)
  (λl hl=>by have{a,b}:=l;have{i,h1,h2}:=MK.mp hl;have{xs,e1,_,m1}:=vO (start:=g) (R.wo (l:=(a,b))) g0 g1;refine NL (FC (x:=.int p) (y:=.tup (xs.map D.int)) rfl (LO (ds:=[ED AD (ps.filter λm=>decide (m≠(a,b))),.int g]) (NA (LO (ds:=[ED AD ps,E8 (a,b)]) rfl (yIP (by have:=R.len;lia) (W.ln i a b h1 h2))) rfl) e1) ?_);rw[Bm];unfold Kh;rw[decide_eq_decide.mpr (not_congr (m1 p))])
  (λu=>by rw[hE];rfl)
 have t:gB (g2 cJ (AX 3) (gC .non)) E=.ok (AE,E):=by rw[hE];rfl
 have a1:HM (.nm 3) (HD cP [(AX 0),(AX 1),(AX 2),(IW [])]) [.val (ED AD ps),.val (.int g),.val (.int p),.no]=.ok (.nx E):=by rw[hE];exact LL (LO (ds:=[ED AD ps,.int g,.int p,.tup []]) rfl e) rfl
 exact N6 (GN a1 (GN (SY t rfl) (OR (NS (JA hc) rfl)))) (by rw[hE];rfl)
end
section
variable{ps fl:List (Int×Int)}{AD g p u v a b x:Int}{L w zs:List Int}{l:Int×Int}
theorem Srt.at(S:Srt ps g L p zs){i j:Nat}(e1:zs[i]?=AA a)(e2:zs[j]?=AA b)(h:i<j):(mu ps g L a).length<(mu ps g L b).length:=by have{h1,q1}:=AH.mp e1;have{h2,q2}:=AH.mp e2;have:=B9.mp S.pw i j h1 h2 h;rwa [q1,q2] at this
theorem Srt.lt(S:Srt ps g L p zs){i j:Nat}(e1:zs[i]?=AA a)(e2:zs[j]?=AA b)(h:(mu ps g L a).length<(mu ps g L b).length):i<j:=by
 rcases JZ i j with q|q|q
 .exact q
 .subst q;rw[e1] at e2;cases e2;lia
 .have:=S.at e2 e1 q;lia
theorem Hk(A:All ps g L)(h1:Dom ps g a p)(h2:Dom ps g b p)(h:(mu ps g L a).length<(mu ps g L b).length):Dom ps g a b:=by
 rcases h1.lin h2 with d|d
 .exact d
 .by_cases e:b=a
  .rw[e] at h;lia
  .have:=nV A d e;lia
theorem yGI(W:Wy ps g p w)(h:l∈vV ps g p w):ML ps g p l:=by have{h1,h2}:=A4.mp h;have{a,b}:=l;have{i,e1,e2}:=MK.mp h1;exact{W.ln i a b e1 e2,W.rc W.ls,of_decide_eq_true h2}
end
section
variable{AD s t k g p b c x:Int}{ps qs U V:List Pr}{xs ys w bs L cl:List Int}{ws:List (List Int)}
theorem Rc.inn(h:Rc ps cl g x)(hs:∀e,e∈ps->e∈qs):Rc qs cl g x:=by
 induction h with
 |refl h=>exact .refl h
 |step _ he hv ih=>exact .step ih (hs _ he) hv
theorem Rc.last2(ne:c≠b)(h:Rc ps [] c x):Rc ps [b] c x\/Rc ps [c] b x:=by
 induction h with
 |refl _=>exact .inl (.refl (U4 ne))
 |@step u v _ he _ ih =>
  by_cases e1:v=b
  .rw[e1];exact .inr (.refl (U4 (CT ne)))
  .by_cases e2:v=c
   .rw[e2];exact .inl (.refl (U4 ne))
   .exact ih.elim (λz=>.inl (.step z he (U4 e1))) λz=>.inr (.step z he (U4 e2))
theorem Rc.from1(hc:c∉cl)(h:Rc ps cl g x):Rc ps (c::cl) g x\/Rc ps cl c x:=by
 induction h with
 |refl h =>
  by_cases e:g=c
  .rw[e];exact .inr (.refl hc)
  .exact .inl (.refl λz=>(A3.mp z).elim e h)
 |@step u v _ he hv ih =>
  by_cases e:v=c
  .rw[e];exact .inr (.refl hc)
  .exact ih.elim (λz=>.inl (.step z he λz=>(A3.mp z).elim e hv)) λz=>.inr (.step z he hv)
theorem zO4(I:IsH ps g t s)(n1:b≠s)(n2:b≠t):Rc ps [b] s t:=by
 have tJ:Rc ps [] s t:=(I.dom.1.from1 (c:=s) A7).resolve_left I.dom.2;by_cases h:Rc ps [b] g t
 .exact(h.from1 (c:=s) (U4 (CT n1))).resolve_left λz=>I.dom.2 (z.mono λy hy=>by rw[AS.mp hy];exact AZ)
 .have d:Dom ps g b s:=I.last b {I.dom.1,h} n2;refine(tJ.last2 (CT n1)).resolve_right λz=>?_;have:Rc ps [s] g b:=BL λq=>n1 (d.anti {d.rc,q});exact I.dom.2 (this.trans z)
noncomputable def iK(ps:List Pr)(Q:List Int):List Pr:=ps.filter λe=>decide (e.1∈Q/\e.2∈Q)
theorem yK5{Q:List Int}(R:Rg AD ps)(s0:0<=s)(s1:s<AD)(t0:0<=t)(t1:t<AD)(n1:b≠s)(hQ:∀x,x=s\/x=t\/(Rc ps [t] s x/\Rc ps [s] x t)->x∈Q)(h:Rc ps [b] s t):Rc (iK ps Q) [b] s t:=by
 obtain⟨qs,hq⟩:∃qs,qs=ps.filter λe=>decide (e.1≠b/\e.2≠b):={_,rfl};have sub:∀e,e∈qs↔e∈ps/\e.1≠b/\e.2≠b:=λe=>by rw[hq,A4,decide_eq_true_eq]
 have R':Rg AD qs:={R.m1,R.m2,by rw[hq];exact A0 (DH _ _) R.len,λe he=>R.rg e ((sub e).mp he).1};have h':∀x,Rc ps [b] s x->Rc qs [] s x:=λx hx=>by
  induction hx with
  |refl _=>exact .refl A7
  |@step u v hu he hv ih=>exact .step ih ((sub _).mpr {he,λz=>hu.ne (by rw[<-z];exact AZ),λz=>hv (by rw[<-z];exact AZ)}) A7
 rcases Gn R' s0 s1 t0 t1 with⟨no,_⟩|⟨w,W,_⟩
 .exact absurd (h' t h) no
 have inq:∀(i:Nat) x,w[i]?=AA x->x∈Q:=λi x e=>by
  by_cases i0:i=0
  .rw[i0,W.hd] at e;exact hQ x (.inl (BJ e).symm)
  .by_cases il:i=w.length-1
   .rw[il,W.ls] at e;exact hQ x (.inr (.inl (BJ e).symm))
   .have hi:=(AH.mp e).1;refine hQ x (.inr (.inr {(W.ahead (show i<w.length-1 by omega) e W.ls).inn λe h=>((sub e).mp h).1,?_}));refine rG (w:=w.drop i) (by rw[FN];exact e) (w.length-1-i) t (by rw[FN,show i+(w.length-1-i)=w.length-1 by omega];exact W.ls) (λk y _ f z=>?_) λk y z _ f1 f2=>?_
    .rw[FN,AS.mp z] at f;have:=W.inj f W.hd;omega
    .rw[FN] at f1 f2;exact((sub _).mp (W.ln _ y z f1 f2)).1
 refine rG W.hd _ _ W.ls (λk y _ e z=>?_) λk y z _ e1 e2=>A4.mpr {((sub _).mp (W.ln k y z e1 e2)).1,decide_eq_true {inq _ _ e1,inq _ _ e2}};rw[AS.mp z] at e;by_cases k0:k=0
 .rw[k0,W.hd] at e;exact n1 (BJ e).symm
 .obtain⟨j,rfl⟩:∃j,k=j+1:={k-1,by omega};have:=(AH.mp e).1;exact((sub _).mp (W.ln j _ _ (BD (show j<w.length by omega)) e)).2.2 rfl
theorem Vi(hs:s∈xs)(hc:∀a b,(a,b)∈ps->a∈xs->b∈xs)(h:Rc ps cl s x):x∈xs:=by
 induction h with
 |refl _=>exact hs
 |step _ he _ ih=>exact hc _ _ he ih
theorem QK{e:Pr}:e∈O0 ps xs↔e∈ps/\e.1∈xs/\e.2∉xs:=by unfold O0;rw[A4];simp only[CP,decide_eq_true_eq]
theorem WA.near(N:Net AD ps)(s0:0<=s)(s1:s<AD)(X:WA AD ps s t ws U k):∃xs,Near (dbl AD ps) U (s+AD) t xs/\k=((O0 (dbl AD ps) xs).length:Int)/\t∉xs:=by have m1:=N.m1;have{xs,_,Q}:=Jr (t:=t) N.dbl 'O' 'O' X.um;exact{xs,Q,Q.eq X.A.flw (Cu N) X.A.no,λz=>X.A.no ((Q.mem t).mp z)}
theorem WA.pos(N:Net AD ps)(s0:0<=s)(s1:s<AD)(st:s≠t)(X:WA AD ps s t ws U k)(h:Rc ps [] s t):1<=k:=by
 have{xs,Q,e,hx}:=X.near N s0 s1;refine BL λhk=>?_;have hc:O0 (dbl AD ps) xs=[]:=JO.mp 'O';have cl:∀q,q∈dbl AD ps->q.1∈xs->q.2∈xs:=λq hq h1=>BL λh2=>by have:=QK.mpr {hq,h1,h2};rw[hc] at this;exact A7 this
 have all:∀x,Rc ps [] s x->x+AD∈xs/\(x=s\/x∈xs):=λx h=>by
  induction h with
  |refl _=>exact{Q.src,.inl rfl}
  |@step u v _ he _ ih=>have r:=N.rg _ he;have hv:v∈xs:=cl _ (Zr he) ih.1;exact{cl _ (Zs N r.2.2.1 r.2.2.2.1) hv,.inr hv}
 exact(all t h).2.elim (λz=>st z.symm) hx
theorem WA.one(N:Net AD ps)(s0:0<=s)(s1:s<AD)(t1:t<AD)(X:WA AD ps s t ws U k)(b0:0<=b)(b1:b<AD)(bs:b≠s)(bt:b≠t)(no:¬Rc ps [b] s t):k<=1:=by
 have R:=N.rg';obtain⟨L,hL⟩:∃L,L=(ri (2 * AD).toNat).filter λy=>decide (y=b\/Rc ps [b] s y\/Rc ps [b] s (y-AD)):={_,rfl};have mL:∀y,y∈L↔(0<=y/\y<2 * AD)/\(y=b\/Rc ps [b] s y\/Rc ps [b] s (y-AD)):=λy=>by rw[hL,A4,M1,decide_eq_true_eq];exact and_congr_left λ_=>by omega
 have hs:s+AD∈L:=(mL _).mpr {by omega,.inr (.inr (by rw[show s+AD-AD=s by omega];exact .refl (U4 (CT bs))))};have ht:t∉L:=λz=>((mL t).mp z).2.elim (λz=>bt z.symm) λz=>z.elim no λz=>by have:=z.range R s0 s1;omega
 have h1:=X.A.flw.le (by rw[hL];exact(zK _).filter _) hs ht;have h2:(O0 (dbl AD ps) L).length<=[(b,b+AD)].length:=BF ((Cu N).filter _) λq hq=>by
  have{u,v}:=q;have{hq,hu,hv}:=QK.mp hq;simp only at hu hv;rcases zN N hq with⟨a0,a1,e⟩|⟨a0,a1,c0,c1,hm⟩
  .simp only at a0 a1 e;subst e;rcases((mL u).mp hu).2 with z|z|z
   .rw[z];exact AZ
   .exact absurd ((mL _).mpr {by omega,.inr (.inr (by rw[show u+AD-AD=u by omega];exact z))}) hv
   .have:=z.range R s0 s1;omega
  .simp only at a0 a1 c0 c1 hm;rcases((mL u).mp hu).2 with z|z|z
   .omega
   .have:=z.range R s0 s1;omega
   .by_cases e:v=b
    .exact absurd ((mL v).mpr {by omega,.inl e}) hv
    .exact absurd ((mL v).mpr {by omega,.inr (.inl (.step z hm (U4 e)))}) hv
 simp only[A8,GK] at h2;omega
theorem Cut.noway(N:Net AD ps)(s0:0<=s)(t0:0<=t)(t1:t<AD)(RU:s≠t)(X5:(s,t)∉ps)(C:Cut AD ps s t U xs)(hb:∀p∈O0 (dbl AD ps) xs,blk AD t p∈bs):¬Rc ps bs s t:=λh=>by
 have:∀x,Rc ps bs s x->x+AD∈xs/\x≠t:=λx h=>by
  induction h with
  |refl _=>exact{C.src,RU}
  |@step u v hu he hv ih=>exact C.step N s0 t0 t1 X5 hb ih.1 (.inr hu.ne) he hv
 exact(this t h).2 rfl
theorem Apart.one(N:Net AD ps)(s0:0<=s)(s1:s<AD)(A:Apart AD ps s t ws U k){l:Pr}(no:¬Rc (ps.filter λm=>decide (m≠l)) [] s t):k<=1:=by
 have R:=N.rg'.wo (l:=l);obtain⟨L,hL⟩:∃L,L=(ri AD.toNat).filter λy=>decide (Rc (ps.filter λm=>decide (m≠l)) [] s y):={_,rfl};have mL:∀y,y∈L↔Rc (ps.filter λm=>decide (m≠l)) [] s y:=λy=>by rw[hL,A4,M1,decide_eq_true_eq];exact{λz=>z.2,λz=>{by have:=z.range R s0 s1;omega,z}}
 have h1:=A.flw.le (by rw[hL];exact(zK _).filter _) ((mL s).mpr (.refl A7)) λz=>no ((mL t).mp z);have h2:(O0 ps L).length<=[l].length:=BF (N.nd.filter _) λq hq=>by have{hq,hu,hv}:=QK.mp hq;refine AS.mpr (BL λn=>hv ((mL _).mpr (.step ((mL _).mp hu) (VY.mpr {hq,n}) A7)))
 simp only[A8,GK] at h2;omega
theorem Near.pos(Q:Near ps U s t xs)(hx:t∉xs)(h:Rc ps [] s t):O0 ps xs≠[]:=λe =>
 hx (Vi Q.src (λa b he ha=>BL λn=>by have:=QK.mpr {he,ha,n};rw[e] at this;exact A7 this) h)
theorem Near.lane{l:Pr}(Q:Near ps U s t xs)(hx:t∉xs)(e:O0 ps xs=[l]):¬Rc (ps.filter λm=>decide (m≠l)) [] s t:=λh =>
 hx (Vi Q.src (λa b he ha=>BL λn=>by have:=QK.mpr {(VY.mp he).1,ha,n};rw[e] at this;exact(VY.mp he).2 (AS.mp this)) h)
theorem yCU(A:All ps g L)(hp:Rc ps [] g p)(ne:p≠g)(h:∀c,Dom ps g c p->c=g\/c=p):(MF ps g L p).length=2:=by
 have S:=dU (p:=p) A;have h1:=BF (l₂:=[g,p]) S.nodup λc hc=>by rcases h c ((S.mem A).mp hc) with e|e<;>simp[e]
 have h2:=BF (l₁:=[g,p]) (l₂:=MF ps g L p) (by simp[CT ne]) λc hc=>(S.mem A).mpr (by
  rcases A3.mp hc with e|e
  .rw[e];exact .gate hp
  .rw[AS.mp e];exact .refl hp)
 simp only[A8,GK] at h1 h2;omega
theorem zU5(A:All ps g L)(ne:p≠g)(d:Dom ps g c p)(n1:c≠g)(n2:c≠p):3<=(MF ps g L p).length:=by
 have S:=dU (p:=p) A;have h2:=BF (l₁:=[g,c,p]) (l₂:=MF ps g L p) (by simp[CT ne,CT n1,n2]) λy hy=>(S.mem A).mpr (by
  rcases A3.mp hy with e|e
  .rw[e];exact .gate d.1
  .rcases A3.mp e with e|e
   .rw[e];exact d
   .rw[AS.mp e];exact .refl d.1)
 simpa using h2
theorem yCV(A:All ps g L){i:Nat}{u v:Int}(e1:(MF ps g L p)[i]?=AA u)(e2:(MF ps g L p)[i+1]?=AA v):IsH ps g v u:=by
 have S:=dU (p:=p) A;have du:=(S.mem A).mp (BS e1);have dv:=(S.mem A).mp (BS e2);have lt:=S.at e1 e2 (C4 i);have d:=Hk A du dv lt;refine{d,λe=>by rw[e] at lt;omega,λc hc hn=>?_};have dc:Dom ps g c p:=hc.trans dv;have{j,hj}:=OB.mp ((S.mem A).mpr dc);have h1:=S.lt hj e2 (nV A hc hn);by_cases e:j=i
 .rw[e,e1] at hj;cases hj;exact .refl d.rc
 .exact Hk A dc du (S.at hj e1 'O')
theorem zU6(A:All ps g L)(hp:Rc ps [] g p)(ne:p≠g):∃m,MF ps g L p=g::(m++[p]):=by
 have S:=dU (p:=p) A;have hd:∀a,(MF ps g L p)[0]?=AA a->a=g:=λa ea=>by
  have{i,hi}:=OB.mp ((S.mem A).mpr (Dom.gate hp));by_cases i0:i=0
  .rw[i0,ea] at hi;exact BJ hi
  .exact Ba (Hk A ((S.mem A).mp (BS ea)) (.gate hp) (S.at ea hi 'O'))
 have{pre,h,e,I}:=S.last A hp ne;cases pre with
 |nil=>rw[e] at hd;have:=hd h rfl;exact{[],by rw[e,this];rfl}
 |cons a r=>rw[e] at hd;have:=hd a rfl;exact{r++[h],by rw[e,this];simp}
end
theorem Sc{h:Pr->D}{q:Pr->Bool}:∀l:List Pr,(l.map E8).flatMap (λd=>if q (iJ d)=AQ then[h (iJ d)] else[])=(l.filter q).map h
 |[]=>rfl
 |x::l=>by
  rw[AU,DW,Sc l,uJ,D2];by_cases e:q x=AQ
  .rw[if_pos e,if_pos e];rfl
  .rw[if_neg e,if_neg e];rfl
theorem yGJ{gi:GI}{js:List Nat}{ge:G}{tt:Ev->Out (Bool×Ev)}{E E1:Ev}{fl:List Pr}(h:Pr->D)(q:Pr->Bool)(cs:List Sl)(hi:gi E=.ok (fl.map E8,E1))(hc:VQ 2 js E1=.no::.no::cs)(hl:fl.length<10000) (ht:∀l∈fl,tt (.val (.int l.1)::.val (.int l.2)::cs)=.ok (q l,.val (.int l.1)::.val (.int l.2)::cs)) (hg:∀l∈fl,ge (.val (.int l.1)::.val (.int l.2)::cs)=.ok (h l,.val (.int l.1)::.val (.int l.2)::cs)) (hb:∀u v,V3 E1 (u::v::cs) 2 js=E1) : OE gi 2 js (.tp [.nm 0,.nm 1]) tt ge E=.ok (.lst ((fl.filter q).map h),E1):=by
 have:=iA (gi:=gi) (k:=2) (js:=js) (t:=.tp [.nm 0,.nm 1]) (tt:=tt) (ge:=ge) (E:=E) (E1:=E1) (ds:=fl.map E8) (λd=>if q (iJ d)=AQ then[h (iJ d)] else[]) (λE=>∃u v,E=u::v::cs) hi {_,_,hc} (by rw[AK];exact hl) (λd hd E hE=>by
  have{x,hx,rfl}:=BY.mp hd;have{u,v,rfl}:=hE;refine{_,rfl,q x,_,ht x hx,?_};rw[uJ];by_cases z:q x=AQ
  .rw[if_pos z];exact .inl {z,h x,_,hg x hx,rfl,_,_,rfl}
  .rw[if_neg z];exact .inr {by simpa using z,rfl,_,_,rfl}) (λEc q0=>by have{u,v,e}:=q0;rw[e];exact hb u v)
 rw[this,Sc]
theorem Zo{E:Ev}{u v a:Sl}{j:Nat}(h:E[j]?=AA a):V3 E [u,v,a] 2 [j]=E:=Tv λn i e=>by
 match n,e with
 |0,e=>cases e;exact h.symm
 |_+1,e=>cases e
theorem yCW:D.py (.tup [])=AA (.tuple []):=by simp[D.py,pAI]
theorem Ep{n:Nat}{ds:List D}(h:Pls n ds):RP (.tup ds) (.tup [])=.ok (.bl ds.isEmpty):=by
 have{ps,e2,a2,b2}:=h;have e1:D.py (.tup ds)=AA (.tuple ps):=by simp only[D.py,e2,a7]
 unfold RP;simp only[e1,yCW];rw[if_pos (A0 (lC _ _) (by simp[GE,I0])),DD];have e0:pAI []=AA []:=by simp[pAI]
 cases ds with
 |nil=>rw[e0] at e2;cases e2;rfl
 |cons d ds =>
  cases ps with
  |nil=>simp only[pAI] at e2;split at e2<;>simp at e2
  |cons p ps=>rfl
theorem yGL{n:Nat}{ds:List D}(h:Pls n ds):NI (.tup ds) (.tup [])=.ok (.bl (!ds.isEmpty)):=by
 have:=Ep h;unfold RP at this;unfold NI;split at this
 .split at this
  .rename_i h1;injection this with h3;injection h3 with h3;rw[if_pos h1,h3]
  .cases this
 .cases this
section
variable{AD s t k g p b c x:Int}{ps qs U V:List Pr}{xs ys w bs L cl IK Q:List Int}{ws:List (List Int)}
theorem yCX{pl:D}(hl:ps.length<10000)(VF:∀x:Int,MM (.int x) pl=.ok (.bl (decide (x∈Q)))):uQ [.val (ED AD ps),.val pl]=.ok (AE,ED AD (iK ps Q),.non):=by
 refine N6 (E':=[.val (ED AD ps),.val pl,.val (.int AD),.val (.tup (ps.map E8))]) (GN (LL rfl rfl) (OR (jT (ds:=[.int AD,.tup ((iK ps Q).map E8)]) (NA rfl (JA (NS (JA (yGJ E8 (λe=>decide (e.1∈Q/\e.2∈Q)) [.val pl] (oH rfl) rfl hl (λe _=>?_) (λe _=>rfl) (λu v=>Zo rfl))) rfl))) (show 2<10000 by decide)))) rfl;have q1:gB (g2 MM (AX 0) (AX 2)) [.val (.int e.1),.val (.int e.2),.val pl]=.ok (decide (e.1∈Q),[.val (.int e.1),.val (.int e.2),.val pl]):=NL (FC rfl rfl (VF _));have q2:gB (g2 MM (AX 1) (AX 2)) [.val (.int e.1),.val (.int e.2),.val pl]=.ok (decide (e.2∈Q),[.val (.int e.1),.val (.int e.2),.val pl]):=NL (FC rfl rfl (VF _));by_cases h:e.1∈Q
 .rw[decide_eq_true h] at q1;rw[decide_eq_decide.mpr (and_iff_right h)];exact oD q1 q2
 .rw[decide_eq_false h] at q1;rw[decide_eq_false λz=>h z.1];exact uS q1
theorem yIQ(N:Net AD ps)(s0:0<=s)(s1:s<AD)(t0:0<=t)(t1:t<AD):∃xs:List Int,rX [.val (ED AD ps),.val (.int s),.val (.int t)]=.ok (AE,.tup (xs.map D.int),.non)/\xs.length<=24/\∀x,x∈xs↔Rc ps [t] s x/\Rc ps [s] x t:=by
 have R:=N.rg';have m2:=N.m2;have{xs,e1,p1,m1}:=Ah (cl:=[t]) R s0 s1;have{ys,e2,_,my}:=Ah (cl:=[s]) R.back t0 t1;have hl:=BF (l₂:=ri AD.toNat) (p1.imp λh=>by omega) λx hx=>M1.mpr (by have:=((m1 x).mp hx).range R s0 s1;omega);rw[cN] at hl;have a1:HM (.nm 3) (HD dZ [(AX 0),(AX 1),(IW [(AX 2)])]) [.val (ED AD ps),.val (.int s),.val (.int t),.no,.no]=.ok (.nx [.val (ED AD ps),.val (.int s),.val (.int t),.val (.tup (xs.map D.int)),.no]):=LL (LO (ds:=[ED AD ps,.int s,.tup [.int t]]) rfl e1) rfl;have a2:HM (.nm 4) (HD dZ [(HD l6 [(AX 0)]),(AX 2),(IW [(AX 1)])]) [.val (ED AD ps),.val (.int s),.val (.int t),.val (.tup (xs.map D.int)),.no]=.ok (.nx [.val (ED AD ps),.val (.int s),.val (.int t),.val (.tup (xs.map D.int)),.val (.tup (ys.map D.int))]) :=
  LL (LO (ds:=[ED AD (back ps),.int t,.tup [.int s]]) (NA (LO (ds:=[ED AD ps]) rfl (Vp (by have:=N.len;omega))) rfl) e2) rfl
 refine{xs.filter λx=>decide (x∈ys),N6 (GN a1 (GN a2 (OR (NS (JA (Bc (λx=>decide (x∈ys)) [.val (.tup (ys.map D.int))] (oH rfl) rfl 'O' (λx _=>NL (FC rfl rfl (rH _ _))) (λu=>yK2 rfl))) rfl)))) rfl,A0 (DH _ _) 'O',λx=>?_};rw[A4,decide_eq_true_eq,m1,my,aM]
def dM(AD:Int)(ps:List Pr)(e:Pr):List Int:=Classical.epsilon λxs:List Int=>rX [.val (ED AD ps),.val (.int e.1),.val (.int e.2)]=.ok (AE,.tup (xs.map D.int),.non)/\xs.length<=24/\∀x,x∈xs↔Rc ps [e.2] e.1 x/\Rc ps [e.1] x e.2
theorem Rm(N:Net AD ps)(s0:0<=s)(s1:s<AD)(t0:0<=t)(t1:t<AD):rX [.val (ED AD ps),.val (.int s),.val (.int t)]=.ok (AE,.tup ((dM AD ps (s,t)).map D.int),.non)/\(dM AD ps (s,t)).length<=24/\∀x,x∈dM AD ps (s,t)↔Rc ps [t] s x/\Rc ps [s] x t:=Classical.epsilon_spec (yIQ N s0 s1 t0 t1)
theorem z6(A:All ps g L)(N:Net AD ps)(g0:0<=g)(g1:g<AD)(h:x∈MF ps g L p):0<=x/\x<AD:=((((dU (p:=p) A).mem A).mp h).rc).range N.rg' g0 g1
theorem Ts(A:All ps g L)(R:Rg AD ps)(h0:0<=g)(h1:g<AD)(hm:AD<=24)(hp:Rc ps [] g p):oG [.val (ED AD ps),.val (.int g),.val (.int p)]=.ok (AE,.tup ((MF ps g L p).map D.int),.non) :=N6 (OR (LO (ds:=[.tup (SH AD.toNat (hO ps g)),.int p]) (NA (LO (ds:=[ED AD ps,.int g]) rfl (zRK R hm h0 h1)) rfl) (yCS A R h0 h1 hm hp))) rfl
theorem zNR(A:All ps g L)(N:Net AD ps)(g0:0<=g)(g1:g<AD)(hp:Rc ps [] g p):rS [.val (ED AD ps),.val (.int g),.val (.int p)]=.ok (AE,.tup ((Q0 (MF ps g L p)).map λe=>.tup ((dM AD ps e).map D.int)),.non):=by have hl:=Fz N.rg' g0 g1 A p;have m2:=N.m2;have e:=Gm (MF ps g L p);refine N6 (GN (LL (LO (ds:=[ED AD ps,.int g,.int p]) rfl (Ts A N.rg' g0 g1 N.m2 hp)) rfl) (OR (NS (JA (zO (λe=>.tup ((dM AD ps e).map D.int)) [.val (ED AD ps)] (Qc rfl) rfl 'O' (λl hl=>?_) (λu v=>Zo rfl))) rfl))) rfl;have{u,v}:=l;have{i,h1,h2}:=MK.mp hl;have r1:=z6 A N g0 g1 (BS h1);have r2:=z6 A N g0 g1 (BS h2);exact LO (ds:=[ED AD ps,.int u,.int v]) rfl (Rm N r1.1 r1.2 r2.1 r2.2).1
end
section
variable{AD s t k g p b c x:Int}{ps qs U V:List Pr}{xs ys w bs L cl IK Q:List Int}{ws:List (List Int)}
theorem yCY{m:List Int}:U6 (s::(m++[t])) (AA 1) (AA (-1))=m:=by
 have e1:HT.sIx (m.length+2) 0 (AA 1)=1:=by show HT.sIx (m.length+2) 0 (AA ((1:Nat):Int))=1;rw[HT.sIx_nat,nK 'O']
 have e2:HT.sIx (m.length+2) (m.length+2) (AA (-1))=m.length+1:=by unfold HT.sIx;simp;omega
 have el:(s::(m++[t])).length=m.length+2:=by simp
 unfold U6;rw[el,e1,e2,List.drop_one,List.tail_cons];show(m++[t]).take m.length=m;rw[List.take_left]
theorem Gj(a b:Int):bL (.int a) (.int b)=.ok (.bl (decide (b<a))):=rfl
theorem Je{ga gb:G}{E E1:Ev}(h:ga E=.ok (.bl AQ,E1)):iL ga gb E=.ok (.bl AQ,E1):=HW h rfl
theorem Jd{ga gb:G}{E E1:Ev}{r:Out (D×Ev)}(h:ga E=.ok (.bl AE,E1))(h2:gb E1=r):iL ga gb E=r:=HW h h2
structure Rt(AD:Int)(ps:List Pr)(g p:Int)(IK:List Int)(ws:List (List Int))(k:Int):Prop where
 wa:iG [.val (ED AD ps),.val (.int g),.val (.int p)]=.ok (AE,aH ws,.non)
 wl:(ws.length:Int)=k
 k1:1<=k
 two:(IK.length=2↔((g,p)∈ps\/1<k))
 bl:2<IK.length->∃b m,oO [.val (ED AD ps),.val (.int g),.val (.int p)]=.ok (AE,.tup [.int b],.non)/\IK=g::(m++[p])/\b∈m
theorem yIT(A:All ps g L)(N:Net AD ps)(g0:0<=g)(g1:g<AD)(hp:Rc ps [] g p)(ne:p≠g):∃ws k,Rt AD ps g p (MF ps g L p) ws k/\ws.length<=1000/\∀w∈ws,w.length<=1002:=by
 have{p0,p1}:=hp.range N.rg' g0 g1;have{ws,U,k,X}:=Rp N g0 g1 p0 p1;have k1:=X.pos N g0 g1 (CT ne) hp;have hw:=X.wlen N g0 g1 p1;have S:=dU (p:=p) A;have two:(g,p)∈ps\/1<k->(MF ps g L p).length=2:=λh=>yCU A hp ne λc hc=>BL λn=>by
  have n1:c≠g:=λz=>n (.inl z);have n2:c≠p:=λz=>n (.inr z);rcases h with h|h
  .exact hc.2 (.step (.refl (U4 (CT n1))) h (U4 (CT n2)))
  .have r:=hc.rc.range N.rg' g0 g1;have no:¬Rc ps [c] g p:=hc.2;have:=X.one N g0 g1 p1 r.1 r.2 n1 n2 no;omega
 have wX:(g,p)∉ps->k=1->∃b,oO [.val (ED AD ps),.val (.int g),.val (.int p)]=.ok (AE,.tup [.int b],.non)/\Dom ps g b p/\b≠g/\b≠p:=λX5 hk=>by
  have{xs,bs,eb,C,hb,_,_,hl,ha}:=Zq N g0 g1 p0 p1 (CT ne) X5 X;obtain⟨b,rfl⟩:∃b,bs=[b]:=by
   match bs,hl with
   |[b],_=>exact{b,rfl}
   |[],hl=>simp at hl;omega
   |_::_::_,hl=>simp at hl;omega
  have X8:=ha b AZ;exact{b,eb,{hp,C.noway N g0 p0 p1 (CT ne) X5 hb},X8.2.2.1,X8.2.2.2}
 refine{_,k,{X.wa,by rw[AK];exact X.A.len,k1,{λh=>BL λn=>?_,two},λh=>?_},by rw[AK];exact hw.1,λw hq=>?_}
 .have h1:(g,p)∉ps:=λz=>n (.inl z);have h2:¬1<k:=λz=>n (.inr z);have{b,_,d,n1,n2}:=wX h1 'O';have:=zU5 A ne d n1 n2;omega
 .have n:¬((g,p)∈ps\/1<k):=λz=>by have:=two z;omega
  have h1:(g,p)∉ps:=λz=>n (.inl z);have h2:¬1<k:=λz=>n (.inr z);have{b,eb,d,n1,n2}:=wX h1 'O';have{m,em}:=zU6 A hp ne;refine{b,m,eb,em,?_};have:=(S.mem A).mpr d;rw[em] at this;rcases A3.mp this with e|e
  .exact absurd e n1
  .exact(BR.mp e).resolve_right λz=>n2 (AS.mp z)
 .have{v,hv,rfl}:=BY.mp hq;have:=hw.2.1 v hv;have:(low AD v).length<=v.length:=DH _ _;simp only[A8];omega
theorem yIU(N:Net AD ps)(g0:0<=g)(g1:g<AD)(hp:Rc ps [] g p)(ne:p≠g):∃fl ws,rW [.val (ED AD ps),.val (.int g),.val (.int p)]=.ok (AE,.tup (fl.map E8),.non)/\l8 [.val (ED AD ps),.val (.int g),.val (.int p)]=.ok (AE,aH ws,.non)/\(fl≠[]↔(ws.length:Int)=1) /\ (fl≠[]->∃l,l9 [.val (ED AD ps),.val (.int g),.val (.int p)]=.ok (AE,.tup [E8 l],.non)/\l∈fl):=by
 have{p0,p1}:=hp.range N.rg' g0 g1;rcases Gn N.rg' g0 g1 p0 p1 with⟨no,_⟩|⟨w,W,_,hw,ew⟩
 .exact absurd hp no
 have em:=yCT N g0 g1 W hw ew;have{ws,U,k,ea,eu,A}:=yF8 N.rg' g0 g1 p0 p1 (CT ne);have{xs,eb,Q}:=Jr N.rg' g0 g1 eu;have hk:=Q.eq A.flw N.nd A.no;have hx:p∉xs:=λz=>A.no ((Q.mem p).mp z);have hc:=Q.pos hx hp;have KE:(ws.length:Int)=1->∃l,O0 ps xs=[l]/\l∈vV ps g p w:=λh=>by
  have h1:(O0 ps xs).length=1:=by have:=A.len;omega
  have{l,hl}:=YX.mp h1;have hm:l∈ps:=(QK.mp (by rw[hl];exact AZ)).1;have{u,v}:=l;have M:ML ps g p (u,v):={hm,hp,Q.lane hx hl};exact{_,hl,A4.mpr {MK.mpr (M.on W),decide_eq_true M.no}}
 have rZ:vV ps g p w≠[]->(ws.length:Int)=1:=λh=>by have{l,hl}:=List.exists_mem_of_ne_nil _ h;have:=A.one N g0 g1 (yGI W hl).no;have h2:=O7.mpr hc;have:=A.len;omega
 refine{vV ps g p w,ws,em,ea,{rZ,λh=>?_},λh=>?_}
 .have{l,_,hl}:=KE h;exact List.ne_nil_of_mem hl
 .have{l,e,hl}:=KE (rZ h);rw[e] at eb;exact{l,eb,hl}
end
section
variable{AD s t k g p b c x:Int}{ps qs U V:List Pr}{xs ys w bs L cl IK Q:List Int}{ws:List (List Int)}
abbrev rE(AD:Int)(ps:List Pr)(g p:Int)(IK:List Int)(u4 u5 u6:Sl):Ev:=[.val (ED AD ps),.val (.int g),.val (.int p),.val (.tup (IK.map D.int)),u4,u5,u6]
theorem El(h:(ws.length:Int)=k):OQ [aH ws]=.ok (.int k):=by rw[<-h];exact Jx (by rw[AK])
theorem zX9(A:All ps g L)(N:Net AD ps)(z0:0<=g)(z1:g<AD)(hp:Rc ps [] g p)(ne:p≠g):vR [.val (ED AD ps),.val (.int g),.val (.int p),.val (.tup ((MF ps g L p).map D.int))]=.ok (AE,.bl AQ,.non):=by
 obtain⟨IK,hr⟩:∃IK,IK=MF ps g L p:={_,rfl};have{ws,k,T,hws,hw}:=yIT A N z0 z1 hp ne;have{fl,vs,em,ea,f1,f2}:=yIU N z0 z1 hp ne;rw[<-hr] at T ⊢;obtain⟨E1,qH⟩:∃E,E=rE AD ps g p IK (.val (aH ws)) .no .no:={_,rfl};obtain⟨E2,aX⟩:∃E,E=rE AD ps g p IK (.val (aH ws)) (.val (.bl (decide ((g,p)∈ps)))) .no:={_,rfl};obtain⟨E3,YS⟩:∃E,E=rE AD ps g p IK (.val (aH ws)) (.val (.bl (decide ((g,p)∈ps)))) (.val (.tup (fl.map E8))):={_,rfl};have s1:HM (.nm 4) (HD iG [(AX 0),(AX 1),(AX 2)]) (rE AD ps g p IK .no .no .no)=.ok (.nx E1):=LL (LO (ds:=[ED AD ps,.int g,.int p]) rfl T.wa) (by rw[qH];rfl);have s2:HM (.nm 5) (g2 MM (IW [(AX 1),(AX 2)]) (g2 ER (AX 0) (gC (.int 1)))) E1=.ok (.nx E2):=LL (E':=E1) (FC (E1:=E1) (E2:=E1) (x:=E8 (g,p)) (y:=.tup (ps.map E8)) (by rw[qH];rfl) (by rw[qH];rfl) (vK _ _)) (by rw[qH,aX];rfl);have v3:gN OQ [(AX 3)] E2=.ok (.int IK.length,E2):=NS (JA (d:=.tup (IK.map D.int)) (by rw[aX];rfl)) (Jx (by rw[AK]));have v4:gN OQ [(AX 4)] E2=.ok (.int k,E2):=NS (JA (d:=aH ws) (by rw[aX];rfl)) (El T.wl);have o5:iL (AX 5) (g2 bL (gN OQ [(AX 4)]) (gC (.int 1))) E2=.ok (.bl (decide ((IK.length:Int)=2)),E2):=by
  have e2:(IK.length:Int)=2↔IK.length=2:=by omega
  by_cases h:(g,p)∈ps
  .rw[decide_eq_true (e2.mpr (T.two.mpr (.inl h)))];exact Je (by rw[aX];show Out.ok _=_;rw[decide_eq_true h])
  .refine Jd (E1:=E2) (by rw[aX];show Out.ok _=_;rw[decide_eq_false h]) (FC v4 rfl ?_);rw[Gj,decide_eq_decide.mpr (e2.trans (T.two.trans (or_iff_right h)))]
 have t3:Cf (gB (g2 NI (g2 RP (gN OQ [(AX 3)]) (gC (.int 2))) (iL (AX 5) (g2 bL (gN OQ [(AX 4)]) (gC (.int 1)))))) (gB (g2 RP (AX 4) (IW []))) E2=.ok (AE,E2):=by
  refine yH4 (NL (FC (FC v3 rfl (Au _ _)) o5 (Vb (.bl _ _)))) (NL (FC (x:=aH ws) (y:=.tup []) (by rw[aX];rfl) rfl ?_));unfold aH;rw[Ep (n:=1) (Pls.of λw _=>Pls.tup (Pls.ints 0 w))];cases ws with
  |nil=>have:=T.wl;have:=T.k1;simp at *;omega
  |cons a r=>rfl
 have t4:cM (gB (g2 bL (gN OQ [(AX 3)]) (gC (.int 2)))) (gB (g2 UG (g2 ER (HD oO [(AX 0),(AX 1),(AX 2)]) (gC (.int 0))) (XO (AX 3) (AA (gC (.int 1))) (AA (g1 SD (gC (.int 1))))))) E2=.ok (AE,E2):=by
  have q:gB (g2 bL (gN OQ [(AX 3)]) (gC (.int 2))) E2=.ok (decide ((2:Int)<IK.length),E2):=NL (FC v3 rfl (Gj _ _));by_cases h:(2:Int)<IK.length
  .rw[decide_eq_true h] at q;have{b,m,eb,er,hb}:=T.bl 'O';have sl:XO (AX 3) (AA (gC (.int 1))) (AA (g1 SD (gC (.int 1)))) E2=.ok (.tup (m.map D.int),E2):=by refine HW (a:=(.tup (IK.map D.int),E2)) (by rw[aX];rfl) (HW (a:=(AA 1,E2)) rfl (HW (a:=(AA (-1),E2)) rfl ?_));show Out.ok (D.tup (U6 (IK.map D.int) (AA 1) (AA (-1))),E2)=_;rw[Tw,er,yCY]
   refine oD q (NL (FC (x:=.int b) (FC (E1:=E2) (x:=.tup [.int b]) (y:=.int 0) (LO (ds:=[ED AD ps,.int g,.int p]) (by rw[aX];rfl) eb) rfl rfl) sl ?_));rw[Bm,decide_eq_false λz=>z hb]
  .rw[decide_eq_false h] at q;exact uS q
 have s5:HM (.nm 6) (HD rW [(AX 0),(AX 1),(AX 2)]) E2=.ok (.nx E3):=LL (E':=E2) (LO (ds:=[ED AD ps,.int g,.int p]) (by rw[aX];rfl) em) (by rw[aX,YS];rfl);have pl:Pls 1 (fl.map E8):=Pls.of λp _=>Pls.tup (.cons (.int _ _) (.cons (.int _ _) (.nil 0)));have v6:AX 6 E3=.ok (.tup (fl.map E8),E3):=by rw[YS];rfl
 have t6:gB (g2 NI (g2 NI (AX 6) (IW [])) (g2 RP (gN OQ [(HD l8 [(AX 0),(AX 1),(AX 2)])]) (gC (.int 1)))) E3=.ok (AE,E3):=by
  refine NL (FC (x:=.bl (!(fl.map E8).isEmpty)) (y:=.bl (!(fl.map E8).isEmpty)) (FC v6 rfl (yGL pl)) (FC (E1:=E3) (x:=.int vs.length) (NS (JA (LO (ds:=[ED AD ps,.int g,.int p]) (by rw[YS];rfl) ea)) (El rfl)) rfl ?_) (Vb (.bl _ _)));rw[Au];by_cases h:fl=[]
  .rw[decide_eq_false λz=>f1.mpr z h,h];rfl
  .rw[decide_eq_true (f1.mp h)];cases fl with
   |nil=>exact absurd rfl h
   |cons a r=>rfl
 have r7:iL (g2 RP (AX 6) (IW [])) (g2 MM (g2 ER (HD l9 [(AX 0),(AX 1),(AX 2)]) (gC (.int 0))) (AX 6)) E3=.ok (.bl AQ,E3):=by
  have q:g2 RP (AX 6) (IW []) E3=.ok (.bl (fl.map E8).isEmpty,E3):=FC v6 rfl (Ep pl);by_cases h:fl=[]
  .rw[show(fl.map E8).isEmpty=AQ by rw[h];rfl] at q;exact Je q
  .rw[show(fl.map E8).isEmpty=AE by cases fl with
    |nil=>exact absurd rfl h
    |cons a r=>rfl] at q
   have{l,el,hl}:=f2 h;refine Jd q (FC (x:=E8 l) (FC (E1:=E3) (x:=.tup [E8 l]) (y:=.int 0) (LO (ds:=[ED AD ps,.int g,.int p]) (by rw[YS];rfl) el) rfl rfl) v6 ?_);rw[vK,decide_eq_true hl]
 exact N6 (E':=E3) (GN s1 (GN s2 (GN (SY t3 rfl) (GN (SY t4 rfl) (GN s5 (GN (SY t6 rfl) (OR r7))))))) (by rw[YS];rfl)
theorem kD{e:Pr}:e∈iK ps Q↔e∈ps/\e.1∈Q/\e.2∈Q:=by unfold iK;rw[A4,decide_eq_true_eq]
theorem yIV(I:IsH ps g t s)(N:Net AD ps)(s0:0<=s)(s1:s<AD)(t0:0<=t)(t1:t<AD):rY [.val (ED AD ps),.val (.int s),.val (.int t),.val (.tup ((dM AD ps (s,t)).map D.int))]=.ok (AE,.bl AQ,.non):=by
 have{_,hl,mx}:=Rm N s0 s1 t0 t1;obtain⟨xs,hxs⟩:∃xs,xs=dM AD ps (s,t):={_,rfl};rw[<-hxs] at hl mx ⊢;obtain⟨Q,hQ⟩:∃Q,Q=[s,t]++xs:={_,rfl};have NQ:Net AD (iK ps Q):=N.wo _;have hq:∀x,x=s\/x=t\/(Rc ps [t] s x/\Rc ps [s] x t)->x∈Q:=λx h=>by
  rw[hQ];rcases h with h|h|h
  .rw[h];exact AZ
  .rw[h];exact A2 _ AZ
  .exact A2 _ (A2 _ ((mx x).mpr h))
 have lv:∀b,b≠s->b≠t->Rc (iK ps Q) [b] s t:=λb n1 n2=>yK5 N.rg' s0 s1 t0 t1 n1 hq (zO4 I n1 n2);have{ws,U,k,X}:=Rp NQ s0 s1 t0 t1;have hk:(s,t)∉ps->1<k:=λX5=>by
  have k1:=X.pos NQ s0 s1 I.ne ((lv (-1) 'O' 'O').mono λz hz=>absurd hz A7);refine BL λh=>?_;have xZ:(s,t)∉iK ps Q:=λz=>X5 (kD.mp z).1;have{ys,bs,_,C,hb,_,_,Dy,ha}:=Zq NQ s0 s1 t0 t1 I.ne xZ X;obtain⟨b,rfl⟩:∃b,bs=[b]:=by
   match bs,Dy with
   |[b],_=>exact{b,rfl}
   |[],hl=>simp at hl;omega
   |_::_::_,hl=>simp at hl;omega
  have X8:=ha b AZ;exact C.noway NQ s0 t0 t1 I.ne xZ hb (lv b X8.2.2.1 X8.2.2.2)
 obtain⟨E,hE⟩:∃E:Ev,E=[.val (ED AD ps),.val (.int s),.val (.int t),.val (.tup (xs.map D.int)),.val (ED AD (iK ps Q))]:={_,rfl};have ep:g2 K2 (OD [(AX 1),(AX 2)]) (gN jN [(AX 3)]) [.val (ED AD ps),.val (.int s),.val (.int t),.val (.tup (xs.map D.int)),.no]=.ok (.lst (Q.map D.int),[.val (ED AD ps),.val (.int s),.val (.int t),.val (.tup (xs.map D.int)),.no]) :=
  FC (x:=.lst [.int s,.int t]) (y:=.lst (xs.map D.int)) rfl rfl (Jw (by rw[AK];show 2+_<_;omega) (by rw[hQ];rfl))
 have q1:HM (.nm 4) (HD uQ [(AX 0),(g2 K2 (OD [(AX 1),(AX 2)]) (gN jN [(AX 3)]))]) [.val (ED AD ps),.val (.int s),.val (.int t),.val (.tup (xs.map D.int)),.no]=.ok (.nx E) :=
  LL (LO (ds:=[ED AD ps,.lst (Q.map D.int)]) (NA rfl (JA ep)) (yCX (by have:=N.len;omega) λx=>yBD x Q)) (by rw[hE];rfl)
 have q2:iL (g2 MM (IW [(AX 1),(AX 2)]) (g2 ER (AX 0) (gC (.int 1)))) (g2 bL (gN OQ [(HD iG [(AX 4),(AX 1),(AX 2)])]) (gC (.int 1))) E=.ok (.bl AQ,E):=by
  have q:g2 MM (IW [(AX 1),(AX 2)]) (g2 ER (AX 0) (gC (.int 1))) E=.ok (.bl (decide ((s,t)∈ps)),E):=FC (E1:=E) (x:=E8 (s,t)) (y:=.tup (ps.map E8)) (by rw[hE];rfl) (by rw[hE];rfl) (vK _ _);by_cases h:(s,t)∈ps
  .rw[decide_eq_true h] at q;exact Je q
  .rw[decide_eq_false h] at q;refine Jd q (FC (E1:=E) (x:=.int k) (NS (JA (LO (ds:=[ED AD (iK ps Q),.int s,.int t]) (by rw[hE];rfl) X.wa)) (El (by rw[AK];exact X.A.len))) rfl ?_);rw[Gj,decide_eq_true (hk h)]
 exact N6 (E':=E) (GN q1 (OR q2)) (by rw[hE];rfl)
end
section
variable{sc:D}{n AD g p:Int}{ps:List Pr}{L:List Int}{u6 u7:Sl}
abbrev LE(sc:D)(n AD:Int)(ps:List Pr)(g:Int)(u4 u5 u6 u7:Sl):Ev:=[.val sc,.val (.int n),.val (ED AD ps),.val (.int g),u4,u5,u6,u7]
abbrev seB:GS:=(RO (zP (HD rS [(AX 2),(AX 3),(AX 4)])) (.tp [(.nm 6),(.nm 7)]) (NR (hG (bG (HD rY [(AX 2),(g2 ER (AX 5) (AX 6)),(g2 ER (AX 5) (g2 K2 (AX 6) (gC (.int 1)))),(AX 7)]))) (L3 (gC (.bl AE))) PJ))
abbrev Kg:GS:=(NR (gB (g2 NI (AX 4) (AX 3))) (FX (HM (.nm 5) (HD oG [(AX 2),(AX 3),(AX 4)])) (FX (NR (hG (bG (HD vR [(AX 2),(AX 3),(AX 4),(AX 5)]))) (L3 (gC (.bl AE))) PJ) seB)) PJ)
theorem yIW(A:All ps g L)(N:Net AD ps)(z0:0<=g)(z1:g<AD)(hp:Rc ps [] g p):∃v6 v7,seB (LE sc n AD ps g (.val (.int p)) (.val (aC (MF ps g L p))) u6 u7)=.ok (.nx (LE sc n AD ps g (.val (.int p)) (.val (aC (MF ps g L p))) v6 v7)):=by
 have{E',e,v6,v7,rfl}:=iB (gi:=zP (HD rS [(AX 2),(AX 3),(AX 4)])) (t:=.tp [(.nm 6),(.nm 7)]) (g:=(NR (hG (bG (HD rY [(AX 2),(g2 ER (AX 5) (AX 6)),(g2 ER (AX 5) (g2 K2 (AX 6) (gC (.int 1)))),(AX 7)])))
 (L3 (gC (.bl AE)))
 PJ)) (E:=LE sc n AD ps g (.val (.int p)) (.val (aC (MF ps g L p))) u6 u7) (E1:=LE sc n AD ps g (.val (.int p)) (.val (aC (MF ps g L p))) u6 u7)
  (ds:=bH ((Q0 (MF ps g L p)).map λe=>.tup ((dM AD ps e).map D.int)))
  (λi E=>∃v6 v7,E=LE sc n AD ps g (.val (.int p)) (.val (aC (MF ps g L p))) v6 v7) (HW (LO (ds:=[ED AD ps,.int g,.int p]) rfl (zNR A N z0 z1 hp)) rfl) {_,_,rfl}
  (λi d E hd hP=>by
   have{v6,v7,rfl}:=hP;obtain⟨e,he,rfl⟩:∃e,(Q0 (MF ps g L p))[i]?=AA e/\d=.tup [.int i,.tup ((dM AD ps e).map D.int)]:=by have{d0,h,rfl}:=Bg hd;rw[AY] at h;have{q,h4,rfl}:=BU.mp h;exact{q,h4,rfl}
   have{u,v}:=e;have{h1,h2}:=Ag he;have r1:=z6 A N z0 z1 (BS h1);have r2:=z6 A N z0 z1 (BS h2);obtain⟨E2,aX⟩:∃E2,E2=LE sc n AD ps g (.val (.int p)) (.val (aC (MF ps g L p))) (.val (.int i)) (.val (.tup ((dM AD ps (u,v)).map D.int))):={_,rfl};refine{E2,by rw[aX];rfl,E2,SY (E1:=E2) (Fq (b:=AQ) (uC (d:=.bl AQ) (LO (ds:=[ED AD ps,.int u,.int v,.tup ((dM AD ps (u,v)).map D.int)]) ?_ (yIV (yCV A h1 h2) N r1.1 r1.2 r2.1 r2.2)) rfl)) rfl,_,_,aX};rw[aX];exact NA rfl (NA (FC (x:=aC (MF ps g L p)) (y:=.int i) rfl rfl (Pz 'O' (by simpa using h1))) (NA (FC (x:=aC (MF ps g L p)) (y:=.int (i+1)) rfl (FC rfl rfl rfl) (Pz 'O' h2)) (JA rfl))))
 exact{v6,v7,e}
theorem yIX{u5:Sl}(A:All ps g L)(N:Net AD ps)(z0:0<=g)(z1:g<AD)(hp:Rc ps [] g p):∃v5 v6 v7,Kg (LE sc n AD ps g (.val (.int p)) u5 u6 u7)=.ok (.nx (LE sc n AD ps g (.val (.int p)) v5 v6 v7)):=by
 have t:gB (g2 NI (AX 4) (AX 3)) (LE sc n AD ps g (.val (.int p)) u5 u6 u7)=.ok (decide (p≠g),LE sc n AD ps g (.val (.int p)) u5 u6 u7):=NL (FC (x:=.int p) (y:=.int g) rfl rfl (At _ _));by_cases ne:p≠g
 .rw[decide_eq_true ne] at t;have{v6,v7,e}:=yIW (sc:=sc) (n:=n) (u6:=u6) (u7:=u7) A N z0 z1 hp;exact{_,v6,v7,dN t (GN (LL (d:=aC (MF ps g L p)) (LO (ds:=[ED AD ps,.int g,.int p]) rfl (Ts A N.rg' z0 z1 N.m2 hp)) rfl) (GN (SY (Fq (b:=AQ) (uC (d:=.bl AQ) (LO (ds:=[ED AD ps,.int g,.int p,aC (MF ps g L p)]) rfl (zX9 A N z0 z1 hp ne)) rfl)) rfl) e))}
 .rw[decide_eq_false ne] at t;exact{_,_,_,SY t rfl}
end
theorem law_true:∀ns:List Int,ns.length<=63->∃b d',m_law [.val (.lst (ns.map D.int))]=.ok (b,.bl AQ,d'):=by
 intro ns kR;have{c,ec}:=yCE ns;obtain⟨sc,hsc⟩:∃sc:D,sc=.lst (ns.map D.int):={_,rfl};have X6:(U6 ns (AA 1) (AA 4)).length<=63:=by unfold U6;rw[F9,ND];omega
 have{E',e,u1,u2,u3,u4,u5,u6,u7,rfl}:=iB (gi:=KN (g2 K2 (OD [(HD rV [(AX 0),(gC (.int 0))])]) (XO (AX 0) (AA (gC (.int 1))) (AA (gC (.int 4)))))) (t:=.nm 1)
  (g:=(FX (HM (.tp [(.nm 2),(.nm 3)]) (qY rR (qZ rT [(AX 1),(gC (.int 0))]) [(gC (.int 16))]))
 (RO (KN (HD YN [(AX 2),(AX 3)])) (.nm 4) Kg))) (E:=[.val sc,.no,.no,.no,.no,.no,.no,.no]) (E1:=[.val sc,.no,.no,.no,.no,.no,.no,.no]) (ds:=(c::U6 ns (AA 1) (AA 4)).map D.int)
  (λi E=>∃u1 u2 u3 u4 u5 u6 u7,E=[.val sc,u1,u2,u3,u4,u5,u6,u7])
  (by
   rw[hsc];refine uY (FC (x:=.lst [.int c]) (y:=.lst ((U6 ns (AA 1) (AA 4)).map D.int)) (lU (JA (LO (ds:=[.lst (ns.map D.int),.int 0]) rfl ec)) (show 1<10000 by decide)) ?_ ?_)
   .rw[<-Tw];rfl
   .exact Jw (by rw[AK];show 1+_<10000;omega) rfl) {_,_,_,_,_,_,_,rfl}
  (λi x E hx hP=>by
   have{u1,u2,u3,u4,u5,u6,u7,hE}:=hP;subst hE;rw[AY] at hx;have{n,_,rfl}:=BU.mp hx;refine{_,rfl,?_};have{w,ew,B}:=yBY n;have{AD,ps,C8,d',en,N,_,h0,h1,_}:=yB6 (EA:=16) B 'D' 'D' 'D';have{xs,ex,pw,mx}:=vO (start:=C8) N.rg' h0 h1;have A:All ps C8 xs:={pw.imp λh=>by omega,mx};have s1:HM (.tp [(.nm 2),(.nm 3)]) (qY rR (qZ rT [(AX 1),(gC (.int 0))]) [(gC (.int 16))]) [.val sc,.val (.int n),u2,u3,u4,u5,u6,u7]=.ok (.nx (LE sc n AD ps C8 u4 u5 u6 u7)) :=
    LL (zW8 (E1:=[.val sc,.val (.int n),u2,u3,u4,u5,u6,u7]) (zW9 (ds:=[.int n,.int 0]) rfl ew) (JA (d:=.int 16) rfl) en) rfl
   have{E9,e9,v4,v5,v6,v7,rfl}:=iB (gi:=KN (HD YN [(AX 2),(AX 3)])) (t:=.nm 4) (g:=Kg) (E:=LE sc n AD ps C8 u4 u5 u6 u7) (E1:=LE sc n AD ps C8 u4 u5 u6 u7) (ds:=xs.map D.int)
    (λi E=>∃v4 v5 v6 v7,E=LE sc n AD ps C8 v4 v5 v6 v7) (oH (LO (ds:=[ED AD ps,.int C8]) rfl ex)) {_,_,_,_,rfl} (λi x E hx hP=>by
    have{v4,v5,v6,v7,rfl}:=hP;rw[AY] at hx;have{p,hp,rfl}:=BU.mp hx;have{w5,w6,w7,er}:=yIX (sc:=sc) (n:=n) (u5:=v5) (u6:=v6) (u7:=v7) A N h0 h1 ((mx p).mp (BS hp));exact{_,rfl,_,er,_,_,_,_,rfl})
   exact{_,GN s1 e9,_,_,_,_,_,_,_,rfl})
 refine{AE,.non,?_};rw[<-hsc];exact N6 (GN e (OR (d:=.bl AQ) rfl)) rfl
structure FA(K:AC)(x:C7)(st:FP)(f:AV)(fd:CM):Prop where
 a:EB K C3 x=AA (AA (.ref f))
 F:Fun K x x st f fd
section
variable{K:AC}{x:C7}{st:FP}{f:AV}{fd:CM}
theorem fa{oc kV dc pm cd ct:AI}{od an:Option AV}{sl:Array (Option AI)}(a:EB K C3 x=AA (AA (.ref f)))(l:K.lookup f=AA {oc,od,.func (FL x x (iD st) (aK st) (J4 st) .none kV dc pm an cd ct),sl})(c:JL K cd x=AQ)(k:GX K (.ref f)=AQ):FA K x st f (FL x x (iD st) (aK st) (J4 st) .none kV dc pm an cd ct):={a,Fd l c k}
theorem FA.cal{P:CA}{w:DL}{mg:C7->Option AI}{base h:CN}{ps:List C7}{k np:Nat}{m:Mr}(A:FA K x st f fd)(X:K.In h)(G:h.Ns C3 mg)(o:FnOk P w K mg base KW k f fd ps (ME K np m))(b:Binds K fd ps []):J2 P w K mg base x k np m:=Fun.cal A.F o (OP X G A.a) b
abbrev bA(x:C7)(st:FP)(us:List AI)(r:List (C7×AI)):Prop:=∀(kV UN pm:AI) (an:Option AV) (HN ct:AI),OJ (FL x x (iD st) (aK st) (J4 st) .none kV UN pm an HN ct) {us,[]}=pure r
theorem FA.b1{p:C7}(A:FA K x st f fd)(h:∀u,bA x st [u] [(p,u)]:=by exact λ_ _ _ _ _ _ _=>rfl):Binds K fd [p] []:=A.F.binds λ_ _ _ _ _ _ us hl=>by have{u,t,rfl}:=BX hl;obtain rfl:=FT (DC hl);exact h u _ _ _ _ _ _
theorem FA.b2{p q:C7}(A:FA K x st f fd)(h:∀u v,bA x st [u,v] [(p,u),(q,v)]:=by exact λ_ _ _ _ _ _ _ _=>rfl):Binds K fd [p,q] []:=A.F.binds λ_ _ _ _ _ _ us hl=>by have{u,t,rfl}:=BX hl;have{v,t,rfl}:=BX (DC hl);obtain rfl:=FT (DC (DC hl));exact h u v _ _ _ _ _ _
theorem FA.b3{p q r:C7}(A:FA K x st f fd)(h:∀u v w,bA x st [u,v,w] [(p,u),(q,v),(r,w)]:=by exact λ_ _ _ _ _ _ _ _ _=>rfl):Binds K fd [p,q,r] []:=A.F.binds λ_ _ _ _ _ _ us hl=>by have{u,t,rfl}:=BX hl;have{v,t,rfl}:=BX (DC hl);have{w,t,rfl}:=BX (DC (DC hl));obtain rfl:=FT (DC (DC (DC hl)));exact h u v w _ _ _ _ _ _
theorem FA.b4{p q r s:C7}(A:FA K x st f fd)(h:∀u v w z,bA x st [u,v,w,z] [(p,u),(q,v),(r,w),(s,z)]:=by exact λ_ _ _ _ _ _ _ _ _ _=>rfl):Binds K fd [p,q,r,s] []:=A.F.binds λ_ _ _ _ _ _ us hl=>by have{u,t,rfl}:=BX hl;have{v,t,rfl}:=BX (DC hl);have{w,t,rfl}:=BX (DC (DC hl));have{z,t,rfl}:=BX (DC (DC (DC hl)));obtain rfl:=FT (DC (DC (DC (DC hl))));exact h u v w z _ _ _ _ _ _
end
theorem all_mk{l:RZ}{w:DL}{K:AC}{h:CN}{mg:C7->Option AI}{fa f0 f1 f2 f3 f4 f5 f6 f7 f8 f9 f10 f11 f12 f13 f14 f15 f16 f17 f18 f19 f20 f21 f22 f23 f24 Pd f26 f27 f28 f29 Pb:AV}{d0 d1 d2 d3 d4 d5 d6 d7 d8 d9 d10 d11 d12 nE fV d15 d16 d17 d18 d19 Ei Eh d22 Ph qM d26 d27 d28 d29:CM}(X:K.In h)(G:h.Ns C3 mg)(hfa:mg "law"=AA (.ref fa)) (x0:FA K "turned" Gz f0 d0) (x1:FA K "without_lane" Iu f1 d1) (x2:FA K "next_places" Bv f2 d2) (x3:FA K "turned_where_used" Jb f3 d3) (x4:FA K "way_taken" Ig f4 d4) (x5:FA K "doubled" Hn f5 d5) (x6:FA K "musts_held" Ip f6 d6) (x7:FA K "only" Ew f7 d7) (x8:FA K "_law_cell" Ie f8 d8) (x9:FA K "_law_well" Ic f9 d9) (Lp:FA K "_law_take" Ib f10 d10) (Lo:FA K "lanes_away" Io f11 d11) (Lm:FA K "_law_shuffled" Ja f12 d12) (Ll:FA K "least_way" Ia f13 nE) (Lk:FA K "reached_past" Ir f14 fV) (Lj:FA K "_law_net" Ii f15 d15) (Li:FA K "reached" Hm f16 d16) (Lh:FA K "used_most" Hz f17 d17) (Lg:FA K "stretch_between" Iy f18 d18) (Lf:FA K "lanes_apart" Bu f19 d19) (Ld:FA K "lane_blockers" Iz f20 Ei) (Lc:FA K "cut_off" Hl f21 Eh) (Lb:FA K "must_lanes" Im f22 d22) (La:FA K "ways_apart" Il f23 Ph) (Kz:FA K "blockers" Ih f24 qM) (Ky:FA K "musts" Fm f26 d26) (Kx:FA K "_law_right" Ik f27 d27) (Kw:FA K "_law_stretch_right" Jc f28 d28) (Kv:FA K "stretches" Hy f29 d29) {Ml Pp:Option AV} {Lz:Array (Option AI)} {Mn Mw Pg Md Pj Mh:AI} {qP T25:AV} {wM:Array AI} {Mj:Option AV} {Lx:Array (Option AI)} (Pq:EB K C3 "holders"=AA (AA (.ref Pd))) (l25:K.lookup Pd=AA {Mn,Ml,.func (FL "holders" "holders" (iD rN) (aK rN) (J4 rN) .none Mw Pg Md Pp (.ref qP) Pj),Lz}) (c25:JL K (.ref qP) "holders"=AQ) (k25:GX K (.ref Pd)=AQ) (n25:K.lookup qP=AA {Mh,Mj,.fields wM,Lx}) (r25:wM[11]?=AA (.ref T25)) {Mk zG:Option AV} {Ly:Array (Option AI)} {Mm xF y9 wV zA qO:AI} (a30:EB K C3 "law"=AA (AA (.ref Pb))) (l30:K.lookup Pb=AA {Mm,Mk,.func (FL "law" "law" (iD jR) (aK jR) (J4 jR) .none xF y9 wV zG qO zA),Ly}) (c30:JL K qO "law"=AQ) (k30:GX K (.ref Pb)=AQ) (XX:EB K C3 "enumerate"=AA AL) (wL:EB K C3 "len"=AA AL) (o9:EB K C3 "list"=AA AL) (wK:EB K C3 "min"=AA AL) (kG:EB K C3 "range"=AA AL) (ZE:EB K C3 "reversed"=AA AL) (eK:EB K C3 "sorted"=AA AL) (kF:EB K C3 "tuple"=AA AL) (wJ:EB K C3 "zip"=AA AL) : ∃fd:CM,(∀(s:AN) (v:AI),Y0 s fd {[v],[]} [("script",v)])/\∀base:CN,K.In base->base.Ns C3 mg->CB K base->FnOk l.prog w K mg base KW 9 fa fd ["script"] (ME K 1 m_law):=by have e:=hfa.symm.trans (OP X G a30);cases e;have T:Bt mg:={EX X G XX,EX X G wL,EX X G o9,EX X G wK,EX X G kG,EX X G ZE,EX X G eK,EX X G kF,EX X G wJ};have Pu:=Fd (st:=rN) l25 c25 k25;have F30:=Fd (st:=jR) l30 c30 k30;refine{FL "law" "law" (iD jR) (aK jR) (J4 jR) .none xF y9 wV zG qO zA,λs v=>.of_eq rfl,λbase _ _ cb=>?_};have wN:=tabIn_of Pq l25 rfl n25 r25;have q0:=x0.cal X G (zUB (P:=l.prog) (w:=w) (base:=base) x0.F T ) x0.b1;have q1:=x1.cal X G (zII (P:=l.prog) (w:=w) (base:=base) x1.F T ) x1.b2;have q2:=x2.cal X G (zI7 (P:=l.prog) (w:=w) (base:=base) x2.F T ) x2.b1;have q3:=x3.cal X G (zE0 (P:=l.prog) (w:=w) (base:=base) x3.F T ) x3.b2;have q4:Jf l.prog w K mg base:={f4,d4,yFT x4.F T,OP X G x4.a,x4.F.kp,x4.b3};have q5:=x5.cal X G (zRD (P:=l.prog) (w:=w) (base:=base) x5.F T ) x5.b1;have q6:=x6.cal X G (zK9 (P:=l.prog) (w:=w) (base:=base) x6.F T ) x6.b2;have q7:=x7.cal X G (yBU (P:=l.prog) (w:=w) (base:=base) x7.F T ) x7.b2;have q8:=x8.cal X G (zM6 (P:=l.prog) (w:=w) (base:=base) x8.F T ) x8.b2;have q9:=x9.cal X G (zM7 (P:=l.prog) (w:=w) (base:=base) x9.F T ) x9.b2;have q10:=Lp.cal X G (zM8 (P:=l.prog) (w:=w) (base:=base) Lp.F T ) Lp.b2;have q11:=Lo.cal X G (zLA (P:=l.prog) (w:=w) (base:=base) Lo.F T q2) Lo.b3;have q12:=Lm.cal X G (zGX (P:=l.prog) (w:=w) (base:=base) Lm.F T q10) Lm.b2;have q13:=Ll.cal X G (zM9 (P:=l.prog) (w:=w) (base:=base) Ll.F T q11 q2 q0) Ll.b4;have Mc:=Lk.cal X G (zIN (P:=l.prog) (w:=w) (base:=base) Lk.F T q11) Lk.b3;have q15:=Lj.cal X G (zOU (P:=l.prog) (w:=w) (base:=base) Lj.F T q10 q12) Lj.b2;have wT:=Li.cal X G (zRE (P:=l.prog) (w:=w) (base:=base) Li.F T Mc) Li.b2;have q17:=Lh.cal X G (zNB (P:=l.prog) (w:=w) (base:=base) Lh.F T q13 q3) Lh.b3;have q18:=Lg.cal X G (zFW (P:=l.prog) (w:=w) (base:=base) Lg.F T Mc q0) Lg.b3;have q19:=Lf.cal X G (zI8 (P:=l.prog) (w:=w) (base:=base) Lf.F T q17 q4) Lf.b3;have q20:=Ld.cal X G (zGY (P:=l.prog) (w:=w) (base:=base) Ld.F T wT q3 q17) Ld.b3;have q21:=Lc.cal X G (zRF (P:=l.prog) (w:=w) (base:=base) Lc.F T wT Mc) Lc.b3;have q22:=Lb.cal X G (zLB (P:=l.prog) (w:=w) (base:=base) Lb.F T q13 wT q1) Lb.b3;have q23:=La.cal X G (zLC (P:=l.prog) (w:=w) (base:=base) La.F T q19 q5) La.b3;have q24:=Kz.cal X G (zOV (P:=l.prog) (w:=w) (base:=base) Kz.F T q20 q5) Kz.b3;have q25:=Fun.cal Pu (zRG (P:=l.prog) (w:=w) (base:=base) Pu T rfl (cb "holders" (by decide +kernel) _ _ wN) {"holders",_,by decide +kernel,wN,rfl} q21 wT) (OP X G Pq) (FA.b2 {Pq,Pu});have q26:=Ky.cal X G (zXJ (P:=l.prog) (w:=w) (base:=base) Ky.F T q6 q25) Ky.b3;have q27:=Kx.cal X G (zLD (P:=l.prog) (w:=w) (base:=base) Kx.F T q23 q22 q24 q19 q20) Kx.b4;have q28:=Kw.cal X G (zER (P:=l.prog) (w:=w) (base:=base) Kw.F T q7 q23) Kw.b4;have q29:=Kv.cal X G (zNE (P:=l.prog) (w:=w) (base:=base) Kv.F T q26 q18) Kv.b3;exact yFX F30 T q15 wT q8 q9 q26 q27 q29 q28
end _M
namespace PySem.W.Fast
theorem tw15470734112942060870:True:=trivial
theorem tw3892304124550493260:True:=trivial
theorem tw7508177744849144414:True:=trivial
theorem tw12449391990258035249:True:=trivial
theorem tw13065482326393972883:True:=trivial
theorem tw7414585810737246910:True:=trivial
theorem tw10128762598861854187:True:=trivial
theorem tw1022595691779659894:True:=trivial
theorem tw13064449937958895055:True:=trivial
theorem tw10606572995990634210:True:=trivial
theorem tw10236835107404540960:True:=trivial
theorem tw18158402681079411689:True:=trivial
theorem tw4598868058141923969:True:=trivial
theorem tw7145270035547189993:True:=trivial
theorem tw9612275738171833316:True:=trivial
theorem tw14517738818566874435:True:=trivial
theorem tw1560719456136115898:True:=trivial
theorem tw550370951473812947:True:=trivial
theorem tw2904170300621813875:True:=trivial
theorem tw2248144381367477240:True:=trivial
theorem tw13345086905907145782:True:=trivial
theorem tw17392662773671612482:True:=trivial
theorem tw7686198222392926857:True:=trivial
theorem tw6290978429002485258:True:=trivial
theorem tw8282486708945249038:True:=trivial
theorem tw4108830653903528034:True:=trivial
theorem tw13130547584690565954:True:=trivial
theorem tw9526406553788109837:True:=trivial
theorem tw8370881860844518402:True:=trivial
theorem tw17196405224628304509:True:=trivial
theorem tw10480432138160210231:True:=trivial
theorem tw11815245563766687867:True:=trivial
theorem tw6791727399396004005:True:=trivial
theorem tw12384998725915094769:True:=trivial
theorem tw7689960949642926893:True:=trivial
theorem tw5270799155684950733:True:=trivial
theorem tw7521432672181154457:True:=trivial
theorem tw15534366216280710847:True:=trivial
theorem tw2191162662223245327:True:=trivial
theorem tw9954697106194772883:True:=trivial
theorem tw4424140318472853671:True:=trivial
theorem tw8603071283531019507:True:=trivial
theorem tw17627752371523954340:True:=trivial
theorem tw13661597633354043920:True:=trivial
theorem tw11893940944988524257:True:=trivial
theorem tw8587002325168707923:True:=trivial
theorem tw15064896328724782487:True:=trivial
theorem tw10796552274358897481:True:=trivial
theorem tw7676625327247278846:True:=trivial
theorem tw3093754262890685697:True:=trivial
theorem tw3451920165964246208:True:=trivial
theorem tw16485091314543850777:True:=trivial
theorem tw16083869467969587221:True:=trivial
theorem tw8924270486104685185:True:=trivial
theorem tw2451337624241779642:True:=trivial
theorem tw14679168874120998524:True:=trivial
theorem tw5833753190195528435:True:=trivial
theorem tw3135496828237947490:True:=trivial
theorem tw4966331377432094257:True:=trivial
theorem tw14064044726412163786:True:=trivial
theorem tw12793772199608895704:True:=trivial
theorem tw8157472681988969116:True:=trivial
theorem tw8204499727325831956:True:=trivial
theorem tw6968291827689718117:True:=trivial
theorem tw1379783619936682319:True:=trivial
theorem tw6388825314784632359:True:=trivial
theorem tw3920020448147683170:True:=trivial
theorem tw12107845247236776931:True:=trivial
theorem tw17071780381873266891:True:=trivial
theorem tw8264947021991589928:True:=trivial
theorem tw11199133582153719072:True:=trivial
theorem tw11812800214574315245:True:=trivial
theorem tw10550689865874443257:True:=trivial
theorem tw13499823343560163519:True:=trivial
theorem tw17632916936663483170:True:=trivial
theorem tw7631796681480795605:True:=trivial
theorem tw8355929004692715068:True:=trivial
theorem tw15704295047425280438:True:=trivial
theorem tw9157814350192148988:True:=trivial
end PySem.W.Fast
open PySem PySem.W PyProof.Rows
set_option maxRecDepth 100000 in
set_option maxHeartbeats 0 in
theorem PySem.Challenge.cw_waymusts_k37_whole_musts_by_ways_apart_holds : PySem.Challenge.rw_waymusts_k37_whole_musts_by_ways_apart.Holds := by
 w_on;o_law;k_head;(case hw=>w_witness2)
 k_fill
 refine _L.walk_v (l:=PySem.Challenge.rw_waymusts_k37_whole_musts_by_ways_apart) (m:=_M.m_law) (lv:=9) rfl rfl {rfl,by decide,by decide,rfl} (λw h Y=>PySem.W.km_in_of Y) ?tK _M.law_true ?F
 case tK =>
  intro w;refine' _L.tabs5 ?h1 ?h2 ?h3 ?h4 ?h5 ?ap
  (case h1=>refine' _L.TabE.tab (_L.tabIn_of ?a ?l ?e ?m ?r) ?o ?d;(case a=>k_is);(case l=>k_is);(case e=>exact rfl);(case m=>k_is);(case r=>exact rfl);(case o=>kernel_rfl);(case d=>exact rfl))
  (case h2=>refine' .no ?z;(case z=>k_is))
  (case h3=>refine' .no ?z;(case z=>k_is))
  (case h4=>refine' .no ?z;(case z=>k_is))
  (case h5=>refine' _L.TabE.tab (_L.tabIn_of ?a ?l ?e ?m ?r) ?o ?d;(case a=>k_is);(case l=>k_is);(case e=>exact rfl);(case m=>k_is);(case r=>exact rfl);(case o=>kernel_rfl);(case d=>exact rfl))
  (case ap=>decide)
 case F =>
  intro w mg fa h KX G yA;refine' _M.all_mk KX G yA ?_ ?_ ?_ ?_ ?_ ?_ ?_ ?_ ?_ ?_ ?_ ?_ ?_ ?_ ?_ ?_ ?_ ?_ ?_ ?_ ?_ ?_ ?_ ?_ ?_ ?_ ?_ ?_ ?_ ?_ ?_ ?_ ?_ ?_ ?r25 ?_ ?_ ?_ ?_ ?_ ?_ ?_ ?_ ?_ ?_ ?_ ?_ ?_
  any_goals (refine' _M.fa ?a ?l ?c ?k;(case a=>k_is);(case l=>k_is);(case c=>k_is);(case k=>k_is))
  any_goals k_is
  (case r25=>exact rfl)
  all_goals try kernel_rfl
