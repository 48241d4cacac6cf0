import PyProof.Rows.All
import Wide.All
import OpenK.AllK
import Wide.FinOn
import Lean
import PyProof.EqAt
import PyProof.EqKinds
import PyProof.TupleCall
import KE.KSortKey
import KE.KDflt
import PyProof.Rows.SortRuns
import PyProof.DictCompW
import KE.KLam
import PyProof.Rows.StrRev
import PyProof.WalksMore
import PyProof.ReprRoads
import PyProof.CallStr
import PyProof.AttrMissHeap
import KE.KDictOf
import KE.KTryMore
import OpenK.KOwn
import PyProof.RulesAs
import PyProof.RulesDel
import KE.KDictList
import PyProof.Rows.SeqMore2
import PyProof.FString
import PyProof.Rows.SetFrom
import PyProof.StrBlockL
import PyProof.StrWalks
import PyProof.Rows.StrJoin2
import KE.KIntText
import PyProof.StrBlockH
import PyProof.SetScanFacts
import PyProof.SetKind
import PyProof.TupleKey
import PyProof.DictKinds
import PyProof.IsRules
import PyProof.DictWalks
import PySem.Challenge.RW_waymusts_k33_stretches_by_the_words
set_option autoImplicit true
set_option linter.all false
set_option Elab.async false
set_option maxRecDepth 100000
set_option maxHeartbeats 8000000
local macro_rules (kind:=«term{_}»)|`(«term{_}»|{$x,*})=>`(⟨$x,*⟩)
local macro_rules|`('L')=>`(by lia)
local macro_rules|`('D')=>`(by decide)
local macro_rules|`('S')=>`(by simp)
local macro_rules|`('O')=>`(by omega)
noncomputable section
open Option renaming some→AA,none→AK,map_eq_some_iff→BN,map_some→GR,isSome_map→PZ,getD_none→cG
open Bool renaming false→AD,true→AN,false_ne_true→CH,and_eq_true→EY,not_eq_true'→MJ,false_eq_true→P3,eq_false_iff→Q9,and_false→U0,and_eq_true_iff→Z4,or_eq_true→jX
open PySem renaming wpAny_bind→AB,Value→AH,starEach→AM,Shared→AQ,Addr→AT,model→A7,wpAny→BE,mainGlobals→BL,Program→BZ,Str→CD,Heap→CM,FuncData→CV,wpAny_setField_rec→CY,wpAny_mono→CZ,wpAny_callSpecial?_slot→C7,World→C8,wpAny_holding→C9,wpAny_field→DA,backTo→DC,wpAny_call_entry→DH,foldedSetIterable→DJ,wpAny_newObj_type→DR,behindInMarks→DX,Expr→D0,Spec→D9,compareOp→EV,wpAny_rule→FL,Stmt→FM,rawInt→FR,sizeLine_eq→GB,Around→GD,Builtin→GG,bootBuiltins→GN,wpAny_attempt→GP,cLine→GZ,letOwnedTupleGo→HC,sliceBounds→HD,binaryOp→HE,sysModules→HL,assignEach→HM,wpAny_seqItems→HV,swapsWith→HW,wpAny_typeNameOfWhole_keyiter→IB,wpAny_Call_Name_kw→ID,codeAny→IE,wpAny_passesOwn→IM,wpAny_execs_nil→IN,wpAny_standAt→IP,wpAny_truthy_bool→IU,mem_of_lookup→IX,Obj→IZ,Scope→JJ,PyData→JT,wpAny_typeNameOf_keyiter→JY,wpAny_comprehension_free→JZ,attributeBase→J0,tupleKind_room_in1→J7,builtinsNs→J8,wpAny_pyIter_list→KO,wpAny_execs_cons→K2,IsPair→K7,holding→K8,standAt→MC,codeAny_mono→MD,Keyword→MH,wpAny_newTuple→MX,call_meets→MZ,wpAny_dictEntries→NM,wpAny_onRaise→N0,assign→N2,tupleKind→OF,bindArgs→OG,Arguments→OM,pyNext→OV,codeAny_compStart_list→OW,wpAny_isOneOf_keyiter→PP,wpAny_updateSeq_pair→QG,wpAny_setField→QH,wpAny_letGo→QI,wpAny_fieldsOf→QJ,pyIter→QK,keywordEach→QN,IsPart→QP,getItem→QZ,codeAmong→Q0,cellsFrom→Q1,callerA→Q2,wpAny_newList→R8,strLen_append→R9,wpAny_pyIter_tuple→TF,wpAny_call→TH,wpAny_pyIter_slot→UF,wpAny_Assign_Name→UG,slot_list_getitem→UH,concat_meets→UI,NameKind→UK,BindsTo→UN,wpAny_isInstance→V2,wpAny_eqBool_int→V3,noFill_tuple_add→V4,isTrue→V5,PassesOwn→V8,Env→V9,seqIndex_of→WJ,wpAny_dictEpoch→XG,valueAt→X0,wpAny_newFunctionEnv_cells→YO,newFunctionEnv→YR,isSubtype_stop→YS,firstArgMember→YT,field→YU,compTurn→YV,compEnvC→YW,closureFor→YX,backToKw→YY,again→YZ,Result→Y1,wpAny_getItem_list_slice→aT,swapsWithSole→aU,swappedStores→aV,seq_tuple_add→aW,evalPart_none→aX,call→aY,slicePick→b7,bindL→b9,bindC→cA,atKey→cB,Sem→cC,isCodeTable→cD,DictEntry→cJ,wpAny_typeOf→eZ,relabel→fB,Fin→fG,codeAny_call_function→g8,wpAny_pyIter_keyiter→jJ,wpAny_of_eq→jK,wpAny_mkInt→jL,codeAny_call_builtin→jO,ReadsAll→jP,Reads→jQ,SetTable→jR,Pos→jS,Builtin→mD
open PySem.W renaming Frag→AC,kitOne→BR,nsIn→BS,mg_of→CW,kia_one→DD,mg_none_of→DF,tabIn→EN,keepIn→EO,fnOf→E8,codeIn→IG,CodeHd→JS,excIn→KC,tabObj→K3,findIn→K4,kitx_dict→LM,cellsFrom_some→M1,kla_obj→M6,exmOne→N3,hideAll_get→OH,callWith_K→OX,kitx_list→PQ,instObj→RO,hideAll→RP,OpenLaw→RQ,KatTups→RS,lookIn→TJ,mroIn→UJ,envX→V6,of_hideAll→Y2,kitx_tuple→Y3,codeRec_of→Y4,specialIn→ZW,plainGet→aZ,kat_cons→a7,takesIn→cE,kat_yes→cF,kla_fn→fD,kat_no→fE,kat_go→fF,WalkO→g9
open PySem.Heap renaming get?_push_of_some→AG,get?_push_size→AX,lt_size→BB,SameBut→DK,size_push→ES,get?_update_self→KI,get?_push_ne→MI,size_update→M9,get?_update_ne→O3,get?_update_other→X1,get?_none_of_le→Z2,ExtBut→Z3
open Array renaming getElem_mem→AI,getElem?_eq_some_iff→CO,getElem?_toList→C2,perm_iff_toList_perm→EE,size_push→EF,toList_append→EK,toList_push→FD,size_append→G1,mem_toList_iff→G2,mem_push→HF,size_extract→JH,toList_extract→KQ,length_toList→KY,forIn_toList→LG,size_setIfInBounds→MK,toList_reverse→OL,toList_setIfInBounds→UO,eraseIdxIfInBounds→WB,append_empty→bC
open List renaming length_map→AJ,getElem?_eq_some_iff→AR,getElem?_map→AU,map_cons→AV,size_toArray→AZ,mem_singleton→A1,mem_cons_self→A2,mem_cons_of_mem→A5,getElem?_set_ne→A6,mem_cons→A8,length_cons→BA,length_append→BC,getElem?_set_self→BF,replicate→BI,mem_of_getElem?→BJ,take_succ_eq_append_getElem→BK,mem_append_right→BO,getElem?_eq_getElem→BP,mem_append→BU,getElem?_append_right→BX,length_set→BY,getElem?_append_left→CA,not_mem_nil→CG,mem_map→CJ,append_assoc→CP,mem_append_left→C1,length_replicate→C3,range→C4,append_nil→C5,take_length→DE,mem_filter→DG,pairwise_iff_getElem→DM,exists_cons_of_length_eq_add_one→DT,map_map→DY,getElem?_replicate→DZ,pairwise_map→D3,nodup_cons→D8,flatMap_cons→EC,map_append→EH,length_take→EI,replicate_succ→EL,length_singleton→EQ,nodup_nil→ER,filterMap_cons→FH,find?_cons→FK,drop_eq_getElem_cons→FN,length_filter_le→FO,getElem_mem→FQ,any_cons→FT,nodup_append→FZ,getElem?_cons_succ→F7,mem_range→GL,getElem?_zip_eq_some→GW,nil_append→G0,pairwise_append→G4,flatten_cons→G5,lookup_cons→HH,any_eq_true→HI,eq_nil_of_length_eq_zero→HN,mem_filterMap→HR,map_congr_left→JA,of_mem_zip→JF,length_nil→JG,pairwise_cons→JK,pairwise_singleton→JU,pairwise_mergeSort→JV,take_of_length_le→J3,reverse_cons→J4,length_range→J5,drop_eq_nil_of_le→J6,filter_cons→KL,foldl_cons→KW,mergeSort_perm→K5,getElem?_range→K6,perm_ext_iff_of_nodup→LN,getElem?_drop→LO,getD_eq_getElem?_getD→LP,length→MF,any_eq_false→MG,length_drop→M7,cons_append→M8,map_nil→NN,mem_iff_getElem?→OC,getElem?_eq_none→OD,drop_zero→OP,length_reverse→O2,zip_cons_cons→P0,filter_append→P1,filterMap_map→P2,take_sublist→Q5,take_add_one→Q6,ext_getElem?→Q7,any_map→Q8,eraseIdxIfInBounds_toArray→RW,zipIdx_cons→SF,mem_flatMap→SG,all_eq_true→SH,getElem?_take_of_lt→WO,eraseIdx_cons_succ→XI,take_append_drop→Y6,singleton_append→Y7,perm_append_comm→Y8,eq_nil_or_concat→Y9,dropLast_eq_take→ZA,mem_iff_getElem→Z0,reverse_append→a8,flatMap_append→a9,append_of_mem→cH,foldl_append→fJ,find?_append→fK,filter_congr→fL,perm_middle→hU,range_succ→jV,length_zip→jW
open Nat renaming le_refl→AL,lt_of_lt_of_le→AO,lt_of_le_of_lt→AS,le_trans→AW,le_add_right→A3,add_lt_add_left→A9,zero_le→BQ,ne_of_lt→CF,le_of_lt→CQ,le_of_eq→CU,lt_trans→C0,sub_le→C6,lt_or_eq_of_le→DI,lt_succ_self→DO,le_add_left→DP,zero_add→ED,add_le_add→EG,le_of_not_lt→E4,ne_of_gt→FG,lt_of_succ_le→F9,lt_irrefl→GJ,lt_of_le_of_ne→GO,le_succ→HQ,le_of_lt_succ→IK,lt_succ_of_lt→J9,succ_le_of_lt→MM,le_max_right→ND,add_sub_cancel_left→NE,add_comm→N4,not_lt→QO,succ_pos→RU,lt_trichotomy→RV,add_zero→Y5,lt_succ_of_le→hJ,not_lt_of_le→jT,lt_of_not_le→jU,min_le_left→mF,le_max_left→mG
open PyProof.Rows renaming arrOf→A0,wpS_pure→BD,wpS_bind→BG,SortSt→BW,Keyed→CI,pendingOf→DL,slot_tuple_getitem→EA,seqObj→EW,callWith_type1→FV,wpS_forRange→FY,envOfC→GY,IntsAre→IH,pairsOf→IV,wpS_mono→JX,wpS_modify→MW,step_dedup→MY,wpS_get→NL,AllBare→NO,wpS→NZ,listUpdate_at→N1,wpS_lift→QF,pairsOf_toList→QL,mirror→QM,IsTup→SI,seqEpoch_at→WK,get?_update_seq→XH,size_push'→YQ,SortKind→Y0,numOf→b8,subscriptTail_builtinR→fA,listItems_at→fC,tail_any→jM,failedOf→jN,entry_tuple_getitem→l9
open Option.some renaming inj→BH,injEq→WN
open Or renaming inl→BM,inr→DW
open PySem.PassesOwn renaming never→B9
open Sum renaming inl→CS,inr→RN
open List.Nodup renaming length_le_of_subset→DB
open PySem.Obj renaming mapSeq→DS,data_mapFields→L6,isFreed_of_fields→ZZ,cls_mapFields→hG
open PySem.Builtin.SmallTypes renaming nextOf→DU,ownedTupleIsFree→HS,ownedTupleHandOut→hZ
open PySem.PyData renaming eqv→EJ,canLayAll0→GV,depth→IQ,canLay0→K9,depthAll→SE,int→ZX
open Ne renaming symm→FI
open PySem.Builtin.List renaming listTooLong→FJ
open PySem.F renaming plainAttrs_list→FU,slot_enumerate_next→GC,type_list_append→LX,slot_list_append→LY,args_tuple_add_2→LZ,entry_tuple_add→ME,slot_tuple_add→M3,slot_dict_get→NC,args_enumerate_next_1→Q3,entry_enumerate_next→RT,slot_enumerate_iter→SD,args_dict_get_3→UY,entry_dict_get→V7,type_list_pop→WL,slot_list_pop→WM
open Nat.succ renaming inj→F8
open List.Perm renaming refl→GF,swap→H9,eq_of_pairwise→IT,append_left→JW,trans→KH,append_right→UL
open Prod renaming snd→GK,fst→Q4,ext→ZY
open PySem.Heap.SameBut renaming update→GT
open PySem.Value renaming ref→GU,none→JE,bool→LC,builtin→O0,int→RM,isStrOf→mB
open True renaming intro→G8
open False renaming elim→HP
open Int renaming lt_of_le_of_lt→HX,emod_lt_of_pos→HY,emod_nonneg→JL,le_trans→LD,le_of_lt→LF,toNat_natCast→MN,ne_of_lt→ZB,le_refl→bB,toNat_of_nonneg→cI
open PySem.Builtin.Slice renaming slicePlaces→HZ,sliceAdjust→KP,sliceApplied→PV
open Sum.inl renaming inj→IF
open Classical renaming byContradiction→IL,propDecidable→TY
open PySem.Str renaming ofString→IW,empty→O1
open Decidable renaming not_not→LA
open PySem.SeqAt renaming eqAt_reads→M0
open PySem.Calls renaming callWith_builtin→NF,evalArgs_plain→OJ,spliced_cons→PR,Name_function_global→UM,call_function_entry→UZ,spliced_nil→cK
open List.Pairwise renaming nil→N5
open Function renaming comp→OI
open PySem.Builtin.Tuple renaming tupleItemsOf→PU
open Array.Perm renaming refl→P4
open ForInStep renaming yield→QQ
open PySem.W.KatTups renaming nil→SC
open PySem.Heap.IsSliceOf renaming new→TX
open PySem.AutoSeq1 renaming sub_tuple_tuple→TZ
open PySem.Around renaming frames_deeper→X2
open And renaming intro→X3
open PyProof.Rows.SortSt renaming mk'→ZV
open List.cons renaming injEq→Z1
open PySem.NameKind renaming free→fH,cell→fI
open PySem.Data renaming cell→hV,seq→mH
universe u0 u1 u2 u3 u4
theorem Xo11{α0:Sort u0}{A:α0->Prop}{b:Prop}(h:∃x,A x)(k:∀x,A x->b):b:=h.elim λx h=>k x h
theorem Xo02{A B b:Prop}(h:A∧B)(k:A->B->b):b:=k h.1 h.2
theorem Xo21{α0:Sort u0}{α1:Sort u1}{A:α0->α1->Prop}{b:Prop}(h:∃x y,A x y)(k:∀x y,A x y->b):b:=h.elim λx h=>h.elim λy h=>k x y h
theorem Xo12{α0:Sort u0}{A B:α0->Prop}{b:Prop}(h:∃x,A x∧B x)(k:∀x,A x->B x->b):b:=h.elim λx h=>k x h.1 h.2
theorem Xo03{A B C b:Prop}(h:A∧B∧C)(k:A->B->C->b):b:=k h.1 h.2.1 h.2.2
theorem Xo31{α0:Sort u0}{α1:Sort u1}{α2:Sort u2}{A:α0->α1->α2->Prop}{b:Prop}(h:∃x y z,A x y z)(k:∀x y z,A x y z->b):b:=h.elim λx h=>h.elim λy h=>h.elim λz h=>k x y z h
theorem Xo22{α0:Sort u0}{α1:Sort u1}{A B:α0->α1->Prop}{b:Prop}(h:∃x y,A x y∧B x y)(k:∀x y,A x y->B x y->b):b:=h.elim λx h=>h.elim λy h=>k x y h.1 h.2
theorem Xo13{α0:Sort u0}{A B C:α0->Prop}{b:Prop}(h:∃x,A x∧B x∧C x)(k:∀x,A x->B x->C x->b):b:=h.elim λx h=>k x h.1 h.2.1 h.2.2
theorem Xo04{A B C D b:Prop}(h:A∧B∧C∧D)(k:A->B->C->D->b):b:=k h.1 h.2.1 h.2.2.1 h.2.2.2
theorem Xo41{α0:Sort u0}{α1:Sort u1}{α2:Sort u2}{α3:Sort u3}{A:α0->α1->α2->α3->Prop}{b:Prop}(h:∃x y z u,A x y z u)(k:∀x y z u,A x y z u->b):b:=h.elim λx h=>h.elim λy h=>h.elim λz h=>h.elim λu h=>k x y z u h
theorem Xo32{α0:Sort u0}{α1:Sort u1}{α2:Sort u2}{A B:α0->α1->α2->Prop}{b:Prop}(h:∃x y z,A x y z∧B x y z)(k:∀x y z,A x y z->B x y z->b):b:=h.elim λx h=>h.elim λy h=>h.elim λz h=>k x y z h.1 h.2
theorem Xo23{α0:Sort u0}{α1:Sort u1}{A B C:α0->α1->Prop}{b:Prop}(h:∃x y,A x y∧B x y∧C x y)(k:∀x y,A x y->B x y->C x y->b):b:=h.elim λx h=>h.elim λy h=>k x y h.1 h.2.1 h.2.2
theorem Xo14{α0:Sort u0}{A B C D:α0->Prop}{b:Prop}(h:∃x,A x∧B x∧C x∧D x)(k:∀x,A x->B x->C x->D x->b):b:=h.elim λx h=>k x h.1 h.2.1 h.2.2.1 h.2.2.2
theorem Xo05{A B C D E b:Prop}(h:A∧B∧C∧D∧E)(k:A->B->C->D->E->b):b:=k h.1 h.2.1 h.2.2.1 h.2.2.2.1 h.2.2.2.2
theorem Xo51{α0:Sort u0}{α1:Sort u1}{α2:Sort u2}{α3:Sort u3}{α4:Sort u4}{A:α0->α1->α2->α3->α4->Prop}{b:Prop}(h:∃x y z u v,A x y z u v)(k:∀x y z u v,A x y z u v->b):b:=h.elim λx h=>h.elim λy h=>h.elim λz h=>h.elim λu h=>h.elim λv h=>k x y z u v h
theorem Xo42{α0:Sort u0}{α1:Sort u1}{α2:Sort u2}{α3:Sort u3}{A B:α0->α1->α2->α3->Prop}{b:Prop}(h:∃x y z u,A x y z u∧B x y z u)(k:∀x y z u,A x y z u->B x y z u->b):b:=h.elim λx h=>h.elim λy h=>h.elim λz h=>h.elim λu h=>k x y z u h.1 h.2
theorem Xo33{α0:Sort u0}{α1:Sort u1}{α2:Sort u2}{A B C:α0->α1->α2->Prop}{b:Prop}(h:∃x y z,A x y z∧B x y z∧C x y z)(k:∀x y z,A x y z->B x y z->C x y z->b):b:=h.elim λx h=>h.elim λy h=>h.elim λz h=>k x y z h.1 h.2.1 h.2.2
theorem Xo24{α0:Sort u0}{α1:Sort u1}{A B C D:α0->α1->Prop}{b:Prop}(h:∃x y,A x y∧B x y∧C x y∧D x y)(k:∀x y,A x y->B x y->C x y->D x y->b):b:=h.elim λx h=>h.elim λy h=>k x y h.1 h.2.1 h.2.2.1 h.2.2.2
theorem Xo15{α0:Sort u0}{A B C D E:α0->Prop}{b:Prop}(h:∃x,A x∧B x∧C x∧D x∧E x)(k:∀x,A x->B x->C x->D x->E x->b):b:=h.elim λx h=>k x h.1 h.2.1 h.2.2.1 h.2.2.2.1 h.2.2.2.2
theorem Xo06{A B C D E F b:Prop}(h:A∧B∧C∧D∧E∧F)(k:A->B->C->D->E->F->b):b:=k h.1 h.2.1 h.2.2.1 h.2.2.2.1 h.2.2.2.2.1 h.2.2.2.2.2
set_option compiler.reuse false
def List.mp{α β:Type}(l:List α)(f:α->β):List β:=match l with|[]=>[]|a::l=>f a::l.mp f
def List.fm{α β:Type}(l:List α)(f:α->List β):List β:=match l with|[]=>[]|a::l=>f a++l.fm f
def List.sn{α:Type}(l:List α)(f:α->Bool):List α×List α:=match l with|[]=>([],[])|a::r=>if f a then let q:=r.sn f;(a::q.1,q.2) else ([],l)
def List.fd{α:Type}(l:List α)(f:α->Bool):Option α:=match l with|[]=>none|a::l=>if f a then some a else l.fd f
def List.fl{α β:Type}(l:List α)(f:β->α->β)(b:β):β:=match l with|[]=>b|a::l=>l.fl f (f b a)
set_option compiler.extract_closed false in
open Lean in
def ndQ(k:String)(l:List Syntax):Syntax:=.node .none (k.splitOn "."|>.fl .str .anonymous) l.toArray
open Lean in
def taQ:=Syntax.atom .none
open Lean in
def tmQ(k:String):=ndQ ("Lean.Parser.Term."++k)
set_option compiler.extract_closed false in
open Lean in
def obT(s:Syntax):Option Syntax:=
 let tc(k:String):=ndQ ("Lean.Parser.Tactic."++k)
 let nl:=ndQ "null"
 let sq(l:List Syntax):=tc "tacticSeq" [tc "tacticSeq1Indented" [nl (l.intersperse (taQ ";"))]]
 let lo(k:String)(l:List Syntax):=tc "rcasesPatLo" [tc "rcasesPatMed" [nl [tc ("rcasesPat."++k) l]],nl []]
 let rc(e p:Syntax):=tc "rcases" [taQ "rcases",nl [tc "elimTarget" [nl [],e]],nl [taQ "with",p]]
 let it(x:Syntax):=tc "intro" [taQ "intro",nl [x]]
 let d:=s[2][0]
 let q:=if d[0].getNumArgs==2 then d[0][0] else d[0]
 let e:=d[4]
 let ps:=q[1].getSepArgs.toList
 let L:=ps.length
 if q[0].isToken "{" then
 let lf:=ps.zipIdx.mp λ(x,i)=>if x.isIdent&&toString x.getId != "rfl" then (x,lo "one" [x],[])
  else let n:=(mkIdent (.mkSimple s!"qo'{i}")).raw;let p:=if x.isIdent then lo "one" [x] else lo "ignore" [taQ "_"];(n,p,[rc n p])
 let cl:=if e.isIdent then [tc "tacticTry_" [taQ "try",sq [tc "clear" [taQ "clear",nl [e]]]]] else []
 let al:=[6,5,4,3,2].fm λk=>if k>L then [] else (List.range k).mp λm=>
  let z:=k==L
  let hd:=if z then lf else lf.take (k-1)
  let y:=(mkIdent (.mkSimple s!"qo'{L}")).raw
  sq ([tc "refine" [taQ "refine",tmQ "app" [mkIdent (.mkSimple s!"Xo{k-1-m}{m+1}"),nl [e,tmQ "syntheticHole" [taQ "?",taQ "_"]]]]]++cl++hd.fm (λx=>it x.1::x.2.2)++if z then [] else [it y,s.setArg 2 (s[2].setArg 0 ((d.setArg 4 y).setArg 0 (q.setArg 1 (Syntax.mkSep (ps.drop (k-1)).toArray (taQ ",")))))])
 some (tc "first" [taQ "first",nl ((al++[sq [rc e (lo "tuple" [taQ "⟨",nl ((lf.mp (·.2.1)).intersperse (taQ ",")),taQ "⟩"])]]).mp λt=>ndQ "group" [taQ "|",t])])
 else none
open Lean in
local macro_rules(kind:=Lean.Parser.Tactic.tacticHave__)|s=>match obT s with|some x=>return x|none=>Macro.throwUnsupported
local macro_rules(kind:=Lean.Parser.Command.declaration)|s=>if s.getPos?.isNone then Lean.Macro.throwUnsupported else let s:=s.rewriteBottomUp λt=>t.setInfo .none;pure (if(s[1].isOfKind ``Lean.Parser.Command.definition||s[1].isOfKind ``Lean.Parser.Command.abbrev||s[1].isOfKind ``Lean.Parser.Command.instance)&&s[0][4].isNone then s.setArg 0 (s[0].setArg 4 (Lean.mkNullNode #[.node .none ``Lean.Parser.Command.noncomputable #[Lean.mkAtom "noncomputable "]])) else s)
section
open PySem
variable{κ α:Type}{a b L dx C:AT}{h h' base:CM}{items:Array AH}{P prog:BZ}{w:C8}{AF:List (AT×IZ)}{s s':AQ}{t' i j k n:Nat}{ch fp:List AT}{N ps:List CD}{x name qual:CD}{M:Model}{A:GD}{E Q:AH->AQ->Prop}{u:AH}{e c tg:D0}{pos OS p LW:jS}{es:List D0}{body:List FM}{f:AH->AH->cC AH}{op:CmpOp}{CK us:List AH}{mA mg:CD->Option AH}{fd:CV}{T:String}{o:D0}
namespace _L
open PySem PySem.Spec PyProof.Rows
abbrev Key:=Sum Int CD
noncomputable def mQ:Key->AH->Bool
 |.inl k,v=>Value.isInt k v
 |.inr x,v=>mB x v
def yJW(w:C8):Key->Int
 |.inl k=>hashInt k
 |.inr x=>hashStr w x
theorem dB:∀{k:Key} {v:AH},mQ k v=AN->(∃i t,k=CS i/\v=RM i t)\/(∃x t,k=RN x/\v=Value.str x t)
 |.inl i,v,h=>by have{t,e}:=Value.isInt_shape h;exact .inl {i,t,rfl,e}
 |.inr x,v,h=>by have{t,e}:=Value.isStrOf_shape h;exact .inr {x,t,rfl,e}
theorem zQ6(i:Int)(t:Tok):mQ (.inl i) (.int i t)=AN:=by simp[mQ,Value.isInt]
theorem zQ7(x:CD)(t:Tok):mQ (.inr x) (.str x t)=AN:=by simp[mQ,mB]
theorem yCX(a b:Int):decide ((CS a:Key)=CS b)=(a==b):=by
 by_cases e:a=b
 .subst e;simp
 .have h:¬(CS a:Key)=CS b:=λq=>e (IF q);rw[decide_eq_false h];exact(beq_eq_false_iff_ne.mpr e).symm
theorem yCY(a b:CD):decide ((RN a:Key)=RN b)=decide (a=b):=by
 by_cases e:a=b
 .subst e;simp
 .have h:¬(RN a:Key)=RN b:=λq=>e (Sum.inr.inj q);rw[decide_eq_false h,decide_eq_false e]
theorem yCZ(a:Int)(b:CD):decide ((CS a:Key)=RN b)=AD:=decide_eq_false (λq=>nomatch q)
theorem yC0(a:CD)(b:Int):decide ((RN a:Key)=CS b)=AD:=decide_eq_false (λq=>nomatch q)
def U5(prog:BZ)(w:C8):PySem.KeyKind prog w Key where
 is:=mQ
 hash:=yJW w
 inj:=λv a b ha hb=>by
  rcases dB ha with⟨i,t,rfl,rfl⟩|⟨x,t,rfl,rfl⟩
  .rcases dB hb with⟨j,u,rfl,e⟩|⟨y,u,rfl,e⟩
   .injection e with e1 _;rw[e1]
   .exact nomatch e
  .rcases dB hb with⟨j,u,rfl,e⟩|⟨y,u,rfl,e⟩
   .exact nomatch e
   .injection e with e1 _;rw[e1]
 byValue:=λk v h=>by rcases dB h with⟨i,t,rfl,rfl⟩|⟨x,t,rfl,rfl⟩<;>rfl
 pyHash:=λhv h=>by
  rcases dB hv with⟨i,t,rfl,rfl⟩|⟨x,t,rfl,rfl⟩
  .exact wpAny_pyHash_int h
  .exact wpAny_pyHash_str h
 eqBool:=λhu hv h=>by
  rcases dB hu with⟨i,t,rfl,rfl⟩|⟨x,t,rfl,rfl⟩
  .rcases dB hv with⟨j,u,rfl,rfl⟩|⟨y,u,rfl,rfl⟩
   .rw[yCX] at h;exact V3 h
   .rw[yCZ] at h;exact SeqAt.EqAt.int_str i t y u _ _ _ _ h
  .rcases dB hv with⟨j,u,rfl,rfl⟩|⟨y,u,rfl,rfl⟩
   .rw[yC0] at h;exact SeqAt.EqAt.str_int x t j u _ _ _ _ h
   .rw[yCY] at h;exact wpAny_eqBool_str h
 «strs»:=λk x t v h=>by
  rcases dB h with⟨i,u,rfl,e⟩|⟨y,u,rfl,e⟩
  .exact nomatch e
  .injection e with e1 _;subst e1;cases v<;>rfl
theorem Wc(prog:BZ)(w:C8)(k:Key)(v:AH):(U5 prog w).is k v=mQ k v:=rfl
theorem zNO(prog:BZ)(w:C8)(i:Int)(t:Tok):(U5 prog w).is (.inl i) (.int i t)=AN:=zQ6 i t
theorem zNP(prog:BZ)(w:C8)(x:CD)(t:Tok):(U5 prog w).is (.inr x) (.str x t)=AN:=zQ7 x t
inductive V where
 |non|bl (b:Bool)|int (i:Int)|str (x:CD)|byt (b:Array UInt8)|flt (b:UInt64)|ref (a:AT)|ty (n:String)
 deriving DecidableEq
def RelV:V->AH->Prop
 |.non,u=>u=JE
 |.bl b,u=>u=LC b
 |.int i,u=>∃t,u=RM i t
 |.str x,u=>∃t,u=Value.str x t
 |.byt b,u=>∃t,u=Value.bytes b t
 |.flt b,u=>∃t,u=Value.float b t
 |.ref a,u=>u=GU a
 |.ty n,u=>u=Value.type n
abbrev Vals:List V->List AH->Prop:=Paired RelV
theorem Vals.length{xs:List V}{us:List AH}(r:Vals xs us):xs.length=us.length:=Paired.length r
theorem Vals.get:∀{xs:List V} {us:List AH} {i:Nat} {x:V},Vals xs us->xs[i]?=AA x->∃u,us[i]?=AA u/\RelV x u
 |_,_,_,_,.nil,e=>by simp at e
 |_,_,0,_,.cons r _,e=>by simp at e;subst e;exact{_,rfl,r}
 |_,_,i+1,x,.cons _ t,e=>by have{u,h1,h2}:=Vals.get t (by simpa using e);exact{u,by simpa using h1,h2}
theorem Vals.set{x:V}{u:AH}(r:RelV x u):∀{xs:List V} {us:List AH} (i:Nat),Vals xs us->Vals (xs.set i x) (us.set i u)
 |_,_,_,.nil=>.nil
 |_,_,0,.cons _ t=>.cons r t
 |_,_,i+1,.cons q t=>.cons q (Vals.set r i t)
theorem Vals.append:∀{xs ys:List V} {us ws:List AH},Vals xs us->Vals ys ws->Vals (xs++ys) (us++ws)
 |_,_,_,_,.nil,s=>s
 |_,_,_,_,.cons r t,s=>.cons r (Vals.append t s)
theorem Vals.take:∀{xs:List V} {us:List AH} (n:Nat),Vals xs us->Vals (xs.take n) (us.take n)
 |_,_,0,_=>.nil
 |_,_,_+1,.nil=>.nil
 |_,_,n+1,.cons r t=>.cons r (Vals.take n t)
theorem Vals.drop:∀{xs:List V} {us:List AH} (n:Nat),Vals xs us->Vals (xs.drop n) (us.drop n)
 |_,_,0,r=>r
 |_,_,_+1,.nil=>.nil
 |_,_,n+1,.cons _ t=>Vals.drop n t
def RelO:Option V->Option AH->Prop
 |some v,AA u=>RelV v u
 |none,AK=>True
 |_,_=>False
def KV:List (κ×V)->List (κ×AH)->Prop:=Paired λ(p:κ×V) (q:κ×AH)=>p.1=q.1/\RelV p.2 q.2
def kV:Key->V
 |.inl i=>.int i
 |.inr x=>.str x
inductive HO where
 |lst (xs:List V)
 |tup (xs:List V)
 |dK (kvs:List (Key×V))|dT (kvs:List (List Key×V))
 |set (S:Int->Bool) (n:Nat)
 |ins (C dx:AT) (fs:List (CD×V))
 |own (x:AT)
 |xd (fs:List (CD×V))
 |met (f x:AT)
 |rng (lo hi:Int)
 |frz (o:IZ) (u:HO)
 |tbl (q:CD) (ps:Array AH)
 |ext (φ:CM->Prop)
abbrev Hp:=AT->Option HO
def D4(H:Hp)(a:AT)(o:HO):Hp:=λb=>if b=a then AA o else H b
variable{H:Hp}
theorem G9{o:HO}:D4 H a o a=AA o:=by unfold D4;rw[if_pos rfl]
theorem ET{o:HO}(h:b≠a):D4 H a o b=H b:=by unfold D4;rw[if_neg h]
theorem yGO{o u:HO}(h:H a=AA o)(h':H b=AA u)(d:o≠u):a≠b:=by intro e;subst e;rw[h] at h';exact d (BH h')
theorem U6{o:HO}(h:H a=AA o)(h':H b=AK):a≠b:=by intro e;subst e;rw[h] at h';cases h'
def IsTupP(h:CM)(a:AT)(items:Array AH):Prop:=∃o,h.get? a=AA o/\o.cls=.type "tuple"/\o.dict=AK/\∃n,o.data=.seq items n
theorem IsTupP.isTup(p:IsTupP h a items):SI h a items:=let ⟨o,e,c,_,n⟩:=p;{o,e,c,n}
theorem IsTupP.new(h:CM)(items:Array AH):IsTupP (h.push { cls:=.type "tuple",data:=.seq items }) h.objs.size items:={_,AX _ rfl,rfl,rfl,_,rfl}
section
variable(P:BZ)(w:C8)
def ObjOk(H:Hp)(h:CM)(a:AT):HO->Prop
 |.lst xs=>xs.length<=sizeLine/\∃(CK:List AH) (n:Nat),Vals xs CK/\h.get? a=AA { cls:=.type "list",data:=.seq CK.toArray n }
 |.tup xs=>xs.length<=sizeLine/\∃CK:List AH,Vals xs CK/\IsTupP h a CK.toArray
 |.dK kvs=>kvs.length<=sizeLine/\(a==HL)=AD/\∃vs,KV kvs vs/\h.DictOf (U5 P w) a vs
 |.dT kvs=>kvs.length<=sizeLine/\(a==HL)=AD/\∃xs:List (List Key×AT×AH),
   Paired (λ(p:List Key×V) (q:List Key×AT×AH)=>p.1=q.1/\H q.2.1=AA (.tup (p.1.map kV))/\RelV p.2 q.2.2) kvs xs /\
   ∃o es ep,h.get? a=AA o/\o.ExactDict/\o.data=.dict es ep/\es.toList=xs.map (entryOfKey (OF (U5 P w)))/\(xs.map (·.1)).Nodup
 |.set S n=>h.SetOf (intKind P w) a S n
 |.ins C dx fs=>H dx=AA (.own a)/\fs.length<=1000/\dx≠a/\h.get? a=AA (RO C dx) /\
   ∃mA,h.Ns1 dx mA/\(∀f,RelO (fs.lookup f) (mA f))/\PySem.Within mA (fs.map (·.1))
 |.own _=>∃o,h.get? a=AA o
 |.xd fs=>∃mA,h.Ns1 a mA/\∀f,RelO (fs.lookup f) (mA f)
 |.rng lo hi=>∃t u v,h.get? a=AA { cls:=.type "range",data:=.fields #[.int lo t,.int hi u,.int 1 v] }
 |.frz o u=>h.get? a=AA o/\ObjOk H h a u
 |.tbl q ps=>h.get? a=AA { cls:=.none,data:=.fields ps }/\TriplesOk ps.toList/\∀pos cv,Q0 pos ps.toList=AA cv->∃c' o vs t,cv=.ref c'/\H c'=AA (.frz o (.own c'))/\o.data=.fields vs/\vs[1]?=AA (.str q t)
 |.met f x=>h.get? a=AA (PySem.W.methodObj (.ref f) (.ref x))
 |.ext φ=>φ h/\(∃o,h.get? a=AA o)/\∀h1 h2:CM,φ h1->(∀o,h1.get? a=AA o->h2.get? a=AA o)->φ h2
def HOk(H:Hp)(h:CM):Prop:=∀a o,H a=AA o->ObjOk P w H h a o
end
variable{H':Hp}
section
variable{o:HO}
theorem ObjOk.lt(x:ObjOk P w H h a o):a<h.objs.size:=by
 cases o with
 |lst xs=>have{_,_,_,_,e}:=x;exact BB e
 |tup xs=>have{_,_,_,p}:=x;exact p.isTup.lt
 |dK kvs=>have{_,_,_,_,o,_,_,e,_}:=x;exact BB e
 |dT kvs=>have{_,_,_,_,o,_,_,e,_}:=x;exact BB e
 |set S n=>have{o,_,_,_,e,_}:=x;exact BB e
 |ins C dx fs=>have{_,_,_,e,_}:=x;exact BB e
 |own y=>have{_,e}:=x;exact BB e
 |xd fs=>have{_,zz',_}:=x;have{_,_,_,e,_}:=zz';exact BB e
 |rng lo hi=>have{_,_,_,e}:=x;exact BB e
 |frz ob u=>have{e,_}:=x;exact BB e
 |tbl q ps=>exact BB x.1
 |met f y=>exact BB (x)
 |ext φ=>have{_,zz',_}:=x;have{_,e}:=zz';exact BB e
theorem pA0{α β:Type}{F G:α->β->Prop}:∀{l₁:List α} {l₂:List β},Paired F l₁ l₂->(∀a b,F a b->G a b)->Paired G l₁ l₂
 |_,_,.nil,_=>.nil
 |_,_,.cons r t,f=>.cons (f _ _ r) (pA0 t f)
theorem ObjOk.stay(x:ObjOk P w H h a o)(k:∀b u,(b=a\/H b=AA (.own a))->h.get? b=AA u->h'.get? b=AA u) (ho:∀b,H b=AA (.own a)->H' b=AA (.own a)) (ht:∀b xs,H b=AA (.tup xs)->H' b=AA (.tup xs)) (hf:∀b o x,H b=AA (.frz o (.own x))->H' b=AA (.frz o (.own x))):ObjOk P w H' h' a o:=by
 induction o with
 |lst xs=>have{z,CK,n,r,e}:=x;exact{z,CK,n,r,k _ _ (.inl rfl) e}
 |tup xs=>have{z,CK,r,ob,e,c}:=x;exact{z,CK,r,ob,k _ _ (.inl rfl) e,c}
 |dK kvs=>have{z,y,vs,r,ob,es,ep,e,c}:=x;exact{z,y,vs,r,ob,es,ep,k _ _ (.inl rfl) e,c}
 |dT kvs=>have{z,y,xs,r,ob,es,ep,e,c}:=x;exact{z,y,xs,pA0 r λp q z=>{z.1,ht _ _ z.2.1,z.2.2},ob,es,ep,k _ _ (.inl rfl) e,c}
 |set S n=>have{ob,es,ep,t,e,c}:=x;exact{ob,es,ep,t,k _ _ (.inl rfl) e,c}
 |ins C dx fs=>have{d,z,ne,e,mA,zz',r}:=x;have{od,es,ep,e2,c}:=zz';exact{ho _ d,z,ne,k _ _ (.inl rfl) e,mA,{od,es,ep,k _ _ (.inr d) e2,c},r}
 |own y=>have{ob,e}:=x;exact{ob,k _ _ (.inl rfl) e}
 |xd fs=>have{mA,zz',r}:=x;have{od,es,ep,e,c}:=zz';exact{mA,{od,es,ep,k _ _ (.inl rfl) e,c},r}
 |rng lo hi=>have{t,u,v,e}:=x;exact{t,u,v,k _ _ (.inl rfl) e}
 |frz ob u ih=>have{e,q}:=x;exact{k _ _ (.inl rfl) e,ih q}
 |tbl q ps=>have{e,tr,al}:=x;refine{k a _ (.inl rfl) e,tr,λpos cv z=>?_};have{c',o,vs,t,r1,r2,r3}:=al pos cv z;exact{c',o,vs,t,r1,hf _ _ _ r2,r3}
 |met f y=>have e:=x;exact k a _ (.inl rfl) e
 |ext φ=>have{p,zz',st}:=x;have{o,e}:=zz';exact{st _ _ p λo q=>k _ _ (.inl rfl) q,{o,k _ _ (.inl rfl) e},st}
theorem HOk.lt(x:HOk P w H h)(e:H a=AA o):a<h.objs.size:=(x a o e).lt
theorem HOk.fresh(x:HOk P w H h)(e:h.objs.size<=a):H a=AK:=by
 cases q:H a with
 |none=>rfl
 |some u=>exact absurd (AO (x.lt q) e) (GJ _)
theorem HOk.kept(x:HOk P w H h)(k:∀b u,h.get? b=AA u->h'.get? b=AA u):HOk P w H h':=λa o e =>
 (x a o e).stay (λb u _ q=>k b u q) (λ_ q=>q) (λ_ _ q=>q) λ_ _ _ q=>q
theorem HOk.laid(x:HOk P w H h)(k:∀b u,h.get? b=AA u->h'.get? b=AA u)(hp:h.objs.size<=a)(new:ObjOk P w (D4 H a o) h' a o):HOk P w (D4 H a o) h':=λb u e=>by
 have hn:=x.fresh hp;by_cases hb:b=a
 .subst hb;rw[G9] at e;cases e;exact new
 .rw[ET hb] at e;exact(x b u e).stay (λc v _ q=>k c v q) (λc q=>by rw[ET (U6 q hn)];exact q) (λc xs q=>by rw[ET (U6 q hn)];exact q) λc o x q=>by rw[ET (U6 q hn)];exact q
end
def Rd(H:Hp)(a:AT)(u:HO):Prop:=H a=AA u\/∃o,H a=AA (.frz o u)
theorem Rd.ok{u:HO}(r:Rd H a u)(x:HOk P w H h):ObjOk P w H h a u:=by
 rcases r with r|⟨o,r⟩
 .exact x a u r
 .have{_,q}:=x a _ r;exact q
def uY:Option HO->Prop
 |some (.lst _)=>True
 |some (.dK _)=>True
 |some (.dT _)=>True
 |some (.set _ _)=>True
 |some (.ins _ _ _)=>True
 |some (.ext _)=>True
 |_=>False
section
variable{x e:AT}{o':HO}
theorem HOk.write(ok:HOk P w H h)(mu:uY (H x))(he:e=x\/H e=AA (.own x))(k:∀b u,b≠e->h.get? b=AA u->h'.get? b=AA u)(sI:∃u,h'.get? e=AA u) (new:ObjOk P w (D4 H x o') h' x o'):HOk P w (D4 H x o') h':=λb u q=>by
 have wF:∀c y,H c=AA (.own y)->c≠x:=λc y r z=>by subst z;rw[r] at mu;exact mu
 have Ls:∀c xs,H c=AA (.tup xs)->c≠x:=λc xs r z=>by subst z;rw[r] at mu;exact mu
 have Lu:∀c o y,H c=AA (.frz o (.own y))->c≠x:=λc o y r z=>by subst z;rw[r] at mu;exact mu
 by_cases hb:b=x
 .subst hb;rw[G9] at q;cases q;exact new
 .rw[ET hb] at q;by_cases pD:b=e
  .have q':H b=AA (.own x):=by
    rcases he with z|z
    .exact absurd (pD.trans z) hb
    .rw[pD];exact z
   rw[q] at q';cases q';have{v,hv}:=sI;exact{v,by rw[pD];exact hv}
  .refine(ok b u q).stay (λc v hc r=>k c v ?_ r) (λc r=>by rw[ET (wF c b r)];exact r) (λc xs r=>by rw[ET (Ls c xs r)];exact r) λc o y r=>by rw[ET (Lu c o y r)];exact r
   rcases hc with rfl|hc
   .exact pD
   .rintro rfl;rcases he with z|z
    .exact wF c b hc z
    .rw[hc] at z;cases z;exact hb rfl
end
structure Un(fs ex:List AT)(H H':Hp)(h h':CM):Prop where
 keep:∀b o,h.get? b=AA o->H b=AK->b∉fs->b∉ex->h'.get? b=AA o
 slot:∀b o,h.get? b=AA o->H b=AK->b∈fs->b∉ex->∃sl,h'.get? b=AA { o with slots:=sl }
 free:∀b o,h.get? b=AA o->H b=AK->b∉ex->H' b=AK
 there:∀b o,h.get? b=AA o->b∉ex->∃o',h'.get? b=AA o'
 tups:∀b xs,H b=AA (.tup xs)->H' b=AA (.tup xs)
 frzs:∀b o u,H b=AA (.frz o u)->H' b=AA (.frz o u)
 tbls:∀b t ps,H b=AA (.tbl t ps)->∃more,H' b=AA (.tbl t (ps++more))
section
variable{fs pG ex ex':List AT}{H1 H2:Hp}{h1 h2:CM}{x e:AT}{o:HO}
theorem Un.any(u:Un fs ex H H1 h h1){ob:IZ}(q:h.get? b=AA ob)(n:H b=AK)(hx:b∉ex):∃sl,h1.get? b=AA { ob with slots:=sl }:=by
 by_cases hb:b∈fs
 .exact u.slot b ob q n hb hx
 .exact{ob.slots,u.keep b ob q n hb hx}
theorem Un.kept(k:∀b u,h.get? b=AA u->h'.get? b=AA u):Un fs ex H H h h' :={λb ob q _ _ _=>k b ob q,λb ob q _ _ _=>{ob.slots,k b ob q},λ_ _ _ n _=>n,λb ob q _=>{ob,k b ob q},λ_ _ q=>q,λ_ _ _ q=>q,λ_ _ ps q=>{#[],by rw[q];simp}}
theorem Un.refl:Un fs ex H H h h:=Un.kept λ_ _ q=>q
theorem Un.laid(k:∀b u,h.get? b=AA u->h'.get? b=AA u)(hp:h.objs.size<=a)(hn:H a=AK):Un fs ex H (D4 H a o) h h' where
 keep:=λb u q _ _ _=>k b u q
 slot:=λb u q _ _ _=>{u.slots,k b u q}
 free:=λb u q n _=>by rw[ET (CF (AO (BB q) hp))];exact n
 there:=λb u q _=>{u,k b u q}
 tups:=λb xs q=>by rw[ET (U6 q hn)];exact q
 frzs:=λb u xs q=>by rw[ET (U6 q hn)];exact q
 tbls:=λb t ps q=>{#[],by rw[ET (U6 q hn),q];simp}
theorem Un.write(mu:uY (H x))(he:e=x\/H e=AA (.own x))(k:∀b u,b≠e->h.get? b=AA u->h'.get? b=AA u)(sI:∃u,h'.get? e=AA u):Un fs ex H (D4 H x o) h h':=by
 have hx:∀b,H b=AK->b≠x:=λb n z=>by subst z;rw[n] at mu;exact mu
 have hb:∀b,H b=AK->b≠e:=λb n z=>by
  subst z;rcases he with r|r
  .exact hx b n r
  .rw[n] at r;cases r
 have hm:∀b u,H b=AA u->¬uY (AA u)->b≠x:=λb u q nm z=>by subst z;rw[q] at mu;exact nm mu
 refine{λb u q n _ _=>k b u (hb b n) q,λb u q n _ _=>{u.slots,k b u (hb b n) q},λb u q n _=>by rw[ET (hx b n)];exact n,λb u q _=>?_,
  λb xs q=>by rw[ET (hm b _ q λz=>z)];exact q,λb u xs q=>by rw[ET (hm b _ q λz=>z)];exact q,λb t ps q=>{#[],by rw[ET (hm b _ q λz=>z),q];simp}}
 by_cases pD:b=e
 .subst pD;exact sI
 .exact{u,k b u pD q}
end
noncomputable def Bz(h:CM)(H:Hp):List AT:=(C4 h.objs.size).filter λa=>(H a).isSome
def fS(h:CM)(H:Hp):CM:=RP h (Bz h H)
theorem zQ8(h:CM)(H:Hp):(fS h H).objs.size=h.objs.size:=PySem.W.hideAll_size _ _
theorem zUP{o:IZ}(e:h.get? b=AA o)(n:H b=AK):(fS h H).get? b=AA o :=OH _ e λhm=>by have q:=(DG.mp hm).2;rw[n] at q;simp at q
theorem zY5{o:IZ}(e:(fS h H).get? b=AA o):h.get? b=AA o/\H b=AK:=by
 have e':=Y2 (Bz h H) e;refine{e',?_};cases q:H b with
 |none=>rfl
 |some x=>have hm:b∈Bz h H:=DG.mpr {GL.mpr (BB e'),by simp[q]};have z:(fS h H).get? b=AK:=PySem.W.hideAll_none (Bz h H) hm;rw[z] at e;cases e
noncomputable def t7(g h:CM)(L:AT):List (AT×IZ):=(C4 h.objs.size).filterMap λa=>if a=L\/(g.get? a).isSome=AN then AK else(h.get? a).map λo=>(a,o)
theorem zNQ{g:CM}{o:IZ}(h1:a≠L)(h2:g.get? a=AK)(h3:h.get? a=AA o):(a,o)∈t7 g h L :=HR.mpr {a,GL.mpr (BB h3),by simp[h1,h2,h3]}
theorem zIG{g:CM}{p:AT×IZ}(hp:p∈t7 g h L):p.1≠L/\g.get? p.1=AK/\h.get? p.1=AA p.2:=by
 have{b,_,e}:=HR.mp hp;split at e
 .cases e
 .rename_i hn;cases q:h.get? b with
  |none=>rw[q] at e;simp at e
  |some u =>
   rw[q] at e;simp only[GR,WN] at e;subst e;refine{λz=>hn (.inl z),?_,q};cases r:g.get? b with
   |none=>rfl
   |some v=>exact(hn (.inr (by simp[r]))).elim
def rest(g h:CM)(L d:AT):List (AT×IZ):=(t7 g h L).filter λp=>decide (p.1≠d)
theorem zUQ{g:CM}:News g L h (t7 g h L):=λp hp=>let ⟨a,b,c⟩:=zIG hp;{c,a,b}
structure Mod(K:AC)(mg:CD->Option AH)(base:CM):Prop where
 kin:K.In base
 glob:base.Ns BL mg
 blt:∃mb,base.Ns J8 mb/\∀x:CD,x≠"__name__"->mb x=GN x
 nolimit:base.NoLimit
 bmain:∃bm ob,mg "__builtins__"=AA (.ref bm)/\bm≠J8/\base.get? bm=AA ob/\ob.cls=.type "module"/\ob.dict=AA J8/\ob.data=.plain
set_option genInjectivity false in
structure Cx where
 prog:BZ
 w:C8
 K:AC
 mg:CD->Option AH
 base:CM
 A:GD
 N:List CD
 s₀:AQ
 H₀:Hp
 env:V9
 outer:List V9
 stack:List V9
 ex:List AT
 fn:CD->Bool
 calm:Bool
 pn:List (AT×IZ)
 xe:AH->AQ->Prop
def SO(l:List V9):List AT:=l.filterMap (·.frame)
abbrev Cx.fs(X:Cx):List AT:=SO X.outer
def ZK(sc:JJ)(x:CD):Prop:=sc.names.lookup x=AA .local\/sc.names.lookup x=AA .cell\/sc.names.lookup x=AA .free
def Loc(sc:JJ)(x:CD):Prop:=sc.names.lookup x=AA .local\/sc.names.lookup x=AA .cell
def Yf(env:V9)(h:CM)(m:CD->Option AH)(x:CD)(u:AH):Prop :=(env.kindOf x=AA .local/\m x=AA u)\/((env.kindOf x=AA .cell\/env.kindOf x=AA .free)/\∃c,env.cells.lookup x=AA c/\h.IsCell c (AA u))
noncomputable def iR:List CD:=["holders","_law_table","_law_back","_law_kept_right","law"]
def TB(K:AC)(T:AT)(q:CD):Prop:=∃x c,x∈iR/\EN K x=AA (c,T)/\q=x++(".<locals>.<lambda>":CD)
structure Cx.Ok(X:Cx):Prop where
 tab:∀T q,TB X.K T q->∃ps,X.H₀ T=AA (.tbl q ps)
 mod:Mod X.K X.mg X.base
 kind:X.env.scope.kind=.function
 glob:X.env.globals=BL
 blt:X.env.builtins=J8
 above:X.s₀.heap.objs.size<=X.env.locals
 inj:∀x y c,X.env.cells.lookup x=AA c->X.env.cells.lookup y=AA c->x=y
 has:∀x,(X.env.kindOf x=AA .cell\/X.env.kindOf x=AA .free)->∃c,X.env.cells.lookup x=AA c
 cab:∀x c,X.fn x=AN->X.env.cells.lookup x=AA c->X.s₀.heap.objs.size<=c
 hd:X.calm=AN->X.A.handled=AK
 frames:X.A.frames=AA X.stack
 stk:X.stack=X.outer\/(X.stack=X.env::X.outer/\X.env.frame=AA X.env.locals)
 exf:∀b∈X.ex,b≠X.env.locals/\∀x c,X.env.cells.lookup x=AA c->c≠b
 bs:∀b o,X.base.get? b=AA o->X.s₀.heap.get? b=AA o/\X.H₀ b=AK
 bsz:X.base.objs.size<=X.s₀.heap.objs.size
 noex:∀b o,X.base.get? b=AA o->b∉X.ex
 exfs:∀b∈X.ex,b∉X.fs
 funs:X.s₀.heap.FunFrames X.base X.outer
 frf:∀b∈X.fs,X.H₀ b=AK
structure Inv(X:Cx)(AF:List (AT×IZ))(σ:List (Option V))(H:Hp)(s:AQ):Prop where
 ok:X.Ok
 os:s.os=X.s₀.os
 bare:NO s.gens
 base:Un X.fs X.ex X.H₀ H X.s₀.heap s.heap
 loc:∃m,s.heap.Ns X.env.locals m/\∀(i:Nat) (x:CD) (v:V),X.N[i]?=AA x->σ[i]?=AA (AA v)->ZK X.env.scope x->∃u,RelV v u/\Yf X.env s.heap m x u
 cell:∀x c,X.env.cells.lookup x=AA c->∃v,s.heap.IsCell c v
 free:H X.env.locals=AK
 freeC:∀x c,X.env.cells.lookup x=AA c->H c=AK
 pin:∀p∈X.pn++AF,s.heap.get? p.1=AA p.2/\H p.1=AK/\p.1≠X.env.locals/\p.1∉X.fs/\∀v,p.2.data≠.cell v
 hok:HOk X.prog X.w H s.heap
 len:σ.length=X.N.length
variable{X:Cx}{v:V}
section
variable{σ:List (Option V)}
theorem Cx.Ok.nofr(ok:X.Ok){o:IZ}(e:X.base.get? b=AA o):b∉X.fs:=λhb=>by have:=(ok.funs.mem hb).1;rw[e] at this;cases this
theorem Inv.bs(I:Inv X AF σ H s):∀b o,X.base.get? b=AA o->s.heap.get? b=AA o/\H b=AK:=λb o e =>
 {I.base.keep b o (I.ok.bs b o e).1 (I.ok.bs b o e).2 (I.ok.nofr e) (I.ok.noex b o e),I.base.free b o (I.ok.bs b o e).1 (I.ok.bs b o e).2 (I.ok.noex b o e)}
theorem Inv.bk(I:Inv X AF σ H s):∀b o,X.base.get? b=AA o->s.heap.get? b=AA o:=λb o e=>(I.bs b o e).1
theorem Inv.tab(I:Inv X AF σ H s):∀T q,TB X.K T q->∃ps,H T=AA (.tbl q ps):=λT q b=>by have{ps,e}:=I.ok.tab T q b;have{m,e'}:=I.base.tbls T q ps e;exact{_,e'}
theorem Inv.mod(I:Inv X AF σ H s):Mod X.K X.mg X.base:=I.ok.mod
theorem Inv.kIn(I:Inv X AF σ H s):X.K.In s.heap:=I.ok.mod.kin.keeps I.bk
theorem Inv.nolimit(I:Inv X AF σ H s):s.heap.NoLimit:=I.ok.mod.nolimit.keeps I.bk
theorem Inv.fr(I:Inv X AF σ H s):∃m,Fr X.base X.env.locals s.heap m :=
 let ⟨m,hn,_⟩:=I.loc
 {m,hn,I.bk,AW I.ok.bsz I.ok.above}
theorem Inv.lt(I:Inv X AF σ H s):X.env.locals<s.heap.objs.size:=let ⟨_,hn,_⟩:=I.loc;hn.lt
theorem Inv.sz(I:Inv X AF σ H s):X.s₀.heap.objs.size<=s.heap.objs.size:=AW I.ok.above (CQ I.lt)
theorem Inv.nofs(I:Inv X AF σ H s)(h:s.heap.objs.size<=a):a∉X.fs:=λhb=>by have{_,o,ho,_}:=I.ok.funs.mem hb;exact absurd (AO (BB ho) (AW I.sz h)) (GJ _)
theorem Inv.cne(I:Inv X AF σ H s):∀x c,X.env.cells.lookup x=AA c->c≠X.env.locals:=λx c e z=>by have{v,o,ho,hd}:=I.cell x c e;have{m,zz',_}:=I.loc;have{o',es,ep,gQ,xT,_}:=zz';rw[z,gQ] at ho;cases ho;rw[xT] at hd;cases hd
theorem Inv.funs(I:Inv X AF σ H s):s.heap.FunFrames X.base X.outer:=by
 have all:∀l,(∀b∈SO l,b∈X.fs)->X.s₀.heap.FunFrames X.base l->s.heap.FunFrames X.base l:=by
  intro l;induction l with
  |nil=>intro _ _;trivial
  |cons env r ih=>intro hs hl;have{hk,zz',hr}:=hl;have{L,o,hf,hn,ho,hd}:=zz';have hL:=hs L (by unfold SO;rw[FH,hf];exact A2);have{sl,e}:=I.base.slot L o ho (I.ok.frf L hL) hL λz=>I.ok.exfs L z hL;exact{hk,{L,_,hf,hn,e,hd},ih (λb hb=>hs b (by unfold SO;rw[FH,hf];exact A5 _ hb)) hr}
 exact all X.outer (λ_ hb=>hb) I.ok.funs
theorem Inv.stack(I:Inv X AF σ H s):s.heap.FunFrames X.base X.stack:=by
 rcases I.ok.stk with e|⟨e,hf⟩
 .rw[e];exact I.funs
 .rw[e];have{m,hn,_}:=I.loc;refine .cons (by rw[I.ok.kind];decide) hf hn ?_ I.funs;exact Z2 (AW I.ok.bsz I.ok.above)
theorem Inv.stkSub(I:Inv X AF σ H s):∀b∈SO X.stack,b∈X.env.locals::X.fs:=λb hb=>by
 rcases I.ok.stk with e|⟨e,hf⟩
 .rw[e] at hb;exact A5 _ hb
 .rw[e] at hb;unfold SO at hb;rw[FH,hf] at hb;exact hb
theorem Inv.stkFree(I:Inv X AF σ H s):∀b∈SO X.stack,H b=AK:=λb hb=>by
 rcases A8.mp (I.stkSub b hb) with e|hb
 .rw[e];exact I.free
 .have{_,o,ho,_}:=I.ok.funs.mem hb;exact I.base.free b o ho (I.ok.frf b hb) λz=>I.ok.exfs b z hb
theorem Inv.step{g':Array GenState}{d':Drawn}(I:Inv X AF σ H s) (gT:∀b∈ch,(b∈X.ex\/X.s₀.heap.objs.size<=b)/\b≠X.env.locals/\(∀x c,X.env.cells.lookup x=AA c->c≠b)/\∀p∈X.pn++AF,p.1≠b) (keep:∀b o,b≠X.env.locals->b∉X.fs->b∉ch->s.heap.get? b=AA o->H b=AK->h'.get? b=AA o) (slot:∀b o,b≠X.env.locals->b∈X.fs->b∉ch->s.heap.get? b=AA o->H b=AK->∃sl,h'.get? b=AA { o with slots:=sl }) (free:∀b o,b∉ch->s.heap.get? b=AA o->H b=AK->H' b=AK) (there:∀b o,b∉ch->s.heap.get? b=AA o->∃o',h'.get? b=AA o') (tups:∀b xs,H b=AA (.tup xs)->H' b=AA (.tup xs)) (frzs:∀b o u,H b=AA (.frz o u)->H' b=AA (.frz o u)) (tbls:∀b t ps,H b=AA (.tbl t ps)->∃more,H' b=AA (.tbl t (ps++more))) (ns:∀m,s.heap.Ns X.env.locals m->h'.Ns X.env.locals m) (hok:HOk X.prog X.w H' h') (hg:NO g') : Inv X AF σ H' { s with heap:=h',gens:=g',drawn:=d',toks:=t' }:=by
 have neL:∀b o,X.s₀.heap.get? b=AA o->b≠X.env.locals:=λb o e=>CF (AO (BB e) I.ok.above);have Cy:∀b o,X.s₀.heap.get? b=AA o->b∉X.ex->b∉ch:=λb o e hx hb=>by
  rcases(gT b hb).1 with z|z
  .exact hx z
  .exact absurd (AO (BB e) z) (GJ _)
 have l8:∀x c,X.env.cells.lookup x=AA c->∀v,s.heap.IsCell c v->h'.IsCell c v:=λx c e v q0=>by
  have{o,ho,hd}:=q0;have wJ:=λz=>(gT c z).2.2.1 x c e rfl;by_cases hc:c∈X.fs
  .have{sl,q}:=slot c o (I.cne x c e) hc wJ ho (I.freeC x c e);exact{_,q,hd}
  .exact{o,keep c o (I.cne x c e) hc wJ ho (I.freeC x c e),hd}
 refine{I.ok,I.os,hg,{λb o e n hb hx=>?_,λb o e n hb hx=>?_,λb o e n hx=>?_,λb o e hx=>?_,λb xs e=>tups b xs (I.base.tups b xs e),λb o xs e=>frzs b o xs (I.base.frzs b o xs e),λb t ps e=>?_},?_,λx c e=>?_,?_,λx c e=>?_,λp hp=>?_,hok,I.len}
 .exact keep b o (neL b o e) hb (Cy b o e hx) (I.base.keep b o e n hb hx) (I.base.free b o e n hx)
 .have{sl,e1}:=I.base.slot b o e n hb hx;have{Cs,e2}:=slot b _ (neL b o e) hb (Cy b o e hx) e1 (I.base.free b o e n hx);exact{Cs,e2}
 .have{o',e1}:=I.base.there b o e hx;exact free b o' (Cy b o e hx) e1 (I.base.free b o e n hx)
 .have{o',e1}:=I.base.there b o e hx;exact there b o' (Cy b o e hx) e1
 .have{m1,e1}:=I.base.tbls b t ps e;have{m2,e2}:=tbls b t _ e1;exact{m1++m2,by rw[e2,Array.append_assoc]}
 .have{m,hn,hl}:=I.loc;refine{m,ns m hn,λi x v e1 e2 e3=>?_};have{u,r,l}:=hl i x v e1 e2 e3;refine{u,r,?_};rcases l with l|⟨k,c,e,z⟩
  .exact .inl l
  .exact .inr {k,c,e,l8 x c e _ z}
 .have{v,z}:=I.cell x c e;exact{v,l8 x c e v z}
 .have{m,zz',_}:=I.loc;have{o,_,_,ho,_}:=zz';exact free _ o (λz=>(gT _ z).2.1 rfl) ho I.free
 .have{v,o,ho,hd}:=I.cell x c e;exact free c o (λz=>(gT c z).2.2.1 x c e rfl) ho (I.freeC x c e)
 .have{e,n,ne,nf,d}:=I.pin p hp;have wJ:=λz=>(gT p.1 z).2.2.2 p hp rfl;exact{keep p.1 p.2 ne nf wJ e n,free p.1 p.2 wJ e n,ne,nf,d}
theorem Inv.un(I:Inv X AF σ H s)(u:Un X.fs [] H H' s.heap h')(hok:HOk X.prog X.w H' h'):Inv X AF σ H' { s with heap:=h',toks:=t' }:=by
 have{m,zz',_}:=id I.loc;have{o,es,ep,ho,r}:=zz';have{sl,hL}:=u.any ho I.free 'S';exact I.step (ch:=[]) (λ_ z=>nomatch z) (λb o _ hb _ e n=>u.keep b o e n hb 'S') (λb o _ hb _ e n=>u.slot b o e n hb 'S') (λb o _ e n=>u.free b o e n 'S') (λb o _ e=>u.there b o e 'S') u.tups u.frzs u.tbls (λm' hm=>by have{o',aQ,lZ,gQ,r'}:=hm;rw[ho] at gQ;cases gQ;exact{_,aQ,lZ,hL,r'}) hok I.bare
theorem Inv.call{g':Array GenState}{d':Drawn}(I:Inv X AF σ H s)(u:Un (SO X.stack) ch H H' s.heap h')(hok:HOk X.prog X.w H' h')(hg:NO g') (gT:∀b∈ch,(b∈X.ex\/X.s₀.heap.objs.size<=b)/\b≠X.env.locals/\(∀x c,X.env.cells.lookup x=AA c->c≠b)/\∀p∈X.pn++AF,p.1≠b) : Inv X AF σ H' { s with heap:=h',gens:=g',drawn:=d',toks:=t' }:=by
 have{m,zz',_}:=id I.loc;have{o,es,ep,ho,r}:=zz';have{sl,hL}:=u.any ho I.free λz=>(gT _ z).2.1 rfl;exact I.step gT (λb o hL hb hc e n=>u.keep b o e n (λz=>(A8.mp (I.stkSub b z)).elim hL hb) hc) (λb o _ _ hc e n=>u.any e n hc) (λb o hc e n=>u.free b o e n hc) (λb o hc e=>u.there b o e hc) u.tups u.frzs u.tbls (λm' hm=>by have{o',aQ,lZ,gQ,r'}:=hm;rw[ho] at gQ;cases gQ;exact{_,aQ,lZ,hL,r'}) hok hg
theorem Inv.turned{it:AT}(I:Inv X AF σ H s)(k:∀b o,b≠it->s.heap.get? b=AA o->h'.get? b=AA o)(hn:H it=AK)(hL:it≠X.env.locals) (h1:it∈X.ex\/X.s₀.heap.objs.size<=it) (h2:∀x c,X.env.cells.lookup x=AA c->c≠it) (h3:∀p∈X.pn++AF,p.1≠it):Inv X AF σ H { s with heap:=h',toks:=t' }:=by
 have wI:∀b u,H b=AA u->b≠it:=λb u e z=>by rw[z,hn] at e;cases e
 refine I.step (ch:=[it]) (λb hb=>?_) (λb o _ _ hc e _=>k b o (λz=>hc (by simp[z])) e) (λb o _ _ hc e _=>{o.slots,k b o (λz=>hc (by simp[z])) e}) (λ_ _ _ _ n=>n)
  (λb o hc e=>{o,k b o (λz=>hc (by simp[z])) e}) (λ_ _ e=>e) (λ_ _ _ e=>e) (λb t ps e=>{#[],by rw[e];simp}) (λm hm=>?_) (λb u e=>?_) I.bare
 .have e:b=it:=by simpa using hb
  subst e;exact{h1,hL,h2,h3}
 .have{o,es,ep,ho,r}:=hm;exact{o,es,ep,k _ o (FI hL) ho,r}
 .refine(I.hok b u e).stay (λc v hc q=>k c v ?_ q) (λ_ q=>q) (λ_ _ q=>q) λ_ _ _ q=>q;rcases hc with z|z
  .rw[z];exact wI b u e
  .exact wI c _ z
theorem Inv.tok(I:Inv X AF σ H s)(t:Nat):Inv X AF σ H { s with toks:=t }:=I.un Un.refl I.hok
theorem Inv.kept{t':Nat}(I:Inv X AF σ H s)(k:∀b u,s.heap.get? b=AA u->h'.get? b=AA u):Inv X AF σ H { s with heap:=h',toks:=t' }:=I.un (Un.kept k) (I.hok.kept k)
theorem Inv.laid{a:AT}{o:HO}{t':Nat}(I:Inv X AF σ H s)(k:∀b u,s.heap.get? b=AA u->h'.get? b=AA u)(hp:s.heap.objs.size<=a)(new:ObjOk X.prog X.w (D4 H a o) h' a o) : Inv X AF σ (D4 H a o) { s with heap:=h',toks:=t' }:=I.un (Un.laid k hp (I.hok.fresh hp)) (I.hok.laid k hp new)
theorem Inv.write{x e:AT}{o:HO}{t':Nat}(I:Inv X AF σ H s)(mu:uY (H x))(he:e=x\/H e=AA (.own x))(k:∀b u,b≠e->s.heap.get? b=AA u->h'.get? b=AA u)(sI:∃u,h'.get? e=AA u) (new:ObjOk X.prog X.w (D4 H x o) h' x o):Inv X AF σ (D4 H x o) { s with heap:=h',toks:=t' }:=I.un (Un.write mu he k sI) (I.hok.write mu he k sI new)
theorem Inv.weak{σ':List (Option V)}(I:Inv X AF σ H s)(hl:σ'.length=σ.length)(w:∀(i:Nat) v,σ'[i]?=AA (AA v)->σ[i]?=AA (AA v)):Inv X AF σ' H s :={I.ok,I.os,I.bare,I.base,let ⟨m,hn,jE⟩:=I.loc;{m,hn,λi x v e1 e2 e3=>jE i x v e1 (w i v e2) e3},I.cell,I.free,I.freeC,I.pin,I.hok,hl.trans I.len}
theorem Inv.pins_of{pins':List (AT×IZ)}(I:Inv X AF σ H s)(h:∀p∈pins',s.heap.get? p.1=AA p.2/\H p.1=AK/\p.1≠X.env.locals/\p.1∉X.fs/\∀v,p.2.data≠.cell v):Inv X pins' σ H s :={I.ok,I.os,I.bare,I.base,I.loc,I.cell,I.free,I.freeC,λp hp=>(BU.mp hp).elim (λz=>I.pin p (C1 _ z)) (h p),I.hok,I.len}
theorem Ak(hN:N.Nodup)(a:N[i]?=AA x)(b:N[j]?=AA x):i=j:=by have{h1,e1}:=AR.mp a;have{h2,e2}:=AR.mp b;exact(List.getElem_inj hN).mp (e1.trans e2.symm)
theorem Hc{Q:Unit->AQ->Prop}(I:Inv X AF σ H s)(hN:X.N.Nodup)(hi:X.N[i]?=AA x)(hx:Loc X.env.scope x)(r:RelV v u) (h:∀s',Inv X AF (σ.set i (AA v)) H s'->(∃a,DK a s.heap s'.heap/\(a=X.env.locals\/X.env.cells.lookup x=AA a))->Q () s') (hf:X.fn x=AN\/X.env.scope.names.lookup x=AA .local:=by first|exact .inl rfl|exact .inr rfl|assumption):BE M A (storeName X.env x u) Q E s:=by
 have{m,hn,hl}:=id I.loc;have Od:(X.env.scope.kind==.class||(X.env.scope.kind==.module&&X.env.locals != X.env.globals))=AD:=by rw[I.ok.kind];rfl
 have hiσ:i < σ.length:=by rw[I.len];exact(AR.mp hi).1
 have Ox:=I.cne;have VM:∀{a:AT} {h':CM},(∃o,s.heap.get? a=AA o/\H a=AK)->DK a s.heap h'->HOk X.prog X.w H h':=λ{a h'} ha hs b ob e=>by
  have{_,_,lU}:=ha;refine(I.hok b ob e).stay (λc w' hc q=>(hs.2 c ?_).trans q) (λ_ q=>q) (λ_ _ q=>q) λ_ _ _ q=>q;rintro rfl;rcases hc with rfl|hc
  .rw[lU] at e;cases e
  .rw[lU] at hc;cases hc
 rcases hx with hk|hk
 .refine wpAny_storeName_local hk hn (λh' xC hs=>?_) Od;have{oL,_,_,lQ,_}:=id hn;refine h _ {I.ok,I.os,I.bare,{λb o e n hb hx=>?_,λb o e n hb hx=>?_,I.base.free,λb o e hx=>?_,I.base.tups,I.base.frzs,I.base.tbls},{_,xC,λj y v' e1 e2 e3=>?_},λy c e=>?_,I.free,I.freeC,λp hp=>?_,VM {oL,lQ,I.free} hs,by simpa using I.len} {_,hs,.inl rfl}
  .exact(hs.2 b (CF (AO (BB e) I.ok.above))).trans (I.base.keep b o e n hb hx)
  .have{sl,e1}:=I.base.slot b o e n hb hx;exact{sl,(hs.2 b (CF (AO (BB e) I.ok.above))).trans e1}
  .have{o',e1}:=I.base.there b o e hx;exact{o',(hs.2 b (CF (AO (BB e) I.ok.above))).trans e1}
  .by_cases hj:j=i
   .subst hj;rw[hi] at e1;cases e1;rw[BF hiσ] at e2;cases e2;exact{u,r,.inl {hk,by simp}}
   .rw[A6 (FI hj)] at e2;have{u',r',q}:=hl j y v' e1 e2 e3;refine{u',r',?_};rcases q with⟨k,e⟩|⟨k,c,e,z⟩
    .refine .inl {k,?_};have:y≠x:=λe=>hj (Ak hN e1 (e▸hi));simp[this,e]
    .exact .inr {k,c,e,z.sameBut hs (Ox y c e)}
  .have{w',z}:=I.cell y c e;exact{w',z.sameBut hs (Ox y c e)}
  .have{e,n,ne,nf,d}:=I.pin p hp;exact{(hs.2 p.1 ne).trans e,n,ne,nf,d}
 .have Np:X.fn x=AN:=by
   rcases hf with z|z
   .exact z
   .rw[z] at hk;cases hk
  have{c,hc}:=I.ok.has x (.inl hk);have{w',z}:=I.cell x c hc;refine wpAny_storeName_cell I.ok.kind hk hc z (λh' XZ hs=>?_);have{oc,jC,Mx}:=id z;refine h { s with heap:=h' } {I.ok,I.os,I.bare,{λb o e n hb hx=>?_,λb o e n hb hx=>?_,I.base.free,λb o e hx=>?_,I.base.tups,I.base.frzs,I.base.tbls},{m,hn.sameBut hs (FI (Ox x c hc)),λj y v' e1 e2 e3=>?_},λy c' e=>?_,I.free,I.freeC,λp hp=>?_,VM {oc,jC,I.freeC x c hc} hs,by simpa using I.len} {c,hs,.inr hc}
  .exact(hs.2 b (CF (AO (BB e) (I.ok.cab x c Np hc)))).trans (I.base.keep b o e n hb hx)
  .have{sl,e1}:=I.base.slot b o e n hb hx;exact{sl,(hs.2 b (CF (AO (BB e) (I.ok.cab x c Np hc)))).trans e1}
  .have{o',e1}:=I.base.there b o e hx;exact{o',(hs.2 b (CF (AO (BB e) (I.ok.cab x c Np hc)))).trans e1}
  .by_cases hj:j=i
   .subst hj;rw[hi] at e1;cases e1;rw[BF hiσ] at e2;cases e2;exact{u,r,.inr {.inl hk,c,hc,XZ}}
   .rw[A6 (FI hj)] at e2;have{u',r',q}:=hl j y v' e1 e2 e3;refine{u',r',?_};rcases q with q|⟨k,c',e,z'⟩
    .exact .inl q
    .refine .inr {k,c',e,z'.sameBut hs ?_};rintro rfl;exact hj (Ak hN e1 (I.ok.inj _ _ _ e hc▸hi))
  .by_cases Dg:c'=c
   .subst Dg;exact{_,XZ}
   .have{w2,z2}:=I.cell y c' e;exact{w2,z2.sameBut hs Dg}
  .have{e,n,ne,nf,d}:=I.pin p hp;refine{(hs.2 p.1 ?_).trans e,n,ne,nf,d};intro q;rw[q,jC] at e;have q':=BH e;exact d w' (by rw[<-q'];exact Mx)
theorem Aj{Q:Unit->AQ->Prop}(I:Inv X AF σ H s)(hN:X.N.Nodup)(hi:X.N[i]?=AA x)(hx:Loc X.env.scope x)(r:RelV v u) (h:∀s',Inv X AF (σ.set i (AA v)) H s'->Q () s') (hf:X.fn x=AN\/X.env.scope.names.lookup x=AA .local:=by first|exact .inl rfl|exact .inr rfl|assumption):BE M A (storeName X.env x u) Q E s :=Hc I hN hi hx r (λs' I' _=>h s' I') hf
theorem Inv.call'(I:Inv X AF σ H s)(ho:s'.os=s.os)(u:Un (SO X.stack) ch H H' s.heap s'.heap)(hok:HOk X.prog X.w H' s'.heap)(hg:NO s'.gens) (gT:∀b∈ch,(b∈X.ex\/X.s₀.heap.objs.size<=b)/\b≠X.env.locals/\(∀x c,X.env.cells.lookup x=AA c->c≠b)/\∀p∈X.pn++AF,p.1≠b):Inv X AF σ H' s':=by have{h',g',d',t',o'}:=s';have e:=ho;subst e;exact I.call u hok hg gT
end
abbrev XK:=AH->Option AT->Hp->Prop
abbrev St:=List (Option V)
abbrev VK:=V->Hp->Prop
abbrev TE:=St->Hp->VK->Prop
abbrev TT:=St->Hp->(Bool->Hp->Prop)->Prop
abbrev TA:=St->Hp->(List V->Hp->Prop)->Prop
structure Ends where
 nx:St->Hp->Prop
 rt:VK
 bk:St->Hp->Prop:=λ_ _=>False
 ct:St->Hp->Prop:=λ_ _=>False
abbrev TS:=Ends->St->Hp->Prop
def EP(X:Cx)(AF:List (AT×IZ))(σ:St)(Q:VK)(u:AH)(s':AQ):Prop:=∃v H',Inv X AF σ H' s'/\RelV v u/\Q v H'
def TP(X:Cx)(AF:List (AT×IZ))(σ:St)(Q:Bool->Hp->Prop)(b:Bool)(s':AQ):Prop:=∃H',Inv X AF σ H' s'/\Q b H'
def AP(X:Cx)(AF:List (AT×IZ))(σ:St)(Q:List V->Hp->Prop)(us:List AH)(s':AQ):Prop:=∃vs H',Inv X AF σ H' s'/\Vals vs us/\Q vs H'
def SP(X:Cx)(AF:List (AT×IZ))(D:Ends)(f:Flow)(s':AQ):Prop :=
 match f with
 |.next=>∃σ' H',Inv X AF σ' H' s'/\D.nx σ' H'
 |.brk=>∃σ' H',Inv X AF σ' H' s'/\D.bk σ' H'
 |.cont=>∃σ' H',Inv X AF σ' H' s'/\D.ct σ' H'
 |.ret u=>∃v σ' H',Inv X AF σ' H' s'/\RelV v u/\D.rt v H'
def PE(X:Cx)(e:D0)(t:TE):Prop :=∀(AF:List (AT×IZ)) (s:AQ) (σ:St) (H:Hp) (Q:VK),Inv X AF σ H s->t σ H Q->BE (A7 X.prog X.w) X.A (eval e X.env) (EP X AF σ Q) X.xe s
def PT(X:Cx)(e:D0)(t:TT):Prop :=∀(AF:List (AT×IZ)) (s:AQ) (σ:St) (H:Hp) (Q:Bool->Hp->Prop),Inv X AF σ H s->t σ H Q->BE (A7 X.prog X.w) X.A (V5 e X.env (eval e X.env)) (TP X AF σ Q) X.xe s
def PW(X:Cx)(e:D0)(t:TT):Prop :=∀(SQ:cC AH) (AF:List (AT×IZ)) (s:AQ) (σ:St) (H:Hp) (Q:Bool->Hp->Prop),Inv X AF σ H s->t σ H Q->BE (A7 X.prog X.w) X.A (V5 e X.env SQ) (TP X AF σ Q) X.xe s
theorem PW.pt{t:TT}(h:PW X e t):PT X e t:=h _
def PA(X:Cx)(es:List D0)(t:TA):Prop :=∀(pos:jS) (AF:List (AT×IZ)) (s:AQ) (σ:St) (H:Hp) (Q:List V->Hp->Prop),Inv X AF σ H s->t σ H Q->BE (A7 X.prog X.w) X.A (spliced (DC pos (AM es X.env))) (AP X AF σ Q) X.xe s
def PS(X:Cx)(st:FM)(t:TS):Prop :=∀(AF:List (AT×IZ)) (s:AQ) (σ:St) (H:Hp) (D:Ends),Inv X AF σ H s->t D σ H->BE (A7 X.prog X.w) X.A (exec st X.env) (SP X AF D) X.xe s
def PSs(X:Cx)(st:List FM)(t:TS):Prop :=∀(AF:List (AT×IZ)) (s:AQ) (σ:St) (H:Hp) (D:Ends),Inv X AF σ H s->t D σ H->BE (A7 X.prog X.w) X.A (execs st X.env) (SP X AF D) X.xe s
theorem G6{t:cC α}{Q Q':α->AQ->Prop}(h:BE M A t Q E s)(hQ:∀a s,Q a s->Q' a s):BE M A t Q' E s:=CZ h hQ λ_ _ x=>x
variable{σ:St}{ta tb:TE}
section
def bH(i:Nat):TE:=λσ H Q=>∃v,σ[i]?=AA (AA v)/\Q v H
def tC(v:V):TE:=λ_ H Q=>Q v H
theorem gA(hN:X.N[i]?=AA x)(hv:ZK X.env.scope x)(hd:(x==("__debug__":CD))=AD:=by decide)(LU:(x==("__classdict__":CD))=AD:=by decide):PE X (.Name x pos) (bH i):=by
 intro AF s σ H Q I h;have{v,e,h}:=h;have{m,hn,hl}:=I.loc;have{u,r,l}:=hl i x v hN e hv;have fin:EP X AF σ Q u s:={v,H,I,r,h};rcases l with⟨hk,hm⟩|⟨hk,c,hc,lV⟩
 .exact wpAny_Name (wpAny_loadName_local I.ok.kind hk hn hm fin) hd
 .rcases hk with hk|hk
  .exact wpAny_Name (wpAny_loadName_cell I.ok.kind hk hc lV fin) hd
  .exact wpAny_Name (wpAny_loadName_free I.ok.kind hk hc lV fin LU) hd
theorem nR{i j pos}:PE X (.Constant (.int i) j pos) (tC (.int i)):=λ_ _ _ H _ I h=>wpAny_Constant_int {.int i,H,I.tok _,{_,rfl},h}
theorem uR{b j pos}:PE X (.Constant (.bool b) j pos) (tC (.bl b)):=λ_ _ _ H _ I h=>Constant_bool {.bl b,H,I,rfl,h}
theorem nQ{j pos}:PE X (.Constant .none j pos) (tC .non):=λ_ _ _ H _ I h=>Constant_none {.non,H,I,rfl,h}
def Gl(X:Cx)(x:CD):Prop:=X.env.kindOf x=AA .globalImplicit
theorem qH(I:Inv X AF σ H s)(hg:Gl X x)(hm:X.mg x=AA u)(h:Q u s) (hd:(x==("__debug__":CD))=AD:=by decide):BE (A7 X.prog X.w) X.A (eval (.Name x pos) X.env) Q E s :=UM I.ok.kind hg (Calls.loadGlobal_global (by rw[I.ok.glob];exact I.mod.glob.keeps I.bk) hm h) hd
theorem kP(I:Inv X AF σ H s)(hg:Gl X x)(hm:X.mg x=AK)(hv:GN x=AA u)(h:Q u s) (hn:x≠"__name__":=by decide) (hd:(x==("__debug__":CD))=AD:=by decide):BE (A7 X.prog X.w) X.A (eval (.Name x pos) X.env) Q E s:=by have{mb,h1,h2}:=I.mod.blt;exact UM I.ok.kind hg (Calls.loadGlobal_builtin (by rw[I.ok.glob];exact I.mod.glob.keeps I.bk) hm (by rw[I.ok.blt];exact h1.keeps I.bk) ((h2 x hn).trans hv) h) hd
theorem gE(hg:Gl X x)(hm:X.mg x=AA u)(r:RelV v u)(hd:(x==("__debug__":CD))=AD:=by decide):PE X (.Name x pos) (tC v) :=λ_ _ _ H _ I h=>qH I hg hm {v,H,I,r,h} hd
theorem Ss(hg:Gl X x)(hm:X.mg x=AK)(hv:GN x=AA u)(r:RelV v u)(hn:x≠"__name__":=by decide)(hd:(x==("__debug__":CD))=AD:=by decide):PE X (.Name x pos) (tC v) :=λ_ _ _ H _ I h=>kP I hg hm hv {v,H,I,r,h} hn hd
variable{a b:D0}{tA Cr:TT}{rest:List D0}
def yJX(t u:TT):TT:=λσ H Q=>t σ H λc H1=>if c=AN then u σ H1 Q else Q AD H1
def tOr(t u:TT):TT:=λσ H Q=>t σ H λc H1=>if c=AN then Q AN H1 else u σ H1 Q
def yJY(t:TT):TT:=λσ H Q=>t σ H λc H1=>Q (!c) H1
theorem zY6(ha:PT X a tA):PW X (.BoolOp .And [a] pos) tA:=by
 intro wh AF s σ H Q I h;refine isTrue_and (G6 (ha AF s σ H Q I h) λc s1 e=>?_);cases c with
 |true=>exact isTrue_and_nil e
 |false=>exact e
theorem yC1(ha:PT X a tA):PW X (.BoolOp .Or [a] pos) tA:=by
 intro wh AF s σ H Q I h;refine isTrue_or (G6 (ha AF s σ H Q I h) λc s1 e=>?_);cases c with
 |false=>exact isTrue_or_nil e
 |true=>exact e
theorem yC2(ha:PT X a tA)(hb:PW X (.BoolOp .And (b::rest) pos) Cr):PW X (.BoolOp .And (a::b::rest) pos) (yJX tA Cr):=by
 intro wh AF s σ H Q I h;refine isTrue_and (G6 (ha AF s σ H _ I h) λc s1 ⟨H1,I1,q1⟩=>?_);cases c with
 |true=>exact hb wh AF s1 σ H1 Q I1 q1
 |false=>exact{H1,I1,q1}
theorem yGP(ha:PT X a tA)(hb:PW X (.BoolOp .Or (b::rest) pos) Cr):PW X (.BoolOp .Or (a::b::rest) pos) (tOr tA Cr):=by
 intro wh AF s σ H Q I h;refine isTrue_or (G6 (ha AF s σ H _ I h) λc s1 ⟨H1,I1,q1⟩=>?_);cases c with
 |true=>exact{H1,I1,q1}
 |false=>exact hb wh AF s1 σ H1 Q I1 q1
theorem yC3(ha:PT X a tA):PT X (.UnaryOp .Not a pos) (yJY tA):=by intro AF s σ H Q I h;exact isTrue_not (ha AF s σ H (λc H1=>Q (!c) H1) I h)
def yGQ(ta tb:TE):TE:=λσ H Q=>ta σ H λx H1=>∃c,x=.bl c/\if c=AN then tb σ H1 Q else Q (.bl AD) H1
def yJZ(ta tb:TE):TE:=λσ H Q=>ta σ H λx H1=>∃c,x=.bl c/\if c=AN then Q (.bl AN) H1 else tb σ H1 Q
def yGR(ta:TE):TE:=λσ H Q=>ta σ H λx H1=>∃c,x=.bl c/\Q (.bl (!c)) H1
theorem yC4{op}{t:TE}(h:PE X a t):PE X (.BoolOp op [a] pos) t:=λAF s σ H Q I hw=>BoolOp_one (h AF s σ H Q I hw)
theorem yC5(ha:PE X a ta)(hb:PE X (.BoolOp .And (b::rest) pos) tb):PE X (.BoolOp .And (a::b::rest) pos) (yGQ ta tb):=by
 intro AF s σ H Q I h;refine BoolOp_and (G6 (ha AF s σ H _ I h) λv s1 ⟨x,H1,I1,r1,q1⟩=>?_);have{c,rfl,q1}:=q1;cases r1;refine IU ?_;cases c with
 |true=>exact hb AF s1 σ H1 Q I1 q1
 |false=>exact{.bl AD,H1,I1,rfl,q1}
theorem yGS(ha:PE X a ta)(hb:PE X (.BoolOp .Or (b::rest) pos) tb):PE X (.BoolOp .Or (a::b::rest) pos) (yJZ ta tb):=by
 intro AF s σ H Q I h;refine BoolOp_or (G6 (ha AF s σ H _ I h) λv s1 ⟨x,H1,I1,r1,q1⟩=>?_);have{c,rfl,q1}:=q1;cases r1;refine IU ?_;cases c with
 |false=>exact hb AF s1 σ H1 Q I1 q1
 |true=>exact{.bl AN,H1,I1,rfl,q1}
theorem yC6(ha:PE X a ta):PE X (.UnaryOp .Not a pos) (yGR ta):=by intro AF s σ H Q I h;refine UnaryOp_ (G6 (ha AF s σ H _ I h) λv s1 ⟨x,H1,I1,r1,q1⟩=>?_);have{c,rfl,q1}:=q1;cases r1;exact not_of (IU {.bl (!c),H1,I1,rfl,q1})
def tIf(t:TT)(ta tb:TE):TE:=λσ H Q=>t σ H λc H1=>if c=AN then ta σ H1 Q else tb σ H1 Q
theorem Tx(hc:PT X c tA)(ha:PE X a ta)(hb:PE X b tb):PE X (.IfExp c a b pos) (tIf tA ta tb):=by
 intro AF s σ H Q I h;refine wpAny_IfExp (G6 (hc AF s σ H _ I h) λd s1 ⟨H1,I1,q1⟩=>?_);cases d with
 |true=>exact ha AF s1 σ H1 Q I1 q1
 |false=>exact hb AF s1 σ H1 Q I1 q1
end
def SqL(K:AC)(H:Hp)(a:AT)(xs:List V):Prop :=Rd H a (.lst xs) \/ ∃(o:IZ) (CK:Array AH) (n:Nat),K.lookup a=AA o/\o.cls=.type "list"/\o.dict=AK/\o.data=.seq CK n/\CK.size<=sizeLine/\Vals xs CK.toList
def SqT(K:AC)(H:Hp)(a:AT)(xs:List V):Prop :=Rd H a (.tup xs) \/ ∃(o:IZ) (CK:Array AH) (n:Nat),K.lookup a=AA o/\o.cls=.type "tuple"/\o.data=.seq CK n/\CK.size<=sizeLine/\Vals xs CK.toList
noncomputable def yJ0:AH->Option V
 |.none=>AA .non
 |.bool b=>AA (.bl b)
 |.int i _=>AA (.int i)
 |.str x _=>AA (.str x)
 |.bytes b _=>AA (.byt b)
 |.float b _=>AA (.flt b)
 |.ref a=>AA (.ref a)
 |.type n=>AA (.ty n)
 |_=>AK
theorem RelV.abs{x:V}(r:RelV x u):yJ0 u=AA x:=by
 cases x with
 |non=>cases r;rfl
 |bl _=>cases r;rfl
 |int _=>have{t,rfl}:=r;rfl
 |str _=>have{t,rfl}:=r;rfl
 |byt _=>have{t,rfl}:=r;rfl
 |flt _=>have{t,rfl}:=r;rfl
 |ref _=>cases r;rfl
 |ty _=>cases r;rfl
theorem RelV.inj{x y:V}{u:AH}(r:RelV x u)(q:RelV y u):x=y:=BH (r.abs.symm.trans q.abs)
theorem Vals.inj:∀{xs ys:List V} {us:List AH},Vals xs us->Vals ys us->xs=ys
 |_,_,_,.nil,.nil=>rfl
 |_,_,_,.cons r t,.cons r' t'=>by rw[r.inj r',Vals.inj t t']
variable{xs ys:List V}
theorem SqL.of{K:AC}(h:H a=AA (.lst xs)):SqL K H a xs:=.inl (.inl h)
theorem SqT.of{K:AC}(h:H a=AA (.tup xs)):SqT K H a xs:=.inl (.inl h)
theorem Inv.list(I:Inv X AF σ H s)(h:SqL X.K H a xs):∃CK:List AH,Vals xs CK/\PlainL s.heap a CK.toArray/\xs.length<=sizeLine:=by
 rcases h with h|⟨o,CK,n,hk,hc,hd,hs,hz,r⟩
 .have{z,CK,n,r,e}:=h.ok I.hok;exact{CK,r,{_,n,e,rfl,rfl,rfl},z}
 .refine{CK.toList,r,{o,n,I.kIn a o hk,hc,hd,by simpa using hs},?_};have e:=r.length;simp only[KY] at e;exact AW (CU e) hz
theorem Inv.tuple(I:Inv X AF σ H s)(h:SqT X.K H a xs):∃CK:List AH,Vals xs CK/\SI s.heap a CK.toArray/\xs.length<=sizeLine:=by
 rcases h with h|⟨o,CK,n,hk,hc,hs,hz,r⟩
 .have{z,CK,r,p}:=h.ok I.hok;exact{CK,r,p.isTup,z}
 .refine{CK.toList,r,{o,I.kIn a o hk,hc,n,by simpa using hs},?_};have e:=r.length;simp only[KY] at e;exact AW (CU e) hz
theorem Inv.list_inj(I:Inv X AF σ H s)(h:SqL X.K H a xs)(h':SqL X.K H a ys):xs=ys:=by
 have{CK,r,zz',_}:=I.list h;have{o,n,e,_,_,d}:=zz';have{RI,r',zz',_}:=I.list h';have{o',n',e',_,_,d'}:=zz';rw[e] at e';cases e';rw[d] at d';injection d' with d1 _;have:CK=RI:=by simpa using congrArg Array.toList d1
 subst this;exact r.inj r'
theorem Inv.tuple_inj(I:Inv X AF σ H s)(h:SqT X.K H a xs)(h':SqT X.K H a ys):xs=ys:=by
 have{CK,r,zz',_}:=I.tuple h;have{o,e,_,n,d}:=zz';have{RI,r',zz',_}:=I.tuple h';have{o',e',_,n',d'}:=zz';rw[e] at e';cases e';rw[d] at d';injection d' with d1 _;have:CK=RI:=by simpa using congrArg Array.toList d1
 subst this;exact r.inj r'
abbrev Cx.wish(X:Cx)(E:AH->AQ->Prop):Cx:={ X with xe:=E }
abbrev Cx.nox(X:Cx):Cx:=X.wish λ_ _=>False
theorem Cx.Ok.wish{X:Cx}(ok:X.Ok)(E:AH->AQ->Prop):(X.wish E).Ok :={ok.tab,ok.mod,ok.kind,ok.glob,ok.blt,ok.above,ok.inj,ok.has,ok.cab,ok.hd,ok.frames,ok.stk,ok.exf,ok.bs,ok.bsz,ok.noex,ok.exfs,ok.funs,ok.frf}
theorem Cx.Ok.unwish(ok:(X.wish E).Ok):X.Ok :={ok.tab,ok.mod,ok.kind,ok.glob,ok.blt,ok.above,ok.inj,ok.has,ok.cab,ok.hd,ok.frames,ok.stk,ok.exf,ok.bs,ok.bsz,ok.noex,ok.exfs,ok.funs,ok.frf}
theorem Inv.wish(I:Inv X AF σ H s)(E:AH->AQ->Prop):Inv (X.wish E) AF σ H s:={I.ok.wish E,I.os,I.bare,I.base,I.loc,I.cell,I.free,I.freeC,I.pin,I.hok,I.len}
theorem Inv.unwish(I:Inv (X.wish E) AF σ H s):Inv X AF σ H s:={I.ok.unwish,I.os,I.bare,I.base,I.loc,I.cell,I.free,I.freeC,I.pin,I.hok,I.len}
theorem SP.unwish{D:Ends}{f:Flow}{s':AQ}(h:SP (X.wish E) AF D f s'):SP X AF D f s':=by
 cases f with
 |next=>have{σ',H',I,q}:=h;exact{σ',H',I.unwish,q}
 |brk=>have{σ',H',I,q}:=h;exact{σ',H',I.unwish,q}
 |cont=>have{σ',H',I,q}:=h;exact{σ',H',I.unwish,q}
 |ret u=>have{v,σ',H',I,r,q}:=h;exact{v,σ',H',I.unwish,r,q}
theorem PSs.nox{st:List FM}{t:TS}(h:PSs X.nox st t):PSs X st t:=λAF s σ H D I hw =>
 CZ (h AF s σ H D (I.wish _) hw) (λ_ _ q=>q.unwish) λ_ _ z=>HP z
variable{te:TE}
section
variable{st:FM}{rest:List FM}{t u:TS}
def Zl:TS:=λD σ H=>D.nx σ H
def mI(t u:TS):TS:=λD σ H=>t { D with nx:=u D } σ H
theorem U7:PSs X [] Zl:=λ_ _ σ H _ I h=>IN {σ,H,I,h}
theorem aC(h1:PS X st t)(h2:PSs X rest u):PSs X (st::rest) (mI t u):=by
 intro AF s σ H D I h;refine K2 (G6 (h1 AF s σ H { D with nx:=u D } I h) λf s1 q=>?_);cases f with
 |next=>have{σ',H',I',q}:=q;exact h2 AF s1 σ' H' D I' q
 |ret v=>exact q
 |brk=>exact q
 |cont=>exact q
theorem kZ(h1:PS X st t):PSs X [st] t:=by
 intro AF s σ H D I h;refine K2 (G6 (h1 AF s σ H D I h) λf s1 q=>?_);cases f with
 |next=>exact IN q
 |ret v=>exact q
 |brk=>exact q
 |cont=>exact q
theorem Inv.quiet(I:Inv X AF σ H s):interactive X.env=AD:=by simp[interactive,I.ok.kind]
def Zk(te:TE):TS:=λD σ H=>te σ H λ_ H1=>D.nx σ H1
theorem Fp(he:PE X e te)(hs:HW e AK pos.line X.env=pure AD:=by rfl):PS X (.Expr e pos) (Zk te):=by intro AF s σ H D I h;exact wpAny_Expr_any (G6 (he AF s σ H _ I h) (λv s1 q0=>by have{x,H1,I1,r1,q1}:=q0;exact{σ,H1,I1,q1})) I.quiet hs
def Ye(te:TE):TS:=λD σ H=>te σ H D.rt
theorem tL(he:PE X e te):PS X (.Return (AA e) pos) (Ye te):=by intro AF s σ H D I h;exact wpAny_Return_some (G6 (he AF s σ H _ I h) (λv s1 q0=>by have{x,H1,I1,r1,q1}:=q0;exact{x,σ,H1,I1,r1,q1}))
def Yd(c:TT)(t u:TS):TS:=λD σ H=>c σ H λb H1=>if b=AN then t D σ H1 else u D σ H1
theorem Dv{a b:List FM}{tc:TT}(hc:PT X c tc)(ha:PSs X a t)(hb:PSs X b u):PS X (.If c a b pos) (Yd tc t u):=by
 intro AF s σ H D I h;refine wpAny_If (G6 (hc AF s σ H _ I h) λd s1 ⟨H1,I1,q1⟩=>?_);cases d with
 |true=>exact ha AF s1 σ H1 D I1 q1
 |false=>exact hb AF s1 σ H1 D I1 q1
def Qo:TS:=λ_ _ _=>False
theorem dD:PS X st Qo:=λ_ _ _ _ _ _ h=>h.elim
theorem As{sts:List FM}:PSs X sts Qo:=λ_ _ _ _ _ _ h=>h.elim
end
abbrev TG:=V->St->Hp->(St->Hp->Prop)->Prop
abbrev lC:=List V->St->Hp->(St->Hp->Prop)->Prop
def PG(X:Cx)(SS:D0)(t:TG):Prop :=∀(AF:List (AT×IZ)) (s:AQ) (σ:St) (H:Hp) (v:V) (u:AH) (Q:St->Hp->Prop),Inv X AF σ H s->RelV v u->t v σ H Q ->BE (A7 X.prog X.w) X.A (N2 SS X.env u) (λ_ s'=>∃σ' H',Inv X AF σ' H' s'/\Q σ' H') X.xe s
def PGs(X:Cx)(ts:List D0)(t:lC):Prop :=∀(AF:List (AT×IZ)) (s:AQ) (σ:St) (H:Hp) (vs:List V) (us:List AH) (Q:St->Hp->Prop),Inv X AF σ H s->Vals vs us->t vs σ H Q ->BE (A7 X.prog X.w) X.A (assignInOrder ((HM ts X.env).map (·.2)) us) (λ_ s'=>∃σ' H',Inv X AF σ' H' s'/\Q σ' H') X.xe s
abbrev Ir:=V->V->V->Hp->(Hp->Prop)->Prop
def Yc(X:Cx)(t:Ir):Prop :=∀(AF:List (AT×IZ)) (s:AQ) (σ:St) (H:Hp) (o i v:V) (ov iv u:AH) (Q:Hp->Prop),Inv X AF σ H s->RelV o ov->RelV i iv->RelV v u->t o i v H Q ->BE (A7 X.prog X.w) X.A (setItem ov iv u) (λ_ s'=>∃H',Inv X AF σ H' s'/\Q H') X.xe s
def bL(i:Nat):TG:=λv σ H Q=>Q (σ.set i (AA v)) H
theorem iQ(hN:X.N.Nodup)(hi:X.N[i]?=AA x)(hx:Loc X.env.scope x)(hf:X.fn x=AN\/X.env.scope.names.lookup x=AA .local:=by first|exact .inl rfl|exact .inr rfl|assumption):PG X (.Name x pos) (bL i):=by intro AF s σ H v u Q I r h;exact wpAny_assign_Name (Aj I hN hi hx r (λs' I'=>{_,H,I',h}) hf)
def yJ1:lC:=λvs σ H Q=>vs=[]/\Q σ H
def yGU(t:TG)(u:lC):lC:=λvs σ H Q=>∃v r,vs=v::r/\t v σ H λσ' H'=>u r σ' H' Q
theorem U8:PGs X [] yJ1:=by intro AF s σ H vs us Q I r h;have{e,h}:=h;subst e;cases r;exact assignInOrder_nil {σ,H,I,h}
theorem uD{t:TG}{u:lC}(h1:PG X e t)(h2:PGs X es u) (hs:(HM (e::es) X.env).map (·.2)=N2 e X.env::(HM es X.env).map (·.2):=by rfl):PGs X (e::es) (yGU t u):=by
 intro AF s σ H vs us Q I r h;have{v,vr,e1,h}:=h;subst e1;cases r with
 |cons r rr=>rw[hs];refine assignInOrder_cons (G6 (h1 AF s σ H _ _ _ I r h) λ_ s1 ⟨σ1,H1,I1,q1⟩=>?_);exact h2 AF s1 σ1 H1 _ _ Q I1 rr q1
def yJ2(K:AC)(n:Nat)(t:lC):TG:=λv σ H Q=>∃a xs,v=.ref a/\SqT K H a xs/\xs.length=n/\t xs σ H Q
theorem Et{t:lC}(hc:X.calm=AN)(h:PGs X es t) (hn:(HM es X.env).length=n:=by rfl) (bV:(HM es X.env).findIdx? (·.1)=AK:=by rfl):PG X (.Tuple es k pos) (yJ2 X.K n t):=by intro AF s σ H v u Q I r hw;have{a,xs,e1,hq,hl,hw}:=hw;subst e1;cases r;have{CK,rv,ht,hz}:=I.tuple hq;refine assign_Tuple_tuple (I.ok.hd hc) ht (by simp[hn,<-hl,rv.length]) bV λh' hx=>?_;have I1:=I.kept (t':=s.toks) λb o e=>hx b o (CF (BB e)) e;exact h AF _ σ H xs _ Q I1 (by simpa using rv) hw
def yJ3(to ti:TE)(t:Ir):TG:=λv σ H Q=>to σ H λo H1=>ti σ H1 λi H2=>t o i v H2 λH3=>Q σ H3
theorem yC9{i:D0}{to ti:TE}{t:Ir}(ho:PE X o to)(hi:PE X i ti)(hs:Yc X t) (ha:∀v,N2 (.Subscript o i pos) X.env v=(do
   let ov <-K8 [v] (eval o X.env)
   let iv <-K8 [v,ov] (eval i X.env)
   MC pos
   K8 [v,ov,iv] (setItem ov iv v)
   release [v,ov,iv] []):=by intro _;rfl):PG X (.Subscript o i pos) (yJ3 to ti t):=by
 intro AF s σ H v u Q I r h;rw[ha];refine AB (C9 (G6 (ho AF s σ H _ I h) λov s1 ⟨x,H1,I1,r1,q1⟩=>?_));refine AB (C9 (G6 (hi AF s1 σ H1 _ I1 q1) λiv s2 ⟨y,H2,I2,r2,q2⟩=>?_));refine AB (IP (AB (C9 (G6 (hs AF s2 σ H2 x y v ov iv u _ I2 r1 r2 r q2) λ_ s3 ⟨H3,I3,q3⟩=>?_))));exact wpAny_release {σ,H3,I3,q3}
def j5(te:TE)(g:TG):TS:=λD σ H=>te σ H λx H1=>g x σ H1 D.nx
theorem Es{g:TG}(he:PE X e te)(hg:PG X tg g)(hs:aU [tg] e pos.line X.env=pure AD:=by rfl)(hw:aV [tg] e X.env=pure AK:=by rfl) (h1:(HM [tg] X.env).map (·.2)=[N2 tg X.env]:=by rfl):PS X (.Assign [tg] e pos) (j5 te g):=by intro AF s σ H D I h;refine wpAny_Assign_stores (G6 (he AF s σ H _ I h) λv s1 ⟨x,H1,I1,r1,q1⟩=>?_) hs hw;rw[h1];exact G6 (hg AF s1 σ H1 x v _ I1 r1 q1) λ_ s2 q=>q
theorem qB(hN:X.N.Nodup)(hi:X.N[i]?=AA x)(hx:Loc X.env.scope x)(he:PE X e te)(hs:HW e (AA (.Name x OS)) pos.line X.env=pure AD:=by rfl)(hf:X.fn x=AN\/X.env.scope.names.lookup x=AA .local:=by first|exact .inl rfl|exact .inr rfl|assumption) : PS X (.Assign [.Name x OS] e pos) (j5 te (bL i)):=by intro AF s σ H D I h;refine UG (G6 (he AF s σ H _ I h) λv s1 ⟨y,H1,I1,r1,q1⟩=>?_) hs;exact Aj I1 hN hi hx r1 (λs2 I2=>{_,H1,I2,q1}) hf
def yDA(c:TT)(tb:TS):TS:=λD σ H=>∃W:Nat->St->Hp->Prop,(∃m,W m σ H)/\∀m σ H,W m σ H ->c σ H λb H1=>if b=AN then ∃N:St->Hp->Prop,(∀σ' H',N σ' H'->∃m',m'<m/\W m' σ' H')/\tb { D with nx:=N,ct:=N,bk:=D.nx } σ H1 else D.nx σ H1
theorem zUR{tc:TT}{tb:TS}(hp:V8 (A7 X.prog X.w) X.A X.env X.xe)(hc:PT X c tc)(hb:PSs X body tb):PS X (.While c body [] pos) (yDA tc tb):=by
 intro AF s σ H D I h;have{W,zz',turn}:=h;have{m0,w0}:=zz';refine wpAny_While (codeAny_whileLoop (λn s'=>∃σ' H',Inv X AF σ' H' s'/\W n σ' H') ?_ m0 {σ,H,I,w0});intro n s1 zz';have{σ1,H1,I1,w1}:=zz';refine IM hp (G6 (hc AF s1 σ1 H1 _ I1 (turn n σ1 H1 w1)) λb s2 ⟨H2,I2,q2⟩=>?_);cases b with
 |true =>
  have{N,hN,q2}:=q2;rw[if_pos rfl];refine IM hp (G6 (hb AF s2 σ1 H2 _ I2 q2) λf s3 q3=>?_);cases f with
  |next=>have{σ3,H3,I3,n3}:=q3;have{m',hm,w3}:=hN σ3 H3 n3;exact{m',hm,σ3,H3,I3,w3}
  |cont=>have{σ3,H3,I3,n3}:=q3;have{m',hm,w3}:=hN σ3 H3 n3;exact{m',hm,σ3,H3,I3,w3}
  |brk=>exact q3
  |ret v=>exact q3
 |false=>rw[if_neg CH];exact IN {σ1,H2,I2,q2}
structure It where
 go:Nat->Hp->Prop
 yld:Nat->Hp->V->Hp->Prop
 stop:Nat->Hp->Prop
def FpOk(X:Cx)(AF:List (AT×IZ))(H:Hp)(b:AT):Prop :=H b=AK/\b≠X.env.locals/\b∉X.fs/\(b∈X.ex\/X.s₀.heap.objs.size<=b)/\(∀x c,X.env.cells.lookup x=AA c->c≠b)/\∀p∈X.pn++AF,p.1≠b
theorem Inv.fpOk(I:Inv X AF σ H s)(hb:s.heap.objs.size<=b)(hn:H' b=AK):FpOk X AF H' b:=by
 refine{hn,FG (AO I.lt hb),I.nofs hb,.inr (AW I.sz hb),λx c e z=>?_,λp hp z=>?_}
 .have{v,q}:=I.cell x c e;exact absurd (AO q.lt (by rw[z];exact hb)) (GJ _)
 .exact absurd (AO (BB (I.pin p hp).1) (by rw[z];exact hb)) (GJ _)
structure Turn(P:BZ)(w:C8)(K:AC)(tg:D0)(J:It)(fp:List AT)(it:AT)(tn:Nat->CM->Prop):Prop where
 mem:it∈fp
 obj:∀i h,tn i h->∀b∈fp,∃o,h.get? b=AA o/\∀v,o.data≠.cell v
 keep:∀i h h',tn i h->(∀b∈fp,∀o,h.get? b=AA o->h'.get? b=AA o)->tn i h'
 item:∀(X:Cx),X.prog=P->X.w=w->X.K=K->X.calm=AN->∀(i:Nat) (AF:List (AT×IZ)) (s:AQ) (σ:St) (H:Hp) (E:AH->AQ->Prop),Inv X AF σ H s->(∀b∈fp,FpOk X AF H b)->tn i s.heap->J.go i H ->
  BE (A7 P w) X.A (OV (.ref it)) (λr s1=>∃u,r=AA u /\
   BE (A7 P w) X.A (HC tg (.ref it) u) (λ_ s2=>∃x H',Inv X AF σ H' s2/\RelV x u/\J.yld i H x H'/\tn (i+1) s2.heap/\∀b∈fp,H' b=AK) E s1) E s
 done:∀(X:Cx),X.prog=P->X.w=w->X.K=K->X.calm=AN->∀(i:Nat) (AF:List (AT×IZ)) (s:AQ) (σ:St) (H:Hp) (E:AH->AQ->Prop),Inv X AF σ H s->(∀b∈fp,FpOk X AF H b)->tn i s.heap->J.stop i H ->
  BE (A7 P w) X.A (OV (.ref it)) (λr s1=>r=AK/\Inv X AF σ H s1) E s
 self:∀(A:GD) (i:Nat) (s:AQ) (Q:AH->AQ->Prop) (E:AH->AQ->Prop),tn i s.heap->Q (.ref it) s->BE (A7 P w) A (QK (.ref it)) Q E s
abbrev TI:=St->Hp->(It->Hp->Prop)->Prop
def PIE(X:Cx)(AF:List (AT×IZ))(σ:St)(tg:D0)(R:It->Hp->Prop)(oF:AH)(s2:AQ):Prop :=∃(it:AT) (fp:List AT) (tn:Nat->CM->Prop) (J:It) (H':Hp),oF=.ref it/\Inv X AF σ H' s2/\Turn X.prog X.w X.K tg J fp it tn/\tn 0 s2.heap/\(∀b∈fp,FpOk X AF H' b)/\R J H'
def PI(X:Cx)(tg iter:D0)(wi:TI):Prop :=∀(AF:List (AT×IZ)) (s:AQ) (σ:St) (H:Hp) (R:It->Hp->Prop),Inv X AF σ H s->wi σ H R ->BE (A7 X.prog X.w) X.A (eval iter X.env) (λv s1=>BE (A7 X.prog X.w) X.A (QK v) (PIE X AF σ tg R) X.xe s1) X.xe s
theorem sX{E:AH → AQ → Prop}{it:AT}{o:IZ}{n:String}{vs:Array AH}{Q:Unit → AQ → Prop}(ho : s.heap.get? it = AA o)(hc : o.cls = .type n)(hd : o.data = .fields vs) (hn : ["enumerate", "zip", "dict_itemiterator", "dict_reverseitemiterator", "odict_iterator", "itertools.zip_longest", "itertools.pairwise"].contains n = AD) (hQ : Q () s) : BE M A (HC tg (.ref it) u) Q E s := by
  unfold HC;cases tg <;> first
    | exact wpAny_pure hQ
    | (cases u <;> first
        | exact wpAny_pure hQ
        | (
          refine AB (wpAny_load ho ?_);rw [hc, hd];show BE M A (if (["enumerate", "zip", "dict_itemiterator", "dict_reverseitemiterator", "odict_iterator", "itertools.zip_longest", "itertools.pairwise"].contains n && vs[0]? == AA (FR _)) = AN then _ else _) Q E s;rw [if_neg (by intro h; rw [hn, Bool.false_and] at h; cases h)];exact wpAny_pure hQ))
noncomputable def rR(K:AC)(a:AT):It :={λi H=>∃xs x,SqL K H a xs/\xs[i]?=AA x,λi H x H'=>H'=H/\∀xs,SqL K H a xs->xs[i]?=AA x,λi H=>∃xs,SqL K H a xs/\xs.length<=i}
noncomputable def rP(K:AC)(a:AT):It :={λi H=>∃xs x,SqT K H a xs/\xs[i]?=AA x,λi H x H'=>H'=H/\∀xs,SqT K H a xs->xs[i]?=AA x,λi H=>∃xs,SqT K H a xs/\xs.length<=i}
noncomputable def rQ(lo:Int)(n:Nat):It:={λi _=>i<n,λi H x H'=>H'=H/\x=.int (lo+i),λi _=>n<=i}
theorem zRD{K:AC}(a it:AT):Turn P w K tg (rR K a) [it] it (λi h=>h.IsListIter it a i) where
 mem:=by simp
 obj:=λi h st b hb=>by
  have e:b=it:=by simpa using hb
  subst e;have{o,e,c,d}:=st;exact{o,e,λv z=>by rw[d] at z;cases z}
 keep:=λi h h' st k=>st.at λo e=>k it 'S' o e
 item:=by intro X hP hw hK hc i AF s σ H E I hf st hg;subst hP hw hK;have{xs,x,hq,hx}:=hg;have{CK,rv,p,hz}:=I.list hq;have{u,hu,ru}:=rv.get hx;have{f0,f1,f2,f3,f4,f5}:=hf it 'S';refine wpAny_pyNext_list_item st p.isList (by simpa using hu) λh' CT sb=>?_;have I1:Inv X AF σ H { s with heap:=h' }:=I.turned (λb o hb e=>(sb.2 b hb).trans e) f0 f1 f3 f4 f5;have{o,e,c,d}:=id CT;exact{u,rfl,sX e c d 'D' {x,H,I1,ru,{rfl,λys hy=>by rw[I.list_inj hy hq];exact hx},CT,λb hb=>(hf b hb).1}}
 done:=by intro X hP hw hK hc i AF s σ H E I hf st hg;subst hP hw hK;have{xs,hq,hx}:=hg;have{CK,rv,p,hz}:=I.list hq;have{f0,f1,f2,f3,f4,f5}:=hf it 'S';have hl:=rv.length;exact wpAny_pyNext_list_end (I.ok.hd hc) st p.isList (by simp;lia) λh' eb=>{rfl,I.turned (λb o hb e=>eb b o hb e) f0 f1 f3 f4 f5}
 self:=λ_ _ _ _ _ st h=>wpAny_pyIter_listiter st h
theorem zP4{K:AC}(a it:AT):Turn P w K tg (rP K a) [it] it (λi h=>h.IsTupleIter it a i) where
 mem:=by simp
 obj:=λi h st b hb=>by
  have e:b=it:=by simpa using hb
  subst e;have{o,e,c,d}:=st;exact{o,e,λv z=>by rw[d] at z;cases z}
 keep:=λi h h' st k=>st.at λo e=>k it 'S' o e
 item:=by intro X hP hw hK hc i AF s σ H E I hf st hg;subst hP hw hK;have{xs,x,hq,hx}:=hg;have{CK,rv,p,hz}:=I.tuple hq;have{u,hu,ru}:=rv.get hx;have{f0,f1,f2,f3,f4,f5}:=hf it 'S';refine wpAny_pyNext_tuple_item st (p) (by simpa using hu) λh' CT sb=>?_;have I1:Inv X AF σ H { s with heap:=h' }:=I.turned (λb o hb e=>(sb.2 b hb).trans e) f0 f1 f3 f4 f5;have{o,e,c,d}:=id CT;exact{u,rfl,sX e c d 'D' {x,H,I1,ru,{rfl,λys hy=>by rw[I.tuple_inj hy hq];exact hx},CT,λb hb=>(hf b hb).1}}
 done:=by intro X hP hw hK hc i AF s σ H E I hf st hg;subst hP hw hK;have{xs,hq,hx}:=hg;have{CK,rv,p,hz}:=I.tuple hq;have{f0,f1,f2,f3,f4,f5}:=hf it 'S';have hl:=rv.length;exact wpAny_pyNext_tuple_end (I.ok.hd hc) st (p) (by simp;lia) λh' eb=>{rfl,I.turned (λb o hb e=>eb b o hb e) f0 f1 f3 f4 f5}
 self:=λ_ _ _ _ _ st h=>wpAny_pyIter_tupleiter st h
theorem zP5{K:AC}(it:AT)(lo:Int)(n:Nat):Turn P w K tg (rQ lo n) [it] it (λi h=>IsRangeIter h it (lo+(i:Nat) * 1) ((n:Int)-(i:Nat)) 1) where
 mem:=by simp
 obj:=λi h st b hb=>by
  have e:b=it:=by simpa using hb
  subst e;exact{_,st,λv z=>by have z':=z;cases z'}
 keep:=λi h h' st k=>k it 'S' _ st
 item:=by intro X hP hw hK hc i AF s σ H E I hf st hg;subst hP hw hK;have{f0,f1,f2,f3,f4,f5}:=hf it 'S';have W:=Walks.range (prog:=X.prog) (w:=X.w) (I.ok.hd hc) it lo 1 n;refine W.item i s _ _ hg st λv h' tk hv CT kk=>?_;have{t,rfl}:=hv;have I1:Inv X AF σ H { s with heap:=h',toks:=tk }:=I.turned (λb o hb e=>kk b o (by simpa using hb) e) f0 f1 f3 f4 f5;refine{_,rfl,sX CT rfl rfl 'D' {.int (lo+i),H,I1,{t,?_},{rfl,rfl},CT,λb hb=>(hf b hb).1}};rw[Int.mul_one]
 done:=by intro X hP hw hK hc i AF s σ H E I hf st hg;subst hP hw hK;have{f0,f1,f2,f3,f4,f5}:=hf it 'S';exact wpAny_pyNext_range_end (I.ok.hd hc) st (by have:n<=i:=hg;lia) λh' eb=>{rfl,I.turned (λb o hb e=>eb b o hb e) f0 f1 f3 f4 f5}
 self:=λ_ _ _ _ _ st h=>wpAny_pyIter_rangeiter st h
def yGV(K:AC)(tl:TE):TI:=λσ H R=>tl σ H λx H1=>∃a,x=.ref a/\(∃xs,SqL K H1 a xs)/\R (rR K a) H1
def yJ4(K:AC)(tl:TE):TI:=λσ H R=>tl σ H λx H1=>∃a,x=.ref a/\(∃xs,SqT K H1 a xs)/\R (rP K a) H1
theorem So{l:D0}{tl:TE}(hl:PE X l tl):PI X tg l (yGV X.K tl):=by
 intro AF s σ H R I h;refine G6 (hl AF s σ H _ I h) λv s1 q0=>?_;have{x,H1,I1,r1,q1}:=q0;have{a,e,zz',q}:=q1;have{xs,hq}:=zz';subst e;cases r1;have{CK,rv,p,hz}:=I1.list hq;refine KO p.isList ?_;refine{s1.heap.objs.size,[s1.heap.objs.size],_,_,H1,rfl,I1.kept λb o e=>AG _ e,zRD a _,{_,AX _ rfl,rfl,rfl},λb hb=>?_,q};have e:b=s1.heap.objs.size:=by simpa using hb
 subst e;exact I1.fpOk (AL _) (I1.hok.fresh (AL _))
theorem Qn{l:D0}{tl:TE}(hl:PE X l tl):PI X tg l (yJ4 X.K tl):=by
 intro AF s σ H R I h;refine G6 (hl AF s σ H _ I h) λv s1 q0=>?_;have{x,H1,I1,r1,q1}:=q0;have{a,e,zz',q}:=q1;have{xs,hq}:=zz';subst e;cases r1;have{CK,rv,p,hz}:=I1.tuple hq;refine TF (p) ?_;refine{s1.heap.objs.size,[s1.heap.objs.size],_,_,H1,rfl,I1.kept λb o e=>AG _ e,zP4 a _,{_,AX _ rfl,rfl,rfl},λb hb=>?_,q};have e:b=s1.heap.objs.size:=by simpa using hb
 subst e;exact I1.fpOk (AL _) (I1.hok.fresh (AL _))
theorem Tw{R:It->Hp->Prop}{lo hi:Int}{t u v:Tok}{tk:Nat}(I:Inv X AF σ H s)(h1:-(2 ^ 62)<=lo)(h2:lo<2 ^ 62)(h3:-(2 ^ 62)<=hi)(h4:hi<2 ^ 62) (q:R (rQ lo (hi-lo).toNat) H):BE (A7 X.prog X.w) X.A (QK (.ref s.heap.objs.size)) (PIE X AF σ tg R) E { s with heap:=s.heap.push { cls:=.type "range",data:=.fields #[.int lo t,.int hi u,.int 1 v] },toks:=tk }:=by
 refine wpAny_pyIter_range (IsRange.new ..) (small_one h1 h2 h3 h4) ?_;have I1:Inv X AF σ H { s with heap:=s.heap.push { cls:=.type "range",data:=.fields #[.int lo t,.int hi u,.int 1 v] },toks:=tk }:=I.kept λb o e=>AG _ e;refine{(s.heap.push { cls:=.type "range",data:=.fields #[.int lo t,.int hi u,.int 1 v] }).objs.size,[(s.heap.push { cls:=.type "range",data:=.fields #[.int lo t,.int hi u,.int 1 v] }).objs.size],_,_,H,rfl,
  I1.kept λb o e=>AG _ e,zP5 _ lo (hi-lo).toNat,?_,λb hb=>?_,q}
 .have e1:lo+((0:Nat):Int) * 1=lo:=by simp
  have e2:(((hi-lo).toNat:Nat):Int)-((0:Nat):Int)=Builtin.Range.rangeSize lo hi 1:=by rw[rangeSize_one];split<;>lia
  rw[e1,e2];exact AX _ rfl
 .have e:b=(s.heap.push { cls:=.type "range",data:=.fields #[.int lo t,.int hi u,.int 1 v] }).objs.size:=by simpa using hb
  subst e;exact I1.fpOk (AL _) (I1.hok.fresh (AL _))
def yGW(ta:TA):TI:=λσ H R=>ta σ H λvs H1=>∃j:Int,vs=[.int j]/\-(2 ^ 62)<=j/\j<2 ^ 62/\R (rQ 0 j.toNat) H1
def yGX(ta:TA):TI:=λσ H R=>ta σ H λvs H1=>∃i j:Int,vs=[.int i,.int j]/\(-(2 ^ 62)<=i/\i<2 ^ 62/\-(2 ^ 62)<=j/\j<2 ^ 62)/\R (rQ i (j-i).toNat) H1
theorem Vk{a:D0}{ta:TA}(hg:Gl X "range")(hm:X.mg "range"=AK)(ha:PA X [a] ta)(hs:AM [a] X.env=[(AD,eval a X.env)]:=by rfl):PI X tg (.Call (.Name "range" p) [a] [] pos) (yGW ta):=by
 intro AF s σ H R I h;refine Call_ (kP I hg hm boot_range (FV (G6 (ha pos AF s σ H _ I h) λus s1 ⟨vs,H1,I1,r1,q1⟩=>?_) hs rfl));have{j,e,q1,q2,q}:=q1;subst e;cases r1 with
 |cons r rr=>cases rr;have{t,rfl}:=r;exact call_range_1 (Tw I1 'L' 'L' q1 q2 (by simpa using q))
theorem zRF{a b:D0}{ta:TA}(hg:Gl X "range")(hm:X.mg "range"=AK)(ha:PA X [a,b] ta)(hs:AM [a,b] X.env=[(AD,eval a X.env),(AD,eval b X.env)]:=by rfl)(MU:AM [b] X.env=[(AD,eval b X.env)]:=by rfl) : PI X tg (.Call (.Name "range" p) [a,b] [] pos) (yGX ta):=by
 intro AF s σ H R I h;refine Call_ (kP I hg hm boot_range (FV (G6 (ha pos AF s σ H _ I h) λus s1 ⟨vs,H1,I1,r1,q1⟩=>?_) (by rw[hs,MU]) (by rw[MU];rfl)));have{i,j,e,zz',q}:=q1;have{q1,q2,q3,q4}:=zz';subst e;cases r1 with
 |cons r rr =>
  cases rr with
  |cons r' rr=>cases rr;have{t,rfl}:=r;have{t',rfl}:=r';exact call_range_2 (Tw I1 q1 q2 q3 q4 q)
def Bw(wi:TI)(g:TG)(tb:TS):TS:=λD σ H=>wi σ H λJ H1=>∃W:Nat->Nat->St->Hp->Prop,(∃m,W 0 m σ H1)/\∀i m σ H,W i m σ H ->(J.stop i H/\D.nx σ H)\/(J.go i H/\∃N:St->Hp->Prop,(∀σ' H',N σ' H'->∃m',m'<m/\W (i+1) m' σ' H')/\∀x H',J.yld i H x H'->g x σ H' λσ2 H2=>tb { D with nx:=N,ct:=N,bk:=D.nx } σ2 H2)
noncomputable def tJ(fp:List AT)(h:CM):List (AT×IZ):=fp.filterMap λb=>(h.get? b).map λo=>(b,o)
theorem Ax{o:IZ}(hb:b∈fp)(e:h.get? b=AA o):(b,o)∈tJ fp h:=HR.mpr {b,hb,by rw[e];rfl}
theorem zRG{p:AT×IZ}(hp:p∈tJ fp h):p.1∈fp/\h.get? p.1=AA p.2:=by
 have{b,hb,e}:=HR.mp hp;cases q:h.get? b with
 |none=>rw[q] at e;cases e
 |some o=>rw[q] at e;have e':=BH e;subst e';exact{hb,q}
theorem Inv.pinned(I:Inv X AF σ H s)(hf:∀b∈fp,FpOk X AF H b)(ho:∀b∈fp,∃o,s.heap.get? b=AA o/\∀v,o.data≠.cell v):Inv X (AF++tJ fp s.heap) σ H s :=I.pins_of λp hp=>(BU.mp hp).elim (λz=>I.pin p (BO _ z)) λz=>by have{hb,e}:=zRG z;have{f0,f1,f2,_}:=hf p.1 hb;have{o,e',d}:=ho p.1 hb;rw[e] at e';cases e';exact{e,f0,f1,f2,d}
theorem Inv.unpinned{pl:List (AT×IZ)}(I:Inv X (AF++pl) σ H s):Inv X AF σ H s:=I.pins_of λp hp=>I.pin p (BO _ (C1 _ hp))
theorem qA{iter:D0}{wi:TI}{g:TG}{tb:TS}(hp:V8 (A7 X.prog X.w) X.A X.env X.xe)(hc:X.calm=AN)(hi:PI X tg iter wi)(hg:PG X tg g)(hb:PSs X body tb) (hs:∀x,DJ iter X.env x=pure x:=by intro _;rfl):PS X (.For tg iter body [] pos) (Bw wi g tb):=by
 intro AF s σ H D I h;refine wpAny_For (G6 (hi AF s σ H _ I h) λv s1 h1=>G6 h1 λoF s2 h2=>?_) hs;have{it,fp,tn,J,H2,e,I2,T,st2,f2,W,zz',turn}:=h2;have{m0,w0}:=zz';subst e
 -- what stays AN of the iterator's objects through the oE
 have VQ:∀{H':Hp},(∀b∈fp,H' b=AK)->∀b∈fp,FpOk X AF H' b:=λhn b hb=>{hn b hb,(f2 b hb).2};refine codeAny_forLoop_any (λn s'=>∃i σ' H',Inv X AF σ' H' s'/\tn i s'.heap/\(∀b∈fp,H' b=AK)/\W i n σ' H') ?_ m0 {0,σ,H2,I2,st2,λb hb=>(f2 b hb).1,w0};intro n s3 zz';have{i,σ3,H3,I3,KS,yA,w3}:=zz';rcases turn i n σ3 H3 w3 with⟨stop,qn⟩|⟨go,N,hN,step⟩
 .refine IM hp (G6 (T.done X rfl rfl rfl hc i AF s3 σ3 H3 X.xe I3 (VQ yA) KS stop) λr s4 ⟨hr,I4⟩=>?_);subst hr;exact IN {σ3,H3,I4,qn}
 .refine IM hp (G6 (T.item X rfl rfl rfl hc i AF s3 σ3 H3 X.xe I3 (VQ yA) KS go) λr s4 ⟨u,hr,h4⟩=>?_);subst hr;refine IM hp (G6 h4 λ_ s5 ⟨x,H5,I5,r5,y5,i6,Oj⟩=>?_);have Pf:=I5.pinned (VQ Oj) (T.obj _ _ i6);refine IM hp (G6 (hg _ s5 σ3 H5 x u _ Pf r5 (step x H5 y5)) λ_ s6 ⟨σ6,H6,I6,q6⟩=>?_);refine IM hp (G6 (hb _ s6 σ6 H6 _ I6 q6) λf s7 q7=>?_);have YZ:∀{σ7:St} {H7:Hp},Inv X (AF++tJ fp s5.heap) σ7 H7 s7->N σ7 H7->∃m,m<n/\∃i σ' H',Inv X AF σ' H' s7/\tn i s7.heap/\(∀b∈fp,H' b=AK)/\W i m σ' H':=λ{σ7 H7} I7 n7=>by have{m',hm,w7}:=hN σ7 H7 n7;refine{m',hm,i+1,σ7,H7,I7.unpinned,T.keep _ _ _ i6 λb hb o e=>(I7.pin (b,o) (BO _ (BO _ (Ax hb e)))).1,λb hb=>?_,w7};have{o,e,d}:=T.obj _ _ i6 b hb;exact(I7.pin (b,o) (BO _ (BO _ (Ax hb e)))).2.1
  cases f with
  |next=>have{σ7,H7,I7,n7}:=q7;exact YZ I7 n7
  |cont=>have{σ7,H7,I7,n7}:=q7;exact YZ I7 n7
  |brk=>have{σ7,H7,I7,q7}:=q7;exact{σ7,H7,I7.unpinned,q7}
  |ret v=>have{x7,σ7,H7,I7,r7,q7}:=q7;exact{x7,σ7,H7,I7.unpinned,r7,q7}
variable{D:Ends}
theorem yGB{K:AC}{g:TG}{tb:TS}(Pv:Nat->St->Hp->Prop)(h0:Pv 0 σ H)(hl:∀i σ H,i<=xs.length->Pv i σ H->SqL K H a xs) (hs:∀i x σ H,xs[i]?=AA x->Pv i σ H->g x σ H λσ2 H2=>tb { D with nx:=Pv (i+1),ct:=Pv (i+1),bk:=D.nx } σ2 H2) (hd:∀σ H,Pv xs.length σ H->D.nx σ H) : ∃W:Nat->Nat->St->Hp->Prop,(∃m,W 0 m σ H)/\∀i m σ H,W i m σ H ->((rR K a).stop i H/\D.nx σ H)\/((rR K a).go i H/\∃N:St->Hp->Prop,(∀σ' H',N σ' H'->∃m',m'<m/\W (i+1) m' σ' H')/\∀x H',(rR K a).yld i H x H'->g x σ H' λσ2 H2=>tb { D with nx:=N,ct:=N,bk:=D.nx } σ2 H2):=by
 refine{λi m σ H=>m=xs.length-i/\i<=xs.length/\Pv i σ H,{xs.length,by simp,BQ _,h0},?_};intro i m σ H zz';have{rfl,hi,p}:=zz';have q:=hl i σ H hi p;by_cases JB:i<xs.length
 .refine .inr {{xs,xs[i],q,by simp[JB]},Pv (i+1),λσ' H' p'=>{xs.length-(i+1),by lia,rfl,JB,p'},λx H' y=>?_};have{e,y}:=y;subst e;exact hs i x σ _ (y xs q) p
 .have e:i=xs.length:=by lia
  subst e;exact .inl {{xs,q,AL _},hd σ H p}
theorem zY9{K:AC}{g:TG}{tb:TS}(Pv:Nat->St->Hp->Prop)(h0:Pv 0 σ H)(hl:∀i σ H,i<=xs.length->Pv i σ H->SqT K H a xs) (hs:∀i x σ H,xs[i]?=AA x->Pv i σ H->g x σ H λσ2 H2=>tb { D with nx:=Pv (i+1),ct:=Pv (i+1),bk:=D.nx } σ2 H2) (hd:∀σ H,Pv xs.length σ H->D.nx σ H) : ∃W:Nat->Nat->St->Hp->Prop,(∃m,W 0 m σ H)/\∀i m σ H,W i m σ H ->((rP K a).stop i H/\D.nx σ H)\/((rP K a).go i H/\∃N:St->Hp->Prop,(∀σ' H',N σ' H'->∃m',m'<m/\W (i+1) m' σ' H')/\∀x H',(rP K a).yld i H x H'->g x σ H' λσ2 H2=>tb { D with nx:=N,ct:=N,bk:=D.nx } σ2 H2):=by
 refine{λi m σ H=>m=xs.length-i/\i<=xs.length/\Pv i σ H,{xs.length,by simp,BQ _,h0},?_};intro i m σ H zz';have{rfl,hi,p}:=zz';have q:=hl i σ H hi p;by_cases JB:i<xs.length
 .refine .inr {{xs,xs[i],q,by simp[JB]},Pv (i+1),λσ' H' p'=>{xs.length-(i+1),by lia,rfl,JB,p'},λx H' y=>?_};have{e,y}:=y;subst e;exact hs i x σ _ (y xs q) p
 .have e:i=xs.length:=by lia
  subst e;exact .inl {{xs,q,AL _},hd σ H p}
abbrev R2:=V->V->Hp->VK->Prop
def OpR(X:Cx)(f:AH->AH->cC AH)(r:R2):Prop :=∀(AF:List (AT×IZ)) (s:AQ) (σ:St) (H:Hp) (x y:V) (v u:AH) (Q:VK),Inv X AF σ H s->RelV x v->RelV y u->r x y H Q ->BE (A7 X.prog X.w) X.A (f v u) (EP X AF σ Q) X.xe s
def Cm(X:Cx)(f:AH->cC AH)(r:V->Hp->VK->Prop):Prop :=∀(AF:List (AT×IZ)) (s:AQ) (σ:St) (H:Hp) (x:V) (v:AH) (Q:VK),Inv X AF σ H s->RelV x v->r x H Q ->BE (A7 X.prog X.w) X.A (f v) (EP X AF σ Q) X.xe s
def CallR(X:Cx)(f:AH)(r:List V->Hp->VK->Prop):Prop :=∀(AF:List (AT×IZ)) (s:AQ) (σ:St) (H:Hp) (xs:List V) (us:List AH) (Q:VK),Inv X AF σ H s->Vals xs us->r xs H Q ->BE (A7 X.prog X.w) X.A (call f us) (EP X AF σ Q) X.xe s
def yJ5(X:Cx)(r:V->Hp->(Bool->Hp->Prop)->Prop):Prop :=∀(AF:List (AT×IZ)) (s:AQ) (σ:St) (H:Hp) (x:V) (v:AH) (Q:Bool->Hp->Prop),Inv X AF σ H s->RelV x v->r x H Q ->BE (A7 X.prog X.w) X.A (truthy v) (TP X AF σ Q) X.xe s
def k8(r:R2)(ta tb:TE):TE:=λσ H Q=>ta σ H λx H1=>tb σ H1 λy H2=>r x y H2 Q
def Zo(r:V->Hp->VK->Prop)(ta:TE):TE:=λσ H Q=>ta σ H λx H1=>r x H1 Q
def rI(C:Int->Int->Prop)(g:Int->Int->V):R2:=λx y H Q=>∃i j,x=.int i/\y=.int j/\C i j/\Q (g i j) H
def dC(g:Int->Int->V):R2:=λx y H Q=>∃i j,x=.int i/\y=.int j/\Q (g i j) H
def rU(g:Int->V):V->Hp->VK->Prop:=λx H Q=>∃i,x=.int i/\Q (g i) H
section
variable{a b:D0}{tc:TE}
theorem Iq(ha:PE X a ta)(hb:PE X b tb){R:V->V->Hp->Prop}(I:Inv X AF σ H s) (h:ta σ H λx H1=>tb σ H1 λy H2=>R x y H2) {Q:AH->AQ->Prop} {f:AH->AH->cC AH} (hf:∀v u s2 x y H2,Inv X AF σ H2 s2->RelV x v->RelV y u->R x y H2->BE (A7 X.prog X.w) X.A (f v u) Q X.xe s2) : BE (A7 X.prog X.w) X.A (eval a X.env) (λv FC=>BE (A7 X.prog X.w) X.A (eval b X.env) (λu PC=>BE (A7 X.prog X.w) X.A (f v u) Q X.xe PC) X.xe FC) X.xe s:=by refine G6 (ha AF s σ H _ I h) λv s1 q0=>?_;have{x,H1,I1,r1,q1}:=q0;refine G6 (hb AF s1 σ H1 _ I1 q1) λu s2 q0=>?_;have{y,H2,I2,r2,q2}:=q0;exact hf v u s2 x y H2 I2 r1 r2 q2
theorem yZ{op:Operator}{r:R2}(ho:OpR X (HE op) r)(ha:PE X a ta)(hb:PE X b tb):PE X (.BinOp a op b pos) (k8 r ta tb):=by intro AF s σ H Q I h;exact wpAny_BinOp (Iq ha hb I h λv u s2 x y H2 I2 rx ry q=>ho AF s2 σ H2 x y v u Q I2 rx ry q)
theorem yGZ{op:UnaryOp}{r:V->Hp->VK->Prop}(ho:Cm X (unaryOp op) r)(ha:PE X a ta):PE X (.UnaryOp op a pos) (Zo r ta):=by intro AF s σ H Q I h;exact UnaryOp_ (G6 (ha AF s σ H _ I h) (λv s1 q0=>by have{x,H1,I1,r1,q1}:=q0;exact ho AF s1 σ H1 x v Q I1 r1 q1))
theorem Cd{C:Int->Int->Prop}{g:Int->Int->Int} (rule:∀(i j:Int) (t u:Tok) (s:AQ) (Q:AH->AQ->Prop) (E:AH->AQ->Prop),C i j->Q (.int (g i j) s.toks) { s with toks:=s.toks+1 }->BE (A7 X.prog X.w) X.A (f (.int i t) (.int j u)) Q E s) : OpR X f (rI C λi j=>.int (g i j)):=by intro AF s σ H x y v u Q I rx ry h;have{i,j,rfl,rfl,hc,q}:=h;have{t,rfl}:=rx;have{t',rfl}:=ry;exact rule i j t t' s _ _ hc {.int (g i j),H,I.tok _,{_,rfl},q}
theorem Yb{g:Int->Int->Int} (rule:∀(i j:Int) (t u:Tok) (s:AQ) (Q:AH->AQ->Prop) (E:AH->AQ->Prop),Q (.int (g i j) s.toks) { s with toks:=s.toks+1 }->BE (A7 X.prog X.w) X.A (f (.int i t) (.int j u)) Q E s) : OpR X f (dC λi j=>.int (g i j)):=by intro AF s σ H x y v u Q I rx ry h;have{i,j,rfl,rfl,q}:=h;have{t,rfl}:=rx;have{t',rfl}:=ry;exact rule i j t t' s _ _ {.int (g i j),H,I.tok _,{_,rfl},q}
theorem Iv{g:Int->Int->Bool} (rule:∀(i j:Int) (t u:Tok) (s:AQ) (Q:AH->AQ->Prop) (E:AH->AQ->Prop),Q (.bool (g i j)) s->BE (A7 X.prog X.w) X.A (f (.int i t) (.int j u)) Q E s) : OpR X f (dC λi j=>.bl (g i j)):=by intro AF s σ H x y v u Q I rx ry h;have{i,j,rfl,rfl,q}:=h;have{t,rfl}:=rx;have{t',rfl}:=ry;exact rule i j t t' s _ _ {.bl (g i j),H,I,rfl,q}
def Ya(i j:Int):Prop:=0<=j/\j<=1000000/\i.natAbs<2 ^ 64
def CMul(i j:Int):Prop:=(-(2 ^ 64)<i/\i<2 ^ 64)\/(-(2 ^ 64)<j/\j<2 ^ 64)
theorem CMul.ok{i j:Int}(h:CMul i j):IntMulOk i j:=by
 rcases h with⟨h1,h2⟩|⟨h1,h2⟩
 .exact .of_left (intBits_le_64 h1 h2)
 .exact .of_right (intBits_le_64 h1 h2)
theorem nS:OpR X (HE .Add) (dC λi j=>.int (i+j)):=Yb λ_ _ _ _ _ _ _ q=>add_int q
theorem yDB:OpR X (HE .Sub) (dC λi j=>.int (i-j)):=Yb λ_ _ _ _ _ _ _ q=>sub_int q
theorem yDC:OpR X (HE .Mult) (rI CMul λi j=>.int (i * j)):=Cd λ_ _ _ _ _ _ _ hc q=>mul_int q hc.ok
theorem yDD:OpR X (HE .Mod) (rI (λ_ j=>0<j) λi j=>.int (i % j)):=Cd λi j _ _ _ _ _ hc q=>by have h1:=hc;exact mod_int' (Int.ne_of_gt hc) (by rw[Int.fmod_eq_emod_of_nonneg i (LF hc)];exact q)
theorem yDE:OpR X (HE .Pow) (rI Ya λi j=>.int (i ^ j.toNat)):=Cd λ_ _ _ _ _ _ _ hc q=>pow_int_small hc.1 hc.2.1 hc.2.2 q
theorem unI{f:AH->cC AH}{g:Int->Int} (rule:∀(i:Int) (t:Tok) (s:AQ) (Q:AH->AQ->Prop) (E:AH->AQ->Prop),Q (.int (g i) s.toks) { s with toks:=s.toks+1 }->BE (A7 X.prog X.w) X.A (f (.int i t)) Q E s) : Cm X f (rU λi=>.int (g i)):=by intro AF s σ H x v Q I rx h;have{i,rfl,q}:=h;have{t,rfl}:=rx;exact rule i t s _ _ {.int (g i),H,I.tok _,{_,rfl},q}
theorem yDF:Cm X (unaryOp .USub) (rU λi=>.int (-i)):=unI λ_ _ _ _ _ q=>neg_int q
end
variable{y:V}
section
variable{a b:D0}{tc:TE}
theorem Qm{Q:VK}{k k':Bool}(I:Inv X AF σ H s)(q:Q (.bl k) H)(e:k=k'):EP X AF σ Q (.bool k') s:=by subst e;exact{.bl k,H,I,rfl,q}
theorem uS:OpR X (EV .Lt) (dC λi j=>.bl (decide (i<j))):=Iv λ_ _ _ _ _ _ _ q=>lt_int q
theorem yG1:OpR X (EV .Gt) (dC λi j=>.bl (decide (j<i))):=Iv λ_ _ _ _ _ _ _ q=>gt_int q
theorem yG2:OpR X (EV .GtE) (dC λi j=>.bl (decide (j<=i))):=Iv λ_ _ _ _ _ _ _ q=>ge_int q
theorem yDG:OpR X (EV .Is) (λx y H Q=>y=.non/\Q (.bl (decide (x=.non))) H):=by
 intro AF s σ H x y v u Q I rx ry h;have{rfl,q}:=h;cases ry;refine is_none_gen (Qm I q ?_);cases x<;>first
  |(cases rx;rfl)
  |(have{t,rfl}:=rx;rfl)
theorem zZA:OpR X (EV .IsNot) (λx y H Q=>y=.non/\Q (.bl (!decide (x=.non))) H):=by
 intro AF s σ H x y v u Q I rx ry h;have{rfl,q}:=h;cases ry;refine isnot_none_gen (Qm I q ?_);cases x<;>first
  |(cases rx;rfl)
  |(have{t,rfl}:=rx;rfl)
theorem OpR.or{r r':R2}(h:OpR X f r)(h':OpR X f r'):OpR X f (λx y H Q=>r x y H Q\/r' x y H Q):=by
 intro AF s σ H x y v u Q I rx ry q;rcases q with q|q
 .exact h AF s σ H x y v u Q I rx ry q
 .exact h' AF s σ H x y v u Q I rx ry q
theorem yI6(b:D0)(h:op≠.In:=by decide)(h2:op≠.NotIn:=by decide):DX op b=AD:=by
 have e1:(op==CmpOp.In)=AD:=by cases op<;>first|rfl|exact absurd rfl h
 have e2:(op==CmpOp.NotIn)=AD:=by cases op<;>first|rfl|exact absurd rfl h2
 cases b<;>simp[DX,e1,e2]
theorem zZB{r:R2}(ho:OpR X (EV op) r)(ha:PE X a ta)(hb:PE X b tb)(hm:DX op b=AD):PE X (.Compare a [op] [b] pos) (k8 r ta tb):=by intro AF s σ H Q I h;exact wpAny_Compare1 (Iq ha hb I h λv u s2 x y H2 I2 rx ry q=>ho AF s2 σ H2 x y v u Q I2 rx ry q) hm
def yG3(t:TE):TT:=λσ H Q=>t σ H λx H'=>∃k,x=.bl k/\Q k H'
theorem zZC{r:R2}(ho:OpR X (EV op) r)(ha:PE X a ta)(hb:PE X b tb)(hm:DX op b=AD):PT X (.Compare a [op] [b] pos) (yG3 (k8 r ta tb)):=by
 intro AF s σ H Q I h;refine wpAny_isTrue_Compare1 (G6 (ha AF s σ H _ I h) λv s1 ⟨x,H1,I1,r1,q1⟩=>G6 (hb AF s1 σ H1 _ I1 q1) λu s2 ⟨y,H2,I2,r2,q2⟩ =>
  G6 (ho AF s2 σ H2 x y v u _ I2 r1 r2 q2) λc s3 ⟨z,H3,I3,r3,k,e,q3⟩=>?_) hm
 subst e;cases r3;exact IU {H3,I3,q3}
def Xz(K:AC)(x:V)(H:Hp)(k:Bool):Prop :=
 match x with
 |.non=>k=AD
 |.bl b=>k=b
 |.int i=>k=(i != 0)
 |.str y=>y.length<=sizeLine/\k=((y.length:Int) != 0)
 |.byt y=>y.size<=sizeLine/\k=((y.size:Int) != 0)
 |.ref p=>(∃xs,SqL K H p xs/\k=!xs.isEmpty)\/(∃xs,SqT K H p xs/\k=!xs.isEmpty)\/∃kvs,H p=AA (.dK kvs)/\k=!kvs.isEmpty
 |_=>False
theorem zP6{kvs:List (κ×V)}{vs:List (κ×AH)}(r:KV kvs vs):(!vs.isEmpty)=!kvs.isEmpty:=by cases r<;>rfl
theorem Wb(r:Vals xs CK):(!CK.toArray.isEmpty)=!xs.isEmpty:=by cases r<;>simp
theorem kO:(sizeLine:Nat)<2 ^ 63:=by rw[GB];decide
theorem yDH:yJ5 X (λx H Q=>∃k,Xz X.K x H k/\Q k H):=by
 intro AF s σ H x v Q I rx h;have{k,e,q}:=h;have hl:=kO;have hs:=GB;cases x with
 |non=>cases rx;have e':=e;subst e';exact truthy_none {H,I,q}
 |bl b=>cases rx;have e':=e;subst e';exact IU {H,I,q}
 |int i=>have{t,rfl}:=rx;have e':=e;subst e';exact PySem.P.truthy_int {H,I,q}
 |str y=>have{t,rfl}:=rx;have{hy,e'}:=e;subst e';exact PySem.P.truthy_str 'L' {H,I.tok _,q}
 |byt y=>have{t,rfl}:=rx;have{hy,e'}:=e;subst e';exact PySem.W.truthy_bytes 'L' {H,I.tok _,q}
 |ref p =>
  cases rx;have e':=e;rcases e' with⟨xs,hx,e'⟩|⟨xs,hx,e'⟩|⟨kvs,hx,e'⟩
  .subst e';have{CK,r,pl,hz}:=I.list hx;have EU:=r.length;exact wpAny_truthy_list pl.isList (by simp only[AZ];lia) {H,I.tok _,by rw[Wb r];exact q}
  .subst e';have{CK,r,pl,hz}:=I.tuple hx;have EU:=r.length;exact truthy_tuple pl (by simp only[AZ];lia) {H,I.tok _,by rw[Wb r];exact q}
  .subst e';have{hz,hS,vs,r,m}:=I.hok p _ hx;have EU:=Paired.length r;exact wpAny_truthy_dict hS m 'L' {H,I.tok _,by rw[zP6 r];exact q}
 |_=>exact(e).elim
theorem zUT(ha:PE X a ta)(he:∀SQ,V5 a X.env SQ=(do let v <-SQ;MC a.pos;K8 [v] (truthy v))) : PT X a (λσ H Q=>ta σ H λx H'=>∃k,Xz X.K x H' k/\Q k H'):=by intro AF s σ H Q I h;exact isTrue_plain (G6 (ha AF s σ H _ I h) (λv s1 q0=>by have{x,H1,I1,r1,q1}:=q0;exact yDH AF s1 σ H1 x v Q I1 r1 q1)) (he _)
theorem zP7:OpR X (HE .Add) (λx y H Q=>∃i j,x=.str i/\y=.str j/\i.length+j.length<=sizeLine/\Q (.str (i++j)) H):=by intro AF s σ H x y v u Q I rx ry h;have{i,j,rfl,rfl,hz,q}:=h;have{t,rfl}:=rx;have{t',rfl}:=ry;exact add_str (λt' tk=>{.str (i++j),H,I.tok _,{_,rfl},q}) hz
theorem X7{x:V}(r:Vals [x] us):∃u,us=[u]/\RelV x u:=by
 cases r with
 |cons r1 r2=>cases r2;exact{_,rfl,r1}
theorem yG4{x:V}(r:Vals [x,y] us):∃u w',us=[u,w']/\RelV x u/\RelV y w':=by
 cases r with
 |cons r1 r2 =>
  cases r2 with
  |cons r3 r4=>cases r4;exact{_,_,rfl,r1,r3}
theorem zRH(hc:X.calm=AN):CallR X (.builtin "min") (λxs H Q=>∃i j,xs=[.int i,.int j]/\Q (.int (if j<i then j else i)) H):=by
 intro AF s σ H xs us Q I r h;have{i,j,rfl,q}:=h;obtain⟨u,w',rfl,⟨t,rfl⟩,⟨t',rfl⟩⟩:=yG4 r;refine min_two_ints (I.ok.hd hc) λh' tk k=>{_,H,I.kept k,?_,q};by_cases hj:j<i
 .rw[if_pos hj,if_pos hj];exact{_,rfl}
 .rw[if_neg hj,if_neg hj];exact{_,rfl}
end
structure ObjM(h:CM)(x dx C:AT)(mA:CD->Option AH):Prop where
 obj:h.get? x=AA (RO C dx)
 ns:h.Ns1 dx mA
 ne:dx≠x
theorem zRI(n:h.Ns1 dx mA):∃od,h.get? dx=AA od/\∀name,TJ name od=AA (mA name):=by
 have{o,es,ep,ho,hd,hk,_,hm}:=n;refine{o,ho,λname=>?_};have e:=hm name;unfold nsFind findBy at e;rw[<-Array.find?_toList] at e;unfold TJ;rw[hd];dsimp only;split
 .rename_i y q;rw[q] at e;exact congrArg AA e
 .rename_i q;rw[q] at e;have a:es.toList.any (·.refKey)=AD:=by rw[MG];intro y hy;have{z,t,NV}:=hk y (G2.mp hy);simp[DictEntry.refKey,NV]
  have a':¬es.toList.any (·.refKey)=AN:=by rw[a];exact CH
  rw[if_neg a'];exact congrArg AA e
theorem ObjM.look{x:AT}(I:ObjM h x dx C mA):∃od,PySem.W.InstAt h x (RO C dx) C (AA od)/\∀name,TJ name od=AA (mA name) :=
 let ⟨od,ho,hl⟩:=zRI I.ns
 {od,{I.obj,rfl,rfl,ho},hl}
theorem RelO.some_of{o:Option AH}(r:RelO (AA v) o):∃u,o=AA u/\RelV v u:=by
 cases o with
 |none=>exact(r).elim
 |some u=>exact{u,rfl,r}
section
variable{fs pG:List (CD×V)}
theorem zZD(hok:HOk P w H h)(e:H a=AA (.ins C dx fs)):∃mA,ObjM h a dx C mA/\(∀f,RelO (fs.lookup f) (mA f))/\PySem.Within mA (fs.map (·.1))/\fs.length<=1000/\H dx=AA (.own a):=by have{d,z,ne,ob,mA,n,r,q}:=(hok a _ e);exact{mA,{ob,n,ne},r,q,z,d}
end
structure Cls(K:AC)(C:AT):Prop where
 pg:aZ K C O1=AN
 hd:PySem.W.hasDictIn K C=AN
 po:PySem.W.plainOver K C=AN
 sa:K4 K (.ref C) "__setattr__"=AA (AA (.builtin "object.__setattr__"))
theorem Cls.get{K:AC}(c:Cls K C)(f:CD):aZ K C f=AN:=c.pg
variable{tv:TE}
section
variable{c:AH}{b:Bool}
inductive TyOf(K:AC)(H:Hp):V->AH->Prop where
 |non:TyOf K H .non (.type "NoneType")
 |bl (x:Bool):TyOf K H (.bl x) (.type "bool")
 |int (i:Int):TyOf K H (.int i) (.type "int")
 |str (x:CD):TyOf K H (.str x) (.type "str")
 |flt (x:UInt64):TyOf K H (.flt x) (.type "float")
 |lst {a:AT} {xs:List V} (e:H a=AA (.lst xs)):TyOf K H (.ref a) (.type "list")
 |frz {a:AT} {o:IZ} {xs:List V} (e:H a=AA (.frz o (.lst xs))):TyOf K H (.ref a) (.type "list")
 |tup {a:AT} {xs:List V} (e:H a=AA (.tup xs)):TyOf K H (.ref a) (.type "tuple")
 |dK {a:AT} {kvs:List (Key×V)} (e:H a=AA (.dK kvs)):TyOf K H (.ref a) (.type "dict")
 |dT {a:AT} {kvs:List (List Key×V)} (e:H a=AA (.dT kvs)):TyOf K H (.ref a) (.type "dict")
 |ins {a C dx:AT} {fs:List (CD×V)} (e:H a=AA (.ins C dx fs)) (cl:Cls K C) (ha:K4 K (.ref C) "__class__"=AA (AA (.builtin "object.__class__")))
   (hn:ZW K (.builtin "object.__class__") "__get__"=AA (AA (.builtin "getset_descriptor.__get__"))) (oK:cE K (.builtin "object.__class__")=AA AN)
   (hm:UJ K C (.type "object")=AA AN):TyOf K H (.ref a) (.ref C)
theorem Ar{x:V}{t:AH}(I:Inv X AF σ H s)(rx:RelV x u)(ty:TyOf X.K H x t)(e:BR X.K t c=AA b)(h:∀tk,Q (.bool b) { s with toks:=tk }) : BE (A7 X.prog X.w) A (call (.builtin "isinstance") [u,c]) Q E s:=by
 cases ty with
 |non=>cases(rx);exact DD PySem.W.kitx_none I.kIn G8 e (λz=>nomatch z) h
 |bl y=>cases(rx);exact DD PySem.W.kitx_bool I.kIn G8 e (λz=>nomatch z) h
 |int i=>have{t,q}:=(rx);cases q;exact DD PySem.W.kitx_int I.kIn G8 e (λz=>nomatch z) h
 |str y=>have{t,q}:=(rx);cases q;exact DD PySem.W.kitx_str I.kIn G8 e (λz=>nomatch z) h
 |flt y=>have{t,q}:=(rx);cases q;exact DD PySem.W.kitx_float I.kIn G8 e (λz=>nomatch z) h
 |@lst a xs ea=>cases(rx);have{_,_,n,_,h1}:=(I.hok a _ ea);exact DD PQ I.kIn {_,h1,rfl} e (λz=>nomatch z) h
 |@frz a ob xs ea=>cases(rx);have{_,_,_,n,_,h1}:=(I.hok a _ ea);exact DD PQ I.kIn {_,h1,rfl} e (λz=>nomatch z) h
 |@tup a xs ea=>cases(rx);have{_,_,_,p}:=(I.hok a _ ea);have{o,h1,h2,_}:=p;exact DD Y3 I.kIn {o,h1,h2} e (λz=>nomatch z) h
 |@dK a kvs ea=>cases(rx);have{_,_,vs,_,p}:=(I.hok a _ ea);have{o,es,ep,h1,h2,_}:=p;exact DD LM I.kIn {o,h1,h2.1} e (λz=>nomatch z) h
 |@dT a kvs ea=>cases(rx);have{_,_,xs,_,o,es,ep,h1,h2,_}:=(I.hok a _ ea);exact DD LM I.kIn {o,h1,h2.1} e (λz=>nomatch z) h
 |@ins a C dx fs ea cl ha hn oK hm=>cases(rx);have{mA,O,_}:=zZD I.hok ea;have{od,J,_}:=O.look;exact DD (PySem.W.kitx_own (cl.get _) cl.hd ha hn oK hm) I.kIn J e (λz=>nomatch z) h
end
structure Room(k:Nat)(A:GD):Prop where
 hd:A.handled=AK
 dp:A.depth+3 * k+5<recursionLimit
 un:A.units+16 * k+200<GZ
 gd:A.guards=AA []
theorem Room.mono(r:Room k A)(h:j<=k):Room j A:={r.hd,by have:=r.dp;lia,by have:=r.un;lia,r.gd}
theorem Room.deeper{k:Nat}{A:GD}(r:Room (k+1) A)(env:V9):Room k (A.deeper env) :={r.hd,by have:=r.dp;show A.depth+1+3 * k+5<_;lia,by have:=r.un;show A.units+3+16 * k+200<_;lia,r.gd}
theorem Room.in1{k:Nat}{A:GD}(r:Room (k+1) A):Room k A.in1 :={r.hd,by have:=r.dp;show A.depth+3 * k+5<_;lia,by have:=r.un;show A.units+1+16 * k+200<_;lia,r.gd}
theorem Room.depth{k:Nat}{A:GD}(r:Room k A):A.depth<recursionLimit:=by have:=r.dp;lia
theorem Room.units{k:Nat}{A:GD}(r:Room k A):A.units+64<GZ:=by have:=r.un;lia
def Bv:TA:=λ_ H Q=>Q [] H
def sW(ta:TE)(tr:TA):TA:=λσ H Q=>ta σ H λx H1=>tr σ H1 λxs H2=>Q (x::xs) H2
section
variable{t:TA}
theorem HK:PA X [] Bv:=λ_ _ _ _ H Q I h=>cK {[],H,I,.nil,h}
theorem SK(ha:PE X e te)(hr:PA X es t)(hs:AM (e::es) X.env=(AD,eval e X.env)::AM es X.env:=by rfl):PA X (e::es) (sW te t):=by intro pos AF s σ H Q I h;rw[hs];refine PR (G6 (ha AF s σ H _ I h) λu s1 ⟨x,H1,I1,r1,q1⟩=>?_);exact G6 (hr pos AF s1 σ H1 _ I1 q1) (λus s2 q0=>by have{xs,H2,I2,r2,q2}:=q0;exact{x::xs,H2,I2,.cons r1 r2,q2})
def yJ6(t:TA):TE:=λσ H Q=>t σ H λxs H1=>xs.length<=sizeLine/\∀p,H1 p=AK->Q (.ref p) (D4 H1 p (.tup xs))
def rK(t:TA):TE:=λσ H Q=>t σ H λxs H1=>xs.length<=sizeLine/\∀p,H1 p=AK->Q (.ref p) (D4 H1 p (.lst xs))
theorem yDI{x1}(h:PA X es t):PE X (.Tuple es x1 pos) (yJ6 t):=by intro AF s σ H Q I hq;refine wpAny_Tuple_spliced (G6 (h pos AF s σ H _ I hq) λus s1 ⟨xs,H1,I1,r,z,q⟩=>{by rw[<-r.length];exact z,?_});have hf:=I1.hok.fresh (AL _);refine{.ref s1.heap.objs.size,D4 H1 s1.heap.objs.size (.tup xs),I1.laid (λb u e=>AG _ e) (AL _) ?_,rfl,q _ hf};exact{z,us,r,{_,AX _ rfl,rfl,rfl,_,rfl}}
theorem mY(h:PA X es t):PE X (.List es pos) (rK t):=by intro AF s σ H Q I hq;refine wpAny_List_spliced (G6 (h pos AF s σ H _ I hq) λus s1 ⟨xs,H1,I1,r,z,q⟩=>{by rw[<-r.length];exact z,?_});have hf:=I1.hok.fresh (AL _);refine{.ref s1.heap.objs.size,D4 H1 s1.heap.objs.size (.lst xs),I1.laid (λb u e=>AG _ e) (AL _) ?_,rfl,q _ hf};exact{z,us,0,r,AX _ rfl}
end
abbrev Sp:=List V->Hp->VK->XK->Prop
abbrev CXT:=List V9->Hp->AQ->XK->AH->AQ->Prop
structure Env0(P:BZ)(w:C8)(K:AC)(mg:CD->Option AH)(base:CM)(A:GD)(outer:List V9)(s:AQ)(H:Hp):Prop where
 tab:∀T q,TB K T q->∃ps,H T=AA (.tbl q ps)
 frames:A.frames=AA outer
 mod:Mod K mg base
 bs:∀b o,base.get? b=AA o->s.heap.get? b=AA o/\H b=AK
 bsz:base.objs.size<=s.heap.objs.size
 funs:s.heap.FunFrames base outer
 frf:∀b∈SO outer,H b=AK
 hok:HOk P w H s.heap
 bare:NO s.gens
def CE(outer:List V9)(P:BZ)(w:C8)(H:Hp)(s:AQ)(Q:VK)(u:AH)(s':AQ):Prop :=∃v H',s'.os=s.os/\NO s'.gens/\Un (SO outer) [] H H' s.heap s'.heap/\HOk P w H' s'.heap/\RelV v u/\Q v H'
def CR(CX:CXT)(outer:List V9)(P:BZ)(w:C8)(H:Hp)(s:AQ)(Q:VK)(E:XK)(r:Y1)(s':AQ):Prop :=
 match r with
 |.ok (.ret u)=>CE outer P w H s Q u s'
 |.ok _=>False
 |.error e=>CX outer H s E e s'
structure FnOk(P:BZ)(w:C8)(K:AC)(mg:CD->Option AH)(base:CM)(CX:CXT)(k:Nat)(f:AT)(fd:CV)(ps:List CD)(sp:Sp):Prop where
 len:∀vs H Q E,sp vs H Q E->vs.length=ps.length
 run:∀(A:GD) (outer:List V9) (s:AQ) (H:Hp) (args:Args) (us:List AH) (vs:List V) (Q:VK) (E:XK),Room k A->Env0 P w K mg base A outer s H->UN s fd args (ps.zip us)->Vals vs us->sp vs H Q E ->
  IE (A7 P w) A (.call (.ref f) args) (CR CX outer P w H s Q E) s
variable{CX:CXT}{sp:Sp}
theorem FnOk.imp{K:AC}{f:AT}{sp':Sp}(F:FnOk P w K mg base CX k f fd ps sp) (h:∀vs H Q E,sp' vs H Q E->sp vs H Q E):FnOk P w K mg base CX k f fd ps sp' :={λvs H Q E q=>F.len vs H Q E (h _ _ _ _ q),λA outer s H args us vs Q E hr he hb hv hs=>F.run A outer s H args us vs Q E hr he hb hv (h _ _ _ _ hs)}
theorem Inv.env0(I:Inv X AF σ H s):Env0 X.prog X.w X.K X.mg X.base X.A X.stack s H :={I.tab,I.ok.frames,I.ok.mod,I.bs,AW I.ok.bsz I.sz,I.stack,I.stkFree,I.hok,I.bare}
theorem Inv.after{Q:VK}(I:Inv X AF σ H s)(h:CE X.stack X.prog X.w H s Q u s'):EP X AF σ Q u s':=by have{v,H',os,bare,un,hok,r,q}:=h;have{hh,g,d,t,Lc}:=s';obtain rfl:Lc=s.os:=os;exact{v,H',I.call un hok bare (λb z=>absurd z 'S'),r,q}
def sV(sp:Sp)(pP:List V)(E:XK)(t:TA):TE:=λσ H Q=>t σ H λvs H1=>sp (vs++pP) H1 Q E
def Binds(K:AC)(fd:CV)(ps:List CD)(ds:List AH):Prop :=∀(s:AQ) (us:List AH),K.In s.heap->(us++ds).length=ps.length->UN s fd {us,[]} (ps.zip (us++ds))
theorem Binds.all{K:AC}(h:∀us:List AH,us.length=ps.length->OG fd {us,[]}=pure (ps.zip us)):Binds K fd ps []:=λs us _ hl=>by rw[C5] at hl ⊢;exact .of_eq (h us hl)
def p9(CX:CXT)(X:Cx)(E:XK):Prop:=∀(AF:List (AT×IZ)) (σ:St) (H:Hp) (s:AQ) (e:AH) (s':AQ),Inv X AF σ H s->CX X.stack H s E e s'->X.xe e s'
section
variable{f:AT}{pP:List V}{ds:List AH}{E:XK}{m:CD}{t:TA}
theorem yDJ{Q:VK}{vs:List V}(F:FnOk X.prog X.w X.K X.mg X.base CX k f fd ps sp)(hr:Room k X.A)(hb:Binds X.K fd ps ds)(hd:Vals pP ds)(hx:p9 CX X E) (I:Inv X AF σ H s) (r:Vals vs us) (h:sp (vs++pP) H Q E):BE (A7 X.prog X.w) X.A (call (.ref f) us) (EP X AF σ Q) X.xe s:=by
 have r2:=r.append hd;have hl:(us++ds).length=ps.length:=by rw[<-r2.length];exact F.len _ _ _ _ h
 refine TH (MD (F.run X.A X.stack s H {us,[]} (us++ds) (vs++pP) Q E hr I.env0 (hb s us I.kIn hl) r2 h) λr s' hq=>?_);cases r with
 |error e=>exact hx AF σ H s e s' I hq
 |ok fl =>
  cases fl with
  |ret u=>exact I.after hq
  |next=>exact HP hq
  |brk=>exact HP hq
  |cont=>exact HP hq
theorem tZ(F:FnOk X.prog X.w X.K X.mg X.base CX k f fd ps sp)(hr:Room k X.A)(hg:Gl X x)(hm:X.mg x=AA (.ref f))(hk:EO X.K (.ref f)=AN)(hb:Binds X.K fd ps ds)(hd:Vals pP ds)(hx:p9 CX X E) (ha:PA X (e::es) t) (RK:(x==("__debug__":CD))=AD:=by decide) (he:AM (e::es) X.env=(AD,eval e X.env)::AM es X.env:=by rfl) (JQ:(DC pos (AM es X.env)).any (·.1)=AD:=by rfl) : PE X (.Call (.Name x p) (e::es) [] pos) (sV sp pP E t):=by intro AF s σ H Q I h;refine ID (qH I hg hm ?_ RK);refine OX I.ok.mod.kin hk (G6 (ha pos AF s σ H _ I h) λus s1 ⟨vs,H1,I1,r,q⟩=>{I1.kIn,?_}) he JQ;exact yDJ F hr hb hd hx I1 r q
end
structure FnScope(N P:List CD)(sc:JJ):Prop where
 kind:sc.kind=.function
 co:sc.isCoroutine=AD
 gen:sc.isGenerator=AD
 nd:N.Nodup
 pre:N.take P.length=P
 par:∀x∈P,sc.names.lookup x=AA .local\/sc.names.lookup x=AA .cell
 nofree:∀y∈sc.names,y.2≠.free
theorem Vj{kindOf:CD->Option UK}{x:CD}:∀{XF:List (CD×AH)} {m:CD->Option AH},(∀v,(x,v)∉XF)->b9 kindOf XF m x=m x
 |[],_,_=>rfl
 |(n,v)::r,m,h=>by
  unfold b9;rw[Vj λw hw=>h w (A5 _ hw)];split
  .have:x≠n:=by rintro rfl;exact h v A2
   simp[this]
  .rfl
theorem Vi{kindOf:CD->Option UK}{x:CD}:∀{XF:List (CD×AH)} {m:CD->Option AH},(∀v,(x,v)∉XF)->cA kindOf XF m x=m x
 |[],_,_=>rfl
 |(n,v)::r,m,h=>by
  unfold cA;rw[Vi λw hw=>h w (A5 _ hw)];split
  .rfl
  .have:x≠n:=by rintro rfl;exact h v A2
   simp[this]
theorem Vh{kindOf:CD->Option UK}{x:CD}{v:AH}:∀{P:List CD} {vs:List AH} {i:Nat} {m:CD->Option AH},P.Nodup->P[i]?=AA x->vs[i]?=AA v->kindOf x=AA .local ->b9 kindOf (P.zip vs) m x=AA v
 |[],_,_,_,_,h,_,_=>by simp at h
 |_::_,[],_,_,_,_,h,_=>by simp at h
 |p::P,w::vs,0,m,nd,h1,h2,hk=>by simp at h1 h2;subst h1;subst h2;show b9 kindOf ((p,w)::P.zip vs) m p=_;unfold b9;rw[Vj λv hv=>(D8.mp nd).1 (JF hv).1,if_pos hk];simp
 |p::P,w::vs,i+1,m,nd,h1,h2,hk=>by show b9 kindOf ((p,w)::P.zip vs) m x=_;unfold b9;exact Vh (i:=i) (D8.mp nd).2 (by simpa using h1) (by simpa using h2) hk
theorem Vg{kindOf:CD->Option UK}{x:CD}{v:AH}:∀{P:List CD} {vs:List AH} {i:Nat} {m:CD->Option AH},P.Nodup->P[i]?=AA x->vs[i]?=AA v->kindOf x≠AA .local ->cA kindOf (P.zip vs) m x=AA v
 |[],_,_,_,_,h,_,_=>by simp at h
 |_::_,[],_,_,_,_,h,_=>by simp at h
 |p::P,w::vs,0,m,nd,h1,h2,hk=>by simp at h1 h2;subst h1;subst h2;show cA kindOf ((p,w)::P.zip vs) m p=_;unfold cA;rw[Vi λv hv=>(D8.mp nd).1 (JF hv).1,if_neg hk];simp
 |p::P,w::vs,i+1,m,nd,h1,h2,hk=>by show cA kindOf ((p,w)::P.zip vs) m x=_;unfold cA;exact Vg (i:=i) (D8.mp nd).2 (by simpa using h1) (by simpa using h2) hk
noncomputable def start(N:List CD)(vs:List V):St:=vs.map AA++BI (N.length-vs.length) AK
noncomputable def SJ(CX:CXT)(P:BZ)(w:C8)(K:AC)(mg:CD->Option AH)(base:CM)(N:List CD)(qual:CD)(scope:JJ)(f:AT)(cd:AH)(A:GD)(outer:List V9)(s:AQ)(H:Hp)(E:XK):Cx where
 prog:=P
 w:=w
 K:=K
 mg:=mg
 base:=base
 A:=A.deeper (GY qual scope s.heap.objs.size f cd)
 N:=N
 s₀:=s
 H₀:=H
 env:=GY qual scope s.heap.objs.size f cd
 outer:=outer
 stack:=GY qual scope s.heap.objs.size f cd::outer
 ex:=[]
 calm:=AN
 fn:=λ_=>AN
 pn:=[]
 xe:=λe s'=>BE (A7 P w) (A.deeper (GY qual scope s.heap.objs.size f cd)) (leaving (GY qual scope s.heap.objs.size f cd) e) (λ_ gK=>CX outer H s E e gK) (λe' gK=>CX outer H s E e' gK) s'
theorem Tv{sc:JJ}(h:sc.names.lookup x=AA .cell):∃c,(Q1 n sc.names []).lookup x=AA c:=by have q:=M1 sc.names n [] (.inl h);exact Option.isSome_iff_exists.mp q
theorem Vf{K:AC}{scope:JJ}{f:AT}{cd:AH}{outer:List V9}{s1:AQ}{E:XK}{vs:List V} (S:FnScope N ps scope) (hd:A.handled=AK) (e0:Env0 P w K mg base A outer s H) (hl:vs.length=ps.length) (r:Vals vs us) (x:InCallC s s.heap.objs.size (b9 (GY qual scope s.heap.objs.size f cd).kindOf (ps.zip us) λ_=>AK) (Q1 (s.heap.objs.size+1) scope.names []) (cA (GY qual scope s.heap.objs.size f cd).kindOf (ps.zip us) λ_=>AK) s1) : Inv (SJ CX P w K mg base N qual scope f cd A outer s H E) [] (start N vs) H s1:=by
 have JQ:ps.length<=N.length:=by have:=congrArg MF S.pre;rw[EI] at this;lia
 have{h1,tk,rfl,hk}:=x.done;have wH:∀b:AT,b∉(SJ CX P w K mg base N qual scope f cd A outer s H E).ex:=λb z=>absurd (show b∈([]:List AT) from z) 'S';refine{{e0.tab,e0.mod,S.kind,rfl,rfl,AL _,λy z c h1 h2=>?_,λy hy=>?_,λy c _ h=>?_,λ_=>hd,X2 e0.frames,.inr {rfl,rfl},λb z=>absurd z (wH b),e0.bs,e0.bsz,λb _ _=>wH b,λb z=>absurd z (wH b),e0.funs,e0.frf},
  rfl,e0.bare,Un.kept hk,{_,x.toInCall.ns,λi y v h1 h2 h3=>?_},λy c h=>{_,x.cell y c h},e0.hok.fresh (AL _),λy c h=>?_,λp hp=>absurd (show p∈([]:List (AT×IZ)) from hp) 'S',e0.hok.kept hk,?_}
 .exact name_of_addr x.apart (IX h1) (IX h2)
 .have hy:=hy;rcases hy with hy|hy
  .exact Tv hy
  .exact absurd rfl (S.nofree _ (IX hy))
 .exact CQ (x.above y c (IX h))
 .have hi:i<vs.length:=by
   unfold start at h2;by_cases hi:i<vs.length
   .exact hi
   .rw[BX (by simpa using hi)] at h2;rw[DZ] at h2;split at h2<;>cases h2
  have ha:vs[i]?=AA v:=by
   unfold start at h2;rw[CA (by simpa using hi),AU] at h2;cases e:vs[i]? with
   |none=>rw[e] at h2;cases h2
   |some a=>rw[e] at h2;cases h2;rfl
  have{u,hu,rv}:=r.get ha;have hp:ps[i]?=AA y:=by rw[<-S.pre,WO (AO hi (CU hl))];exact h1
  have ndP:ps.Nodup:=by rw[<-S.pre];exact S.nd.sublist (Q5 _ _)
  refine{u,rv,?_};rcases S.par y (BJ hp) with k|k
  .exact .inl {k,Vh ndP hp hu k}
  .have{c,e}:=Tv k;refine .inr {.inl k,c,e,?_};have q:=x.cell y c e;rw[Vg ndP hp hu (by show scope.names.lookup y≠_;rw[k];decide)] at q;exact q
 .exact e0.hok.fresh (CQ (x.above y c (IX h)))
 .unfold start;show _=N.length;rw[BC,AJ,C3];lia
theorem Ds{K:AC}{f:AT}{EM:OM}{scope:JJ}{dV kV TC pm G3 ct oc:AH}{an od:Option AT} {ZL:Array (Option AH)} {N ps:List CD} {sp:Sp} (lk:K.lookup f=AA {oc,od,.func (E8 name qual EM body scope dV kV TC pm an G3 ct),ZL}) (LU:IG K G3 qual=AN) (S:FnScope N ps scope) (len:∀vs H Q E,sp vs H Q E->vs.length=ps.length) (K0:∀(A:GD) (outer:List V9) (s:AQ) (H:Hp) (vs:List V) (Q:VK) (E:XK),Room k (A.deeper (GY qual scope s.heap.objs.size f G3))->sp vs H Q E ->∃t,PSs (SJ CX P w K mg base N qual scope f G3 A outer s H E) body t/\t { nx:=λ_ H'=>Q .non H',rt:=Q } (start N vs) H) : FnOk P w K mg base CX (k+1) f (E8 name qual EM body scope dV kV TC pm an G3 ct) ps sp:=by
 refine{len,λA outer s H args us vs Q E hr e0 hb r bW=>?_};have hl:=len _ _ _ _ bW;have KX:=e0.mod.kin.keeps λb o e=>(e0.bs b o e).1;have Lv:=e0.mod.nolimit.keeps λb o e=>(e0.bs b o e).1;have xJ:∀y∈ps.zip us,scope.names.lookup y.1=AA .local\/(scope.names.lookup y.1=AA .cell/\((Q1 (s.heap.objs.size+1) scope.names []).lookup y.1).isSome=AN):=λ⟨n,v⟩ hy=>by
  rcases S.par n (JF hy).1 with q|q
  .exact .inl q
  .exact .inr {q,M1 _ _ _ (.inl q)}
 refine g8 hr.depth (KX _ _ lk) rfl S.co S.gen rfl (Y4 KX LU) (hb _ _ _ _ ?_);refine YO S.kind xJ λenv he s1 x=>?_;subst he;refine{Lv.keeps x.toInCall.keep,codeAny_func ?_};have{t,ht,hq}:=K0 A outer s H vs Q E (hr.deeper _) bW;have I:Inv (SJ CX P w K mg base N qual scope f G3 A outer s H E) [] (start N vs) H s1:=Vf S hr.hd e0 hl r x;refine CZ (ht [] s1 (start N vs) H _ I hq) (λfl s' hs=>?_) λe s' hs=>hs;have fin:∀{σ':St} {H':Hp} {v:V} {u:AH},Inv (SJ CX P w K mg base N qual scope f G3 A outer s H E) [] σ' H' s'->RelV v u->Q v H'->CE outer P w H s Q u s' :=
  λ{σ' H' v u} J rv q=>{v,H',J.os,J.bare,J.base,J.hok,rv,q}
 cases fl with
 |ret u=>have{v,σ',H',J,rv,q}:=hs;exact fin J rv q
 |next=>have{σ',H',J,q}:=hs;exact fin (v:=V.non) J rfl q
 |brk=>have{_,_,_,q}:=hs;exact HP q
 |cont=>have{_,_,_,q}:=hs;exact HP q
section
variable{t:TA}{id:String}{r:List V->Hp->VK->Prop}
def Cb(r:List V->Hp->VK->Prop)(t:TA):TE:=λσ H Q=>t σ H λvs H1=>r vs H1 Q
theorem uC(hc:CallR X (.builtin id) r)(hg:Gl X x)(hm:X.mg x=AK)(hv:GN x=AA (.builtin id))(ha:PA X (e::es) t)(hn:x≠"__name__":=by decide)(RK:(x==("__debug__":CD))=AD:=by decide) (he:AM (e::es) X.env=(AD,eval e X.env)::AM es X.env:=by rfl) (JQ:(DC pos (AM es X.env)).any (·.1)=AD:=by rfl):PE X (.Call (.Name x p) (e::es) [] pos) (Cb r t):=by intro AF s σ H Q I h;refine ID (kP I hg hm hv ?_ hn RK);exact PyProof.Rows.callWith_builtin1 (G6 (ha pos AF s σ H _ I h) (λus s1 q0=>by have{vs,H1,I1,r1,q1}:=q0;exact hc AF s1 σ H1 vs us Q I1 r1 q1)) he JQ
theorem uH(hc:CallR X (.type T) r)(hg:Gl X x)(hm:X.mg x=AK)(hv:GN x=AA (.type T))(ha:PA X (e::es) t)(hn:x≠"__name__":=by decide)(RK:(x==("__debug__":CD))=AD:=by decide) (he:AM (e::es) X.env=(AD,eval e X.env)::AM es X.env:=by rfl) (JQ:(DC pos (AM es X.env)).any (·.1)=AD:=by rfl):PE X (.Call (.Name x p) (e::es) [] pos) (Cb r t):=by intro AF s σ H Q I h;refine ID (kP I hg hm hv ?_ hn RK);exact FV (G6 (ha pos AF s σ H _ I h) (λus s1 q0=>by have{vs,H1,I1,r1,q1}:=q0;exact hc AF s1 σ H1 vs us Q I1 r1 q1)) he JQ
end
end _L
variable{ns:List Int}{v:AH}
namespace HT
open PySem PyProof.Rows
noncomputable def lexLt:List Int->List Int->Bool
 |[],[]=>AD
 |[],_::_=>AN
 |_::_,[]=>AD
 |x::xs,y::ys=>if x=y then lexLt xs ys else decide (x<y)
theorem zP8(x y:Int)(xs ys:List Int):lexLt (x::xs) (y::ys)=if x=y then lexLt xs ys else decide (x<y):=rfl
theorem zJO:lexLt [] []=AD:=rfl
theorem zIH(y:Int)(ys:List Int):lexLt [] (y::ys)=AN:=rfl
theorem zII(x:Int)(xs:List Int):lexLt (x::xs) []=AD:=rfl
theorem zUU(A:GD)(s:AQ)(a:Int)(t:Tok)(c:Int)(u:Tok):∃e,SeqAt.EqAt A s (.int a t) (.int c u) e/\(e=AN↔a=c) :={(a==c),SeqAt.EqAt.int_int a t c u,by simp}
theorem zUV(A:GD)(s:AQ)(a:Int)(t:Tok)(c:Int)(u:Tok)(prog:BZ)(w:C8)(E:AH->AQ->Prop)(Q:AH->AQ->Prop)(h:Q (.bool (decide (a<c))) s) : BE (A7 prog w) A (richCompare .Lt (.int a t) (.int c u)) Q E s :=(PyProof.Rows.lt_int h:BE (A7 prog w) A (EV .Lt (.int a t) (.int c u)) Q E s)
section
open PySem.SeqAt
open PySem.AutoSeq1 (wpAny_loadPart')
open PySem.MeetsSeq PySem.MeetsSeq2 PySem.MeetsSeq3
theorem zJP(l b:AT)(items IR:Array AH)(n n2:Nat)(dd l6:Option AT)(sl lF:Array (Option AH))(ns ms:List Int)(hi:IH items.toList ns)(hj:IH IR.toList ms) : Meets (GG.«tuple.__lt__» {[.ref l,.ref b],[]}) (λ_ R s=>s.heap.get? l=AA { cls:=.type "tuple",dict:=dd,data:=.seq items n,slots:=sl }/\s.heap.get? b=AA { cls:=.type "tuple",dict:=l6,data:=.seq IR n2,slots:=lF } /\ R (.ok (.ret (.bool (lexLt ns ms)))) s) :=
 .of_wp λprog w A R s h=>by
  have{hp,g,d,tk,os}:=s;have{hl,hb,h}:=h;have f2:=TZ;have z1:items.size=ns.length:=by rw[<-hi.length];simp
  have z2:IR.size=ms.length:=by rw[<-hj.length];simp
  wp_walk using wpAny_loadPart' hl,wpAny_loadPart' hb,wpAny_forIn_list _ (λrest b s'=>b.1=AK/\s'={hp,g,d,tk,os}/\∃(vs ws:List AH) (rZ sB:List Int),rest=vs.zip ws /\
   IH vs rZ/\IH ws sB/\rZ.length+IR.size=sB.length+items.size/\R (.ok (.ret (.bool (lexLt rZ sB)))) {hp,g,d,tk,os}) _
  case turn =>
   rintro⟨y,x⟩ rest b s' ⟨eP,rfl,vs,ws,rZ,sB,hz,Mh,Cz,EU,hR⟩;cases Mh with
   |nil=>rw[List.zip_nil_left] at hz;cases hz
   |cons a t hvi' =>
    cases Cz with
    |nil=>rw[List.zip_nil_right] at hz;cases hz
    |cons c u hwi' =>
     rw[P0] at hz;injection hz with hyx hrest;injection hyx with hy hx;subst hy hx;rw[zP8] at hR;simp only[BA] at EU;have{e,he,xO}:=zUU A.in1 {hp,g,d,tk,os} a t c u;refine AB (he prog w _ _ ?_);cases e with
     |true =>
      rw[if_pos (xO.mp rfl)] at hR
      wp_walk
      exact{rfl,rfl,_,_,_,_,hrest,hvi',hwi',by lia,hR}
     |false =>
      rw[if_neg (λq=>absurd (xO.mpr q) CH)] at hR;have hri:=zUV A.in1 {hp,g,d,tk,os} a t c u prog w
      wp_walk using hri
      exact{_,rfl,by simpa using hR}
  case fin =>
   rintro⟨b1,b2⟩ s' ⟨eP,rfl,vs,ws,rZ,sB,hz,Mh,Cz,EU,hR⟩;simp only at eP;subst eP;have hv:lexLt rZ sB=decide (items.size<IR.size):=by
    cases Mh with
    |nil =>
     cases Cz with
     |nil=>simp only[JG] at EU;rw[zJO];exact(decide_eq_false 'L').symm
     |cons c u hw=>simp only[JG,BA] at EU;rw[zIH];exact(decide_eq_true 'L').symm
    |cons a t hv =>
     cases Cz with
     |nil=>simp only[JG,BA] at EU;rw[zII];exact(decide_eq_false 'L').symm
     |cons c u hw=>rw[P0] at hz;cases hz
   rw[hv] at hR
   wp_walk
   exact{_,rfl,by simpa[Builtin.Tuple.tupleCompareSizes] using hR}
  case h=>exact{rfl,rfl,items.toList,IR.toList,ns,ms,rfl,hi,hj,by lia,h}
end
theorem lt_tupInts{l:AT}{IR:Array AH}{ms:List Int}(hl:SI s.heap l items)(hb:SI s.heap b IR)(hi:IH items.toList ns)(hj:IH IR.toList ms) (hu:A.units<GZ) (h:Q (.bool (lexLt ns ms)) s):BE (A7 prog w) A (EV .Lt (.ref l) (.ref b)) Q E s:=by
 have{zz',ho,hc,n,hd}:=id hl;have{cls,dd,data,sl}:=zz';have{zz',ZP,gU,n2,jH}:=id hb;have{yI,l6,data2,lF}:=zz';simp only at hc hd gU jH;subst hc hd gU jH;exact richCompare_meets_room (op:=.Lt) {_,ho,rfl} {_,ZP,rfl} PySem.F.slot_tuple_lt PySem.F.entry_tuple_lt (PySem.F.args_tuple_lt_2 _ _) (zJP l b items IR n n2 dd l6 sl lF ns ms hi hj)
  {ho,ZP,{(λx=>nomatch x),h}} hu
theorem cat_tup{t:AT}{vs ws:List AH}(ht:SI s.heap t vs.toArray)(hb:SI s.heap b ws.toArray)(hv:vs≠[]) (h1:ws=[]->Q (.ref t) s) (h2:ws≠[]->Q (.ref s.heap.objs.size) { s with heap:=s.heap.push { cls:=.type "tuple",data:=.seq (vs++ws).toArray } }) (NK:vs.length+ws.length<=sizeLine):BE (A7 prog w) A (HE .Add (.ref t) (.ref b)) Q E s:=by
 have{zz',ho,hc,n,hd}:=id ht;have{cls,dd,data,sl}:=zz';have{zz',ZP,gU,n2,jH}:=id hb;have{yI,l6,data2,lF}:=zz';simp only at hc hd gU jH;subst hc hd gU jH;have e:vs.toArray++ws.toArray=(vs++ws).toArray:=by simp
 by_cases hw:ws=[]
 .exact UI {_,ho,rfl} {_,ZP,rfl} V4 aW M3 ME (LZ _ _)
   (tuple_addW1 t b vs.toArray ws.toArray n n2 dd l6 sl lF (by simpa using hv) (by simp[hw])) {ho,ZP,h1 hw}
 .refine UI {_,ho,rfl} {_,ZP,rfl} V4 aW M3 ME (LZ _ _)
   (tuple_addW2 t b vs.toArray ws.toArray n n2 dd l6 sl lF (by simpa using hv) (by simpa using hw) (by rw[AZ,AZ];exact NK)) {ho,ZP,?_}
  rw[e];exact h2 hw
noncomputable def sIx(n d:Nat):Option Int->Nat
 |none=>d
 |some v=>if v<0 then(v+(n:Int)).toNat else min v.toNat n
theorem yDK(n d:Nat)(hd:d<=n)(o:Option Int):sIx n d o<=n:=by
 cases o with
 |none=>exact hd
 |some v =>
  show(if v<0 then(v+n).toNat else min v.toNat n)<=n;by_cases hv:v<0
  .rw[if_pos hv];lia
  .rw[if_neg hv];exact Nat.min_le_right _ _
theorem Sn(v:Int)(n d:Nat):(if v<0 then max (v+(n:Int)) 0 else min v (n:Int))=((sIx n d (AA v):Nat):Int):=by
 show(if v<0 then max (v+n) 0 else min v n)=(((if v<0 then(v+n).toNat else min v.toNat n):Nat):Int);by_cases hv:v<0
 .simp only[if_pos hv];lia
 .simp only[if_neg hv];lia
theorem zP9(lo hi:Option Int)(n:Nat):KP lo hi 1 (n:Int)=(((sIx n 0 lo:Nat):Int),((sIx n n hi:Nat):Int)):=by
 have h1:¬(1<0):=by lia
 unfold KP;simp only[if_false];refine ZY ?_ ?_
 .cases lo with
  |none=>rfl
  |some v=>exact Sn v n 0
 .cases hi with
  |none=>rfl
  |some v=>exact Sn v n n
theorem zQA(i j:Nat):HZ (i:Int) (j:Int) 1=j-i:=by
 unfold HZ;have h1:1>0:=by lia
 simp only[Int.ediv_one];split<;>lia
theorem Wa{o:Option Int}{Q:Option Int->AQ->Prop}(p:QP v o)(h:Q o s):BE (A7 prog w) A (Builtin.Slice.slicePartIndex v) Q E s:=by
 cases p with
 |none=>exact slicePart_none h
 |int i t=>exact slicePart_int h
theorem sliceApplied_gen{sl:AT}{vl vu:AH}{lo hi:Option Int}{Q:Int×Int×Nat->AQ->Prop}(hs:s.heap.IsSliceOf sl vl vu .none)(pl:QP vl lo)(pu:QP vu hi) (h:Q (((sIx n 0 lo:Nat):Int),1,sIx n n hi-sIx n 0 lo) s):BE (A7 prog w) A (PV (.ref sl) (pure (n:Int))) Q E s:=by have{os,oU,YK,YJ}:=id hs;unfold PV Builtin.Slice.sliceFields;refine AB (AB (DA oU YJ rfl (AB (DA oU YJ rfl (AB (DA oU YJ rfl (wpAny_pure ?_)))))));refine AB (slicePart_none ?_);rw[if_neg 'D'];refine AB (Wa pl (AB (Wa pu (AB (wpAny_pure ?_)))));show BE _ _ (match KP lo hi 1 n with|(lo,hi)=>pure (lo,(1:Int),HZ lo hi 1)) _ _ s;rw[zP9 lo hi n];show BE _ _ (pure (((sIx n 0 lo:Nat):Int),1,HZ ((sIx n 0 lo:Nat):Int) ((sIx n n hi:Nat):Int) 1)) _ _ s;rw[zQA];exact wpAny_pure h
theorem zUW(xs:Array AH)(i k:Nat):((C4 k).filterMap λ(m:Nat)=>xs[((i:Int)+(m:Int) * 1).toNat]?).toArray=((xs.toList.drop i).take k).toArray:=by
 have e:(λ(m:Nat)=>xs[(i+(m:Int) * 1).toNat]?)=λm=>xs[i+m]?:=by
  funext m;have:((i:Int)+m * 1).toNat=i+m:=by lia
  rw[this]
 rw[e];have:=pick_run xs i k;rw[P2] at this;have e2:((λx=>xs[x]?)∘λx=>i+x)=λm=>xs[i+m]?:=rfl;rw[e2] at this;rw[this]
theorem getItem_tuple_cut{t sl:AT}{vl vu:AH}{lo hi:Option Int}(ht:SI s.heap t items)(hs:s.heap.IsSliceOf sl vl vu .none)(pl:QP vl lo)(pu:QP vu hi) (hw:¬(sIx items.size 0 lo=0/\sIx items.size items.size hi=items.size)) (h:Q (.ref s.heap.objs.size) { s with heap:=s.heap.push { cls:=.type "tuple",data:=.seq ((items.toList.drop (sIx items.size 0 lo)).take (sIx items.size items.size hi-sIx items.size 0 lo)).toArray } }) (NK:items.size<=sizeLine):BE (A7 prog w) A (QZ (.ref t) (.ref sl)) Q E s:=by
 have ZO:sizeOk (.seq ((items.toList.drop (sIx items.size 0 lo)).take (sIx items.size items.size hi-sIx items.size 0 lo)).toArray):=by show((items.toList.drop (sIx items.size 0 lo)).take (sIx items.size items.size hi-sIx items.size 0 lo)).toArray.size<=sizeLine;rw[AZ,EI,M7,KY];lia
 have hj:sIx items.size items.size hi<=items.size:=yDK _ _ (AL _) hi;have{os,oU,YK,YJ}:=id hs;have Oh:s.TypeIs (.ref sl) "slice":={os,oU,YK};unfold QZ
 try with_reducible refine C9 ?_
 first|refine AB (wpAny_pure ?_)|skip
 refine AB (wpAny_sequenceKey ht.typeIs 'D' ?_)
 refine AB (C7 (name:=IW "__getitem__") ht.typeIs EA
  (DH EA ht.typeIs l9 ?_ (args_tuple_getitem _ _)))
 show BE _ _ (PU (.ref t) >>= _) _ _ s;refine AB (tupleItemsOf_ ht ?_);refine AB (eZ Oh ?_);rw[if_pos 'D'];refine AB (sliceApplied_gen hs pl pu ?_)
 have hno:¬((((sIx items.size 0 lo:Nat):Int)==0&&(1:Int)==1&&(sIx items.size items.size hi-sIx items.size 0 lo)==items.size)=AN):=by intro q;rw[EY,EY] at q;have q1:((sIx items.size 0 lo:Nat):Int)=0:=eq_of_beq q.1.1;have q2:sIx items.size items.size hi-sIx items.size 0 lo=items.size:=eq_of_beq q.2;exact hw {by lia,by lia}
 show BE _ _ (if(((sIx items.size 0 lo:Nat):Int)==0&&(1:Int)==1&&(sIx items.size items.size hi-sIx items.size 0 lo)==items.size)=AN then _ else _) _ _ s;rw[if_neg hno,zUW]
 first
  |exact AB (DR (wpAny_pure {_,rfl,wpAny_pure h}) ZO)
  |exact AB (DR (AB (wpAny_pure (wpAny_pure {_,rfl,wpAny_pure h}))) ZO)
  |exact AB (AB (DR (wpAny_pure (wpAny_pure {_,rfl,wpAny_pure h})) ZO))
  |exact AB (AB (DR (wpAny_pure {_,rfl,wpAny_pure h}) ZO))
end HT
variable{X:_L.Cx}{te ta tb tv:_L.TE}{xs ys:List _L.V}{σ:_L.St}{H H':_L.Hp}{o:Option _L.V}{y v:_L.V}{kvs:List (List _L.Key×_L.V)}{lE:List (_L.TE×_L.TE)}
namespace _L
open PySem PySem.Spec PyProof.Rows
abbrev TO:=St->Hp->(Option Int->Hp->Prop)->Prop
def PO(X:Cx)(e:Option D0)(t:TO):Prop :=∀(AF:List (AT×IZ)) (s:AQ) (σ:St) (H:Hp) (Q:Option Int->Hp->Prop),Inv X AF σ H s->t σ H Q ->BE (A7 X.prog X.w) X.A (evalPart e X.env) (λu s'=>∃o H',Inv X AF σ H' s'/\QP u o/\Q o H') X.xe s
def zZF:TO:=λ_ H Q=>Q AK H
def yG5(t:TE):TO:=λσ H Q=>t σ H λx H1=>∃i,x=.int i/\Q (AA i) H1
theorem nI:∀{us:List AH},Vals (ns.map V.int) us->IH us ns:=by
 induction ns with
 |nil=>intro us r;rw[NN] at r;cases r;exact .nil
 |cons n ns ih =>
  intro us r;rw[AV] at r;cases r with
  |cons r1 r2=>have{t,e}:=r1;subst e;exact .cons n t (ih r2)
section
variable{lo hi:Option D0}{tl th:TO}{p2:jS}
theorem iU:PO X AK zZF:=by intro AF s σ H Q I h;rw[aX];exact wpAny_pure {AK,H,I,.none,h}
theorem zZG(h:PE X e te):PO X (AA e) (yG5 te):=by intro AF s σ H Q I hw;rw[evalPart_some];refine G6 (h AF s σ H _ I hw) λu s1 q0=>?_;have{x,H1,I1,r1,q1}:=q0;have{i,rfl,q}:=q1;have{t,rfl}:=r1;exact{AA i,H1,I1,.int i t,q}
def SlR(X:Cx)(r:V->Option Int->Option Int->Hp->VK->Prop):Prop :=∀(AF:List (AT×IZ)) (s:AQ) (σ:St) (H:Hp) (x:V) (v vl vu:AH) (lo hi:Option Int) (sl:AT) (Q:VK),Inv X AF σ H s->RelV x v->s.heap.IsSliceOf sl vl vu .none->QP vl lo->QP vu hi->r x lo hi H Q ->∃T id,typeLookup (.type T) "__getitem__"=pure (AA (.builtin id))/\s.TypeIs v T/\BE (A7 X.prog X.w) X.A (QZ v (.ref sl)) (EP X AF σ Q) X.xe s
theorem SlR.or{r r':V->Option Int->Option Int->Hp->VK->Prop}(h:SlR X r)(h':SlR X r'):SlR X (λx lo hi H Q=>r x lo hi H Q\/r' x lo hi H Q):=by
 intro AF s σ H x v vl vu lo hi sl Q I rx hs pl pu q;rcases q with q|q
 .exact h AF s σ H x v vl vu lo hi sl Q I rx hs pl pu q
 .exact h' AF s σ H x v vl vu lo hi sl Q I rx hs pl pu q
def tSl(r:V->Option Int->Option Int->Hp->VK->Prop)(te:TE)(tl th:TO):TE:=λσ H Q=>te σ H λx H1=>tl σ H1 λl H2=>th σ H2 λu H3=>r x l u H3 Q
theorem zUX{r:V->Option Int->Option Int->Hp->VK->Prop}(hr:SlR X r)(he:PE X e te)(hl:PO X lo tl)(hu:PO X hi th):PE X (.Subscript e (.Slice lo hi AK p2) pos) (tSl r te tl th):=by intro AF s σ H Q I h;refine Subscript_ (G6 (he AF s σ H _ I h) λv s1 ⟨x,H1,I1,r1,q1⟩=>?_);refine wpAny_Slice (G6 (hl AF s1 σ H1 _ I1 q1) λvl s2 ⟨l,H2,I2,pl,q2⟩=>G6 (hu AF s2 σ H2 _ I2 q2) λvu s3 ⟨u,H3,I3,pu,q3⟩=>?_);rw[aX];refine wpAny_pure ?_;have I4:Inv X AF σ H3 { s3 with heap:=s3.heap.push { cls:=.type "slice",data:=.fields #[vl,vu,.none] } }:=I3.kept λb ob q=>AG _ q;have{T,id,hT,ht,hg}:=hr AF { s3 with heap:=s3.heap.push { cls:=.type "slice",data:=.fields #[vl,vu,.none] } } σ H3 x v vl vu l u s3.heap.objs.size Q I4 r1 (TX ..) pl pu q3;exact jM ht hT hg (by with_unfolding_all rfl)
noncomputable def bG(xs:List V)(lo hi:Option Int):List V:=(xs.drop (HT.sIx xs.length 0 lo)).take (HT.sIx xs.length xs.length hi-HT.sIx xs.length 0 lo)
theorem Wx(xs:List V)(lo hi:Option Int):(bG xs lo hi).length<=xs.length:=by unfold bG;rw[EI,M7];lia
def yJ7(K:AC):V->Option Int->Option Int->Hp->VK->Prop:=λx lo hi H Q=>∃a xs,x=.ref a/\SqT K H a xs /\ ¬(HT.sIx xs.length 0 lo=0/\HT.sIx xs.length xs.length hi=xs.length)/\∀p,H p=AK->Q (.ref p) (D4 H p (.tup (bG xs lo hi)))
theorem yDL:SlR X (yJ7 X.K):=by
 intro AF s σ H x v vl vu lo hi sl Q I rx hs pl pu h;have{a,xs,rfl,hx,hw,q}:=h;cases rx;have{CK,r,ht,hz}:=I.tuple hx;have EU:CK.toArray.size=xs.length:=by rw[AZ];exact r.length.symm
 refine{"tuple",_,EA.lookup,ht.typeIs,?_};refine HT.getItem_tuple_cut ht hs pl pu (by rw[EU];exact hw) ?_ (by rw[EU];exact hz);rw[EU];refine{.ref s.heap.objs.size,_,I.laid (λb ob q=>AG _ q) (AL _) ?_,rfl,q _ (I.hok.fresh (AL _))};exact{AW (Wx xs lo hi) hz,_,(r.drop (HT.sIx xs.length 0 lo)).take (HT.sIx xs.length xs.length hi-HT.sIx xs.length 0 lo),IsTupP.new _ _}
def Xy(K:AC):R2:=λx y H Q=>∃a b ns ms,x=.ref a/\y=.ref b/\SqT K H a (ns.map V.int)/\SqT K H b (ms.map V.int)/\Q (.bl (HT.lexLt ns ms)) H
theorem yDM(hu:X.A.units<GZ):OpR X (EV .Lt) (Xy X.K):=by intro AF s σ H x y v u Q I rx ry h;have{a,b,ns,ms,rfl,rfl,ha,hb,q}:=h;cases rx;cases ry;have{CK,r1,p1,_}:=I.tuple ha;have{MT,r2,p2,_}:=I.tuple hb;have i1:IH CK.toArray.toList ns:=nI r1;have i2:=nI r2;exact HT.lt_tupInts p1 p2 i1 i2 hu {.bl (HT.lexLt ns ms),H,I,rfl,q}
theorem Vals.nil_iff(r:Vals xs us):us=[]↔xs=[]:=by
 cases r with
 |nil=>simp
 |cons _ _=>simp
end
noncomputable def XU(n:Nat)(i:Int):Option Nat:=if 0<=i then(if i<n then AA i.toNat else AK) else if -(n:Int)<=i then AA (i+n).toNat else AK
def atI(xs:List α)(i:Int):Option α:=(XU xs.length i).bind λj=>xs[j]?
theorem Sk{i:Int}(h:XU n i=AA j):seqIndex? i n=AA j/\j<n/\-(n:Int)<=i/\i<n:=by
 unfold XU at h;by_cases h0:0<=i
 .rw[if_pos h0] at h;by_cases h1:i<n
  .rw[if_pos h1] at h;have e:=BH h;exact{by rw[WJ h0 h1,e],by lia,by lia,h1}
  .rw[if_neg h1] at h;cases h
 .rw[if_neg h0] at h;by_cases h1:-n<=i
  .rw[if_pos h1] at h;have e:=BH h;exact{by rw[seqIndex_neg 'L' h1,e],by lia,h1,by lia}
  .rw[if_neg h1] at h;cases h
theorem Fo{xs:List α}{i:Int}{v:α}(h:atI xs i=AA v):∃j,seqIndex? i xs.length=AA j/\xs[j]?=AA v/\j<xs.length/\-(xs.length:Int)<=i/\i<xs.length:=by
 unfold atI at h;cases e:XU xs.length i with
 |none=>rw[e] at h;cases h
 |some j=>rw[e] at h;have{h1,h2,h3,h4}:=Sk e;exact{j,h1,h,h2,h3,h4}
theorem Sj{xs:List α}{v:α}(h:xs[j]?=AA v):atI xs (j:Int)=AA v:=by
 have hj:=(AR.mp h).1;have e:XU xs.length j=AA j:=by unfold XU;rw[if_pos (Int.natCast_nonneg _),if_pos 'L'];simp
 unfold atI;rw[e];exact h
theorem zUY(xs:List α)(v:α):atI (xs++[v]) (-1)=AA v:=by
 have hl:(xs++[v]).length=xs.length+1:=by simp
 have e:XU (xs++[v]).length (-1)=AA xs.length:=by unfold XU;rw[hl,if_neg 'D',if_pos 'L'];congr 1;lia
 unfold atI;rw[e];simp
def Si(b:D0):Prop:=∀o i,subscripted b AD o i=operate [o,i] (QZ o i)
def IxR(X:Cx)(r:R2):Prop :=∀(JO PF:D0) (AF:List (AT×IZ)) (s:AQ) (σ:St) (H:Hp) (x y:V) (v u:AH) (Q:VK),Inv X AF σ H s->RelV x v->RelV y u->r x y H Q ->subscripted PF AD v u=operate [v,u] (QZ v u)->BE (A7 X.prog X.w) X.A (subscriptTail JO PF v u) (EP X AF σ Q) X.xe s
def Jw(X:Cx)(id:String)(r:V->List V->Hp->VK->Prop):Prop :=∀(AF:List (AT×IZ)) (s:AQ) (σ:St) (H:Hp) (x:V) (xs:List V) (v:AH) (us:List AH) (Q:VK),Inv X AF σ H s->RelV x v->Vals xs us->r x xs H Q ->BE (A7 X.prog X.w) X.A (call (.builtin id) (v::us)) (EP X AF σ Q) X.xe s
section
variable{a b:D0}
theorem IxR.or{r r':R2}(h:IxR X r)(h':IxR X r'):IxR X (λx y H Q=>r x y H Q\/r' x y H Q):=by
 intro JO PF AF s σ H x y v u Q I rx ry q hs;rcases q with q|q
 .exact h JO PF AF s σ H x y v u Q I rx ry q hs
 .exact h' JO PF AF s σ H x y v u Q I rx ry q hs
theorem Dr{r:R2}(hr:IxR X r)(ha:PE X a ta)(hb:PE X b tb)(hs:Si b):PE X (.Subscript a b pos) (k8 r ta tb):=by intro AF s σ H Q I h;exact Subscript_ (Iq ha hb I h λv u s2 x y H2 I2 rx ry q=>hr a b AF s2 σ H2 x y v u Q I2 rx ry q (hs _ _))
def Xx(K:AC):R2:=λx y H Q=>∃p xs i v,x=.ref p/\y=.int i/\SqL K H p xs/\atI xs i=AA v/\Q v H
def Xw(K:AC):R2:=λx y H Q=>∃p xs i v,x=.ref p/\y=.int i/\SqT K H p xs/\atI xs i=AA v/\Q v H
def Xv:R2:=λx y H Q=>∃z i c,x=.str z/\y=.int i/\z.length<=sizeLine/\atI z.cps.toList i=AA c/\Q (.str {#[c]}) H
theorem ZJ:IxR X (Xx X.K):=by
 intro JO PF AF s σ H x y v u Q I rx ry h hs;have{p,xs,i,z,rfl,rfl,hq,he,q}:=h;cases rx;have{t,rfl}:=ry;have{CK,r,pl,hz}:=I.list hq;have{j,h1,h2,h3,h4,h5}:=Fo he;have{w,ew,KJ}:=r.get h2;have hl:=r.length;have hn:=kO;have fin:EP X AF σ Q w s:={z,H,I,KJ,q};by_cases h0:0<=i
 .have hj:i.toNat=j:=by rw[WJ h0 h5] at h1;exact BH h1
  exact item_listR pl.isList h0 'L' (by rw[hj];simpa using ew) fin hs
 .have hj:(i+CK.toArray.size).toNat=j:=by rw[seqIndex_neg 'L' h4] at h1;rw[AZ,<-hl];exact BH h1
  exact fA pl.isList.typeIs UH.lookup
   (wpAny_getItem_list_neg pl.isList 'L' (by rw[AZ]<;>lia) 'L' (by rw[hj];simpa using ew) {rfl,fin}) hs
theorem nU:IxR X (Xw X.K):=by
 intro JO PF AF s σ H x y v u Q I rx ry h hs;have{p,xs,i,z,rfl,rfl,hq,he,q}:=h;cases rx;have{t,rfl}:=ry;have{CK,r,pl,hz}:=I.tuple hq;have{j,h1,h2,h3,h4,h5}:=Fo he;have{w,ew,KJ}:=r.get h2;have hl:=r.length;have hn:=kO;have fin:EP X AF σ Q w s:={z,H,I,KJ,q};exact fA pl.typeIs slot_tuple_getitem.lookup
  (getItem_tuple pl 'L' 'L' (by rw[AZ,<-hl];exact h1) (by simpa using ew) {rfl,fin}) hs
theorem yDN:IxR X Xv:=by
 intro JO PF AF s σ H x y v u Q I rx ry h hs;have{z,i,c,rfl,rfl,hz,he,q}:=h;have{t,rfl}:=rx;have{t',rfl}:=ry;have{j,h1,h2,h3,h4,h5}:=Fo he;have hl:z.cps.toList.length=z.length:=by simp[Str.length]
 rw[hl] at h1 h4 h5;have hn:=kO;exact jM (typeIs_str s z t) slot_str_getitem.lookup (getItem_str (by have e1:decide (i < -(2 ^ 63:Int))=AD:=decide_eq_false 'L';have e2:decide (i>=2 ^ 63)=AD:=decide_eq_false 'L';rw[e1,e2,Bool.or_false]) (by rw[h1];simpa using h2) {.str {#[c]},H,I.tok _,{_,rfl},q}) hs
def Zr(K:AC):R2:=λx y H Q=>Xx K x y H Q\/Xw K x y H Q\/Xv x y H Q
theorem nV:IxR X (Zr X.K):=ZJ.or (nU.or yDN)
theorem zQB(CK:List AH)(n j:Nat)(u:AH):DS (·.setIfInBounds j u) { cls:=.type "list",data:=.seq CK.toArray n }={ cls:=.type "list",data:=.seq (CK.set j u).toArray n }:=by simp[DS]
theorem Inv.lst{AF:List (AT×IZ)}{σ:St}{H:Hp}{s:AQ}{p:AT}{xs:List V}(I:Inv X AF σ H s)(h:H p=AA (.lst xs)) : ∃(CK:List AH) (n:Nat),Vals xs CK/\s.heap.get? p=AA { cls:=.type "list",data:=.seq CK.toArray n }/\xs.length<=sizeLine:=by have{z,CK,n,r,e}:=I.hok p _ h;exact{CK,n,r,e,z}
theorem Inv.lstUpd{p:AT}{RI:List AH}{n':Nat}{f:IZ->IZ}(I:Inv X AF σ H s)(h:H p=AA (.lst xs)) (ho:s.heap.get? p=AA { cls:=.type "list",data:=.seq CK.toArray n }) (hf:f { cls:=.type "list",data:=.seq CK.toArray n }={ cls:=.type "list",data:=.seq RI.toArray n' }) (r:Vals ys RI) (hz:ys.length<=sizeLine) (t:Nat) : Inv X AF σ (D4 H p (.lst ys)) { s with heap:=s.heap.update p f,toks:=t }:=by
 have e:(s.heap.update p f).get? p=AA { cls:=.type "list",data:=.seq RI.toArray n' }:=by rw[KI f ho (by rw[hf]<;>rfl),hf]
 refine I.write (by rw[h];trivial) (.inl rfl) (λb u hb q=>(X1 _ _ (FI hb)).trans q) {_,e} ?_;exact{hz,RI,n',r,e}
def yG6:V->V->V->Hp->(Hp->Prop)->Prop:=λo i v H Q=>∃p xs k j,o=.ref p/\i=.int k/\H p=AA (.lst xs)/\XU xs.length k=AA j/\Q (D4 H p (.lst (xs.set j v)))
theorem zUZ:Yc X yG6:=by
 intro AF s σ H o i v ov iv u Q I ro ri rv h;have{p,xs,k,j,rfl,rfl,hp,hj,q}:=h;cases ro;have{t,rfl}:=ri;have{CK,n,r,ho,hz}:=I.lst hp;have{h1,h2,h3,h4}:=Sk hj;have hl:=r.length;have hn:=kO;have I' :=
  I.lstUpd hp ho (zQB CK n j u) (r.set rv j) (by rw[BY];exact hz) s.toks
 by_cases h0:0<=k
 .have hk:k.toNat=j:=by rw[WJ h0 h4] at h1;exact BH h1
  exact PySem.W.ki_setAt ho h0 'L' (by rw[AZ,<-hl];exact h4) (by rw[hk];exact{_,I',q})
 .have hk:(k+CK.toArray.size).toNat=j:=by rw[seqIndex_neg 'L' h3] at h1;rw[AZ,<-hl];exact BH h1
  exact PySem.W.ki_setBack ho 'L' (by rw[AZ,<-hl];exact h3) 'L' (by rw[hk];exact{_,I',q})
theorem zLQ(lo hi:Option Int)(n:Nat):(HD lo hi AK n).1=((HT.sIx n 0 lo:Nat):Int)/\(HD lo hi AK n).2.1=((HT.sIx n n hi:Nat):Int)/\(HD lo hi AK n).2.2=1:=by
 refine{?_,?_,rfl}
 .cases lo with
  |none=>simp[HD,HT.sIx]
  |some i =>
   simp only[HD,HT.sIx,cG,if_true];by_cases h:i<0
   .simp only[h,if_true]<;>lia
   .simp only[h,if_false]<;>lia
 .cases hi with
  |none=>simp[HD,HT.sIx]
  |some i =>
   simp only[HD,HT.sIx,cG,if_true];by_cases h:i<0
   .simp only[h,if_true]<;>lia
   .simp only[h,if_false]<;>lia
theorem zJQ(CK:List AH)(lo hi:Option Int):b7 CK.toArray lo hi AK=((CK.drop (HT.sIx CK.length 0 lo)).take (HT.sIx CK.length CK.length hi-HT.sIx CK.length 0 lo)).toArray:=by have{h1,h2,h3}:=zLQ lo hi CK.toArray.size;unfold b7;rw[h1,h2,h3];simp only[sliceRange_one,pick_run,AZ]<;>rfl
def yJ8(K:AC):V->Option Int->Option Int->Hp->VK->Prop:=λx lo hi H Q=>∃a xs,x=.ref a/\SqL K H a xs/\∀p,H p=AK->Q (.ref p) (D4 H p (.lst (bG xs lo hi)))
theorem zZI:SlR X (yJ8 X.K):=by intro AF s σ H x v vl vu lo hi sl Q I rx hs pl pu h;have{a,xs,rfl,hx,q}:=h;cases rx;have{CK,r,ht,hz}:=I.list hx;have EU:=r.length;refine{"list",_,UH.lookup,ht.isList.typeIs,?_};refine aT ht.isList hs pl pu .none 'S' ?_ (by rw[AZ]<;>lia);rw[zJQ,<-EU];refine{.ref s.heap.objs.size,_,I.laid (λb ob q=>AG _ q) (AL _) ?_,rfl,q _ (I.hok.fresh (AL _))};exact{AW (Wx xs lo hi) hz,_,0,(r.drop (HT.sIx xs.length 0 lo)).take (HT.sIx xs.length xs.length hi-HT.sIx xs.length 0 lo),AX _ rfl}
theorem VF:CallR X (.builtin "len") (λxs H Q=>∃p ys,xs=[.ref p]/\(SqL X.K H p ys\/SqT X.K H p ys)/\Q (.int ys.length) H):=by
 intro AF s σ H xs us Q I r h;have{p,ys,rfl,hq,q}:=h;have{u,rfl,rx}:=X7 r;cases rx;have hn:=kO;rcases hq with hq|hq
 .have{CK,r',pl,hz}:=I.list hq;have EU:=r'.length;exact Calls.call_len_list pl.isList (by simp only[AZ]<;>lia) {.int ys.length,H,I.tok _,{s.toks+1,by rw[AZ,EU]},q}
 .have{CK,r',pl,hz}:=I.tuple hq;have EU:=r'.length;exact len_tuple pl (by simp only[AZ]<;>lia) {.int ys.length,H,I.tok _,{s.toks+1,by rw[AZ,EU]},q}
theorem VD:CallR X (.builtin "len") (λxs H Q=>∃z,xs=[.str z]/\z.length<=sizeLine/\Q (.int z.length) H):=by intro AF s σ H xs us Q I r h;have{z,rfl,hz,q}:=h;have{u,rfl,t,rfl}:=X7 r;have hn:=kO;exact len_str 'L' {.int z.length,H,I.tok _,{_,rfl},q}
theorem CallR.or{f:AH}{r r':List V->Hp->VK->Prop}(h:CallR X f r)(h':CallR X f r'):CallR X f (λxs H Q=>r xs H Q\/r' xs H Q):=by
 intro AF s σ H xs us Q I rs q;rcases q with q|q
 .exact h AF s σ H xs us Q I rs q
 .exact h' AF s σ H xs us Q I rs q
theorem VC:CallR X (.type "list") (λxs H Q=>∃p ys,xs=[.ref p]/\(SqL X.K H p ys\/SqT X.K H p ys)/\∀l,H l=AK->Q (.ref l) (D4 H l (.lst ys))):=by
 intro AF s σ H xs us Q I r h;have{p,ys,rfl,hq,q}:=h;have{u,rfl,rx}:=X7 r;cases rx;have fin:∀CK,Vals ys CK->ys.length<=sizeLine->∀h' c',(∀b o',s.heap.get? b=AA o'->h'.get? b=AA o') ->
   h'.get? s.heap.objs.size=AA { cls:=.type "list",dict:=AK,data:=.seq CK.toArray c',slots:=#[] }->EP X AF σ Q (.ref s.heap.objs.size) { s with heap:=h' }:=λCK r' hz h' c' kp e =>
  {.ref s.heap.objs.size,_,I.laid kp (AL _) (show ObjOk X.prog X.w _ h' _ (.lst ys) from{hz,CK,c',r',e}),rfl,q _ (I.hok.fresh (AL _))}
 rcases hq with hq|hq
 .have{CK,r',pl,hz}:=I.list hq;have EU:=r'.length;have{o,ho,hc,n,hd}:=pl.isList;exact call_list_seq p (.inl rfl) ho hc hd (λh' c' kp e=>fin CK r' hz h' c' kp e) (by simp only[AZ]<;>lia)
 .have{CK,r',pl,hz}:=I.tuple hq;have EU:=r'.length;have{o,ho,hc,n,hd}:=pl;exact call_list_seq p (.inr rfl) ho hc hd (λh' c' kp e=>fin CK r' hz h' c' kp e) (by simp only[AZ]<;>lia)
theorem zJR:CallR X (.type "tuple") (λxs H Q=>∃p ys,xs=[.ref p]/\((SqL X.K H p ys/\∀l,H l=AK->Q (.ref l) (D4 H l (.tup ys)))\/(SqT X.K H p ys/\Q (.ref p) H))):=by
 intro AF s σ H xs us Q I r h;have{p,ys,rfl,h}:=h;have{u,rfl,rx}:=X7 r;cases rx;rcases h with⟨hq,q⟩|⟨hq,q⟩
 .have{CK,r',pl,hz}:=I.list hq;have EU:=r'.length;refine call_tuple_list pl.isList (λh' kp=>?_) (by simp only[AZ]<;>lia);have I1:=I.kept (t':=s.toks) kp;have I2 :=
   I1.laid (t':=s.toks) (λb o e=>AG _ e) (AL _) (show ObjOk X.prog X.w _ _ _ (.tup ys) from{hz,CK,r',IsTupP.new _ _})
  exact{.ref h'.objs.size,_,I2,rfl,q _ (I1.hok.fresh (AL _))}
 .have{CK,r',pl,hz}:=I.tuple hq;exact call_tuple_same pl {.ref p,H,I,rfl,q}
def Bx(K:AC)(T:String)(x:V)(H:Hp):Prop:=match x with
 |.str _=>T="str"
 |.int _=>T="int"
 |.ref p=>(T="list"/\∃xs,SqL K H p xs)\/(T="tuple"/\∃o,K.lookup p=AA o/\o.cls=.type "tuple"/\o.dict=AK) \/
   (T="dict"/\((∃kvs,H p=AA (.dK kvs))\/∃kvs,H p=AA (.dT kvs)))\/(T="set"/\∃S n,H p=AA (.set S n))
 |_=>False
theorem Ql{x:V}{v:AH}(I:Inv X AF σ H s)(r:RelV x v)(ty:Bx X.K T x H) : s.TypeIs v T/\∀a,v=.ref a->∃ob,s.heap.get? a=AA ob/\ob.dict=AK:=by
 cases x with
 |str z=>have{t,rfl}:=r;cases(ty);exact{typeIs_str s z t,λ_ e=>nomatch e}
 |int i=>have{t,rfl}:=r;cases(ty);exact{typeIs_int s i t,λ_ e=>nomatch e}
 |ref p =>
  cases r;rcases ty with⟨rfl,xs,hq⟩|⟨rfl,o,hk,hc,hd⟩|⟨rfl,hk⟩|⟨rfl,S,n,hk⟩
  .have{CK,_,pl,_}:=I.list hq;refine{pl.isList.typeIs,λa e=>?_};cases e;have{o,n,e,c,hd,_}:=pl;exact{o,e,hd}
  .refine{{o,I.kIn p o hk,hc},λa e=>?_};cases e;exact{o,I.kIn _ o hk,hd}
  .have z:∃o,s.heap.get? p=AA o/\o.ExactDict:=by
    rcases hk with⟨kvs,hk⟩|⟨kvs,hk⟩
    .have{_,_,_,_,o,_,_,e,ex,_}:=I.hok p _ hk;exact{o,e,ex}
    .have{_,_,_,_,o,_,_,e,ex,_}:=I.hok p _ hk;exact{o,e,ex}
   have{o,e,ex}:=z;refine{{o,e,ex.1},λa e2=>?_};cases e2;exact{o,e,ex.2.1}
  .have{o,_,_,_,e,ex,_}:=I.hok p _ hk;refine{{o,e,ex.1},λa e2=>?_};cases e2;exact{o,e,ex.2.1}
 |_=>exact HP ty
def yJ9(K:AC)(T:String)(r:V->List V->Hp->VK->Prop)(to:TE):TE:=λσ H Q=>to σ H λx H1=>Bx K T x H1/\r x [] H1 Q
def Zq(K:AC)(T:String)(r:V->List V->Hp->VK->Prop)(to:TE)(t:TA):TE:=λσ H Q=>to σ H λx H1=>Bx K T x H1/\t σ H1 λxs H2=>r x xs H2 Q
variable{o:D0}{to:TE}{t:TA}{GA:jS}{id:String}{r:V->List V->Hp->VK->Prop}
theorem yDO(pa:PlainAttrs T)(slot:Slot T name id)(Ml:typeOf (.builtin id)=pure (.type "method_descriptor"))(hm:Jw X id r)(ho:PE X o to) (NW:J0 o name X.env (eval o X.env)=eval o X.env:=by rfl) (NU:(LW.endLine==GA.line)=AN:=by rfl):PE X (.Call (.Attribute o name LW) [] [] GA) (yJ9 X.K T r to):=by intro AF s σ H Q I h;refine wpAny_Call_method0_late NW NU (G6 (ho AF s σ H _ I h) λv s1 ⟨x,H1,I1,r1,ty,q1⟩=>?_);have{h1,h2}:=Ql I1 r1 ty;exact{T,id,pa,slot,Ml,h1,h2,NF rfl (PySem.evalArgs_none (hm AF s1 σ H1 x [] v [] Q I1 r1 .nil q1))}
theorem sU(pa:PlainAttrs T)(slot:Slot T name id)(Ml:typeOf (.builtin id)=pure (.type "method_descriptor"))(hm:Jw X id r)(ho:PE X o to)(ha:PA X (e::es) t) (NW:J0 o name X.env (eval o X.env)=eval o X.env:=by rfl) (YI:((DC GA (AM (e::es) X.env)).all (λx=>!x.1)&&(YY GA (QN [] X.env)).all (λx=>x.1.isSome) && decide ((e::es).length+([]:List MH).length+(if([]:List MH).isEmpty then 0 else 1)<30))=AN:=by rfl) (NU:(LW.endLine==GA.line)=AN:=by rfl) (hs:AM (e::es) X.env=(AD,eval e X.env)::AM es X.env:=by rfl) (OU:(DC GA (AM es X.env)).any (·.1)=AD:=by rfl) : PE X (.Call (.Attribute o name LW) (e::es) [] GA) (Zq X.K T r to t):=by intro AF s σ H Q I h;refine wpAny_Call_method_late NW YI NU rfl (G6 (ho AF s σ H _ I h) λv s1 ⟨x,H1,I1,r1,ty,q1⟩=>?_);have{h1,h2}:=Ql I1 r1 ty;refine{T,id,pa,slot,Ml,h1,h2,?_};have hA:=ha GA AF s1 σ H1 _ I1 q1;rw[hs] at hA ⊢;refine NF (by show(AD||(DC GA (AM es X.env)).any (·.1))=AD;rw[OU]<;>rfl) (OJ ?_);exact G6 hA (λus s2 q0=>by have{vs,H2,I2,r2,q2}:=q0;exact hm AF s2 σ H2 x vs v us Q I2 r1 r2 q2)
/- xs.append(e),list.index on a module's tuple .. are Jw facts of 06m -/
end
def uZ(X:Cx)(id:String)(r:V->List V->Hp->VK->Prop):Prop :=∀(AF:List (AT×IZ)) (s:AQ) (σ:St) (H:Hp) (x:V) (xs:List V) (v:AH) (us:List AH) (Q:VK),Inv X AF σ H s->RelV x v->Vals xs us->r x xs H Q ->BE (A7 X.prog X.w) X.A (call (.builtin id) (v::us)) (EP X AF σ Q) X.xe s
theorem Vals.one:∀{x:V} {us:List AH},Vals [x] us->∃u,us=[u]/\RelV x u
 |_,_,.cons r .nil=>{_,rfl,r}
theorem Vals.zero:∀{us:List AH},Vals [] us->us=[]
 |_,.nil=>rfl
theorem Vals.dropLast{xs:List V}{us:List AH}(h:Vals xs us):Vals xs.dropLast us.dropLast:=by
 induction h with
 |nil=>exact .nil
 |cons r t ih =>
  cases t with
  |nil=>exact .nil
  |cons q t'=>exact .cons r ih
theorem Vals.eraseIdx:∀{xs:List V} {us:List AH} (i:Nat),Vals xs us->Vals (xs.eraseIdx i) (us.eraseIdx i)
 |_,_,_,.nil=>.nil
 |_,_,0,.cons _ t=>t
 |_,_,i+1,.cons r t=>.cons r (Vals.eraseIdx i t)
theorem Vals.reverse{xs:List V}{us:List AH}(h:Vals xs us):Vals xs.reverse us.reverse:=by
 induction h with
 |nil=>exact .nil
 |cons r t ih=>rw[J4,J4];exact Vals.append ih (.cons r .nil)
theorem Vals.rep{xs:List V}{us:List AH}(h:Vals xs us):∀k:Nat,Vals (BI k xs).flatten (BI k us).flatten
 |0=>.nil
 |k+1=>by rw[EL,EL,G5,G5];exact Vals.append h (Vals.rep h k)
theorem zQC(l:List α):l.eraseIdx (l.length-1)=l.dropLast:=by
 induction l with
 |nil=>rfl
 |cons a r ih =>
  cases r with
  |nil=>rfl
  |cons b r =>
   have e:(a::b::r).length-1=((b::r).length-1)+1:=by have h1:(a::b::r).length=r.length+2:=rfl;have h2:(b::r).length=r.length+1:=rfl;lia
   rw[e,XI,ih];all_goals rfl
theorem Ve{α:Type}:∀(l:List α) (i:Nat),(l.eraseIdx i).length<=l.length
 |[],_=>AL _
 |_::_,0=>HQ _
 |_::r,i+1=>Nat.succ_le_succ (Ve r i)
theorem Vd(CK:List AH):∀(k:Nat) (acc:List AH),List.foldl (λx1 x2=>x1++x2) acc.toArray (BI k CK.toArray)=(acc++(BI k CK).flatten).toArray
 |0,acc=>by simp
 |k+1,acc=>by
  have e:acc.toArray++CK.toArray=(acc++CK).toArray:=by simp
  have e2:(acc++CK)++(BI k CK).flatten=acc++(BI (k+1) CK).flatten:=by rw[EL,G5,CP]
  rw[<-e2,<-Vd CK k (acc++CK),<-e,EL,KW]
section
variable{l:AT}{zs:List V}
theorem Inv.lset{RI:List AH}{f:Array AH->Array AH}(I:Inv X AF σ H s)(hH:H l=AA (.lst xs)) (e:s.heap.get? l=AA { cls:=.type "list",data:=.seq CK.toArray n }) (hf:f CK.toArray=RI.toArray) (hv:Vals ys RI) (hz:ys.length<=sizeLine) : Inv X AF σ (D4 H l (.lst ys)) { s with heap:=s.heap.update l (DS f),toks:=t' }:=by have q:=PySem.IsL.update e f;rw[hf] at q;refine I.write (by rw[hH];exact trivial) (.inl rfl) (λb' u hb hu=>(X1 s.heap (DS f) (FI hb)).trans hu) {_,q} ?_;exact{hz,RI,_,hv,q}
theorem Inv.lnew(I:Inv X AF σ H s)(hv:Vals ys CK)(hz:ys.length<=sizeLine) : Inv X AF σ (D4 H s.heap.objs.size (.lst ys)) { s with heap:=s.heap.push { cls:=.type "list",data:=.seq CK.toArray },toks:=t' } :=I.laid (λ_ _ q=>AG _ q) (AL _) {hz,CK,0,hv,AX _ rfl}
theorem Inv.fresh(I:Inv X AF σ H s):H s.heap.objs.size=AK:=I.hok.fresh (AL _)
theorem Inv.lstM(I:Inv X AF σ H s)(hH:H l=AA (.lst xs)):xs.length<=sizeLine/\∃(CK:List AH) (n:Nat),Vals xs CK/\xs.length=CK.length/\s.heap.get? l=AA { cls:=.type "list",data:=.seq CK.toArray n }:=by have{z,CK,n,r,e}:=I.hok l _ hH;exact{z,CK,n,r,r.length,e}
theorem Gn(h:n<=sizeLine):FJ n=AD:=by unfold FJ;exact decide_eq_false (jT h)
end
def Fm:V->List V->Hp->VK->Prop:=λx vs H Q=>∃l xs y,x=.ref l/\vs=[y]/\H l=AA (.lst xs)/\xs.length<sizeLine/\Q .non (D4 H l (.lst (xs++[y])))
theorem Aq:uZ X "list.append" Fm:=by intro AF s σ H x vs v us Q I rx rv h;have{l,xs,y,rfl,rfl,hH,hz,q}:=h;cases rx;have{u,rfl,ru}:=rv.one;have{z,CK,n,r,hl,e}:=I.lstM hH;refine MZ F.slot_list_append {_,e,rfl} F.entry_list_append (F.args_list_append_2 _ _) (PySem.list_append l CK.toArray n u (by rw[AZ];lia)) {e,?_};refine{.non,_,I.lset hH e 'S' (r.append (.cons ru .nil)) ?_,rfl,q};rw[BC,EQ];exact MM hz
def zZJ:V->List V->Hp->VK->Prop:=λx vs H Q=>∃l b xs zs,x=.ref l/\vs=[.ref b]/\H l=AA (.lst xs)/\H b=AA (.lst zs)/\xs.length+zs.length<=sizeLine/\Q .non (D4 H l (.lst (xs++zs)))
theorem yDP:uZ X "list.extend" zZJ:=by
 intro AF s σ H x vs v us Q I rx rv h;have{l,b,xs,zs,rfl,rfl,hH,hB,hz,q}:=h;cases rx;have{u,rfl,ru}:=rv.one;cases ru;have{z,CK,n,r,hl,e}:=I.lstM hH;have{z2,MT,n2,r2,aN,e2}:=I.lstM hB;have NK:CK.toArray.size+MT.toArray.size<=sizeLine:=by rw[AZ,AZ];lia
 have W9:¬(!CK.toArray.isEmpty&&FJ (CK.toArray.size+MT.toArray.size))=AN:=by rw[Gn NK,U0];exact CH
 refine MZ F.slot_list_extend {_,e,rfl} F.entry_list_extend (F.args_list_extend_2 _ _)
  (AutoSeq1.list_extend_list_list_0 l CK.toArray n b MT.toArray n2 W9 (by rw[AZ];lia) (AW NK (A3 _ _))) {e,e2,?_}
 refine{.non,_,I.lset hH e 'S' (r.append r2) ?_,rfl,q};rw[BC];exact hz
def Xu:V->List V->Hp->VK->Prop:=λx vs H Q=>∃l xs y,x=.ref l/\vs=[]/\H l=AA (.lst xs)/\xs[xs.length-1]?=AA y/\Q y (D4 H l (.lst xs.dropLast))
theorem yDQ:uZ X "list.pop" Xu:=by
 intro AF s σ H x vs v us Q I rx rv h;have{l,xs,y,rfl,rfl,hH,hy,q}:=h;cases rx;have hus:=rv.zero;subst hus;have{z,CK,n,r,hl,e}:=I.lstM hH;have{u,hu,ru}:=r.get hy;have hy':CK.toArray[CK.toArray.size-1]?=AA u:=by show CK.toArray[CK.length-1]?=AA u;rw[<-C2,<-hl];exact hu
 refine MZ F.slot_list_pop {_,e,rfl} F.entry_list_pop (F.args_list_pop_1 _) (MeetsSeq.list_pop_last l CK.toArray n u hy' (by rw[AZ];lia)) {e,?_};refine{y,_,I.lset hH e ?_ r.dropLast ?_,ru,q}
 .rw[AZ,RW,zQC]
 .rw[List.length_dropLast];exact AW (C6 _ _) z
def Qy:V->List V->Hp->VK->Prop:=λx vs H Q=>∃l xs i k y,x=.ref l/\vs=[.int i]/\H l=AA (.lst xs)/\-(2 ^ 63)<=i/\i<2 ^ 63/\seqIndex? i xs.length=AA k/\xs[k]?=AA y/\Q y (D4 H l (.lst (xs.eraseIdx k)))
theorem zU0:uZ X "list.pop" Qy:=by
 intro AF s σ H x vs v us Q I rx rv h;have{l,xs,i,k,y,rfl,rfl,hH,h1,h2,hk,hy,q}:=h;cases rx;have{u,rfl,ru}:=rv.one;have{t,rfl}:=ru;have{z,CK,n,r,hl,e}:=I.lstM hH;have{w,hw,KJ}:=r.get hy;refine MZ F.slot_list_pop {_,e,rfl} F.entry_list_pop (F.args_list_pop_2 _ _)
  (MeetsSeq.list_pop_at l CK.toArray n i t k w (fitsIndex_both h1 h2) (by rw[AZ,<-hl];exact hk) (by rw[<-C2];exact hw) (by rw[AZ];lia)) {e,?_}
 refine{y,_,I.lset hH e ?_ (r.eraseIdx k) ?_,KJ,q}
 .rw[RW]
 .have:=Ve xs k;exact AW this z
def Iu:R2:=λx y H Q=>∃l b xs zs,x=.ref l/\y=.ref b/\H l=AA (.lst xs)/\H b=AA (.lst zs)/\xs.length+zs.length<=sizeLine/\∀p,H p=AK->Q (.ref p) (D4 H p (.lst (xs++zs)))
theorem Qx:OpR X (HE .Add) Iu:=by
 intro AF s σ H x y v u Q I rx ry h;have{l,b,xs,zs,rfl,rfl,hH,hB,hz,q}:=h;cases rx;cases ry;have{z,CK,n,r,hl,e}:=I.lstM hH;have{z2,MT,n2,r2,aN,e2}:=I.lstM hB;refine PySem.P.add_list e e2 ?_ (by rw[AZ,AZ];lia);have ea:CK.toArray++MT.toArray=(CK++MT).toArray:=by simp
 rw[ea];exact{.ref _,_,I.lnew (r.append r2) (by rw[BC];lia),rfl,q _ I.fresh}
def yKA:R2:=λx y H Q=>∃l k xs,x=.ref l/\y=.int k/\H l=AA (.lst xs)/\-(2 ^ 63)<=k/\k<2 ^ 63/\xs.length * k.toNat<=sizeLine /\ ∀p,H p=AK->Q (.ref p) (D4 H p (.lst (BI k.toNat xs).flatten))
theorem zZK(xs:List α)(k:Nat):(BI k xs).flatten.length=k * xs.length:=by
 induction k with
 |zero=>simp
 |succ k ih=>rw[EL,G5,BC,ih,Nat.succ_mul,N4]
theorem yDR:OpR X (HE .Mult) yKA:=by
 intro AF s σ H x y v u Q I rx ry h;have{l,k,xs,rfl,rfl,hH,h1,h2,hz,q}:=h;cases rx;have{t,rfl}:=ry;have{z,CK,n,r,hl,e}:=I.lstM hH;have EU:CK.toArray.size * k.toNat<=sizeLine:=by rw[AZ,<-hl];exact hz
 have pA:¬CK.toArray.size * k.toNat>(2 ^ 63-1) / 8:=by
  have:sizeLine<=(2 ^ 63-1) / 8:=by decide
  exact jT (AW EU this)
 have Nr:¬(!Builtin.List.listFitsIndex k)=AN:=by rw[fitsIndex_both h1 h2];exact CH
 have W9:¬FJ (CK.toArray.size * k.toNat)=AN:=by rw[Gn EU];exact CH
 have oW:List.foldl (λx1 x2=>x1++x2) #[] (BI (if CK.toArray.isEmpty=AN then 0 else k.toNat) CK.toArray)=(BI k.toNat CK).flatten.toArray:=by
  have f0:=λm=>by have:=Vd CK m [];rw[G0] at this;exact this
  rw[f0];cases CK with
  |nil=>simp
  |cons a r'=>rw[if_neg 'S']
 refine wpAny_binaryOp_repeat_ref 'D' {_,e,rfl} (λs'=>typeIs_int s' k t) noFill_list_mul F.fills_int_mul F.slot_int_rmul repeat_list F.slot_int_index.lookup
  (MZ F.slot_int_rmul (typeIs_int s k t) F.entry_int_rmul (F.args_int_rmul_2 _ _) (int___rmul___int_list k t l CK.toArray n)
   {e,rfl,{_,e,rfl},MZ F.slot_list_mul {_,e,rfl} F.entry_list_mul (F.args_list_mul_2 _ _) (AutoListH.list___mul___list_int_3 l CK.toArray n k t Nr pA W9) {e,?_}})
 rw[oW];exact{.ref _,_,I.lnew (r.rep k.toNat) (by rw[zZK,Nat.mul_comm];exact hz),rfl,q _ I.fresh}
section
variable[DecidableEq κ]
noncomputable def QS(kvs:List (κ×V))(k:κ):Option V:=(kvs.find? λkv=>decide (kv.1=k)).map (·.2)
noncomputable def RB(kvs:List (κ×V))(k:κ)(v:V):List (κ×V) :=if(kvs.any λkv=>decide (kv.1=k))=AN then kvs.map (λkv=>if kv.1=k then(kv.1,v) else kv) else kvs++[(k,v)]
theorem Gm{p:κ×V}{r:List (κ×V)}{k:κ}(e:p.1=k):QS (p::r) k=AA p.2:=by simp[QS,e]
theorem Gk{p:κ×V}{r:List (κ×V)}{k:κ}(e:¬p.1=k):QS (p::r) k=QS r k:=by simp[QS,e]
theorem Tu(k:κ):∀kvs:List (κ×V),(kvs.any λkv=>decide (kv.1=k))=(QS kvs k).isSome
 |[]=>rfl
 |p::r=>by
  rw[FT];by_cases e:p.1=k
  .simp only[Gm e,decide_eq_true e,Bool.true_or,Option.isSome_some]
  .rw[Gk e,decide_eq_false e,Bool.false_or];exact Tu k r
theorem Ba(kvs:List (κ×V))(k:κ)(v:V):(RB kvs k v).length<=kvs.length+1:=by
 unfold RB;split
 .rw[AJ];lia
 .rw[BC,BA,JG];lia
theorem RelO.isSome_eq{u:Option AH}(r:RelO o u):o.isSome=u.isSome:=by
 cases o with
 |none=>cases u with
  |none=>rfl
  |some _=>exact(r).elim
 |some _=>cases u with
  |none=>exact(r).elim
  |some _=>rfl
theorem RelO.getD{o:Option V}{u:Option AH}{d:V}{d':AH}(r:RelO o u)(rd:RelV d d'):RelV (o.getD d) (u.getD d'):=by
 cases o with
 |none=>cases u with
  |none=>exact rd
  |some _=>exact(r).elim
 |some _=>cases u with
  |none=>exact(r).elim
  |some _=>exact r
theorem KV.val{kvs:List (κ×V)}{vs:List (κ×AH)}(r:KV kvs vs)(k:κ):RelO (QS kvs k) (X0 vs k):=by
 unfold KV at r;induction r with
 |nil=>exact G8
 |@cons p q ps qs h t ih =>
  have{h1,h2}:=h;by_cases e:p.1=k
  .have e':=h1.symm.trans e;have b:X0 (q::qs) k=AA q.2:=by simp[X0,e']
   rw[Gm e,b];exact h2
  .have e':¬q.1=k:=λz=>e (h1.trans z);have b:X0 (q::qs) k=X0 qs k:=by simp[X0,e']
   rw[Gk e,b];exact ih
theorem KV.any{kvs:List (κ×V)}{vs:List (κ×AH)}(r:KV kvs vs)(k:κ):(kvs.any λkv=>decide (kv.1=k))=vs.any λkv=>decide (kv.1=k):=by
 unfold KV at r;induction r with
 |nil=>rfl
 |cons h t ih=>rw[FT,FT,ih,h.1]
theorem KV.repl{kvs:List (κ×V)}{vs:List (κ×AH)}(r:KV kvs vs)(k:κ)(ry:RelV y u) : KV (kvs.map λkv=>if kv.1=k then(kv.1,y) else kv) (vs.map λkv=>if kv.1=k then(kv.1,u) else kv):=by
 unfold KV at r ⊢;induction r with
 |nil=>exact .nil
 |@cons p q ps qs h t ih =>
  rw[AV,AV];refine .cons ?_ ih;have{h1,h2}:=h;by_cases e:p.1=k
  .rw[if_pos e,if_pos (h1.symm.trans e)];exact{h1,ry}
  .rw[if_neg e,if_neg (λz=>e (h1.trans z))];exact{h1,h2}
theorem KV.put{kvs:List (κ×V)}{vs:List (κ×AH)}(r:KV kvs vs)(k:κ)(ry:RelV y u):KV (RB kvs k y) (stored vs k u):=by
 unfold RB stored;rw[r.any k];by_cases e:(vs.any λkv=>decide (kv.1=k))=AN
 .rw[if_pos e,if_pos e];exact r.repl k ry
 .rw[if_neg e,if_neg e];exact Paired.snoc r {rfl,ry}
theorem KV.keys{kvs:List (κ×V)}{vs:List (κ×AH)}(r:KV kvs vs):kvs.map (·.1)=vs.map (·.1):=by
 unfold KV at r;induction r with
 |nil=>rfl
 |cons h t ih=>rw[AV,AV,ih,h.1]
theorem KV.length{kvs:List (κ×V)}{vs:List (κ×AH)}(r:KV kvs vs):kvs.length=vs.length:=Paired.length r
end
theorem kI{k:Key}(r:RelV (kV k) u):(U5 P w).is k u=AN:=by
 cases k with
 |inl i=>have{t,e}:=(r);subst e;exact zNO P w i t
 |inr x=>have{t,e}:=(r);subst e;exact zNP P w x t
theorem Vc{P:BZ}{w:C8}:∀{ks:List Key} {us:List AH},Vals (ks.map kV) us->ItemsAre (U5 P w) ks us
 |[],_,r=>by rw[NN] at r;cases r;exact .nil
 |k::ks,_,r=>by
  rw[AV] at r;cases r with
  |cons h t=>exact .cons (kI h) (Vc t)
abbrev KT(H:Hp):List (List Key×V)->List (List Key×AT×AH)->Prop:=Paired λp q=>p.1=q.1/\H q.2.1=AA (.tup (p.1.map kV))/\RelV p.2 q.2.2
theorem KT.val{xs:List (List Key×AT×AH)}(r:KT H kvs xs)(k:List Key):RelO (QS kvs k) ((cB xs k).map (·.2)):=by
 induction r with
 |nil=>exact G8
 |@cons p q ps qs h t ih =>
  have{h1,_,h2}:=h;by_cases e:p.1=k
  .have e':=h1.symm.trans e;have b:cB (q::qs) k=AA q.2:=by simp[cB,e']
   rw[Gm e,b];exact h2
  .have e':¬q.1=k:=λz=>e (h1.trans z);have b:cB (q::qs) k=cB qs k:=by simp[cB,e']
   rw[Gk e,b];exact ih
theorem KT.repl{xs:List (List Key×AT×AH)}(r:KT H kvs xs)(k:List Key)(ry:RelV y u) : KT H (kvs.map λkv=>if kv.1=k then(kv.1,y) else kv) (xs.map (putAt k u)):=by
 induction r with
 |nil=>exact .nil
 |@cons p q ps qs h t ih =>
  rw[AV,AV];refine .cons ?_ ih;have{h1,h2,h3}:=h;unfold putAt;by_cases e:p.1=k
  .rw[if_pos e,if_pos (h1.symm.trans e)];exact{h1,h2,ry}
  .rw[if_neg e,if_neg (λz=>e (h1.trans z))];exact{h1,h2,h3}
theorem KT.put{xs:List (List Key×AT×AH)}(r:KT H kvs xs)(k:List Key)(hb:H b=AA (.tup (k.map kV)))(ry:RelV y u) : KT H (RB kvs k y) (storedH xs k b u):=by
 have e:(kvs.any λkv=>decide (kv.1=k))=(cB xs k).isSome:=by rw[Tu,(r.val k).isSome_eq,PZ]
 unfold RB storedH;rw[e];by_cases q:(cB xs k).isSome=AN
 .rw[if_pos q,if_pos q];exact r.repl k ry
 .rw[if_neg q,if_neg q];exact Paired.snoc r {rfl,hb,ry}
theorem KT.keeps{xs:List (List Key×AT×AH)}(r:KT H kvs xs)(ht:∀b ys,H b=AA (.tup ys)->H' b=AA (.tup ys)):KT H' kvs xs :=pA0 r λ_ _ z=>{z.1,ht _ _ z.2.1,z.2.2}
theorem Zg{u:HO}(ok:HOk P w H h)(e:Rd H a u):ObjOk P w H h a u:=e.ok ok
theorem iM{kvs:List (Key×V)}(ok:HOk P w H h)(e:Rd H a (.dK kvs)):kvs.length<=sizeLine/\(a==HL)=AD/\∃vs,KV kvs vs/\h.DictOf (U5 P w) a vs :=Zg ok e
theorem Dq{kvs:List (Key×V)}(ok:HOk P w H h)(e:H a=AA (.dK kvs)):kvs.length<=sizeLine/\(a==HL)=AD/\∃vs,KV kvs vs/\h.DictOf (U5 P w) a vs:=iM ok (.inl e)
theorem p8{ks:List Key}(ok:HOk P w H h)(e:H a=AA (.tup (ks.map kV))):(OF (U5 P w)).is h ks a:=by have{_,CK,r,o,h1,h2,_,n,h3}:=(ok a _ e);exact{o,CK.toArray,n,h1,h2,h3,by simpa using Vc r}
theorem mP(ok:HOk P w H h)(e:Rd H a (.dT kvs)):kvs.length<=sizeLine/\(a==HL)=AD /\ ∃xs,KT H kvs xs/\h.DictOfH (OF (U5 P w)) a xs:=by
 have{z,y,xs,r,o,es,ep,h1,h2,h3,h4,h5}:=(Zg ok e);refine{z,y,xs,r,o,es,ep,h1,h2,h3,h4,λx hx=>?_,h5};have all:∀{l:List (List Key×V)} {m:List (List Key×AT×AH)},KT H l m->∀x∈m,(OF (U5 P w)).is h x.1 x.2.1:=by
  intro l m q;induction q with
  |nil=>intro x hx;exact nomatch hx
  |@cons p q ps qs hq t ih =>
   intro x hx;rcases A8.mp hx with e|hx
   .subst e;exact p8 ok (by rw[<-hq.1];exact hq.2.1)
   .exact ih x hx
 exact all r x hx
theorem yG8(ok:HOk P w H h)(e:H a=AA (.dT kvs)):kvs.length<=sizeLine/\(a==HL)=AD /\ ∃xs,KT H kvs xs/\h.DictOfH (OF (U5 P w)) a xs:=mP ok (.inl e)
def iH(H:Hp)(a:AT)(y:V)(r:Option V):Prop :=(∃kvs k,Rd H a (.dK kvs)/\y=kV k/\r=QS kvs k)\/∃kvs k b,Rd H a (.dT kvs)/\y=.ref b/\H b=AA (.tup (k.map kV))/\r=QS kvs k
def DPut(H:Hp)(a:AT)(y v:V)(H':Hp):Prop :=(∃kvs k,H a=AA (.dK kvs)/\y=kV k/\kvs.length<sizeLine/\H'=D4 H a (.dK (RB kvs k v))) \/ ∃kvs k b,H a=AA (.dT kvs)/\y=.ref b/\H b=AA (.tup (k.map kV))/\kvs.length<sizeLine/\H'=D4 H a (.dT (RB kvs k v))
theorem DPut.kk{kvs:List (Key×V)}{k:Key}(e:H a=AA (.dK kvs))(hl:kvs.length<sizeLine):DPut H a (kV k) v (D4 H a (.dK (RB kvs k v))):=.inl {kvs,k,e,rfl,hl,rfl}
theorem DPut.t{k:List Key}(e:H a=AA (.dT kvs))(eb:H b=AA (.tup (k.map kV)))(hl:kvs.length<sizeLine) : DPut H a (.ref b) v (D4 H a (.dT (RB kvs k v))):=.inr {kvs,k,b,e,rfl,eb,hl,rfl}
section
variable{r:AH}
theorem Inv.big(I:Inv X AF σ H s):HL<s.heap.objs.size:=by have h:=(I.mod.glob.keeps I.bk).lt;exact C0 'D' h
theorem zRQ(hu:A.units+1<GZ)(I:Inv X AF σ H s)(g:iH H a y (AA v))(ry:RelV y u)(h:∀w' s',Inv X AF σ H s'->RelV v w'->Q w' s') : BE (A7 X.prog X.w) A (QZ (.ref a) u) Q E s:=by
 rcases g with⟨kvs,k,e,ey,l⟩|⟨kvs,k,b,e,ey,eb,l⟩
 .subst ey;have{z,hd,vs,NJ,dd}:=iM I.hok e;have{w',hw,KJ}:=RelO.some_of (by rw[l];exact NJ.val k);exact wpAny_getItem_of (kI ry) dd.mapOf hw (h w' _ (I.tok _) KJ)
 .subst ey;cases(ry);have{z,hd,xs,NJ,dd}:=mP I.hok e;have{w',hw,KJ}:=RelO.some_of (by rw[l];exact NJ.val k);have{p,hp,YH}:=BN.mp hw;refine wpAny_getItem_heap (J7 hu) (p8 I.hok eb) dd hp ?_;rw[YH];exact h w' _ (I.tok _) KJ
theorem yKB(hu:A.units+1<GZ)(I:Inv X AF σ H s)(g:iH H a y o)(ry:RelV y u)(h:∀s',Inv X AF σ H s'->Q (.bool o.isSome) s') : BE (A7 X.prog X.w) A (EV .In u (.ref a)) Q E s:=by
 rcases g with⟨kvs,k,e,ey,l⟩|⟨kvs,k,b,e,ey,eb,l⟩
 .subst ey;have{z,hd,vs,NJ,dd}:=iM I.hok e;refine wpAny_in_of (kI ry) hd dd.mapOf ?_;rw[<-(NJ.val k).isSome_eq,<-l];exact h _ (I.tok _)
 .subst ey;cases(ry);have{z,hd,xs,NJ,dd}:=mP I.hok e;refine wpAny_in_heap (J7 hu) (p8 I.hok eb) hd dd ?_;have q:=(NJ.val k).isSome_eq;rw[PZ] at q;rw[<-q,<-l];exact h _ (I.tok _)
theorem zZM(hu:A.units+1<GZ)(I:Inv X AF σ H s)(g:iH H a y o)(ry:RelV y u)(h:∀s',Inv X AF σ H s'->Q (.bool (!o.isSome)) s') : BE (A7 X.prog X.w) A (EV .NotIn u (.ref a)) Q E s:=by
 rcases g with⟨kvs,k,e,ey,l⟩|⟨kvs,k,b,e,ey,eb,l⟩
 .subst ey;have{z,hd,vs,NJ,dd}:=iM I.hok e;refine wpAny_notIn_of (kI ry) hd dd.mapOf ?_;rw[<-(NJ.val k).isSome_eq,<-l];exact h _ (I.tok _)
 .subst ey;cases(ry);have{z,hd,xs,NJ,dd}:=mP I.hok e;refine wpAny_notIn_heap (J7 hu) (p8 I.hok eb) hd dd ?_;have q:=(NJ.val k).isSome_eq;rw[PZ] at q;rw[<-q,<-l];exact h _ (I.tok _)
theorem z8{ob:HO}(I:Inv X AF σ H s)(mu:uY (H a))(hs:DK a s.heap h')(he:∃q,h'.get? a=AA q)(new:ObjOk X.prog X.w (D4 H a ob) h' a ob) : Inv X AF σ (D4 H a ob) { s with heap:=h',toks:=t' } :=I.write mu (.inl rfl) (λb q hb z=>(hs.2 b hb).trans z) he new
theorem Er{kvs:List (Key×V)}{vs:List (Key×AH)}(z:kvs.length<=sizeLine)(hd:(a==HL)=AD)(NJ:KV kvs vs)(dd:h'.DictOf (U5 P w) a vs) : ObjOk P w H' h' a (.dK kvs):={z,hd,vs,NJ,dd}
theorem zRS{Q:Unit->AQ->Prop}(hu:A.units+1<GZ)(I:Inv X AF σ H s)(g:DPut H a y v H')(ry:RelV y u)(rv:RelV v r)(h:∀s',Inv X AF σ H' s'->Q () s') : BE (A7 X.prog X.w) A (setItem (.ref a) u r) Q E s:=by
 rcases g with⟨kvs,k,e,ey,l,eH⟩|⟨kvs,k,b,e,ey,eb,l,eH⟩
 .subst ey eH;have{z,hd,vs,NJ,dd}:=Dq I.hok e;have hz:vs.length<=sizeLine:=by rw[<-NJ.length];exact z
  have hl:(RB kvs k v).length<=sizeLine:=by have:=Ba kvs k v;lia
  refine wpAny_setItem_pairs (kI ry) dd λh' gZ hs=>h _ ?_;have he:∃q,h'.get? a=AA q:=let ⟨q,_,_,hq,_⟩:=gZ;{q,hq};exact z8 I (by rw[e];exact G8) hs he (Er hl hd (NJ.put k rv) gZ)
 .subst ey eH;cases(ry);have{z,hd,xs,NJ,dd}:=yG8 I.hok e;have hz:xs.length<=sizeLine:=by rw[<-Paired.length NJ];exact z
  have hl:(RB kvs k v).length<=sizeLine:=by have:=Ba kvs k v;lia
  refine wpAny_setItem_heap (J7 hu) (p8 I.hok eb) dd λh' gZ hs=>h _ ?_;have{q,es,ep,hq,h2,h3,h4,_,h5}:=gZ;refine z8 I (by rw[e];exact G8) hs {q,hq} {hl,hd,_,(NJ.put k eb rv).keeps λc ys ec=>?_,q,es,ep,hq,h2,h3,h4,h5};rw[ET (yGO ec e (λz=>nomatch z))];exact ec
end
section
variable{kvs:List (Key×V)}{k:Key}
theorem yG9(I:Inv X AF σ H s)(e:Rd H a (.dK kvs))(h:∀t s',Inv X AF σ H s'->Q (.int kvs.length t) s'):BE (A7 X.prog X.w) A (call (.builtin "len") [.ref a]) Q E s:=by have{z,hd,vs,NJ,dd}:=iM I.hok e;refine call_len_dict hd dd (by rw[<-NJ.length];rw[GB] at z;lia) ?_;rw[<-NJ.length];exact h _ _ (I.tok _)
end
theorem zNV(I:Inv X AF σ H s)(g:iH H a y o):s.TypeIs (.ref a) "dict":=by
 rcases g with⟨kvs,k,e,_,_⟩|⟨kvs,k,b,e,_,_,_⟩
 .have{_,_,vs,_,dd}:=iM I.hok e;exact dd.typeIs
 .have{_,_,xs,_,dd}:=mP I.hok e;exact dd.typeIs
def Zf(td ty tv:TE):TS:=λD σ H=>tv σ H λv H1=>td σ H1 λx H2=>ty σ H2 λy H3=>∃a H4,x=.ref a/\DPut H3 a y v H4/\D.nx σ H4
section
variable{o i JO:D0}{VN:jS}{td ty:TE}
theorem Fk(hu:X.A.units+1<GZ)(ho:PE X o td)(hi:PE X i ty)(hv:PE X JO tv)(hs:HW JO (AA (.Subscript o i OS)) pos.line X.env=pure AD) : PS X (.Assign [.Subscript o i OS] JO pos) (Zf td ty tv):=by intro AF s σ H D I h;refine wpAny_Assign_Subscript (G6 (hv AF s σ H _ I h) λr s1 ⟨v,H1,I1,rv,q1⟩=>G6 (ho AF s1 σ H1 _ I1 q1) λu s2 ⟨x,H2,I2,rx,q2⟩=>G6 (hi AF s2 σ H2 _ I2 q2) λiv s3 ⟨y,H3,I3,ry,a,H4,ex,g,q3⟩=>?_) hs;subst ex;obtain rfl:u=GU a:=rx;exact zRS hu I3 g ry rv λs4 I4=>{σ,H4,I4,q3}
end
theorem Gj(h:CM)(hb:HL<h.objs.size):ObjOk P w H (h.push { cls:=.type "dict",data:=.dict #[] }) h.objs.size (.dK []) :={BQ _,beq_eq_false_iff_ne.mpr (FI (CF hb)),[],.nil,Heap.DictOf.new h}
theorem zU2(h:CM)(hb:HL<h.objs.size):ObjOk P w H (h.push { cls:=.type "dict",data:=.dict #[] }) h.objs.size (.dT []) :={BQ _,beq_eq_false_iff_ne.mpr (FI (CF hb)),[],.nil,_,#[],0,AX _ rfl,{rfl,rfl,rfl},rfl,rfl,ER}
def yDU:TE:=λ_ H Q=>∀p,H p=AK->Q (.ref p) (D4 H p (.dK []))
def yDV:TE:=λ_ H Q=>∀p,H p=AK->Q (.ref p) (D4 H p (.dT []))
theorem dF:PE X (.Dict [] [] pos) yDU:=λAF s σ H Q I h =>
 wpAny_Dict_empty {.ref s.heap.objs.size,_,I.laid (λ_ _ q=>AG _ q) (AL _) (Gj s.heap I.big),rfl,h _ (I.hok.fresh (AL _))}
theorem dE:PE X (.Dict [] [] pos) yDV:=λAF s σ H Q I h =>
 wpAny_Dict_empty {.ref s.heap.objs.size,_,I.laid (λ_ _ q=>AG _ q) (AL _) (zU2 s.heap I.big),rfl,h _ (I.hok.fresh (AL _))}
def Ep:List (TE×TE)->St->Hp->(List (V×V)->Hp->Prop)->Prop
 |[],_,H,Q=>Q [] H
 |(tk,tv)::r,σ,H,Q=>tk σ H λx H1=>tv σ H1 λy H2=>Ep r σ H2 λps H3=>Q ((x,y)::ps) H3
abbrev VV:List (V×V)->List (AH×AH)->Prop:=Paired λp q=>RelV p.1 q.1/\RelV p.2 q.2
def Cn(X:Cx)(pos:jS)(W5:List (Option D0))(SR:List D0)(lE:List (TE×TE)):Prop :=∀(AF:List (AT×IZ)) (s:AQ) (σ:St) (H:Hp) (Q:List (V×V)->Hp->Prop),Inv X AF σ H s->Ep lE σ H Q ->BE (A7 X.prog X.w) X.A (evalPairs (pairTrees W5 SR X.env pos)) (λvs s'=>∃ps H',Inv X AF σ H' s'/\VV ps vs/\Q ps H') X.xe s
theorem zZN:Cn X pos [] [] []:=λAF s σ H Q I h=>pairTrees_nil_walk {[],H,I,.nil,h}
theorem zU3{k v:D0}{ks:List (Option D0)}{vs:List D0}{tk:TE}(hk:PE X k tk)(hv:PE X v tv)(hr:Cn X pos ks vs lE) : Cn X pos (AA k::ks) (v::vs) ((tk,tv)::lE):=λAF s σ H Q I h =>
 pairTrees_cons_walk (G6 (hk AF s σ H _ I h) λu s1 ⟨x,H1,I1,rx,q1⟩=>G6 (hv AF s1 σ H1 _ I1 q1) λw2 s2 ⟨y,H2,I2,ry,q2⟩ =>
  G6 (hr AF s2 σ H2 _ I2 q2) (λws s3 q0=>by have{ps,H3,I3,NJ,q3}:=q0;exact{(x,y)::ps,H3,I3,.cons {rx,ry} NJ,q3}))
def tH(kvs more:List (Key×V)):List (Key×V):=more.foldl (λacc kv=>RB acc kv.1 kv.2) kvs
theorem KV.merge:∀{more:List (Key×V)} {rs:List (Key×AH)} {kvs:List (Key×V)} {vs:List (Key×AH)},KV more rs->KV kvs vs->KV (tH kvs more) (merged vs rs):=by
 intro more rs kvs vs r;unfold KV at r;induction r generalizing kvs vs with
 |nil=>intro q;exact q
 |@cons p q ps qs h t ih =>
  intro r0;have e:KV (RB kvs p.1 p.2) (stored vs q.1 q.2):=by have:=r0.put p.1 h.2;rw[<-h.1];exact this
  exact ih e
theorem Wy:∀(more kvs:List (Key×V)),(tH kvs more).length<=kvs.length+more.length
 |[],kvs=>by show kvs.length<=kvs.length+0;lia
 |p::r,kvs=>by have h1:=Wy r (RB kvs p.1 p.2);have h2:=Ba kvs p.1 p.2;show(tH (RB kvs p.1 p.2) r).length<=_;rw[BA];lia
theorem Vz{P:BZ}{w:C8}:∀{kvs:List (Key×V)} {ws:List (AH×AH)},VV (kvs.map λkv=>(kV kv.1,kv.2)) ws->∃rs,Carries (U5 P w) ws rs/\KV kvs rs
 |[],_,r=>by rw[NN] at r;cases r;exact{[],G8,.nil}
 |p::kvs,_,r=>by
  rw[AV] at r;cases r with
  |@cons a b as bs h t=>have{rs,c,q}:=Vz t;have{b1,b2}:=b;exact{(p.1,b2)::rs,{kI h.1,rfl,c},.cons {rfl,h.2} q}
def yHA(lE:List (TE×TE)):TE:=λσ H Q=>∀p,H p=AK->Ep lE σ (D4 H p (.dK [])) λps H2=>H2 p=AA (.dK [])/\∃kvs:List (Key×V),ps=kvs.map (λkv=>(kV kv.1,kv.2))/\kvs.length<=15/\Q (.ref p) (D4 H2 p (.dK (tH [] kvs)))
theorem zZO{W5:List (Option D0)}{SR:List D0}(h:Cn X pos W5 SR lE)(MV:W5.all (·.isSome)=AN)(hl:W5.length=SR.length)(h0:W5≠[]) (h15:W5.length<=15):PE X (.Dict W5 SR pos) (yHA lE):=by
 intro AF s σ H Q I q;have hn:=I.hok.fresh (AL s.heap.objs.size);have I1:=I.laid (t':=s.toks) (λ_ _ q=>AG _ q) (AL _) (Gj s.heap I.big);refine wpAny_Dict_walk (knd:=U5 X.prog X.w) MV hl h0 h15 (G6 (h AF _ σ _ _ I1 (q _ hn)) λws s2 ⟨ps,H2,I2,NJ,e,kvs,ep,lk,q2⟩=>?_);subst ep;have{rs,c,rk}:=Vz (w:=X.w) NJ;have{z,hd,vs0,r0,dd}:=Dq I2.hok e;cases r0;refine{rs,c,dd,λh' gZ hs=>{.ref s.heap.objs.size,_,?_,rfl,q2}};have hz:(tH [] kvs).length<=sizeLine:=by have h1:=Wy kvs [];rw[JG] at h1;rw[GB];lia
 have he:∃q,h'.get? s.heap.objs.size=AA q:=let ⟨q,_,_,hq,_⟩:=gZ;{q,hq};exact z8 I2 (by rw[e];exact G8) hs he (Er hz hd (rk.merge .nil) gZ)
structure M2(X:Cx)(o:D0)(m:CD)(LW:jS)(e f:D0)(GA:jS):Prop where
 base:J0 o m X.env (eval o X.env)=eval o X.env
 few:((DC GA (AM [e,f] X.env)).all (λx=>!x.1)&&(YY GA (QN [] X.env)).all (λx=>x.1.isSome)
  && decide (([e,f]:List D0).length+([]:List MH).length+(if([]:List MH).isEmpty then 0 else 1)<30))=AN
 line:(LW.endLine==GA.line)=AN
 trees:DC GA (AM [e,f] X.env)=[(AD,eval e X.env),(AD,eval f X.env)]
def Jx(H:Hp)(a:AT):Prop:=(∃kvs,Rd H a (.dK kvs))\/∃kvs,Rd H a (.dT kvs)
theorem yDW(I:Inv X AF σ H s)(d:Jx H a) : s.TypeIs (.ref a) "dict"/\(∀b,GU a=.ref b->∃ob,s.heap.get? b=AA ob/\ob.dict=AK)/\(a==HL)=AD:=by
 rcases d with⟨kvs,e⟩|⟨kvs,e⟩
 .have{_,hd,vs,_,dd}:=iM I.hok e;refine{dd.typeIs,λb q=>?_,hd};cases q;have{ob,_,_,h1,h2,_}:=dd;exact{ob,h1,h2.2.1}
 .have{_,hd,xs,_,dd}:=mP I.hok e;refine{dd.typeIs,λb q=>?_,hd};cases q;have{ob,_,_,h1,h2,_}:=dd;exact{ob,h1,h2.2.1}
section
variable{d:V}{r:AH}
theorem yDX(hu:A.units+1<GZ)(I:Inv X AF σ H s)(g:iH H a y o)(ry:RelV y u)(rd:RelV d r)(h:∀w' s',Inv X AF σ H s'->RelV (o.getD d) w'->Q w' s') : BE (A7 X.prog X.w) A (call (.builtin "dict.get") [.ref a,u,r]) Q E s:=by
 rcases g with⟨kvs,k,e,ey,l⟩|⟨kvs,k,b,e,ey,eb,l⟩
 .subst ey;have{z,hd,vs,NJ,dd}:=iM I.hok e;refine call_meetsIn NC dd.typeIs V7 (UY _ _ _) (meets_dict_get_default (U5 X.prog X.w) a (kI ry) hd r) {_,dd.mapOf,h _ _ (I.tok _) ?_};rw[l];exact(NJ.val k).getD rd
 .subst ey;cases(ry);have{z,hd,xs,NJ,dd}:=mP I.hok e;refine call_meetsIn NC dd.typeIs V7 (UY _ _ _) (meetsH_dict_get_default (OF (U5 X.prog X.w)) a b hd r) {J7 hu,k,xs,p8 I.hok eb,dd,h _ _ (I.tok _) ?_};rw[l];exact(NJ.val k).getD rd
end
def yDY(td ty tx:TE):TE:=λσ H Q=>td σ H λx H1=>∃a,x=.ref a/\Jx H1 a/\ty σ H1 λy H2=>tx σ H2 λz H3=>∃o,iH H3 a y o/\Q (o.getD z) H3
section
variable{o f:D0}{GA:jS}{td ty tx:TE}
theorem zU4(hu:X.A.units+1<GZ)(ho:PE X o td)(he:PE X e ty)(hf:PE X f tx)(m:M2 X o "get" LW e f GA):PE X (.Call (.Attribute o "get" LW) [e,f] [] GA) (yDY td ty tx):=by
 intro AF s σ H Q I h;refine wpAny_Call_method m.base m.few m.line PySem.F.plainAttrs_dict NC PySem.F.type_dict_get (G6 (ho AF s σ H _ I h) λu s1 ⟨x,H1,I1,rx,a,ex,d,q1⟩=>?_);subst ex;obtain rfl:u=GU a:=rx;have{t1,t2,_}:=yDW I1 d;refine{t1,t2,?_};rw[m.trees];refine NF rfl (OJ (PR (G6 (he AF s1 σ H1 _ I1 q1) λiv s2 ⟨y,H2,I2,ry,q2⟩ =>
  PR (G6 (hf AF s2 σ H2 _ I2 q2) λfv s3 ⟨z,H3,I3,rz,ov,g,q3⟩=>cK ?_))))
 exact yDX hu I3 g ry rz λw' s4 I4 KJ=>{_,H3,I4,KJ,q3}
end
end _L
variable{q:BZ}
namespace Att
open PySem PySem.W PySem.Calls PyProof.Rows
theorem zG9{P:Params}:∀(ns:List Int) (vs:List AH),WellAll P h vs (ns.map WData.int)->IH vs ns:=by
 intro ns;induction ns with
 |nil=>intro vs w;rw[NN] at w;cases w;exact .nil
 |cons n ns ih =>
  intro vs w;rw[AV] at w;cases w with
  |cons a b=>cases a;exact .cons _ _ (ih _ b)
theorem zRU{l:OpenLaw}(hn:l.most=AA n){P:Params}{args:List WData}{n9:List AH} (UC:l.row.toRowW.claim.pre args=AN) (Me:WellAll P h n9 args) : ∃a vs ns,n9=[GU a]/\args=[WData.list (ns.map WData.int)]/\h.get? a=AA { cls:=.type "list",data:=.seq vs.toArray }/\IH vs ns/\ns.length<=n:=by
 have hsh:=(pre_splitW UC).1;have hc:l.pre.holds [] { args:=args }=AN:=(pre_splitW UC).2;have{d,r,rfl,h1,h2}:=hasAllW_cons hsh;obtain rfl:=hasAllW_nil h2;have{xs,rfl,h3}:=hasW_list h1;have{ns,rfl}:=items_int h3;have EU:ns.length<=n:=by
  unfold OpenLaw.pre at hc;have h4:(WTm.not (.lt (.lit (.int n)) (.len (.arg 0)))).holds [] { args:=[.list (ns.map .int)] }=AN:=by have h4:=(holds_andW hc).1;rw[hn] at h4;exact h4
  have h5:=condW_of h4 (w_not (w_lt w_lit (w_len_list (w_arg rfl))));rw[AJ] at h5;refine E4 λq=>?_;have q':n<(ns.length:Int):=by lia
  first
   |(rw[decide_eq_true q'] at h5;exact absurd h5 'D')
   |(simp at h5;lia)
 cases Me with
 |cons w1 w2 =>
  cases w2;cases w1 with
  |list ho MV=>exact{_,_,ns,rfl,rfl,ho,zG9 ns _ MV,EU}
theorem zRV(l:OpenLaw)(args:List WData):l.row.toRowW.claim.post args (.bool AN) args=AN :=postW_of (show WShape.has [] (.bool AN) .bool=AN by first|rfl|decide|simp[WShape.armsAll]) (w_eq_bool (w_res rfl) w_lit) rfl
theorem attach_call{l:OpenLaw}{W4:List CD}{XP:(CD->Option AH)->CM->Prop}{YP:C8->CM->Prop}{d:DefRec} (hn:l.most=AA n) (xS:d.params.defaults=[]) (call:∀(w:C8) (s₀ FC:AQ) (mg mb:CD->Option AH) (fa:AT) (o:IZ) (pm cd TC:AH) (a:AT) (vs:List AH) (ns:List Int),Ground q W4 [] XP w s₀ mg mb FC.heap->YP w FC.heap ->FC.heap.get? fa=AA o->o.data=.func (docDef d.name d.params d.body d.scope pm cd TC)->FC.heap.CodeRec cd d.name->mg d.name=AA (.ref fa) ->FC.heap.get? a=AA { cls:=.type "list",data:=.seq vs.toArray }->IH vs ns->ns.length<=n->FC.gens=#[] ->IE (A7 l.prog w) Q2 (.call (.ref fa) {[.ref a],[]}) (λr s'=>r=.ok (.ret (.bool AN))/\OldK FC.heap s'.heap/\s'.os=FC.os/\NO s'.gens) FC) : WalkO q W4 XP YP l.row.toRowW d [] (λf vs=>aY f vs):=by intro w s₀ FC mg mb G Y fa o pm cd TC dV kV ho hd LU hD xE hg args n9 as UC hlay hrd Me hlo;obtain rfl:dV=.none:=Dflts.none hD xS;obtain rfl:kV=.none:=Dflts.noKw hD;have{a,vs,ns,rfl,rfl,eG,eK,EU}:=zRU hn UC Me;refine enter_call (MD (call w s₀ FC mg mb fa o pm cd TC a vs ns G Y ho (fd_plain hd) LU xE eG eK EU hg) λr s' hq=>?_);have{rfl,h2,h3,h4}:=hq;exact{.inl {.bool AN,.bool AN,[],rfl,λ_=>rfl,.bool AN,zRV l _,λ_=>{N5,λ_ hm=>(nomatch hm)}},h2,h3,h4}
section
variable{K:Frag}
noncomputable def yJD(h:CM)(L d:AT):List (AT×IZ):=(C4 h.objs.size).filterMap λa=>if a=L\/a=d then AK else(h.get? a).map λo=>(a,o)
end
end Att
variable{CX:_L.CXT}{sp:_L.Sp}
namespace _L
open PySem PySem.Spec PyProof.Rows
theorem Vb:∀{vs:List AH} {ns:List Int},IH vs ns->Vals (ns.map V.int) vs
 |_,_,.nil=>.nil
 |_,_,.cons n t h=>.cons {t,rfl} (Vb h)
def Il(H:Hp):Prop:=∀b,H b=AK\/(∃o xs,H b=AA (.frz o (.lst xs)))\/∃q,H b=AA (.tbl q #[])
structure Tabs(K:AC)(q:BZ):Prop where
 rcs:∀x∈iR,∀c T,EN K x=AA (c,T)->∃d,(PyProof.Rows.recsOf q).find? (λe=>e.name==x)=AA d
 out:∀x∈iR,∀c T,EN K x=AA (c,T)->K.lookup T=AK
 uni:∀x∈iR,∀y∈iR,∀c c' T,EN K x=AA (c,T)->EN K y=AA (c',T)->x=y
def CB(K:AC)(base:CM):Prop:=∀x∈iR,∀c T,EN K x=AA (c,T)->JS base c T
theorem Tabs.uq{K:AC}(t:Tabs K q){T:AT}{u v:CD}(a:TB K T u)(b:TB K T v):u=v:=by have{x,c,h1,h2,rfl}:=a;have{y,c',g1,g2,rfl}:=b;rw[t.uni x h1 y g1 c c' T h2 g2]
open Classical in
noncomputable def kH(K:AC)(H:Hp):Hp:=λb=>if h:∃q,TB K b q then AA (.tbl h.choose #[]) else H b
theorem zZP{K:AC}(t:Tabs K q){T:AT}{u:CD}(a:TB K T u):kH K H T=AA (.tbl u #[]):=by have h:∃q,TB K T q:={u,a};unfold kH;rw[dif_pos h,t.uq h.choose_spec a]
theorem zZQ{K:AC}(a:∀q,¬TB K b q):kH K H b=H b:=by unfold kH;rw[dif_neg (λq0=>by have{q,z}:=q0;exact a q z)]
theorem zU5{K:AC}{mb:CD->Option AH}{fa:AT}{FC:AQ}{vs:List AH} (KX:K.In FC.heap) (jD:FC.heap.Ns BL mg) (hb:FC.heap.Ns J8 mb) (hbb:∀x:CD,x≠"__name__"->mb x=GN x) (Nc:FC.heap.NoLimit) (Dh:∃bm ob,mg "__builtins__"=AA (.ref bm)/\bm≠J8/\FC.heap.get? bm=AA ob/\ob.cls=.type "module"/\ob.dict=AA J8/\ob.data=.plain) (hg:FC.gens=#[]) (tK:Tabs K q) (tT:∀x∈iR,∀c T,EN K x=AA (c,T)->JS FC.heap c T/\FC.heap.get? T=AA (K3 #[])) (ha:FC.heap.get? a=AA { cls:=.type "list",data:=.seq vs.toArray }) (hi:IH vs ns) (hl:ns.length<=sizeLine) (hr:Room k Q2) (F:∀base:CM,K.In base->base.Ns BL mg->CB K base->FnOk P w K mg base CX k fa fd [x] sp) (PL:∀(s:AQ) (u:AH),UN s fd {[u],[]} [(x,u)]) (bW:∀H:Hp,Il H->SqL K H a (ns.map V.int)->sp [.ref a] H (λv _=>v=.bl AN) λ_ _ _=>False) (Oi:∀H e s',CX [] H FC (λ_ _ _=>False) e s'->False) : IE (A7 P w) Q2 (.call (.ref fa) {[.ref a],[]}) (λr s'=>r=.ok (.ret (.bool AN))/\OldK FC.heap s'.heap/\s'.os=FC.os/\NO s'.gens) FC:=by
 have rv:=Vb hi;have Lw:=hi.length;have W1:∀{T u},TB K T u->FC.heap.get? T=AA (K3 #[])/\cD FC.heap T/\K.lookup T=AK:=λ{T u} h=>by have{x,c,h1,h2,_}:=h;have{z1,z2}:=tT x h1 c T h2;exact{z2,(z1.tab z2).isCodeTable,tK.out x h1 c T h2}
 have rT:∀{u},¬TB K a u:=λ{u} h=>by have e:=(W1 h).1;rw[ha] at e;cases e
 -- from an abstract heap in which nothing but the script and the tables is VM
 have yG:∀H0:Hp,(∀b,H0 b=AK\/∃o xs,H0 b=AA (.frz o (.lst xs)))->SqL K H0 a (ns.map V.int)->HOk P w H0 FC.heap->(∀b,H0 b≠AK->b=a)->(H0 a≠AK->K.lookup a=AK) ->
   IE (A7 P w) Q2 (.call (.ref fa) {[.ref a],[]}) (λr s'=>r=.ok (.ret (.bool AN))/\OldK FC.heap s'.heap/\s'.os=FC.os/\NO s'.gens) FC:=by
  intro H0 hO0 hS0 Mw hA0 hK0;have hT:∀{T u},TB K T u->kH K H0 T=AA (.tbl u #[]):=λh=>zZP tK h;have hN:∀b,(∀u,¬TB K b u)->kH K H0 b=H0 b:=λb h=>zZQ h;have gr:∀b u,H0 b=AA u->kH K H0 b=AA u:=λb u e=>by have:b=a:=hA0 b (by rw[e];simp);rw[hN b λu=>by rw[this];exact rT,e]
  generalize hH:kH K H0=H at hT hN gr;have hO:Il H:=λb=>by
   by_cases h:∃u,TB K b u
   .have{u,h}:=h;exact .inr (.inr {u,hT h})
   .rw[hN b λu z=>h {u,z}];exact(hO0 b).imp_right .inl
  have hS:SqL K H a (ns.map V.int):=hS0.imp (λz=>z.imp (gr _ _) (λq0=>by have{o,z}:=q0;exact{o,gr _ _ z})) id;have hok:HOk P w H FC.heap:=λb u e=>by
   by_cases h:∃u,TB K b u
   .have{v,h}:=h;rw[hT h] at e;cases e;exact{(W1 h).1,trivial,λpos cv z=>by cases z}
   .rw[hN b λu z=>h {u,z}] at e;refine(Mw b u e).stay (λc v _ q=>q) (λc q=>gr _ _ q) (λc xs q=>gr _ _ q) λc o x q=>gr _ _ q
  have hA:∀b,H b≠AK->b=a\/∃u,TB K b u:=λb z=>by
   by_cases h:∃u,TB K b u
   .exact .inr h
   .rw[hN b λu z=>h {u,z}] at z;exact .inl (hA0 b z)
  have hK:H a≠AK->K.lookup a=AK:=λz=>hK0 (by rw[<-hN a λu=>rT];exact z);have R7:∀{b:AT} {o:IZ},FC.heap.get? b=AA o->H b=AK->(fS FC.heap H).get? b=AA o:=λe n=>zUP e n;have wH:∀{b:AT} {o:IZ} {es:Array cJ} {ep:Nat},FC.heap.get? b=AA o->o.data=.dict es ep->H b=AK:=λ{b o es ep} e d=>by
   cases q:H b with
   |none=>rfl
   |some u =>
    rcases hA b (by rw[q];simp) with e'|⟨v,h⟩
    .subst e';rw[ha] at e;cases e;have d':mH vs.toArray _=Data.dict es ep:=d;cases d'
    .rw[(W1 h).1] at e;cases e;have d':Data.fields #[]=Data.dict es ep:=d;cases d'
  have Cv:∀{b:AT} {m:CD->Option AH},FC.heap.Ns b m->(fS FC.heap H).Ns b m:=λ{b m} ⟨o,es,ep,e,d,r⟩=>{o,es,ep,R7 e (wH e d),d,r};have hKb:K.In (fS FC.heap H):=λb o e=>R7 (KX b o e) (by
   cases q:H b with
   |none=>rfl
   |some u =>
    rcases hA b (by rw[q];simp) with e'|⟨v,h⟩
    .subst e';rw[hK (by rw[q];simp)] at e;cases e
    .rw[(W1 h).2.2] at e;cases e)
  have hM:Mod K mg (fS FC.heap H):={hKb,Cv jD,{mb,Cv hb,hbb},let ⟨mc,h1,h2⟩:=Nc;{mc,Cv h1,h2},by
   have{bm,ob,b1,b2,b3,b4,b5,b6}:=Dh;refine{bm,ob,b1,b2,R7 b3 ?_,b4,b5,b6};cases q:H bm with
   |none=>rfl
   |some u =>
    rcases hA bm (by rw[q];simp) with e'|⟨v,h⟩
    .subst e';rw[ha] at b3;cases b3;injection b4 with z;exact absurd z 'D'
    .rw[(W1 h).1] at b3;cases b3;cases b4}
  have e0:Env0 P w K mg (fS FC.heap H) Q2 [] FC H:={λT u h=>{_,hT h},rfl,hM,λb o e=>zY5 e,CU (zQ8 _ _),trivial,λb hb=>absurd (show b∈([]:List AT) from hb) 'S',hok,.of_eq hg};have hCB:CB K (fS FC.heap H):=λx hx c T e=>by
   have{zz',_}:=tT x hx c T e;have{o,n8,Om,tf,yB,tg,inF,Kl,tt,e1,e2,r}:=zz';refine{o,n8,Om,tf,yB,tg,inF,Kl,tt,R7 e1 ?_,e2,r};cases q:H c with
   |none=>rfl
   |some u =>
    rcases hA c (by rw[q];simp) with e'|⟨v,h⟩
    .subst e';rw[ha] at e1;cases e1;injection e2 with z;exact absurd z 'D'
    .rw[(W1 h).1] at e1;cases e1;cases e2
  refine MD ((F _ hKb (Cv jD) hCB).run Q2 [] FC H {[.ref a],[]} [.ref a] [.ref a] _ _ hr e0 (PL FC (.ref a)) (.cons rfl .nil) (bW H hO hS)) λr s' h=>?_;cases r with
  |error e=>exact(Oi H e s' h).elim
  |ok fl =>
   cases fl with
   |next=>exact HP h
   |brk=>exact HP h
   |cont=>exact HP h
   |ret u =>
    have{v,H',os,bare,un,xB,r',q}:=h;have q':v=.bl AN:=q;subst q';obtain rfl:u=LC AN:=r';have II:∀b o,FC.heap.get? b=AA o->s'.heap.get? b=AA o\/(cD FC.heap b/\o=K3 #[]/\∃ps,s'.heap.get? b=AA (K3 ps)):=λb o e=>by
     cases q:H b with
     |none=>exact .inl (un.keep b o e q (by intro z;exact absurd (show b∈([]:List AT) from z) 'S') 'S')
     |some u =>
      rcases hO b with z|⟨ob,xs,z⟩|⟨v,z⟩
      .rw[q] at z;cases z
      .have z2:=un.frzs b ob _ z;have{e1,_}:=hok b _ z;have{e2,_}:=xB b _ z2;rw[e] at e1;cases e1;exact .inl e2
      .have{m,z2}:=un.tbls b v _ z;have{e2,_}:=xB b _ z2;by_cases h:∃u,TB K b u
       .have{w',h}:=h;rw[(W1 h).1] at e;cases e;exact .inr {(W1 h).2.1,rfl,_,e2}
       .rw[hN b λu z=>h {u,z}] at z;rcases hO0 b with y|⟨ob,xs,y⟩
        .rw[z] at y;cases y
        .rw[z] at y;cases y
    refine{rfl,{λb o e=>?_,λb o e=>?_},os,bare}
    .rcases II b o e with z|⟨ht,rfl,ps,hP⟩
     .exact .inl z
     .exact .inr (.inl {ht,rfl,#[],ps,rfl,by rw[Array.empty_append];exact hP})
    .rcases II b o e with z|⟨_,_,ps,hP⟩
     .exact{o,z}
     .exact{_,hP}
 cases hk:K.lookup a with
 |some o =>
  -- the script is one of the module's own objects
  have e:=KX a o hk;rw[ha] at e;cases e;refine yG (λ_=>AK) (λ_=>.inl rfl) (.inr {_,vs.toArray,_,hk,rfl,rfl,rfl,by rw[AZ,Lw];exact hl,by simpa using rv}) (λb u z=>by have z':(AK:Option HO)=AA u:=z;cases z') (λb z=>absurd rfl z) λz=>absurd rfl z
 |none =>
  refine yG (λb=>if b=a then AA (.frz { cls:=.type "list",data:=.seq vs.toArray } (.lst (ns.map V.int))) else AK) (λb=>?_) (.inl (.inr {{ cls:=.type "list",data:=.seq vs.toArray },if_pos rfl})) (λb u z=>?_) (λb z=>?_) λ_=>hk
  .by_cases hb:b=a
   .exact .inr {_,_,if_pos hb}
   .exact .inl (if_neg hb)
  .by_cases hb:b=a
   .have z':=(if_pos hb).symm.trans z;cases z';subst hb;exact{ha,by rw[AJ];exact hl,vs,_,rv,ha}
   .have z':=(if_neg hb).symm.trans z;cases z'
  .by_cases hb:b=a
   .exact hb
   .exact absurd (if_neg hb) z
theorem walk_of{l:RQ}{W4:List CD}{XP:(CD->Option AH)->CM->Prop}{YP:C8->CM->Prop}{d:DefRec}{K:Params->AC}{CX:C8->CXT}{sp:C8->Sp} (hn:l.most=AA n) (aJ:n<=sizeLine) (xS:d.params.defaults=[]) (hr:Room k Q2) (hY:∀(w:C8) (h:CM),YP w h->(K w.params).In h) (tK:∀w:C8,Tabs (K w.params) q) (F:∀(w:C8) (mg:CD->Option AH) (fa:AT) (h:CM),(K w.params).In h->h.Ns BL mg->mg d.name=AA (.ref fa) ->∃fd:CV,(∀(s:AQ) (u:AH),UN s fd {[u],[]} [(x,u)]) /\ ∀base:CM,(K w.params).In base->base.Ns BL mg->CB (K w.params) base->FnOk l.prog w (K w.params) mg base (CX w) k fa fd [x] (sp w)) (bW:∀(w:C8) (H:Hp) (a:AT) (ns:List Int),ns.length<=n->Il H->SqL (K w.params) H a (ns.map V.int)->sp w [.ref a] H (λv _=>v=.bl AN) λ_ _ _=>False) (Oi:∀(w:C8) (H:Hp) (s:AQ) (e:AH) (s':AQ),CX w [] H s (λ_ _ _=>False) e s'->False) : g9 q W4 XP YP l.row.toRowW d [] (λf vs=>aY f vs):=by refine Att.attach_call hn xS λw s₀ FC mg mb fa o pm cd TC a vs ns G Y ho hd LU xE eG eK EU hg=>?_;have KX:=hY w _ Y;have{fd,hb,hF}:=F w mg fa _ KX G.T.g xE;exact zU5 KX G.T.g G.T.b G.T.builtins G.T.nolimit G.T.bmain hg (tK w) (λx hx c T e=>let ⟨d,hd⟩:=(tK w).rcs x hx c T e;PySem.W.tab_of G.T KX hd e) eG eK (AW EU aJ) hr hF hb (λH hO hS=>bW w H a ns EU hO hS) λH e s'=>Oi w H FC e s'
noncomputable def cZ(s:FM):OM:=match s with
 |.FunctionDef _ a _ _ _ _ _ _ _ _=>a
 |_=>{ posonlyargs:=[],args:=[],vararg:=AK,kwonlyargs:=[],kw_defaults:=[],kwarg:=AK,defaults:=[] }
noncomputable def WG(s:FM):List FM:=match s with
 |.FunctionDef _ _ b _ _ _ _ _ _ _=>b
 |_=>[]
noncomputable def J2(s:FM):JJ:=match s with
 |.FunctionDef _ _ _ _ _ _ sc _ _ _=>sc
 |_=>{ kind:=.function,names:=[],isGenerator:=AD,isCoroutine:=AD }
abbrev LJ:CXT:=λ_ _ _ _ _ _=>False
abbrev E0:XK:=λ_ _ _=>False
theorem zA:p9 LJ X E0:=λ_ _ _ _ _ _ _ h=>h.elim
structure Fun(K:AC)(x qual:CD)(st:FM)(f:AT)(fd:CV):Prop where
 ex:∃(oc:AH) (od:Option AT) (kV TC pm:AH) (an:Option AT) (G3 ct:AH) (ZL:Array (Option AH)),
  fd=E8 x qual (cZ st) (WG st) (J2 st) .none kV TC pm an G3 ct/\K.lookup f=AA {oc,od,.func fd,ZL}/\IG K G3 qual=AN
 kp:EO K (.ref f)=AN
section
variable{K:AC}
theorem Fun.ok{st:FM}{f:AT}(F:Fun K x qual st f fd)(S:FnScope N ps (J2 st))(len:∀vs H Q E,sp vs H Q E->vs.length=ps.length) (K0:∀(G3:AH) (A:GD) (outer:List V9) (s:AQ) (H:Hp) (vs:List V) (Q:VK) (E:XK),Room k (A.deeper (GY qual (J2 st) s.heap.objs.size f G3))->sp vs H Q E ->∃t,PSs (SJ LJ P w K mg base N qual (J2 st) f G3 A outer s H E).nox (WG st) t/\t { nx:=λ_ H'=>Q .non H',rt:=Q } (start N vs) H):FnOk P w K mg base LJ (k+1) f fd ps sp:=by have{oc,od,kV,TC,pm,an,G3,ct,ZL,rfl,lk,LU}:=F.ex;refine Ds lk LU S len λA outer s H vs Q E hr bW=>?_;have{t,h,q}:=K0 G3 A outer s H vs Q E hr bW;exact{t,h.nox,q}
theorem Fun.binds{st:FM}{f:AT}(F:Fun K x qual st f fd) (h:∀(kV TC pm:AH) (an:Option AT) (G3 ct:AH) (us:List AH),us.length=ps.length->OG (E8 x qual (cZ st) (WG st) (J2 st) .none kV TC pm an G3 ct) {us,[]}=pure (ps.zip us)):Binds K fd ps []:=by have{oc,od,kV,TC,pm,an,G3,ct,ZL,rfl,lk,LU}:=F.ex;exact .all (h kV TC pm an G3 ct)
theorem zJ{st:FM}{f:AT}{oc:AH}{od an:Option AT}{ZL:Array (Option AH)}{kV TC pm G3 ct:AH}(l:K.lookup f=AA {oc,od,.func (E8 x qual (cZ st) (WG st) (J2 st) .none kV TC pm an G3 ct),ZL}) (c:IG K G3 qual=AN) (k:EO K (.ref f)=AN):Fun K x qual st f (E8 x qual (cZ st) (WG st) (J2 st) .none kV TC pm an G3 ct):={{oc,od,kV,TC,pm,an,G3,ct,ZL,rfl,l,c},k}
end
theorem Gy(h:n<=1000):n<sizeLine:=AS h 'D'
theorem pv(i:Nat)(hN:X.N[i]?=AA x:=by rfl)(hv:ZK X.env.scope x:=by first|exact BM rfl|exact DW (BM rfl)|exact DW (DW rfl))(hd:(x==("__debug__":CD))=AD:=by decide) (LU:(x==("__classdict__":CD))=AD:=by decide):PE X (.Name x pos) (bH i):=gA hN hv hd LU
theorem Xt{A B:Prop}(h:B):if AD=AN then A else B:=by rw[if_neg CH];exact h
theorem Xs{A B:Prop}(h:A):if AN=AN then A else B:=by rw[if_pos rfl];exact h
end _L
end
open PySem
namespace _T
open PySem PyProof.Rows
section
variable{E:AH->AQ->Prop}
structure SB(CC:Array CI)(kd:Y0)(st:BW):Prop where
 perm:(A0 st).Perm CC
 kind:kindOf st=kd
 failed:jN st=AK
theorem SB.size{st:BW}(h:SB CC kd st):(A0 st).size=CC.size:=h.perm.size_eq
theorem SB.setArr{st:BW}(h:SB CC kd st)(hp:xs.Perm (A0 st)):SB CC kd (setArr st xs):={hp.trans h.perm,h.kind,h.failed}
theorem SB.mem{st:BW}(h:SB CC kd st)(hi:i<(A0 st).size):(A0 st)[i]∈CC:=h.perm.mem_iff.mp (AI hi)
theorem qP{st:BW}{Q:CI->BW->Prop}(hi:i<IJ.size)(h:Q IJ[i] st):NZ (A7 prog w) A E s (elem' IJ i) Q st:=by rw[elem'_eq,getElem?_pos IJ i hi];exact BD h
theorem LQ{α:Type}{c:Prop}[Decidable c]{x y:StateT BW cC α}{Q:α->BW->Prop}{st:BW}(h1:c->NZ (A7 prog w) A E s x Q st)(h2:¬c->NZ (A7 prog w) A E s y Q st) : NZ (A7 prog w) A E s (if c then x else y) Q st:=by
 by_cases h:c
 .rw[if_pos h];exact h1 h
 .rw[if_neg h];exact h2 h
end
section
variable{E:AH->AQ->Prop}
theorem z7{st:BW}{Q:PUnit->BW->Prop}(h:Q ⟨⟩ (setArr st (QM (A0 st) i j ((j-i) / 2)))):NZ (A7 prog w) A E s (reverseSlice' i j) Q st:=by rw[reverseSlice'_eq];exact MW h
def Kp(CC:Array CI)(kd:Y0)(st CT:BW):Prop:=SB CC kd CT/\DL CT=DL st
theorem Kp.rev{st CT:BW}(h:Kp CC kd st CT):Kp CC kd st (setArr CT (QM (A0 CT) i j d)):={h.1.setArr (mirror_perm _ _ _ _),h.2}
end
noncomputable def tY:Bool->CI->Array CI->Nat->Nat->Nat->StateT BW cC (Option Nat):=sortPriv% PySem.Builtin.gallop
noncomputable def Ht:Nat->StateT BW cC Unit:=sortPriv% PySem.Builtin.setMinGallop
abbrev tE(st:BW)(g:Nat):BW:=ZV (kindOf st) (A0 st) (DL st) g (jN st)
theorem zGQ(g:Nat):Ht g=modify λs=>tE s g:=rfl
noncomputable def zU7:Array CI->Array CI->StateT BW cC (Array CI):=sortPriv% PySem.Builtin.mergeLo
noncomputable def zU8:Array CI->Array CI->StateT BW cC (Array CI):=sortPriv% PySem.Builtin.mergeHi
structure Mid(a b out:Array CI)(ia ib:Nat):Prop where
 perm:(out.toList++a.toList.drop ia++b.toList.drop ib).Perm (a.toList++b.toList)
 la:ia<=a.size
 lb:ib<=b.size
 sz:out.size=ia+ib
theorem Mid.pushB(m:Mid a b out ia ib)(h:ib<b.size):Mid a b (out.push b[ib]) ia (ib+1):=by
 refine{?_,m.la,h,by rw[EF,m.sz];lia};have e:b.toList.drop ib=b[ib]::b.toList.drop (ib+1):=by rw[FN (by simpa using h)];simp
 have p:=m.perm;rw[e] at p;refine KH ?_ p;rw[FD];simp only[CP,Y7];exact JW _ (hU.symm)
theorem Mid.pushA(m:Mid a b out ia ib)(h:ia<a.size):Mid a b (out.push a[ia]) (ia+1) ib:=by
 refine{?_,h,m.lb,by rw[EF,m.sz];lia};have e:a.toList.drop ia=a[ia]::a.toList.drop (ia+1):=by rw[FN (by simpa using h)];simp
 have p:=m.perm;rw[e] at p;refine KH ?_ p;rw[FD];simp only[CP,M8];exact GF _
theorem Sh(a:Array CI)(i:Nat):(a.extract i a.size).toList=a.toList.drop i:=by rw[KQ];exact J3 'S'
theorem Mid.done(m:Mid a b out ia ib):(out++a.extract ia a.size++b.extract ib b.size).Perm (a++b):=by rw[EE];simp only[EK,Sh];exact m.perm
theorem Mid.lastA(m:Mid a b out ia ib):(out++b.extract ib b.size++a.extract ia a.size).Perm (a++b):=by rw[EE];simp only[EK,Sh];refine KH ?_ m.perm;simp only[CP];exact JW _ Y8
section
variable{E:AH->AQ->Prop}
def Gal(st CT:BW):Prop:=∃g,CT=tE st g
theorem Gal.refl(st:BW):Gal st st:={gallopOf st,rfl}
theorem Gal.set{st CT:BW}(h:Gal st CT)(g:Nat):Gal st (tE CT g):=by have{g',rfl}:=h;exact{g,rfl}
theorem Gal.kind{st CT:BW}(h:Gal st CT)(hk:kindOf st=kd):kindOf CT=kd:=by have{g',rfl}:=h;exact hk
theorem zZR{st:BW}{Q:Unit->BW->Prop}(h:Q () (tE st g)):NZ (A7 prog w) A E s (Ht g) Q st:=by rw[zGQ];exact MW h
end
structure MidH(a b out:Array CI)(na nb:Nat):Prop where
 perm:(a.toList.take na++b.toList.take nb++out.toList.reverse).Perm (a.toList++b.toList)
 la:na<=a.size
 lb:nb<=b.size
 sz:out.size+na+nb=a.size+b.size
theorem Va(a:Array CI)(n:Nat)(h:n-1<a.size)(h0:1<=n):a.toList.take n=a.toList.take (n-1)++[a[n-1]]:=by
 obtain⟨m,rfl⟩:∃m,n=m+1:={n-1,by lia};have h':m<a.toList.length:=by simpa using h
 rw[BK h'];simp
theorem MidH.pushA(m:MidH a b out na nb)(h0:1<=na)(h:na-1<a.size):MidH a b (out.push a[na-1]) (na-1) nb:=by refine{?_,CQ h,m.lb,by rw[EF];have:=m.sz;lia};have p:=m.perm;rw[Va a na h h0] at p;refine KH ?_ p;rw[FD,a8];simp only[CP,M8];exact JW _ hU
theorem MidH.pushB(m:MidH a b out na nb)(h0:1<=nb)(h:nb-1<b.size):MidH a b (out.push b[nb-1]) na (nb-1):=by refine{?_,m.la,CQ h,by rw[EF];have:=m.sz;lia};have p:=m.perm;rw[Va b nb h h0] at p;rw[FD,a8];simpa only[CP,Y7,J4,List.reverse_nil,G0,M8] using p
theorem Fj(a:Array CI)(i n:Nat)(h:i<=n):a.toList.take i++(a.extract i n).toList=a.toList.take n:=by
 rw[KQ];conv=>rhs;rw[show n=i+(n-i) by lia]
 rw[List.take_add]
theorem Tt(a:Array CI)(i:Nat):(a.extract 0 i).toList=a.toList.take i:=by have:=Fj a 0 i (BQ _);simpa using this
theorem MidH.done(m:MidH a b out na nb):(a.extract 0 na++b.extract 0 nb++out.reverse).Perm (a++b):=by rw[EE];simp only[EK,Tt,OL];exact m.perm
theorem MidH.firstB(m:MidH a b out na nb):(b.extract 0 nb++a.extract 0 na++out.reverse).Perm (a++b):=by rw[EE];simp only[EK,Tt,OL];refine KH ?_ m.perm;exact UL _ Y8
theorem Sg(c:List CI):∀(a:Array CI) (sa k:Nat),sa+k+c.length<=a.size ->((c.zipIdx k).foldl (λa (p:CI×Nat)=>a.setIfInBounds (sa+p.2) p.1) a).toList=a.toList.take (sa+k)++c++a.toList.drop (sa+k+c.length):=by
 induction c with
 |nil=>intro a sa k h;simp
 |cons x r ih =>
  intro a sa k h;rw[SF,KW];have hl:(x::r).length=r.length+1:=rfl;rw[ih (a.setIfInBounds (sa+k) x) sa (k+1) (by rw[MK];lia)];have JB:sa+k<a.toList.length:=by simp;lia
  rw[UO];rw[show sa+(k+1)=(sa+k)+1 by lia];rw[BK (by simpa using JB),List.take_set_of_le (AL _),List.getElem_set_self,List.drop_set_of_lt (F9 (A3 _ _))];rw[show sa+k+1+r.length=sa+k+(x::r).length by rw[hl];lia];simp
theorem zRY{a c:Array CI}(h1:sa<=sb)(h2:sb+nb<=a.size)(hp:c.Perm (a.extract sa sb++a.extract sb (sb+nb))) : (c.toList.zipIdx.foldl (λa (p:CI×Nat)=>a.setIfInBounds (sa+p.2) p.1) a).Perm a:=by
 have hl:c.toList.length=(sb-sa)+nb:=by have:=hp.size_eq;rw[G1,JH,JH] at this;simp;lia
 rw[EE,Sg c.toList a sa 0 'L'];have bY:=EE.mp hp;rw[EK] at bY;have e1:=Fj a sa sb h1;have e2:=Fj a sb (sb+nb) (A3 _ _);have e3:=Y6 (sb+nb) a.toList;have q:(a.toList.take (sa+0)++c.toList++a.toList.drop (sa+0+c.toList.length)).Perm (a.toList.take sa++((a.extract sa sb).toList++(a.extract sb (sb+nb)).toList)++a.toList.drop (sb+nb)):=by rw[Y5 _,show sa+c.toList.length=sb+nb by lia];exact UL _ (JW _ bY)
 refine q.trans ?_;rw[<-CP,e1,e2,e3]
section
variable{E:AH->AQ->Prop}
theorem zZS{st st2:BW}{Q:PUnit->BW->Prop}(h:Q ⟨⟩ st2):NZ (A7 prog w) A E s (set st2:StateT BW cC PUnit) Q st:=by unfold NZ;rw[StateT.run_set];exact wpAny_pure {rfl,h}
end
abbrev Run:=Nat×Nat×Nat
section
variable{E:AH->AQ->Prop}
theorem yDZ{c:Prop}[Decidable c]{a b n:Nat}(h1:a<=n)(h2:b<=n):(if c then a else b)<=n:=by
 split
 .exact h1
 .exact h2
end
end _T
namespace _L
open PySem PySem.Spec PyProof.Rows
def PTs(X:Cx)(OE:List D0)(t:TT):Prop :=∀(AF:List (AT×IZ)) (s:AQ) (σ:St) (H:Hp) (Q:Bool->Hp->Prop),Inv X AF σ H s->t σ H Q ->BE (A7 X.prog X.w) X.A (forIn OE AN λc r=>if r=AN then do let ok <-V5 c X.env (eval c X.env);pure (QQ ok) else pure (QQ r)) (TP X AF σ Q) X.xe s
def Xr:TT:=λ_ H Q=>Q AN H
theorem ZH:PTs X [] Xr:=λ_ _ _ H _ I h=>wpAny_tests_nil {H,I,h}
theorem zZT(h:PT X c t):PTs X [c] t:=λAF s σ H Q I hw=>wpAny_tests_one (h AF s σ H Q I hw)
noncomputable def wC(xo:Option CD)(L:AT)(cl:List (CD×AT)):List (CD×AT):=match xo with
 |none=>cl
 |some x=>(x,L)::cl
noncomputable def pC(xo:Option CD)(h:CM):CM:=match xo with
 |none=>h
 |some _=>h.push { cls:=.type "cell",data:=.cell AK }
def NP(X:Cx)(scope:JJ)(xo:Option CD)(cl:List (CD×AT))(nm:List CD)(C:AT)(s:AQ)(H:Hp)(fp:List AT):Cx where
 prog:=X.prog
 w:=X.w
 K:=X.K
 mg:=X.mg
 base:=X.base
 A:=X.A
 N:=nm
 s₀:=s
 H₀:=H
 env:=YW scope (wC xo (C+1) cl) C X.env
 outer:=X.stack
 stack:=X.stack
 ex:=fp
 fn:=λy=>xo==AA y
 calm:=X.calm
 pn:=[]
 xe:=λ_ _=>False
noncomputable def WS(k:Nat)(js:List Nat)(σ:St):St:=BI k AK++js.map λj=>(σ[j]?).getD AK
structure CompNm(X:Cx)(scope:JJ)(xo:Option CD)(cl:List (CD×AT))(own CN:List CD)(js:List Nat):Prop where
 clos:YX scope X.env=pure cl
 kind:scope.kind=.function
 one:∀n,Q1 n scope.names cl=wC xo n cl
 push:∀h,pushCells h scope.names=pC xo h
 loc:∀y∈scope.names,y.2=.local->scope.names.lookup y.1=AA .local
 dom:∀y∈scope.names,y.2=.free->y.1∈CN
 domc:∀y∈scope.names,y.2=.cell->xo=AA y.1
 nm:cl.map (·.1)=CN
 cells:∀p∈cl,X.env.cells.lookup p.1=AA p.2
 slot:CN.map AA=js.map λj=>X.N[j]?
 vis:∀x∈CN,X.env.kindOf x=AA .cell\/X.env.kindOf x=AA .free
 fr:∀x∈CN,(fB scope X.env).names.lookup x=AA .cell\/(fB scope X.env).names.lookup x=AA .free
 xc:∀x∈CN,xo≠AA x
theorem uJ{α β:Type}[BEq α][LawfulBEq α]:∀{l:List (α×β)} {x:α} {c:β},l.lookup x=AA c->(x,c)∈l
 |[],_,_,h=>by simp at h
 |(a,b)::r,x,c,h=>by
  rw[HH] at h;cases e:x==a with
  |true=>rw[e] at h;cases h;have:=eq_of_beq e;subst this;exact A2
  |false=>rw[e] at h;exact A5 _ (uJ h)
theorem Hx{α β:Type}[BEq α][LawfulBEq α]:∀{l:List (α×β)} {x:α},x∈l.map (·.1)->∃c,l.lookup x=AA c
 |[],_,h=>by simp at h
 |(a,b)::r,x,h=>by
  rw[HH];cases e:x==a with
  |true=>exact{b,rfl}
  |false =>
   refine Hx ?_;rcases A8.mp h with q|q
   .have q:x=a:=q;subst q;simp at e
   .exact q
theorem Bd{env:V9}:∀{names:List (CD×UK)} {x:CD} {k:UK},(names.map λ(n,k)=>if(k==fH&&env.scope.kind==.function&&env.kindOf n==AA .cell) then(n,fI) else(n,k)).lookup x=AA k ->(k=.cell\/k=.free)->∃k',(x,k')∈names/\(k'=.cell\/k'=.free)
 |[],_,_,h,_=>by simp at h
 |(n,k0)::r,x,k,h,hk=>by
  rw[AV,HH] at h;by_cases hc:(k0==fH&&env.scope.kind==.function&&env.kindOf n==AA .cell)=AN
  .simp only[hc,if_true] at h;cases e:x==n with
   |true =>
    have:=eq_of_beq e;subst this;have hf:k0=.free:=by have:=(Z4.mp (Z4.mp hc).1).1;exact eq_of_beq this
    exact{k0,A2,.inr hf}
   |false=>rw[e] at h;have{k',h1,h2}:=Bd h hk;exact{k',A5 _ h1,h2}
  .simp only[hc,if_false,P3] at h;cases e:x==n with
   |true=>rw[e] at h;have:=eq_of_beq e;subst this;cases h;exact{k0,A2,hk}
   |false=>rw[e] at h;have{k',h1,h2}:=Bd h hk;exact{k',A5 _ h1,h2}
section
theorem CompNm.cl_of(n:CompNm X scope xo cl own CN js)(h:cl.lookup x=AA c):X.env.cells.lookup x=AA c:=n.cells _ (uJ h)
theorem CompNm.has(n:CompNm X scope xo cl own CN js)(h:x∈CN):∃c,cl.lookup x=AA c:=Hx (by rw[n.nm];exact h)
theorem mW(h:(wC xo L cl).lookup y=AA c):(xo=AA y/\c=L)\/(xo≠AA y/\cl.lookup y=AA c):=by
 cases xo with
 |none=>exact .inr {nofun,h}
 |some x =>
  rw[wC,HH] at h;cases q:y==x with
  |true=>rw[q] at h;cases h;exact .inl {by rw[eq_of_beq q],rfl}
  |false=>rw[q] at h;exact .inr {(λz=>by cases z;rw[beq_self_eq_true] at q;cases q),h}
theorem Ts(h:xo≠AA y):(wC xo L cl).lookup y=cl.lookup y:=by
 cases xo with
 |none=>rfl
 |some x =>
  rw[wC,HH];cases q:y==x with
  |true=>exact absurd (by rw[eq_of_beq q]) h
  |false=>rfl
theorem zZU:(wC (AA y) L cl).lookup y=AA L:=by rw[wC,HH,beq_self_eq_true]
theorem zU9{E:AH->AQ->Prop}{Q:V9->AQ->Prop}(one:∀n,Q1 n scope.names cl=wC xo n cl)(push:∀h,pushCells h scope.names=pC xo h) (h:Q (newEnv scope s.heap.objs.size globals (wC xo (s.heap.objs.size+1) cl) qual AK .none (AA env) J8) { s with heap:=pC xo (s.heap.push { cls:=.type "dict",data:=.dict #[] }) }) : BE M A (YR scope globals cl [] qual AK .none (AA env)) Q E s:=by refine AB (wpAny_alloc ?_);refine AB (wpAny_layCells _ (λname kind cells=>by cases hkc:kind==fI<;>simp[hkc]) _ _ _ _ ?_);rw[ES ..,one,push];exact AB (by rw[List.forIn_nil];exact wpAny_pure (wpAny_pure h))
theorem Inv.stk_of(I:Inv X AF σ H s)(hf:FpOk X AF H b):b∉SO X.stack:=λz=>by
 rcases A8.mp (I.stkSub b z) with e|e
 .exact hf.2.1 e
 .exact hf.2.2.1 e
theorem zQD{E:AH->AQ->Prop}{Q:V9->AQ->Prop}(n:CompNm X scope xo cl own CN js)(I:Inv X AF σ H s)(hf:∀b∈fp,FpOk X AF H b)(JB:∀b∈fp,b<s.heap.objs.size) (hq:∀IS,Inv (NP X scope xo cl (own++CN) s.heap.objs.size s H fp) [] (WS own.length js σ) H { s with heap:=IS }->(∀b o,s.heap.get? b=AA o->IS.get? b=AA o) ->Q (newEnv scope s.heap.objs.size X.env.globals (wC xo (s.heap.objs.size+1) cl) X.env.qual AK .none (AA X.env) J8) { s with heap:=IS }) : BE (A7 X.prog X.w) X.A (YR scope X.env.globals cl [] X.env.qual AK .none (AA X.env)) Q E s:=by
 refine zU9 n.one n.push ?_;obtain⟨IS,oZ⟩:∃IS,IS=pC xo (s.heap.push { cls:=.type "dict",data:=.dict #[] }):={_,rfl};rw[<-oZ];have wD:∀b o,(s.heap.push { cls:=.type "dict",data:=.dict #[] }).get? b=AA o->IS.get? b=AA o:=λb o e=>by
  rw[oZ];cases xo with
  |none=>exact e
  |some _=>exact AG _ e
 have II:∀b o,s.heap.get? b=AA o->IS.get? b=AA o:=λb o e=>wD b o (AG _ e);have jD:IS.Ns s.heap.objs.size (λ_=>AK):=(Heap.Ns.new s.heap (.type "dict")).keeps λb o e=>wD b o e;have xV:∀x,xo=AA x->IS.IsCell (s.heap.objs.size+1) AK:=λx hx=>by subst hx;rw[oZ];have:=AX (s.heap.push { cls:=.type "dict",data:=.dict #[] }) (o:={ cls:=.type "cell",data:=.cell AK }) rfl;rw[ES] at this;exact{_,this,rfl}
 refine hq IS ?_ II;have hl:js.length=CN.length:=by have:=congrArg MF n.slot;simpa using this.symm
 have Oz:∀{y:CD} {c:AT},cl.lookup y=AA c->c<s.heap.objs.size:=λ{y c} h=>by have{v,z}:=I.cell y c (n.cl_of h);exact z.lt
 have far:∀{y:CD} {c:AT},c=s.heap.objs.size+1->cl.lookup y=AA c->False:=λe h=>absurd (e▸Oz h:s.heap.objs.size+1<s.heap.objs.size) (QO.mpr (HQ _));refine{{I.tab,I.ok.mod,n.kind,I.ok.glob,I.ok.blt,AL _,λy z c h1 h2=>?_,λy hy=>?_,λy c hy h=>?_,I.ok.hd,I.ok.frames,.inl rfl,λb hb=>{CF (JB b hb),λy c e=>?_},
   I.bs,AW I.ok.bsz I.sz,λb o e hb=>?_,λb hb=>I.stk_of (hf b hb),I.stack,I.stkFree},
  rfl,I.bare,Un.kept II,{_,jD,λi y v e1 e2 e3=>?_},λy c e=>?_,I.hok.fresh (AL _),λy c e=>?_,(λp hp=>nomatch hp),I.hok.kept II,?_}
 .rcases mW h1 with⟨a1,a2⟩|⟨a1,a2⟩
  .rcases mW h2 with⟨b1,b2⟩|⟨b1,b2⟩
   .rw[a1] at b1;cases b1;rfl
   .exact(far a2 b2).elim
  .rcases mW h2 with⟨b1,b2⟩|⟨b1,b2⟩
   .exact(far b2 a2).elim
   .exact I.ok.inj y z c (n.cl_of a2) (n.cl_of b2)
 .have hy:=hy;have KN:∃k',(y,k')∈scope.names/\(k'=.cell\/k'=.free):=by
   rcases hy with h|h
   .exact Bd h (.inl rfl)
   .exact Bd h (.inr rfl)
  have{k',h1,h2}:=KN;rcases h2 with h2|h2
  .obtain rfl:xo=AA y:=n.domc _ h1 h2;exact{_,zZU}
  .have hc:=n.dom _ h1 h2;have{c,XZ}:=n.has hc;exact{c,(Ts (n.xc _ hc)).trans XZ}
 .rcases mW h with⟨a1,a2⟩|⟨a1,a2⟩
  .rw[a2];exact HQ _
  .exact absurd (eq_of_beq hy) a1
 .rcases mW e with⟨a1,a2⟩|⟨a1,a2⟩
  .rw[a2];exact FG (J9 (JB b hb))
  .exact(hf b hb).2.2.2.2.1 y c (n.cl_of a2)
 .have{_,_,_,h4,_}:=hf b hb;rcases h4 with h4|h4
  .exact I.ok.noex b o e h4
  .exact absurd (AO (BB e) I.ok.bsz) (QO.mpr h4)
 .have hi:own.length<=i:=by
   rcases Nat.lt_or_ge i own.length with h|h
   .unfold WS at e2;rw[CA (by simpa using h),DZ,if_pos h] at e2;cases e2
   .exact h
  have e1:(own++CN)[i]?=AA y:=e1;rw[BX hi] at e1;unfold WS at e2;rw[BX (by simpa using hi),C3,AU] at e2;cases ej:js[i-own.length]? with
  |none=>rw[ej] at e2;cases e2
  |some j =>
   rw[ej] at e2;have e2:AA ((σ[j]?).getD AK)=AA (AA v):=e2;have hj:X.N[j]?=AA y:=by have q:=congrArg (λl=>l[i-own.length]?) n.slot;simp only[AU,e1,ej,GR] at q;exact(BH q).symm
   have hv:σ[j]?=AA (AA v):=by
    cases es:σ[j]? with
    |none=>rw[es] at e2;cases e2
    |some o=>rw[es] at e2;exact e2
   have aI:y∈CN:=BJ e1;have{m0,hn0,sF}:=I.loc;have vis:ZK X.env.scope y:=by
    rcases n.vis y aI with k|k
    .exact .inr (.inl k)
    .exact .inr (.inr k)
   have{u,r,lk}:=sF j y v hj hv vis;refine{u,r,.inr {n.fr y aI,?_}};have{c,hc}:=n.has aI;refine{c,(Ts (n.xc y aI)).trans hc,?_};rcases lk with⟨k,_⟩|⟨_,c',XZ,z⟩
   .rcases n.vis y aI with k'|k'
    .rw[k] at k';cases k'
    .rw[k] at k';cases k'
   .rw[n.cl_of hc] at XZ;cases XZ;have{o,ho,hd}:=z;exact{o,II _ _ ho,hd}
 .rcases mW e with⟨a1,a2⟩|⟨a1,a2⟩
  .rw[a2];exact{_,xV y a1}
  .have{v,o,ho,hd}:=I.cell y c (n.cl_of a2);exact{v,o,II _ _ ho,hd}
 .rcases mW e with⟨a1,a2⟩|⟨a1,a2⟩
  .rw[a2];exact I.hok.fresh (HQ _)
  .exact I.freeC y c (n.cl_of a2)
 .show(WS own.length js σ).length=(own++CN).length;unfold WS;rw[BC,BC,C3,AJ,hl]
end
abbrev TM:=St->Hp->(St->Hp->Prop)->Prop
def PM(X:Cx)(m:cC Unit)(t:TM):Prop :=∀(AF:List (AT×IZ)) (s:AQ) (σ:St) (H:Hp) (N:St->Hp->Prop),Inv X AF σ H s->t σ H N->BE (A7 X.prog X.w) X.A m (λ_ s'=>∃σ' H',Inv X AF σ' H' s'/\N σ' H') X.xe s
def tWalkC(J:It)(g:TG)(tt:TT)(tm:TM):TM:=λσ H N=>∃W:Nat->Nat->St->Hp->Prop,(∃m,W 0 m σ H)/\∀i m σ H,W i m σ H ->(J.stop i H/\N σ H)\/(J.go i H/\∀x H',J.yld i H x H'->g x σ H' λσ2 H2=>tt σ2 H2 λb H3 =>
  if b=AN then tm σ2 H3 (λσ4 H4=>∃m',m'<m/\W (i+1) m' σ4 H4) else ∃m',m'<m/\W (i+1) m' σ2 H3)
theorem Qw{tn:Nat->CM->Prop}{N:St->Hp->Prop}{R:Y1->AQ->Prop}
  (oJ:Y.A.under (.compLoop e d (.ref it) acc Y.env)=Y.A) (o7:(A7 Y.prog Y.w).den (.compLoop e d (.ref it) acc Y.env)=(YV e d (.ref it) acc Y.env).onRaise (λx=>do noteFrame x Y.env;theTreesLotGoes x))
  (dZ:YV e d (.ref it) acc Y.env=(do
   MC pp
   match <-OV (.ref it) with
   |none=>pure (.done .next)
   |some v =>
    HC tg (.ref it) v
    N2 tg Y.env v
    let mut ok:=AN
    for c in OE do
     if ok then ok <-V5 c Y.env (eval c Y.env)
    if ok then m
    YZ (.compLoop e d (.ref it) acc Y.env)))
  (hx:∀x s',Y.xe x s'->notedBy (A7 Y.prog Y.w) Y.A Y.env (λx s'=>R (.error x) s') x s') (hc:Y.calm=AN) (hg:PG Y tg g) (ht:PTs Y OE tt) (hm:PM Y m tm) (T:Turn Y.prog Y.w Y.K tg J fp it tn)
  (I:Inv Y AF σ H s) (st:tn 0 s.heap) (f:∀b∈fp,FpOk Y AF H b) (h:tWalkC J g tt tm σ H N)
  (hR:∀σ' H' s',Inv Y AF σ' H' s'->N σ' H'->R (.ok .next) s') :
  IE (A7 Y.prog Y.w) Y.A (.compLoop e d (.ref it) acc Y.env) R s:=by
 have{W,zz',turn}:=h;have{m0,w0}:=zz';have VQ:∀{H':Hp},(∀b∈fp,H' b=AK)->∀b∈fp,FpOk Y AF H' b:=λhn b hb=>{hn b hb,(f b hb).2};refine codeAny_loop rfl (λk s'=>∃i σ' H',Inv Y AF σ' H' s'/\tn i s'.heap/\(∀b∈fp,H' b=AK)/\W i k σ' H') (λn s3 hI=>?_) m0 {0,σ,H,I,st,λb hb=>(f b hb).1,w0};have{i,σ3,H3,I3,KS,yA,w3}:=hI;rw[oJ,o7];refine wpAny_noted ?_;rw[dZ];refine AB (IP (AB ?_));rcases turn i n σ3 H3 w3 with⟨stop,qn⟩|⟨go,step⟩
 .refine G6 (T.done Y rfl rfl rfl hc i AF s3 σ3 H3 _ I3 (VQ yA) KS stop) λr s4 q0=>?_;have{hr,I4}:=q0;subst hr;exact wpAny_pure (hR _ _ _ I4 qn)
 .refine G6 (T.item Y rfl rfl rfl hc i AF s3 σ3 H3 _ I3 (VQ yA) KS go) λr s4 q0=>?_;have{u,hr,h4}:=q0;subst hr;refine AB (G6 h4 λ_ s5 ⟨x,H5,I5,r5,y5,i6,Oj⟩=>?_);have Pf:=I5.pinned (VQ Oj) (T.obj _ _ i6);refine AB (CZ (hg _ s5 σ3 H5 x u _ Pf r5 (step x H5 y5)) (λ_ s6 z0=>?_) λx s' z=>hx x s' z);have{σ6,H6,I6,q6}:=z0;have YZ:∀{σ7:St} {H7:Hp} {s7:AQ},Inv Y (AF++tJ fp s5.heap) σ7 H7 s7->(∃m',m'<n/\W (i+1) m' σ7 H7)->∃m,m<n/\∃i σ' H',Inv Y AF σ' H' s7/\tn i s7.heap/\(∀b∈fp,H' b=AK)/\W i m σ' H':=λ{σ7 H7 s7} I7 ⟨m',hm,w7⟩=>by refine{m',hm,i+1,σ7,H7,I7.unpinned,T.keep _ _ _ i6 λb hb o e=>(I7.pin (b,o) (BO _ (BO _ (Ax hb e)))).1,λb hb=>?_,w7};have{o,e,d}:=T.obj _ _ i6 b hb;exact(I7.pin (b,o) (BO _ (BO _ (Ax hb e)))).2.1
  refine AB (CZ (ht _ s6 σ6 H6 _ I6 q6) (λb s7 z0=>?_) λx s' z=>hx x s' z);have{H7,I7,q7}:=z0;cases b with
  |false=>exact wpAny_pure {rfl,YZ I7 q7}
  |true=>exact AB (CZ (hm _ s7 σ6 H7 _ I7 q7) (λ_ s8 q0=>by have{σ8,H8,I8,q8}:=q0;exact wpAny_pure {rfl,YZ I8 q8}) λx s' z=>hx x s' z)
section
def p7(wi:TI)(k:Nat)(js:List Nat)(o:HO)(g:Hp->TG)(tt:Hp->TT)(tm:Hp->AT->TM):TE:=λσ H Q=>wi σ H λJ H1=>∀acc,H1 acc=AK ->tWalkC J (g (D4 H1 acc o)) (tt (D4 H1 acc o)) (tm (D4 H1 acc o) acc) (WS k js σ) (D4 H1 acc o) λ_ H'=>Q (.ref acc) H'
abbrev sT(V:Cx->AH->AQ->Prop)(X:Cx)(scope:JJ)(xo:Option CD)(cl:List (CD×AT))(nm:List CD)(C:AT)(s:AQ)(H:Hp)(fp:List AT):Cx:=(NP X scope xo cl nm C s H fp).wish (V (NP X scope xo cl nm C s H fp))
def Ce:Cx->AH->AQ->Prop:=λ_ _ _=>False
theorem Aw{V:Cx->AH->AQ->Prop}{E:AH->AQ->Prop}{o:HO}{m:AT->V9->cC Unit}{g:Hp->TG}{tt:Hp->TT}{tm:Hp->AT->TM}{J:It}{it:AT}{tn:Nat->CM->Prop}{Q:VK}
  {RR:AH->AT->Y1->AQ->Prop}
  (oW:∀{Q:AH->AQ->Prop} {s:AQ},Q (.ref s.heap.objs.size) { s with heap:=s.heap.push obj }->BE (A7 X.prog X.w) X.A newAcc Q E s)
  (eG:ObjOk X.prog X.w (D4 H1 s2.heap.objs.size o) (s2.heap.push obj) s2.heap.objs.size o)
  (oJ:∀acc env,X.A.under (.compLoop e 0 (.ref it) acc env)=X.A) (o7:∀acc env,(A7 X.prog X.w).den (.compLoop e 0 (.ref it) acc env)=(YV e 0 (.ref it) acc env).onRaise (λx=>do noteFrame x env;theTreesLotGoes x))
  (dZ:∀acc env,YV e 0 (.ref it) (.ref acc) env=(do
   MC pp
   match <-OV (.ref it) with
   |none=>pure (.done .next)
   |some v =>
    HC tg (.ref it) v
    N2 tg env v
    let mut ok:=AN
    for c in OE do
     if ok then ok <-V5 c env (eval c env)
    if ok then m acc env
    YZ (.compLoop e 0 (.ref it) (.ref acc) env)))
  (oN:∀{acc:AH} {env:V9} {R:Y1->AQ->Prop} {s:AQ},IE (A7 X.prog X.w) X.A (.compLoop e 0 (.ref it) acc env) R s->BE (A7 X.prog X.w) X.A (QK (.ref it)) (λwQ s'=>IE (A7 X.prog X.w) X.A (.compLoop e 0 wQ acc env) R s')
   (notedBy (A7 X.prog X.w) X.A env λx s'=>R (.error x) s') s->IE (A7 X.prog X.w) X.A (.compStart e 0 (.ref it) acc env) R s)
  (n:CompNm X scope xo cl own CN js) (hc:X.calm=AN) (hg:∀C s H fp,PG (sT V X scope xo cl (own++CN) C s H fp) tg (g H)) (ht:∀C s H fp,PTs (sT V X scope xo cl (own++CN) C s H fp) OE (tt H))
  (hm:∀C s H fp acc,PM (sT V X scope xo cl (own++CN) C s H fp) (m acc (YW scope (wC xo (C+1) cl) C X.env)) (tm H acc))
  (Nv:∀{acc:AH} {Hs:Hp} {ss s':AQ} {x:AH},Inv X AF σ Hs ss->(∀b∈fp,FpOk X AF Hs b)->V (NP X scope xo cl (own++CN) ss.heap.objs.size ss Hs fp) x s'->notedBy (A7 X.prog X.w) X.A (YW scope (wC xo (ss.heap.objs.size+1) cl) ss.heap.objs.size X.env) (λx s'=>RR acc ss.heap.objs.size (.error x) s') x s')
  (I2:Inv X AF σ H1 s2) (T:Turn X.prog X.w X.K tg J fp it tn) (st2:tn 0 s2.heap) (f2:∀b∈fp,FpOk X AF H1 b)
  (hW:∀acc,H1 acc=AK->tWalkC J (g (D4 H1 acc o)) (tt (D4 H1 acc o)) (tm (D4 H1 acc o) acc) (WS own.length js σ) (D4 H1 acc o) λ_ H'=>Q (.ref acc) H')
  (hRR:∀acc C H' s' m,Inv X AF σ H' s'->H' C=AK->C≠X.env.locals->X.s₀.heap.objs.size<=C->(∀x c,X.env.cells.lookup x=AA c->c≠C)->(∀p∈X.pn++AF,p.1≠C)->s'.heap.Ns C m->Q (.ref acc) H'->RR (.ref acc) C (.ok .next) s') :
  BE (A7 X.prog X.w) X.A newAcc (λacc VP=>BE (A7 X.prog X.w) X.A (YR scope X.env.globals cl [] X.env.qual AK .none (AA X.env)) (λyJ Km =>
   IE (A7 X.prog X.w) X.A (.compStart e 0 (.ref it) acc { yJ with scope:=fB scope X.env }) (RR acc yJ.locals) Km) E VP) E s2:=by
 refine oW ?_;have I3:Inv X AF σ (D4 H1 s2.heap.objs.size o) { s2 with heap:=s2.heap.push obj } :=
  I2.laid (t':=s2.toks) (λb u e=>AG _ e) (AL _) eG
 have hWa:=hW s2.heap.objs.size (I2.hok.fresh (AL _));have wB:∀b o,s2.heap.get? b=AA o->({ s2 with heap:=s2.heap.push obj }:AQ).heap.get? b=AA o:=λb o e=>AG _ e;have xH:∀b∈fp,b<s2.heap.objs.size:=λb hb=>by have{o,ho,_}:=T.obj _ _ st2 b hb;exact BB ho
 have NK:({ s2 with heap:=s2.heap.push obj }:AQ).heap.objs.size=s2.heap.objs.size+1:=ES ..;have f3:∀b∈fp,FpOk X AF (D4 H1 s2.heap.objs.size o) b:=λb hb=>by have{q,r}:=f2 b hb;exact{by rw[ET (CF (xH b hb))];exact q,r}
 generalize ({ s2 with heap:=s2.heap.push obj }:AQ)=s3 at I3 wB NK ⊢;have xG:∀b∈fp,b<s3.heap.objs.size:=λb hb=>by rw[NK];exact J9 (xH b hb)
 refine zQD n I3 f3 xG λIS IY Lg=>?_;have stY:tn 0 IS:=T.keep _ _ _ st2 λb hb o e=>Lg b o (wB b o e);have VQ:∀b∈fp,FpOk (sT V X scope xo cl (own++CN) s3.heap.objs.size s3 (D4 H1 s2.heap.objs.size o) fp) [] (D4 H1 s2.heap.objs.size o) b:=λb hb =>
   {(f3 b hb).1,CF (xG b hb),I3.stk_of (f3 b hb),.inl hb,λy c e=>(IY.ok.exf b hb).2 y c e,(λp hp=>nomatch hp)}
 have oE:IE (A7 X.prog X.w) X.A (.compLoop e 0 (.ref it) (.ref s2.heap.objs.size) (YW scope (wC xo (s3.heap.objs.size+1) cl) s3.heap.objs.size X.env)) (RR (.ref s2.heap.objs.size) s3.heap.objs.size) { s3 with heap:=IS }:=by
  refine Qw (Y:=sT V X scope xo cl (own++CN) s3.heap.objs.size s3 (D4 H1 s2.heap.objs.size o) fp) (oJ _ _) (o7 _ _) (dZ _ _) (λx s' z=>Nv I3 f3 z) hc (hg _ _ _ _) (ht _ _ _ _) (hm _ _ _ _ _) T (IY.wish _) stY VQ hWa ?_;intro σ6 H6 s6 I6 q;have I7:Inv X AF σ H6 s6:=I3.call' I6.os I6.base I6.hok I6.bare λb hb=>by have{_,g1,_,g3,g4,g5}:=f3 b hb;exact{g3,g1,g4,g5}
  have{mC,hnC,_}:=I6.loc;exact hRR _ _ H6 s6 mC I7 I6.free (FG I3.lt) I3.sz (λx c e z=>by have{v,zc}:=I3.cell x c e;exact absurd zc.lt (by rw[z];exact GJ _))
   (λp hp z=>absurd (BB (I3.pin p hp).1) (by rw[z];exact GJ _)) hnC q
 exact oN oE (T.self _ 0 _ _ _ stY oE)
end
section
def kJ(acc:AT)(te:TE):TM:=λσ H N=>te σ H λy H4=>∃ys,H4 acc=AA (.lst ys)/\ys.length<sizeLine/\N σ (D4 H4 acc (.lst (ys++[y])))
theorem Fi(he:PE X QY te):PM X (do let _ <-call (.builtin "list.append") [.ref acc,<-eval QY X.env]) (kJ acc te):=by intro AF s σ H N I h;refine AB (G6 (he AF s σ H _ I h) λyv Kx ⟨y,H10,yM,r10,ys,ha,hz,q⟩=>?_);have:=Aq _ Kx σ H10 (.ref acc) [y] (.ref acc) [yv] (λv H'=>v=.non/\H'=D4 H10 acc (.lst (ys++[y]))) yM rfl (.cons r10 .nil) {_,ys,y,rfl,rfl,ha,hz,rfl,rfl};refine AB (CZ this (λ_ s11 ⟨v,H11,I11,_,_,eH⟩=>wpAny_pure {σ,H11,I11,?_}) λ_ _ z=>z);subst eH;exact q
theorem zR0{E:AH->AQ->Prop}{Q:Unit->AQ->Prop}(I:Inv X AF σ H s)(e:H a=AA (.dK kvs))(l:kvs.length<sizeLine)(ry:RelV (kV k) u)(rv:RelV v r) (h:∀s',Inv X AF σ (D4 H a (.dK (RB kvs k v))) s'->Q () s'):BE (A7 X.prog X.w) A (dictSet a u r) Q E s:=by
 have{z,hd,vs,NJ,dd}:=Dq I.hok e;have hz:vs.length<=sizeLine:=by rw[<-NJ.length];exact z
 have hl:(RB kvs k v).length<=sizeLine:=by have:=Ba kvs k v;lia
 refine wpAny_dictSet_pairs (kI ry) dd λh' gZ hs=>h _ ?_;have he:∃q,h'.get? a=AA q:=let ⟨q,_,_,hq,_⟩:=gZ;{q,hq};exact z8 I (by rw[e];exact G8) hs he (Er hl hd (NJ.put k rv) gZ)
def Eu(acc:AT)(tk tv:TE):TM:=λσ H N=>tk σ H λx H3=>tv σ H3 λy H4=>∃kvs k,H4 acc=AA (.dK kvs)/\x=kV k/\kvs.length<sizeLine/\N σ (D4 H4 acc (.dK (RB kvs k y)))
theorem zVA(hk:PE X kx tk)(hv:PE X vx tv):PM X (do
 let kv <-eval kx X.env
 let vv <-K8 [kv] (eval vx X.env)
 MC pp
 K8 [kv,vv] (dictSet acc kv vv)) (Eu acc tk tv):=by
 intro AF s σ H N I h;refine AB (G6 (hk AF s σ H _ I h) λkv s3 ⟨x,H3,I3,r3,q3⟩=>?_);refine AB (C9 (G6 (hv AF s3 σ H3 _ I3 q3) λvv s4 ⟨y,H4,I4,r4,kvs,k,e,ek,hz,q⟩=>?_));subst ek;exact AB (IP (C9 (zR0 I4 e hz r3 r4 λs' I'=>{σ,_,I',q})))
def Qv(wi:TI)(g:TG)(tt:TT)(tm:TM):TM:=λσ H N=>wi σ H λJ H1=>tWalkC J g tt tm σ H1 N
theorem zDQ{R:Y1->AQ->Prop} {QY g0 SS iter OE rest scope pos it acc env} (h0:IE (A7 prog w) A (.compLoop (.ListComp QY (g0::{SS,iter,OE,0}::rest) scope pos) 1 it acc env) R s) (h:BE (A7 prog w) A (QK it) (λwQ s'=>IE (A7 prog w) A (.compLoop (.ListComp QY (g0::{SS,iter,OE,0}::rest) scope pos) 1 wQ acc env) R s') (notedBy (A7 prog w) A env λx s'=>R (.error x) s') s) : IE (A7 prog w) A (.compStart (.ListComp QY (g0::{SS,iter,OE,0}::rest) scope pos) 1 it acc env) R s:=by
 refine codeAny_of_tree ?_;refine wpAny_notedAt ?_;refine AB (wpAny_askSetting (wpAny_ite ?_));split
 .first
   |exact AB (wpAny_pure (wpAny_pure (X3 rfl h0)))
   |exact wpAny_pure (X3 rfl h0)
 .first
   |exact AB (FL (AB (IP (AB (CZ h (λwQ s' h'=>wpAny_pure (X3 rfl h')) λ_ _ x=>x)))))
   |(refine AB (FL ?_);show BE _ _ (MC iter.pos >>= _) _ _ s;exact AB (IP (AB (CZ h (λwQ s' h'=>wpAny_pure (X3 rfl h')) λ_ _ x=>x))))
theorem zZV(hx:X.xe=λ_ _=>False)(hc:X.calm=AN)(hi:PI X tg iter wi)(hg:PG X tg g)(ht:PTs X OE tt)(he:PE X QY te) (hs:∀x,DJ iter X.env x=pure x):PM X (do
    let x <-eval iter X.env
    MC iter.pos
    let x <-DJ iter X.env x
    let _ <-runOwn (.compStart (.ListComp QY [g0,⟨tg,iter,OE,0⟩] sc pos) 1 (<-K8 [x] (QK x)) (.ref acc) X.env) X.env) (Qv wi g tt (kJ acc te)):=by
 intro AF s σ H N I h;refine AB (G6 (hi AF s σ H _ I h) λv s1 h2=>AB (IP (AB (jK (hs v) (AB (C9 (G6 h2 λoF s2 h3=>?_)))))));have{it,fp,tn,J,H2,e,I2,T,st2,f2,hW}:=h3;subst e;refine AB (wpAny_runOwn (zDQ ?_ (T.self _ 0 _ _ _ st2 ?_)));all_goals
  refine Qw rfl rfl rfl (λx s' z=>by rw[hx] at z;exact z.elim) hc hg ht (Fi he) T I2 st2 f2 hW ?_;intro σ' H' s' I' n';exact wpAny_pure {σ',H',I',n'}
theorem zL1(QY tg iter rV PH:D0)(OE dQ:List D0)(scope:JJ)(pos:jS)(it acc:AH)(env:V9) :
  YV (.ListComp QY [{tg,iter,OE,0},{rV,PH,dQ,0}] scope pos) 0 it acc env=(do
   MC iter.pos
   match <-OV it with
   |none=>pure (.done .next)
   |some v =>
    HC tg it v
    N2 tg env v
    let mut ok:=AN
    for c in OE do
     if ok then ok <-V5 c env (eval c env)
    if ok then(do
     let x <-eval PH env
     MC PH.pos
     let x <-DJ PH env x
     let _ <-runOwn (.compStart (.ListComp QY [⟨tg,iter,OE,0⟩,⟨rV,PH,dQ,0⟩] scope pos) 1 (<-K8 [x] (QK x)) acc env) env)
    YZ (.compLoop (.ListComp QY [{tg,iter,OE,0},{rV,PH,dQ,0}] scope pos) 0 it acc env)):=by
 simp only[bind_assoc,pure_bind];rfl
theorem yGD{wi2:Hp->TI}{g g2:Hp->TG}{tt tt2:Hp->TT}{te:Hp->TE}(n:CompNm X scope xo cl own CN js)(hc:X.calm=AN)(hi:PI X tg iter wi) (hg:∀C s H fp,PG (NP X scope xo cl (own++CN) C s H fp) tg (g H)) (ht:∀C s H fp,PTs (NP X scope xo cl (own++CN) C s H fp) OE (tt H)) (hi2:∀C s H fp,PI (NP X scope xo cl (own++CN) C s H fp) rV PH (wi2 H)) (hg2:∀C s H fp,PG (NP X scope xo cl (own++CN) C s H fp) rV (g2 H)) (ht2:∀C s H fp,PTs (NP X scope xo cl (own++CN) C s H fp) dQ (tt2 H)) (he:∀C s H fp,PE (NP X scope xo cl (own++CN) C s H fp) QY (te H)) (hs:∀x,DJ iter X.env x=pure x:=by intro _;rfl) (MU:∀C x,DJ PH (YW scope (wC xo (C+1) cl) C X.env) x=pure x:=by intro _ _;rfl) : PE X (.ListComp QY [{tg,iter,OE,0},{rV,PH,dQ,0}] scope pos) (p7 wi own.length js (.lst []) g tt λH acc=>Qv (wi2 H) (g2 H) (tt2 H) (kJ acc (te H))):=by
 intro AF s σ H Q I h;rw[eval_ListComp];refine JZ rfl hs n.clos n.kind n.loc (CZ (hi AF s σ H _ I h) (λxv FC IS=>CZ IS (λoF PC MB=>?_) λ_ _ e=>e) λ_ _ e=>e);have{it,fp,tn,J,H2,e,I2,T,st2,f2,hW}:=MB;subst e;refine Aw (V:=Ce)
  (λ{Q s} h=>DR h) (show ObjOk _ _ _ _ _ (.lst []) from{BQ _,[],0,.nil,AX _ rfl}) (λ_ _=>rfl) (λ_ _=>rfl) (λ_ _=>zL1 _ _ _ _ _ _ _ _ _ _ _ _) (λh0 h1=>OW h0 h1) n hc hg ht
  (λC s H fp acc=>zZV rfl hc (hi2 C s H fp) (hg2 C s H fp) (ht2 C s H fp) (he C s H fp) (MU C)) (λ_ _ z=>z.elim) I2 T st2 f2 hW ?_
 intro acc C H' s' m I' hC h1 h2 h3 h4 hn q;exact{m,hn,λh' sb=>{.ref acc,H',I'.turned (λb o hb e=>sb.extBut b o hb e) hC h1 (.inr h2) h3 h4,rfl,q}}
theorem zVB{wi:TI}{tt:Hp->TT}{tk tv:Hp->TE}(n:CompNm X scope xo cl own CN js)(hc:X.calm=AN)(hi:PI X tg iter wi) (hg:∀C s H fp,PG (NP X scope xo cl (own++CN) C s H fp) tg (g H)) (ht:∀C s H fp,PTs (NP X scope xo cl (own++CN) C s H fp) OE (tt H)) (hk:∀C s H fp,PE (NP X scope xo cl (own++CN) C s H fp) kx (tk H)) (hv:∀C s H fp,PE (NP X scope xo cl (own++CN) C s H fp) vx (tv H)) (hs:∀x,DJ iter X.env x=pure x:=by intro _;rfl) : PE X (.DictComp kx vx [{tg,iter,OE,0}] scope pos) (p7 wi own.length js (.dK []) g tt λH acc=>Eu acc (tk H) (tv H)):=by
 intro AF s σ H Q I h;rw[arm_eval_DictComp];refine JZ rfl hs n.clos n.kind n.loc (CZ (hi AF s σ H _ I h) (λxv FC IS=>CZ IS (λoF PC MB=>?_) λ_ _ e=>e) λ_ _ e=>e);have{it,fp,tn,J,H2,e,I2,T,st2,f2,hW}:=MB;subst e;refine Aw (V:=Ce)
  (λ{Q s} h=>DR h) (Gj PC.heap I2.big) (λ_ _=>rfl) (λ_ _=>rfl) (λ_ _=>rfl) (λh0 h1=>codeAny_compStart_dict h0 h1) n hc hg ht
  (λC s H fp acc=>zVA (hk C s H fp) (hv C s H fp)) (λ_ _ z=>z.elim) I2 T st2 f2 hW ?_
 intro acc C H' s' m I' hC h1 h2 h3 h4 hn q;exact{m,hn,λh' sb=>{.ref acc,H',I'.turned (λb o hb e=>sb.extBut b o hb e) hC h1 (.inr h2) h3 h4,rfl,q}}
theorem zZW{OE:List D0}{pos:jS}{g:Hp->TG}{tt:Hp->TT}{te:Hp->TE}(n:CompNm X scope xo cl own CN js)(hc:X.calm=AN)(hi:PI X tg iter wi) (hg:∀C s H fp,PG (NP X scope xo cl (own++CN) C s H fp) tg (g H)) (ht:∀C s H fp,PTs (NP X scope xo cl (own++CN) C s H fp) OE (tt H)) (he:∀C s H fp,PE (NP X scope xo cl (own++CN) C s H fp) QY (te H)) (hs:∀x,DJ iter X.env x=pure x:=by intro _;rfl):PE X (.ListComp QY [{tg,iter,OE,0}] scope pos) (p7 wi own.length js (.lst []) g tt λH acc=>kJ acc (te H)):=by
 intro AF s σ H Q I h;rw[eval_ListComp];refine JZ rfl hs n.clos n.kind n.loc (CZ (hi AF s σ H _ I h) (λxv FC IS=>CZ IS (λoF PC MB=>?_) λ_ _ e=>e) λ_ _ e=>e);have{it,fp,tn,J,H2,e,I2,T,st2,f2,hW}:=MB;subst e;refine Aw (V:=Ce)
  (λ{Q s} h=>DR h) (show ObjOk _ _ _ _ _ (.lst []) from{BQ _,[],0,.nil,AX _ rfl}) (λ_ _=>rfl) (λ_ _=>rfl) (λ_ _=>rfl) (λh0 h1=>OW h0 h1) n hc hg ht
  (λC s H fp acc=>Fi (he C s H fp)) (λ_ _ z=>z.elim) I2 T st2 f2 hW ?_
 intro acc C H' s' m I' hC h1 h2 h3 h4 hn q;exact{m,hn,λh' sb=>{.ref acc,H',I'.turned (λb o hb e=>sb.extBut b o hb e) hC h1 (.inr h2) h3 h4,rfl,q}}
theorem Wj{g:Hp->TG}{tt:Hp->TT}{te:Hp->TE}(n:CompNm X scope xo cl own CN js)(hc:X.calm=AN)(hi:PI X tg iter wi) (hg:∀C s H fp,PG (NP X scope xo cl (own++CN) C s H fp) tg (g H)) (ht:∀C s H fp,PTs (NP X scope xo cl (own++CN) C s H fp) OE (tt H)) (he:∀C s H fp,PE (NP X scope xo cl (own++CN) C s H fp) QY (te H)) (hN:X.N.Nodup) (hx:X.N[i]?=AA x) (hl:X.env.scope.names.lookup x=AA .local) (oM:HW (.ListComp QY [{tg,iter,OE,0}] scope pos) (AA (.Name x OS)) spos.line X.env=pure AN) (hs:∀x,DJ iter X.env x=pure x:=by intro _;rfl):PS X (.Assign [.Name x OS] (.ListComp QY [{tg,iter,OE,0}] scope pos) spos) (j5 (p7 wi own.length js (.lst []) g tt λH acc=>kJ acc (te H)) (bL i)):=by
 intro AF s σ H D I h;rw[exec_Assign_Name_used _ _ _ _ oM];refine AB (IP (AB ?_));refine AB (CZ (JZ (Q:=λ_ s'=>SP X AF D .next s') rfl hs n.clos n.kind n.loc
  (CZ (hi AF s σ H _ I h) (λxv FC IS=>CZ IS (λoF PC MB=>?_) λ_ _ e=>e) λ_ _ e=>e)) (λ_ s' hq=>wpAny_pure (wpAny_pure hq)) λ_ _ e=>e)
 have{it,fp,tn,J,H2,e,I2,T,st2,f2,hW}:=MB;subst e;refine Aw (V:=Ce) (Q:=λx H1=>bL i x σ H1 D.nx)
  (λ{Q s} h=>DR h) (show ObjOk _ _ _ _ _ (.lst []) from{BQ _,[],0,.nil,AX _ rfl}) (λ_ _=>rfl) (λ_ _=>rfl) (λ_ _=>rfl) (λh0 h1=>OW h0 h1) n hc hg ht
  (λC s H fp acc=>Fi (X:=NP X scope xo cl (own++CN) C s H fp) (he C s H fp)) (λ_ _ z=>z.elim) I2 T st2 f2 hW ?_
 intro acc C H' s' m I' hC h1 h2 h3 h4 hn q;show BE _ X.A (N2 (.Name x OS) X.env (.ref acc)) _ _ _;refine wpAny_assign_Name (Hc I' hN hx (.inl hl) (v:=.ref acc) rfl (λgK I'' sb=>?_) (.inr hl));have{a,sb,ha}:=sb;have hCa:C≠a:=by
  rcases ha with ha|ha
  .rw[ha];exact h1
  .exact λz=>h3 x a ha z.symm
 exact{m,hn.sameBut sb hCa,λh' Kv=>{_,H',I''.turned (t':=gK.toks) (λb o hb e=>Kv.extBut b o hb e) hC h1 (.inr h2) h3 h4,q}}
end
end _L
namespace _T
open PySem PySem.W PyProof.Rows
section
variable{E:AH->AQ->Prop}
theorem zL2{xs:Array CI}(h:xs.Perm (IV vs)):(xs.map (·.2)).toList.Perm vs:=by have p:=(EE.mp h).map (·.2);rw[QL] at p;have e:(vs.zip vs).map (·.2)=vs:=List.map_snd_zip (AL _);rw[e] at p;simpa using p
end
end _T
namespace _L
open PySem PySem.Spec PyProof.Rows
theorem Vals.perm(p:ws.Perm us):∀{xs:List V},Vals xs us->∃ys,ys.Perm xs/\Vals ys ws:=by
 induction p with
 |nil=>intro xs r;cases r;exact{[],GF _,.nil}
 |cons a _ ih =>
  intro xs r;cases r with
  |cons h t=>have{ys,q,r'}:=ih t;exact{_::ys,q.cons _,.cons h r'}
 |swap a b l =>
  intro xs r;cases r with
  |cons h t =>
   cases t with
   |cons h' t'=>exact{_::_::_,H9 _ _ _,.cons h' (.cons h t')}
 |trans _ _ bU ih2=>intro xs r;have{ys,q,r'}:=ih2 r;have{zs,q',vT}:=bU r';exact{zs,q'.trans q,vT}
def Qu(H:Hp)(y:V):Prop:=∃(p:AT) (n:Int) (ns:List Int),y=.ref p/\H p=AA (.tup ((n::ns).map V.int))
theorem Sr(I:Inv X AF σ H s):∀{ys:List V} {us:List AH},Vals ys us->(∀y∈ys,Qu H y) ->∃fs:List AH,fs.length=us.length/\RS s.heap us fs/\(∀v∈fs,∃n t,v=.int n t)/\∀u∈us,∃(p:AT) (CK:List AH) (ns:List Int),u=.ref p/\SI s.heap p CK.toArray/\IH CK ns
 |_,_,.nil,_=>{[],rfl,SC,(λv hv=>nomatch hv),(λu hu=>nomatch hu)}
 |_,_,.cons r t,h=>by
  have{fs,e1,e2,e3,e4}:=Sr I t λy hy=>h y (A5 _ hy);have{p,n,ns,ey,hp}:=h _ A2;subst ey;cases r;have{CK,rv,tp,_}:=I.tuple (SqT.of hp);have hi:=nI rv;have Nk:=hi;cases hi with
  |cons _ tk r' =>
   have{o,ho,hc,k,hd}:=id tp;refine{.int n tk::fs,by rw[BA,BA,e1],PySem.W.KatTups.cons ho hc hd 'S' e2,λv hv=>?_,λu hu=>?_}
   .rcases A8.mp hv with rfl|hv
    .exact{_,_,rfl}
    .exact e3 v hv
   .rcases A8.mp hu with rfl|hu
    .exact{p,_,n::ns,rfl,tp,Nk}
    .exact e4 u hu
theorem Vo(k:∀b o,h.get? b=AA o->h'.get? b=AA o):∀{us fs:List AH},RS h us fs->RS h' us fs
 |[],[],_=>SC
 |[],_::_,t=>t.elim
 |_::_,[],t=>t.elim
 |_::_,_::_,t=>by have{zz',t}:=t;have{a,o,xs,n,e,ho,r}:=zz';exact{{a,o,xs,n,e,k _ _ ho,r},Vo k t}
section
variable{E:AH->AQ->Prop}{s:AQ}
structure RawD(h:CM)(d:AT)(es:Array cJ)(ep:Nat):Prop where
 ex:∃o,h.get? d=AA o/\o.ExactDict/\o.data=.dict es ep
 ns:(d==HL)=AD
theorem RawD.ty(r:RawD s.heap d es ep):s.TypeIs (.ref d) "dict":=let ⟨o,h1,h2,_⟩:=r.ex;{o,h1,h2.1}
theorem zZX{Q:AH->AQ->Prop}(r:RawD s.heap d es ep)(hf:(es.size:Int)<2 ^ 63)(h:∀t tk,Q (.int es.size t) { s with toks:=tk }) : BE (A7 prog w) A (call (.builtin "len") [.ref d]) Q E s:=by
 have{o,ho,hc,hd}:=r.ex;refine UZ kind_len plain_len entry_len (args_len1 _) ?_;refine AB (wpAny_pure ?_);refine AB (C7 r.ty F.slot_dict_len (DH F.slot_dict_len r.ty F.entry_dict_len ?_ (F.args_dict_len_1 _)));show BE _ _ (dictSize d >>= _) _ _ s;refine AB (AB (NM ho hd (wpAny_pure ?_)));refine AB (wpAny_pendingCount_other r.ns ?_);refine AB (jL (wpAny_pure {_,rfl,?_}));refine AB (C9 (wpAny_pure (AB (QI ?_))));rw[if_neg 'L'];rw[if_neg 'L'];have e0:(es.size+((0:Nat):Int))=(es.size:Int):=by simp
 rw[e0];exact AB (jL (wpAny_pure {_,rfl,h _ _}))
theorem qO{Q:AH->AQ->Prop}(r:RawD s.heap d es ep) (h:∀h',(∀b o,s.heap.get? b=AA o->h'.get? b=AA o)->h'.IsKeyIter s.heap.objs.size d 0 es.size ep->Q (.ref s.heap.objs.size) { s with heap:=h' }):BE (A7 prog w) A (QK (.ref d)) Q E s:=by have{o,ho,hc,hd}:=r.ex;refine UF r.ty F.slot_dict_iter (DH F.slot_dict_iter r.ty F.entry_dict_iter ?_ (F.args_dict_iter_1 _));refine AB (AB (wpAny_notOrdered_dict r.ty (wpAny_pure ?_)));show BE _ _ ((if _ then _ else _) >>= _) _ _ s;rw[if_neg (by rw[r.ns];exact CH)];refine AB (wpAny_pure (AB (NM ho hd (AB (XG ho hd ?_)))));refine AB (DR (wpAny_pure {_,rfl,"dict_keyiterator",_,{_,AX _ rfl,rfl},F.slot_dict_keyiterator_next.lookup,?_}));exact h _ (λb o e=>AG _ e) {_,AX _ rfl,rfl,by simp[FR]}
theorem Ug{Q:Option AH->AQ->Prop}(k:s.heap.IsKeyIter it d i es.size ep)(r:RawD s.heap d es ep)(hi:i<es.size) (h:∀h',h'.IsKeyIter it d (i+1) es.size ep->DK it s.heap h'->Q (AA es[i].key) { s with heap:=h' }):BE (A7 prog w) A (OV (.ref it)) Q E s:=by
 have{oi,lP,hci,jG}:=id k;have{o,ho,hc,hd}:=r.ex;refine AB (GP (C7 k.typeIs F.slot_dict_keyiterator_next (DH F.slot_dict_keyiterator_next k.typeIs F.entry_dict_keyiterator_next ?_ (F.args_dict_keyiterator_next_1 _))));refine AB (wpAny_pure (AB (AB ?_)));first
  |refine AB (IB k.typeIs (wpAny_pure (AB (QJ lP jG ?_))))
  |refine AB (JY k.typeIs (wpAny_pure (AB (QJ lP jG ?_))))
 show BE _ _ (if(GU d==JE)=AN then _ else _) _ _ s;rw[if_neg (show ¬((GU d==JE)=AN) from CH)];refine AB (wpAny_pure (AB (NM ho hd ?_)));rw[if_neg 'S'];refine AB (wpAny_pure (AB (XG ho hd ?_)));rw[if_neg 'S'];refine wpAny_pure ?_;simp only[show ¬((i:Int)<0) from by lia,if_false,MN,Array.getElem?_eq_getElem hi];refine AB ?_;first
  |refine AB (IB k.typeIs (wpAny_pure (AB (PP k.typeIs ?_))))
  |refine AB (JY k.typeIs (wpAny_pure (AB (PP k.typeIs ?_))))
 show BE _ _ (setField (.ref it) 1 (FR ((i:Int)+1)) >>= _) _ _ s;refine AB (QH lP jG 'S' ?_);have k':(s.heap.update it (Obj.mapFields (·.setIfInBounds 1 (FR ((i:Int)+1))))).IsKeyIter it d (i+1) es.size ep :=
  {_,KI _ lP (ZZ (L6 jG _)),(hG ..).trans hci,by rw[L6 jG];simp[FR]}
 refine AB (C9 (AB (PP k'.typeIs ?_)));exact wpAny_pure (wpAny_pure {_,rfl,wpAny_pure (h _ k' (GT ..))})
theorem Sq{Q:Option AH->AQ->Prop}(hh:A.handled=AK)(k:s.heap.IsKeyIter it d i es.size ep)(r:RawD s.heap d es ep)(hi:es.size<=i) (h:∀h',Z3 it s.heap h'->Q AK { s with heap:=h' }):BE (A7 prog w) A (OV (.ref it)) Q E s:=by
 have{oi,lP,hci,jG}:=id k;have{o,ho,hc,hd}:=r.ex;refine AB (GP (C7 k.typeIs F.slot_dict_keyiterator_next (DH F.slot_dict_keyiterator_next k.typeIs F.entry_dict_keyiterator_next ?_ (F.args_dict_keyiterator_next_1 _))));refine AB (wpAny_pure (AB (AB ?_)));first
  |refine AB (IB k.typeIs (wpAny_pure (AB (QJ lP jG ?_))))
  |refine AB (JY k.typeIs (wpAny_pure (AB (QJ lP jG ?_))))
 show BE _ _ (if(GU d==JE)=AN then _ else _) _ _ s;rw[if_neg (show ¬((GU d==JE)=AN) from CH)];refine AB (wpAny_pure (AB (NM ho hd ?_)));rw[if_neg 'S'];refine AB (wpAny_pure (AB (XG ho hd ?_)));rw[if_neg 'S'];refine wpAny_pure ?_;simp only[show ¬((i:Int)<0) from by lia,if_false,MN,Array.getElem?_eq_none hi];refine AB ?_;first
  |refine AB (IB k.typeIs (wpAny_pure ?_))
  |refine AB (JY k.typeIs (wpAny_pure ?_))
 show BE _ _ (setField (.ref it) 0 .none >>= _) _ _ s;refine AB (QH lP jG 'S' ?_);show BE _ _ (newExc (.type "StopIteration") [] >>= _) _ _ _;refine AB ?_;refine AB (DR ?_ (by size_fits));refine AB (jK (by first|rfl|(simp only[YT];rfl)) (DR ?_ (by size_fits)));refine AB (wpAny_handled ?_);rw[hh];refine AB (wpAny_pure (wpAny_throw ?_));refine AB (V2 {_,AX _ rfl,rfl} YS ?_);exact wpAny_pure (h _ (((GT ..).extBut.push _).push _))
end
theorem qF(x:ObjOk P w H h a (.dT kvs)):∃es ep,RawD h a es ep/\es.size=kvs.length/\kvs.length<=sizeLine /\ ∀(i:Nat) (hi:i<es.size),∃(p:AT) (k:List Key),es[i].key=.ref p/\(kvs.map (·.1))[i]?=AA k/\H p=AA (.tup (k.map kV)):=by
 have{z,y,xs,r,o,es,ep,h1,h2,h3,h4,h5}:=x;have hl:es.size=xs.length:=by have:=congrArg MF h4;simpa using this
 have aN:=Paired.length r;refine{es,ep,{{o,h1,h2,h3},y},by lia,z,λi hi=>?_};have KN:∀{l:List (List Key×V)} {m:List (List Key×AT×AH)},Paired (λp q=>p.1=q.1/\H q.2.1=AA (.tup (p.1.map kV))/\RelV p.2 q.2.2) l m ->
   ∀(i:Nat) q,m[i]?=AA q->∃k,(l.map (·.1))[i]?=AA k/\H q.2.1=AA (.tup (k.map kV)):=by
  intro l m q;induction q with
  |nil=>intro i q e;simp at e
  |@cons p q ps qs hq t ih =>
   intro i z e;cases i with
   |zero=>simp at e;subst e;exact{p.1,by simp,hq.2.1}
   |succ i=>have{k,e1,e2}:=ih i z (by simpa using e);exact{k,by simpa using e1,e2}
 have TV:=AO hi (CU hl);have{k,e1,e2}:=KN r i xs[i] (by simp[TV]);have e3:es[i]=entryOfKey (OF (U5 P w)) xs[i]:=by
  have q:es.toList[i]?=AA es[i]:=by simp[hi]
  rw[h4] at q;simp[TV] at q;exact q.symm
 exact{xs[i].2.1,k,by rw[e3];rfl,e1,e2}
section
def Itk(d:AT)(o:IZ)(kvs:List (List Key×V)):It :={λi H=>i<kvs.length/\H d=AA (.frz o (.dT kvs)),λi H x H'=>H'=H/\∃p k,x=.ref p/\(kvs.map (·.1))[i]?=AA k/\H p=AA (.tup (k.map kV)),λi H=>kvs.length<=i/\H d=AA (.frz o (.dT kvs))}
theorem Vn{K:AC}(d it:AT)(o:IZ)(kvs:List (List Key×V))(es:Array cJ)(ep:Nat)(hd:o.data=.dict es ep)(hz:es.size=kvs.length) : Turn P w K tg (Itk d o kvs) [it] it (λi h=>h.IsKeyIter it d i es.size ep) where
 mem:=by simp
 obj:=λi h st b hb=>by
  have e:b=it:=by simpa using hb
  subst e;have{o,e,c,d}:=st;exact{o,e,λv z=>by rw[d] at z;cases z}
 keep:=λi h h' st k=>let ⟨o,e,r⟩:=st;{o,k it 'S' o e,r}
 item:=by intro X hP hw hK hc i AF s σ H E I hf st hg;subst hP hw hK;have{hi,hk}:=hg;have{ho,hx}:=I.hok d _ hk;have{aQ,lZ,KJ,e1,e2,e3}:=qF hx;have{o',q1,q2,q3}:=KJ.ex;rw[ho] at q1;cases q1;rw[hd] at q3;injection q3 with q4 q5;subst q4;subst q5;have{f0,f1,f2,f3,f4,f5}:=hf it 'S';refine Ug st KJ 'L' λh' CT sb=>?_;have{p,k,p1,p2,p3}:=e3 i 'L';have I1:=I.turned (t':=s.toks) (λb ob hb e=>(sb.2 b hb).trans e) f0 f1 f3 f4 f5;have{oi,e,c,dd}:=id CT;refine{_,rfl,sX e c dd 'D' {.ref p,H,I1,p1,{rfl,p,k,rfl,p2,p3},CT,λb hb=>(hf b hb).1}}
 done:=by intro X hP hw hK hc i AF s σ H E I hf st hg;subst hP hw hK;have{hi,hk}:=hg;have{ho,hx}:=I.hok d _ hk;have{aQ,lZ,KJ,e1,e2,e3}:=qF hx;have{o',q1,q2,q3}:=KJ.ex;rw[ho] at q1;cases q1;rw[hd] at q3;injection q3 with q4 q5;subst q4;subst q5;have{f0,f1,f2,f3,f4,f5}:=hf it 'S';exact Sq (I.ok.hd hc) st KJ (AW (CU hz) hi) λh' eb=>{rfl,I.turned (λb ob hb e=>eb b ob hb e) f0 f1 f3 f4 f5}
 self:=λ_ _ _ _ _ st h=>jJ st h
theorem Inv.freeze(I:Inv X AF σ H s)(ha:H a=AA (.dT kvs)) : ∃o,s.heap.get? a=AA o/\Inv X AF σ (D4 H a (.frz o (.dT kvs))) s:=by
 have x:=I.hok a _ ha;obtain⟨es,ep,⟨⟨o,h1,h2,h3⟩,_⟩,_⟩:=qF x;have kt:∀b ys,H b=AA (.tup ys)->b≠a:=λb ys e z=>by rw[z,ha] at e;cases e
 have ko:∀b y,H b=AA (.own y)->b≠a:=λb y e z=>by rw[z,ha] at e;cases e
 have kf:∀b ob u,H b=AA (.frz ob u)->b≠a:=λb ob u e z=>by rw[z,ha] at e;cases e
 have kb:∀b t ps,H b=AA (.tbl t ps)->b≠a:=λb t ps e z=>by rw[z,ha] at e;cases e
 have kn:∀b,H b=AK->b≠a:=λb e z=>by rw[z,ha] at e;cases e
 refine{o,h1,I.un {λb ob e _ _ _=>e,λb ob e _ _ _=>{ob.slots,e},λb ob e n _=>by rw[ET (kn b n)];exact n,λb ob e _=>{ob,e},λb ys e=>by rw[ET (kt b ys e)];exact e,λb ob u e=>by rw[ET (kf b ob u e)];exact e,λb t ps e=>{#[],by rw[ET (kb b t ps e),e];simp}} λb u e=>?_};by_cases hb:b=a
 .subst hb;rw[G9] at e;cases e;exact{h1,x.stay (λc v _ q=>q) (λc q=>by rw[ET (ko c _ q)];exact q) (λc ys q=>by rw[ET (kt c ys q)];exact q) λc ob x q=>by rw[ET (kf c ob _ q)];exact q}
 .rw[ET hb] at e;exact(I.hok b u e).stay (λc v _ q=>q) (λc q=>by rw[ET (ko c _ q)];exact q) (λc ys q=>by rw[ET (kt c ys q)];exact q) λc ob x q=>by rw[ET (kf c ob _ q)];exact q
theorem zVC:CallR X (.type "range") (λxs H Q=>∃j:Int,xs=[.int j]/\∀p,H p=AK->Q (.ref p) (D4 H p (.rng 0 j))):=by intro AF s σ H xs us Q I r h;have{j,rfl,q}:=h;have{u,rfl,ru}:=X7 r;have{t,rfl}:=ru;exact call_range_1 {.ref s.heap.objs.size,_,I.laid (o:=.rng 0 j) (λb o e=>AG _ e) (AL _) {_,_,_,AX _ rfl},rfl,q _ I.fresh}
theorem zQE:∀(n:Nat) (us:List AH),us.length=n->(∀(i:Nat) v,us[i]?=AA v->∃t,v=RM (i:Int) t)->Vals ((C4 n).map λi:Nat=>V.int (i:Int)) us:=by
 intro n;induction n with
 |zero=>intro us hl _;have:=List.length_eq_zero_iff.mp hl;subst this;exact .nil
 |succ n ih =>
  intro us hl h;have e:us=us.take n++[us[n]'(by lia)]:=by rw[<-BK 'L',J3 (CU hl)]
  rw[e,jV,EH];refine Vals.append (ih _ (by rw[EI];lia) λi v hv=>?_) (.cons ?_ .nil)
  .rw[List.getElem?_take] at hv;split at hv
   .exact h i v hv
   .cases hv
  .have{t,et}:=h n (us[n]'(by lia)) 'S';exact{t,et}
theorem zJZ(hc:X.calm=AN):CallR X (.type "list") (λxs H Q=>∃(p:AT) (n:Nat),xs=[.ref p]/\H p=AA (.rng 0 (n:Int))/\n<=1000/\∀l,H l=AK->Q (.ref l) (D4 H l (.lst ((C4 n).map λi:Nat=>V.int (i:Int))))):=by
 intro AF s σ H xs us Q I r h;have{p,n,rfl,hp,hn,q}:=h;have{u,rfl,ru}:=X7 r;cases ru;have{t,u,v,e}:=(I.hok p _ hp);refine call_list_range (I.ok.hd hc) (e) (small_one 'D' 'D' 'L' 'L') (by rw[rangeSize_one];first|lia|(split<;>lia)) (AW hn (DP _ _)) λh' tk acc c k hS hI=>?_;have{hz,hi}:=hI;have rv:Vals ((C4 n).map λi:Nat=>V.int i) acc.toList:=zQE n _ (by simpa using hz) λi v hv=>by have{t,et}:=hi i v (by rw[<-C2];exact hv);exact{t,by rw[et];simp}
 refine{.ref s.heap.objs.size,_,I.laid (o:=.lst ((C4 n).map λi:Nat=>V.int i)) k (AL _) {?_,acc.toList,c,rv,by simpa using hS},rfl,q _ I.fresh};rw[AJ,J5,GB];exact AW hn (DP _ _)
end
section
variable{E:AH->AQ->Prop}
theorem Vm{Q:Option IZ->AQ->Prop}(h:Q (s.heap.get? a) s):BE (A7 prog w) A (loadIfAlive a) Q E s:=λΓ p hΓ=>by show Sem.wp _ Γ (.loadIfAlive a .pure) _ _ p s;rw[Sem.wp_loadIfAlive];exact(wpAny_pure h:BE (A7 prog w) A (pure _) Q E s) Γ p hΓ
theorem qG{Q:AH->AQ->Prop}(k:s.heap.IsTupleIter it t i)(ht:s.heap.IsTuple t items)(hx:items[i]?=AA x) (h:∀h',h'.IsTupleIter it t (i+1)->DK it s.heap h'->Q x { s with heap:=h' }):BE (A7 prog w) A (DU (.ref it)) Q E s:=by have{o,ho,hc,hd}:=id k;have{ol,Mv,_,nl,Oa}:=ht;refine AB (C7 (name:=IW "__next__") k.typeIs F.slot_tuple_iterator_next (DH F.slot_tuple_iterator_next k.typeIs F.entry_tuple_iterator_next ?_ (F.args_tuple_iterator_next_1 _)));show BE _ _ (YU (.ref it) 0 >>= _) _ _ s;refine AB (DA ho hd (x:=.ref t) rfl ?_);rw[if_neg (show ¬((GU t==JE)=AN) from CH)];show BE _ _ (YU (.ref it) 1 >>= _) _ _ s;refine AB (DA ho hd (x:=.int i 0) rfl ?_);refine AB (HV Mv Oa ?_);simp only[MN,hx];refine AB (QH ho hd 'S' (wpAny_pure {x,rfl,wpAny_pure (h _ ?_ (GT ..))}));exact{_,KI _ ho (ZZ (L6 hd _)),(hG ..).trans hc,by rw[L6 hd];simp[FR]}
theorem Ac{Q:AH->AQ->Prop}(hh:A.handled=AK)(k:s.heap.IsTupleIter it t i)(ht:s.heap.IsTuple t items)(hx:items[i]?=AK) (h:∀h' e,Z3 it s.heap h'->(∃o,h'.get? e=AA o/\o.cls=.type "StopIteration")->E (.ref e) { s with heap:=h' }):BE (A7 prog w) A (DU (.ref it)) Q E s:=by
 have{o,ho,hc,hd}:=id k;have{ol,Mv,_,nl,Oa}:=ht;refine AB (C7 (name:=IW "__next__") k.typeIs F.slot_tuple_iterator_next (DH F.slot_tuple_iterator_next k.typeIs F.entry_tuple_iterator_next ?_ (F.args_tuple_iterator_next_1 _)));show BE _ _ (YU (.ref it) 0 >>= _) _ _ s;refine AB (DA ho hd (x:=.ref t) rfl ?_);rw[if_neg (show ¬((GU t==JE)=AN) from CH)];refine AB (DA ho hd rfl ?_);show BE _ _ (seqItems? (.ref t) >>= _) _ _ s;refine AB (HV Mv Oa ?_);simp only[MN,hx];refine AB (FL (AB (QH ho hd 'S' ?_)));refine AB ?_;refine AB (DR ?_ (by size_fits));refine AB (m:=YT _ _) (jK (a:=JE) (by first|rfl|(simp only[YT];rfl)) (DR ?_ (by size_fits)));refine AB (wpAny_handled ?_);first|rw[show A.in1.handled=AK from hh]|rw[hh]
 exact AB (wpAny_pure (wpAny_throw (h _ _ (((GT ..).extBut.push _).push _) {_,AX _ rfl,rfl})))
structure ZipSt(h:CM)(n l1 l2:AT)(i:Nat):Prop where
 zo:∃f0 f1,h.get? (n+4)=AA { cls:=.type "zip",dict:=AK,data:=.fields #[f0,.bool f1,.bool AD,.ref (n+2),.ref (n+3)],slots:=#[] }/\(f0=.none\/∃T:Nat,f0=FR T)
 ti:K7 h (n+2) (.ref n) (.ref (n+1))
 to:∃a b,K7 h (n+3) a b
 k1:h.IsTupleIter n l1 i
 k2:h.IsTupleIter (n+1) l2 i
theorem tN{h h':CM}(x:h.IsTupleIter it t i)(k:∀o,h.get? it=AA o->h'.get? it=AA o):h'.IsTupleIter it t i:=let ⟨o,e,r⟩:=x;{o,k o e,r}
theorem Qt{h h':CM}(x:h.IsTuple t CK)(k:∀o,h.get? t=AA o->h'.get? t=AA o):h'.IsTuple t CK:=let ⟨o,e,r⟩:=x;{o,k o e,r}
theorem ZipSt.keep{h h':CM}(z:ZipSt h n l1 l2 i)(k:∀b∈[n,n+1,n+2,n+3,n+4],∀o,h.get? b=AA o->h'.get? b=AA o):ZipSt h' n l1 l2 i:=by have{f0,f1,e,r}:=z.zo;have{a,b,to}:=z.to;exact{{f0,f1,k _ 'S' _ e,r},k _ 'S' _ z.ti,{a,b,k _ 'S' _ to},tN z.k1 (k _ 'S'),tN z.k2 (k _ 'S')}
def Fh(n:AT)(h h':CM):Prop:=∀c o,c≠n->c≠n+1->c≠n+3->c≠n+4->h.get? c=AA o->h'.get? c=AA o
end
section
variable{E:AH->AQ->Prop}
abbrev gI(h:CM)(n:AT)(f0:AH)(f1:Bool):Prop:=h.get? (n+4)=AA { cls:=.type "zip",dict:=AK,data:=.fields #[f0,.bool f1,.bool AD,.ref (n+2),.ref (n+3)],slots:=#[] }
def F0(f0:AH):Prop:=f0=.none\/∃T:Nat,f0=FR T
theorem kY(a:AT)(h:CM):DK a h h:={rfl,λ_ _=>rfl}
theorem Wi{Q:Bool->AQ->Prop}(hz:gI s.heap n f0 f1)(hf:F0 f0) (h:∀b h' f1,gI h' n f0 f1->DK (n+4) s.heap h'->Q b { s with heap:=h' }):BE (A7 prog w) A (HS (.ref (n+4))) Q E s:=by
 rcases hf with rfl|⟨T,rfl⟩
 .exact AB (DA hz rfl rfl (wpAny_pure (h AN s.heap f1 hz (kY _ _))))
 .refine AB (DA hz rfl rfl ?_);refine AB (Vm ?_);cases e:(s.heap.get? (T:Int).toNat).isNone with
  |true=>exact wpAny_pure (h AN s.heap f1 hz (kY _ _))
  |false =>
   refine AB (DA hz rfl rfl ?_);cases f1 with
   |true=>exact wpAny_pure (h AD s.heap AN hz (kY _ _))
   |false=>exact AB (CY hz 'S' λh' dX SY=>wpAny_pure (h AD h' AN dX SY))
def uP(n l:AT):Prop:=l≠n/\l≠n+1/\l≠n+3/\l≠n+4
theorem X8(k:h.IsTuple t CK)(hs:DK a h h')(ne:t≠a):h'.IsTuple t CK:=Qt k λo e=>hs.extBut _ _ ne e
theorem TR(k:h.IsTupleIter t l i)(hs:DK a h h')(ne:t≠a):h'.IsTupleIter t l i:=tN k λo e=>hs.extBut _ _ ne e
theorem aB{n j k:Nat}(h:j≠k):n+j≠n+k:=by lia
theorem gD(h:k≠0):n≠n+k:=by lia
theorem zVD{Q:Option AH->AQ->Prop}(z:ZipSt s.heap n l1 l2 i)(o1:uP n l1)(o2:uP n l2) (eI:s.heap.IsTuple l1 xs) (aN:s.heap.IsTuple l2 ys) (hx:xs[i]?=AA x) (hy:ys[i]?=AA y) (hQ:∀h',ZipSt h' n l1 l2 (i+1)->K7 h' s.heap.objs.size x y->h'.objs.size=s.heap.objs.size+1->Fh n s.heap h'->Q (AA (.ref s.heap.objs.size)) { s with heap:=h' }) : BE (A7 prog w) A (OV (.ref (n+4))) Q E s:=by
 have{f0,f1,hz,hf}:=z.zo;have{a,b,sJ}:=z.to;have sK:=z.ti;have k1:=z.k1;have k2:=z.k2;have{p1,p2,p3,p4}:=o1;have{q1,q2,q3,q4}:=o2;have hT:s.TypeIs (.ref (n+4)) "zip":={_,hz,rfl};have g7:n+3≠n+4:=aB 'D';have yE:n+2≠n+4:=aB 'D';have eV:n+1≠n+4:=aB 'D';have eW:n≠n+4:=gD 'D';have l7:n+1≠n+3:=aB 'D';have sN:n≠n+3:=gD 'D';have aR:n≠n+1:=gD 'D';have d23:n+2≠n+3:=aB 'D';have Dm:n+2≠n+1:=aB 'D';have Dn:n+2≠n:=(gD 'D').symm;refine AB (GP (C7 (name:=IW "__next__") hT F.slot_zip_next (DH F.slot_zip_next hT F.entry_zip_next ?_ (F.args_zip_next_1 _))));show BE _ _ (YU (.ref (n+4)) 2 >>= _) _ _ _;refine AB (DA hz rfl (x:=.bool AD) rfl ?_);show BE _ _ (YU (.ref (n+4)) 3 >>= _) _ _ _;refine AB (DA hz rfl (x:=.ref (n+2)) rfl ?_);refine AB (HV sK rfl ?_);show BE _ _ (HS (.ref (n+4)) >>= _) _ _ _;refine AB (Wi hz hf λfr h₀ g1 UW JD=>?_);have YL:K7 h₀ (n+3) a b:=JD.extBut _ _ g7 sJ;have SW:=TR k1 JD eW;have W6:=TR k2 JD eV;have SU:=X8 eI JD p4;have W2:=X8 aN JD q4;have hTI₀:K7 h₀ (n+2) (.ref n) (.ref (n+1)):=JD.extBut _ _ yE sK;cases fr with
 |true =>
  refine AB (FL ?_);refine AB (DA UW rfl (x:=.ref (n+3)) rfl ?_);refine AB (CY UW 'S' λIS QW KG=>?_);replace QW:gI IS n .ellipsis g1:=QW;refine AB ?_;refine AB (AB (N0 ?_));show BE _ _ (DU (.ref n) >>= _) _ _ _;refine AB (qG (TR SW KG eW) (X8 SU KG p4) hx λMB W7 HA=>wpAny_pure ?_);have S8:K7 MB (n+3) a b:=HA.extBut _ _ sN.symm (KG.extBut _ _ g7 YL);refine AB (HV S8 rfl ?_);refine AB (QG S8 λPJ VY LK=>?_);replace VY:K7 PJ (n+3) x b:=VY;refine AB (QI (wpAny_pure ?_));refine AB (AB (N0 ?_));show BE _ _ (DU (.ref (n+1)) >>= _) _ _ _;refine AB (qG (TR (TR (TR W6 KG eV) HA aR.symm) LK l7) (X8 (X8 (X8 W2 KG q4) HA q1) LK q3) hy λNS dO KZ=>wpAny_pure ?_);have eS:K7 NS (n+3) x b:=KZ.extBut _ _ l7.symm VY;refine AB (HV eS rfl ?_);refine AB (QG eS λMA VX QX=>?_);replace VX:K7 MA (n+3) x y:=VX;refine AB (QI (wpAny_pure (wpAny_pure ?_)));refine AB (HV VX rfl ?_);refine AB (MX ?_);have NK:MA.objs.size=s.heap.objs.size:=by rw[QX.1,KZ.1,LK.1,HA.1,KG.1,JD.1]
  have lJ:gI MA n .ellipsis g1:=QX.extBut _ _ g7.symm (KZ.extBut _ _ eV.symm (LK.extBut _ _ g7.symm (HA.extBut _ _ eW.symm QW)));have lR:∀c o,c≠n+4->c≠n+3->c≠n->c≠n+1->s.heap.get? c=AA o->MA.get? c=AA o:=λc o c1 c2 c3 c4 e =>
   QX.extBut _ _ c2 (KZ.extBut _ _ c4 (LK.extBut _ _ c2 (HA.extBut _ _ c3 (KG.extBut _ _ c1 (JD.extBut _ _ c1 e)))))
  have wP:MA.IsTupleIter n l1 (i+1):=TR (TR (TR W7 LK sN) KZ aR) QX sN;have wO:MA.IsTupleIter (n+1) l2 (i+1):=TR dO QX l7;have wS:n+4<MA.objs.size:=BB lJ;show BE _ _ (hZ (.ref (n+4)) (.ref MA.objs.size) >>= _) _ _ _;refine AB ?_;have wR:gI (MA.push { cls:=.type "tuple",data:=.seq #[x,y] }) n .ellipsis g1:=AG _ lJ;refine AB (CY wR 'S' λdR dU eC=>?_);replace dU:gI dR n (FR MA.objs.size) g1:=dU;refine CY dU 'S' λUB dS eA=>?_;replace dS:gI UB n (FR MA.objs.size) AD:=dS;have up:∀c o,c≠n+4->MA.get? c=AA o->UB.get? c=AA o:=λc o c1 e=>eA.extBut _ _ c1 (eC.extBut _ _ c1 (AG _ e));have lW:K7 UB MA.objs.size x y:=eA.extBut _ _ (FG wS) (eC.extBut _ _ (FG wS) (AX _ rfl));have hz8:UB.objs.size=MA.objs.size+1:=by rw[eA.1,eC.1,ES]
  have zs:ZipSt UB n l1 l2 (i+1):={{_,_,dS,.inr {_,rfl}},up _ _ yE (lR _ _ yE d23 Dn Dm sK),{x,y,up _ _ g7 VX},tN wP λo e=>up _ o eW e,tN wO λo e=>up _ o eV e};rw[NK] at lW hz8;refine wpAny_pure {_,rfl,wpAny_pure ?_};show Q (AA (.ref MA.objs.size)) _;rw[NK];exact hQ UB zs lW hz8 λc o c1 c2 c3 c4 e=>up c o c4 (lR c o c4 c3 c1 c2 e)
 |false =>
  refine AB ?_;rw[<-LG];refine AB (AB (C9 ?_));show BE _ _ (DU (.ref n) >>= _) _ _ _;refine AB (qG SW SU hx λMB W7 HA=>wpAny_pure (wpAny_pure ?_));refine AB (AB (C9 ?_));show BE _ _ (DU (.ref (n+1)) >>= _) _ _ _;refine AB (qG (TR W6 HA aR.symm) (X8 W2 HA q1) hy λNS dO KZ=>wpAny_pure (wpAny_pure (wpAny_pure ?_)));refine AB (MX (items:=[x,y]) ?_);have NK:NS.objs.size=s.heap.objs.size:=by rw[KZ.1,HA.1,JD.1]
  have eJ:∀c o,c≠n+4->c≠n->c≠n+1->s.heap.get? c=AA o->NS.get? c=AA o:=λc o c1 c3 c4 e=>KZ.extBut _ _ c4 (HA.extBut _ _ c3 (JD.extBut _ _ c1 e));have zs:ZipSt (NS.push { cls:=.type "tuple",data:=.seq #[x,y] }) n l1 l2 (i+1):=ZipSt.keep (h:=NS) {{f0,g1,KZ.extBut _ _ eV.symm (HA.extBut _ _ eW.symm UW),hf},eJ _ _ yE Dn Dm sK,{a,b,eJ _ _ g7 sN.symm l7.symm sJ},TR W7 KZ aR,dO}
   λb _ o e=>AG _ e
  refine wpAny_pure {_,rfl,wpAny_pure ?_};show Q (AA (.ref NS.objs.size)) _;have hP:K7 (NS.push { cls:=.type "tuple",data:=.seq #[x,y] }) NS.objs.size x y:=AX _ rfl;have SY:(NS.push { cls:=.type "tuple",data:=.seq #[x,y] }).objs.size=NS.objs.size+1:=ES ..;rw[NK] at hP SY ⊢;exact hQ _ zs hP SY λc o c1 c2 c3 c4 e=>AG _ (eJ c o c4 c1 c2 e)
theorem zZY{Q:Option AH->AQ->Prop}(hh:A.handled=AK)(z:ZipSt s.heap n l1 l2 i)(o1:uP n l1)(o2:uP n l2) (eI:s.heap.IsTuple l1 xs) (aN:s.heap.IsTuple l2 ys) (jF:xs[i]?=AK\/ys[i]?=AK) (hQ:∀h',Fh n s.heap h'->Q AK { s with heap:=h' }):BE (A7 prog w) A (OV (.ref (n+4))) Q E s:=by
 have{f0,f1,hz,hf}:=z.zo;have{a,b,sJ}:=z.to;have sK:=z.ti;have k1:=z.k1;have k2:=z.k2;have{p1,p2,p3,p4}:=o1;have{q1,q2,q3,q4}:=o2;have hT:s.TypeIs (.ref (n+4)) "zip":={_,hz,rfl};have g7:n+3≠n+4:=aB 'D';have yE:n+2≠n+4:=aB 'D';have eV:n+1≠n+4:=aB 'D';have eW:n≠n+4:=gD 'D';have l7:n+1≠n+3:=aB 'D';have sN:n≠n+3:=gD 'D';have aR:n≠n+1:=gD 'D';have fin:∀{h':CM} {e:AT},(∃o,h'.get? e=AA o/\o.cls=.type "StopIteration")->Fh n s.heap h' ->
   BE (A7 prog w) A (isInstance (.ref e) (.type "StopIteration") >>= λb=>if b=AN then pure AK else throw (.ref e)) Q E { s with heap:=h' }:=λ{h' e} he hk=>by
  have{o,ho,hc}:=he;exact AB (V2 (T:="StopIteration") (b:=AN) {o,ho,hc} YS (wpAny_pure (hQ _ hk)))
 refine AB (GP (C7 (name:=IW "__next__") hT F.slot_zip_next (DH F.slot_zip_next hT F.entry_zip_next ?_ (F.args_zip_next_1 _))));show BE _ _ (YU (.ref (n+4)) 2 >>= _) _ _ _;refine AB (DA hz rfl rfl ?_);refine AB (DA hz rfl rfl ?_);refine AB (HV sK rfl ?_);refine AB (Wi hz hf λfr h₀ g1 UW JD=>?_);have YL:K7 h₀ (n+3) a b:=JD.extBut _ _ g7 sJ;have SW:=TR k1 JD eW;have W6:=TR k2 JD eV;have SU:=X8 eI JD p4;have W2:=X8 aN JD q4;cases fr with
 |true =>
  refine AB (FL ?_);refine AB (DA UW rfl (x:=.ref (n+3)) rfl ?_);refine AB (CY UW 'S' λIS QW KG=>?_);replace QW:gI IS n .ellipsis g1:=QW;refine AB ?_;refine AB (AB (N0 ?_));show BE _ _ (DU (.ref n) >>= _) _ _ _;cases hx:xs[i]? with
  |none =>
   refine AB (Ac hh (TR SW KG eW) (X8 SU KG p4) hx λMB e HA he=>?_);have{oe,oV,xW}:=he;have lL:gI MB n .ellipsis g1:=HA _ _ eW.symm QW;have Nu:e≠n+4:=λx=>by subst x;rw[lL] at oV;cases oV;simp at xW
   exact CY lL 'S' λPJ _ LK=>fin {oe,LK.extBut _ _ Nu oV,xW} λc o c1 c2 c3 c4 x=>LK.extBut _ _ c4 (HA _ _ c1 (KG.extBut _ _ c4 (JD.extBut _ _ c4 x)))
  |some x =>
   have hy:ys[i]?=AK:=by rcases jF with h|h;rw[hx] at h;cases h;exact h
   refine AB (qG (TR SW KG eW) (X8 SU KG p4) hx λMB W7 HA=>wpAny_pure ?_);have S8:K7 MB (n+3) a b:=HA.extBut _ _ sN.symm (KG.extBut _ _ g7 YL);refine AB (HV S8 rfl ?_);refine AB (QG S8 λPJ VY LK=>?_);refine AB (QI (wpAny_pure ?_));refine AB (AB (N0 ?_));show BE _ _ (DU (.ref (n+1)) >>= _) _ _ _;refine AB (Ac hh (TR (TR (TR W6 KG eV) HA aR.symm) LK l7) (X8 (X8 (X8 W2 KG q4) HA q1) LK q3) hy λNS e KZ he=>?_);have{oe,oV,xW}:=he;have lK:gI NS n .ellipsis g1:=KZ _ _ eV.symm (LK.extBut _ _ g7.symm (HA.extBut _ _ eW.symm QW));have Nu:e≠n+4:=λx=>by subst x;rw[lK] at oV;cases oV;simp at xW
   exact CY lK 'S' λMA _ QX=>fin {oe,QX.extBut _ _ Nu oV,xW} λc o c1 c2 c3 c4 x=>QX.extBut _ _ c4 (KZ _ _ c2 (LK.extBut _ _ c3 (HA.extBut _ _ c1 (KG.extBut _ _ c4 (JD.extBut _ _ c4 x)))))
 |false =>
  refine AB ?_;rw[<-LG];refine AB (AB (C9 ?_));cases hx:xs[i]? with
  |none=>refine AB (Ac hh SW SU hx λMB e HA he=>?_);exact fin he λc o c1 c2 c3 c4 x=>HA _ _ c1 (JD.extBut _ _ c4 x)
  |some x =>
   have hy:ys[i]?=AK:=by rcases jF with h|h;rw[hx] at h;cases h;exact h
   refine AB (qG SW SU hx λMB W7 HA=>wpAny_pure (wpAny_pure ?_));refine AB (AB (C9 ?_));refine AB (Ac hh (TR W6 HA aR.symm) (X8 W2 HA q1) hy λNS e KZ he=>?_);exact fin he λc o c1 c2 c3 c4 x=>KZ _ _ c2 (HA.extBut _ _ c1 (JD.extBut _ _ c4 x))
end
section
theorem Inv.turnedL{fp:List AT}(I:Inv X AF σ H s)(hf:∀b∈fp,FpOk X AF H b)(k:∀b o,b∉fp->s.heap.get? b=AA o->h'.get? b=AA o):Inv X AF σ H { s with heap:=h',toks:=t' }:=by
 have wI:∀b u,H b=AA u->b∉fp:=λb u e z=>by rw[(hf b z).1] at e;cases e
 refine I.step (λb hb=>?_) (λb o _ _ hc e _=>k b o hc e) (λb o _ _ hc e _=>{o.slots,k b o hc e}) (λ_ _ _ _ n=>n)
  (λb o hc e=>{o,k b o hc e}) (λ_ _ e=>e) (λ_ _ _ e=>e) (λb t ps e=>{#[],by rw[e];simp}) (λm hm=>?_) (λb u e=>?_) I.bare
 .have{f0,f1,f2,f3,f4,f5}:=hf b hb;exact{f3,f1,f4,f5}
 .have{o,es,ep,ho,r}:=hm;exact{o,es,ep,k _ o (λz=>(hf _ z).2.1 rfl) ho,r}
 .refine(I.hok b u e).stay (λc v hc q=>k c v ?_ q) (λ_ q=>q) (λ_ _ q=>q) λ_ _ _ q=>q;rcases hc with z|z
  .rw[z];exact wI b u e
  .exact wI c _ z
theorem FpOk.off{fp:List AT}(I:Inv X AF σ H s)(hf:∀b∈fp,FpOk X AF H b)(h:SqT X.K H a xs):a∉fp:=λz=>by
 have{f0,f1,f2,f3,f4,f5}:=hf a z;rcases h with h|⟨o,CK,n,hk,_⟩
 .rcases h with h|⟨o,h⟩
  .rw[f0] at h;cases h
  .rw[f0] at h;cases h
 .have hb:=I.ok.mod.kin a o hk;rcases f3 with f3|f3
  .exact I.ok.noex a o hb f3
  .exact absurd (AO (BB hb) I.ok.bsz) (QO.mpr f3)
end
section
variable{E:AH->AQ->Prop}
theorem yD1 {Q : Unit → AQ → Prop} (z : ZipSt s.heap n l1 l2 i) (h : ∀ h', ZipSt h' n l1 l2 i → DK (n + 4) s.heap h' → Q () { s with heap := h' }) : BE (A7 prog w) A (HC tg (.ref (n + 4)) u) Q E s := by
  have hz := h s.heap z (kY _ _);obtain ⟨f0, f1, e, hf⟩ := id z.zo;cases tg <;> first
    | exact wpAny_pure hz
    | (cases u <;> first
        | exact wpAny_pure hz
        | (
          refine AB (wpAny_load e ?_);dsimp only;split
          · refine AB (FL ?_)
            refine CY e 'S' fun h' dX SY => h h' ?_ SY
            obtain ⟨a, b, sJ⟩ := z.to;exact {{.none, f1, dX, .inl rfl}, SY.extBut _ _ (aB 'D') z.ti, {a, b, SY.extBut _ _ (aB 'D') sJ}, TR z.k1 SY (gD 'D'), TR z.k2 SY (aB 'D')}
          · exact wpAny_pure hz))
theorem Uf{Q:AH->AQ->Prop}(z:ZipSt s.heap n l1 l2 i)(h:Q (.ref (n+4)) s):BE (A7 prog w) A (QK (.ref (n+4))) Q E s:=by have{f0,f1,e,hf}:=z.zo;have hT:s.TypeIs (.ref (n+4)) "zip":={_,e,rfl};refine UF hT F.slot_zip_iter (DH F.slot_zip_iter hT F.entry_zip_iter ?_ (F.args_zip_iter_1 _));exact wpAny_pure {_,rfl,"zip",_,hT,F.slot_zip_next.lookup,h}
noncomputable abbrev Ag(h:CM)(l1:AT):CM:=h.push { cls:=.type "tuple_iterator",data:=.fields #[.ref l1,.int 0 0] }
abbrev Af(h:CM)(l1 l2:AT):CM:=(Ag h l1).push { cls:=.type "tuple_iterator",data:=.fields #[.ref l2,.int 0 0] }
abbrev Ae(h:CM)(l1 l2:AT):CM:=(Af h l1 l2).push { cls:=.type "tuple",data:=.seq #[.ref h.objs.size,.ref (Ag h l1).objs.size] }
abbrev Ad(h:CM)(l1 l2:AT):CM:=(Ae h l1 l2).push { cls:=.type "tuple",data:=.seq #[.none,.none] }
abbrev mX(h:CM)(l1 l2:AT):CM:=(Ad h l1 l2).push { cls:=.type "zip",data:=.fields #[.none,.bool AD,.bool AD,.ref (Af h l1 l2).objs.size,.ref (Ae h l1 l2).objs.size] }
theorem zQF(l1 l2:AT)(xs ys:Array AH) : Meets (GG.«zip.__new__» {[.type "zip",.ref l1,.ref l2],[]}) (λ_ R s=>s.heap.IsTuple l1 xs/\s.heap.IsTuple l2 ys /\ R (.ok (.ret (.ref (Ad s.heap l1 l2).objs.size))) { s with heap:=mX s.heap l1 l2 }) :=
 .of_wp λprog w A R s h=>by
  have{hp,g,d,tk,os}:=s;have{eI,aN,h}:=h;have Mm:=sub_zip;have hL1:=eI;have hL2:Heap.IsTuple (Shared.heap {hp.push { cls:=.type "tuple_iterator",data:=.fields #[.ref l1,.int 0 0] },g,d,tk,os}) l2 ys:=Qt aN λo e=>AG _ e
  wp_walk using TF hL1,TF hL2
  exact{_,rfl,h}
theorem zR4{Q:AH->AQ->Prop}(eI:s.heap.IsTuple l1 xs)(aN:s.heap.IsTuple l2 ys) (h:∀h',ZipSt h' s.heap.objs.size l1 l2 0->h'.objs.size=s.heap.objs.size+5->(∀c o,s.heap.get? c=AA o->h'.get? c=AA o)->Q (.ref (s.heap.objs.size+4)) { s with heap:=h' }) : BE (A7 prog w) A (call (.type "zip") [.ref l1,.ref l2]) Q E s:=by
 refine callType_new F.called_zip 'D' (F.typeCall_zip_2 _ _) (F.newCall_zip_2 _ _) (λobj=>F.args_object_init_3 obj _ _) F.entry_zip_new
  (zQF l1 l2 xs ys) {eI,aN,?_}
 have z1:(Ag s.heap l1).objs.size=s.heap.objs.size+1:=ES ..;have z2:(Af s.heap l1 l2).objs.size=s.heap.objs.size+2:=by rw[ES,z1]
 have z3:(Ae s.heap l1 l2).objs.size=s.heap.objs.size+3:=by rw[ES,z2]
 have z4:(Ad s.heap l1 l2).objs.size=s.heap.objs.size+4:=by rw[ES,z3]
 have z5:(mX s.heap l1 l2).objs.size=s.heap.objs.size+5:=by rw[ES,z4]
 have g5:(mX s.heap l1 l2).get? (Ad s.heap l1 l2).objs.size=AA _:=AX _ rfl;have g4:(mX s.heap l1 l2).get? (Ae s.heap l1 l2).objs.size=AA _:=AG _ (AX _ rfl);have g3:(mX s.heap l1 l2).get? (Af s.heap l1 l2).objs.size=AA _:=AG _ (AG _ (AX _ rfl));have g2:(mX s.heap l1 l2).get? (Ag s.heap l1).objs.size=AA _:=AG _ (AG _ (AG _ (AX _ rfl)));have g1:(mX s.heap l1 l2).get? s.heap.objs.size=AA _:=AG _ (AG _ (AG _ (AG _ (AX _ rfl))));show _/\_;rw[z2,z3,z4] at g5;rw[z1,z2] at g3;rw[z3] at g4;rw[z1] at g2;rw[z4];exact{{_,g5,rfl},h _ {{.none,AD,g5,.inl rfl},g3,{_,_,g4},{_,g1,rfl,rfl},{_,g2,rfl,rfl}} z5 λc o x =>
  AG _ (AG _ (AG _ (AG _ (AG _ x))))}
end
def Itz(K:AC)(a b:AT):It :={λi H=>∃xs ys x y,SqT K H a xs/\SqT K H b ys/\xs[i]?=AA x/\ys[i]?=AA y,λi H v H'=>∃p x y,v=.ref p/\H p=AK/\H'=D4 H p (.tup [x,y])/\(∀xs,SqT K H a xs->xs[i]?=AA x)/\(∀ys,SqT K H b ys->ys[i]?=AA y),λi H=>∃xs ys,SqT K H a xs/\SqT K H b ys/\(xs.length<=i\/ys.length<=i)}
abbrev lB(n:AT):List AT:=[n,n+1,n+2,n+3,n+4]
theorem lt5(h:c∈[n,n+1,n+2,n+3,n+4])(JB:n+4<S):c<S:=by simp only[A8,CG,or_false] at h;lia
theorem Zu(h:c∈[n,n+1,n+2,n+3,n+4]):n<=c:=by simp only[A8,CG,or_false] at h;lia
theorem rJ(h:a∉lB n):uP n a:=by simp only[A8,CG,or_false,not_or] at h;exact{h.1,h.2.1,h.2.2.2.1,h.2.2.2.2}
theorem zVE{K:AC}(a b n:AT):Turn P w K tg (Itz K a b) (lB n) (n+4) (λi h=>ZipSt h n a b i) where
 mem:=by simp
 obj:=λi h st c hc=>by
  have{f0,f1,e,_}:=st.zo;have{u,v,e3}:=st.to;have{o0,e0,_,d0}:=st.k1;have{o1,e1,_,d1}:=st.k2;simp only[lB,A8,CG,or_false] at hc;rcases hc with rfl|rfl|rfl|rfl|rfl
  .exact{_,e0,λv z=>by rw[d0] at z;cases z}
  .exact{_,e1,λv z=>by rw[d1] at z;cases z}
  .exact{_,st.ti,λv z=>by have z':mH _ _=hV v:=z;cases z'}
  .exact{_,e3,λv z=>by have z':mH _ _=hV v:=z;cases z'}
  .exact{_,e,λv z=>by have z':=z;cases z'}
 keep:=λi h h' st k=>st.keep k
 item:=by
  intro X hP hw hK hc i AF s σ H E I hf st hg;subst hP hw hK;have{xs,ys,x,y,XX,bX,hx,hy}:=hg;have{oG,vP,p1,lM}:=I.tuple XX;have{MT,Ct,p2,ZN}:=I.tuple bX;have{u1,uV,ru1}:=vP.get hx;have{u2,hu2,ru2}:=Ct.get hy;refine zVD st (rJ (FpOk.off I hf XX)) (rJ (FpOk.off I hf bX)) (p1) (p2) (by simpa using uV) (by simpa using hu2) λh' CT hp NK hk=>?_;refine{_,rfl,yD1 CT λh2 st2 MU=>?_};have{f0,f1,e4,_}:=id st.zo;have JB:∀c∈lB n,c<s.heap.objs.size:=λc hc=>lt5 hc (BB e4);have nin:s.heap.objs.size∉lB n:=λz=>GJ _ (JB _ z);have I1:Inv X AF σ (D4 H s.heap.objs.size (.tup [x,y])) { s with heap:=s.heap.push { cls:=.type "tuple",data:=.seq #[u1,u2] } } :=
   I.laid (t':=s.toks) (λb u e=>AG _ e) (AL _) {by show 2<=sizeLine;decide,[u1,u2],.cons ru1 (.cons ru2 .nil),{_,AX _ rfl,rfl,rfl,0,rfl}}
  have xQ:∀c∈lB n,FpOk X AF (D4 H s.heap.objs.size (.tup [x,y])) c:=λc hc=>{by rw[ET (CF (JB c hc))];exact(hf c hc).1,(hf c hc).2};have n4:n+4∈lB n:=by simp
  have I2:Inv X AF σ (D4 H s.heap.objs.size (.tup [x,y])) { s with heap:=h2 }:=I1.turnedL (t':=s.toks) xQ λc o hc e=>by
   have c4:c≠n+4:=λz=>hc (by rw[z];exact n4);refine MU.extBut _ _ c4 ?_;by_cases YK:c=s.heap.objs.size
   .subst YK;rw[AX _ rfl] at e;cases e;exact hp
   .have e':s.heap.get? c=AA o:=by rw[MI _ _ _ YK] at e;exact e
    have{q0,q1,q3,q4}:=rJ hc;exact hk c o q0 q1 q3 q4 e'
  exact{.ref s.heap.objs.size,_,I2,rfl,{_,x,y,rfl,I.fresh,rfl,λzs hz=>by rw[I.tuple_inj hz XX];exact hx,λzs hz=>by rw[I.tuple_inj hz bX];exact hy},st2,λc hc=>(xQ c hc).1}
 done:=by intro X hP hw hK hc i AF s σ H E I hf st hg;subst hP hw hK;have{xs,ys,XX,bX,hx}:=hg;have{oG,vP,p1,lM}:=I.tuple XX;have{MT,Ct,p2,ZN}:=I.tuple bX;have l1:=vP.length;have l2:=Ct.length;refine zZY (I.ok.hd hc) st (rJ (FpOk.off I hf XX)) (rJ (FpOk.off I hf bX)) (p1) (p2) (hx.imp (λh=>by simp;lia) (λh=>by simp;lia)) λh' hk=>{rfl,I.turnedL hf λc o hc e=>?_};have{q0,q1,q3,q4}:=rJ hc;exact hk c o q0 q1 q3 q4 e
 self:=λ_ _ _ _ _ st h=>Uf st h
section
def yKC(K:AC)(ta:TA):TI:=λσ H R=>ta σ H λvs H1=>∃a b,vs=[.ref a,.ref b]/\(∃xs,SqT K H1 a xs)/\(∃ys,SqT K H1 b ys)/\R (Itz K a b) H1
theorem yD2{a b:D0}(hg:Gl X "zip")(hm:X.mg "zip"=AK)(ha:PA X [a,b] ta)(hs:AM [a,b] X.env=[(AD,eval a X.env),(AD,eval b X.env)]:=by rfl)(MU:AM [b] X.env=[(AD,eval b X.env)]:=by rfl) : PI X tg (.Call (.Name "zip" p) [a,b] [] pos) (yKC X.K ta):=by
 intro AF s σ H R I h;refine Call_ (kP I hg hm (u:=.type "zip") (by decide +kernel) (FV (G6 (ha pos AF s σ H _ I h) λus s1 ⟨vs,H1,I1,r1,q1⟩=>?_) (by rw[hs,MU]) (by rw[MU];rfl)));obtain⟨c,d,e,⟨xs,XX⟩,⟨ys,bX⟩,q⟩:=q1;subst e;cases r1 with
 |cons r rr =>
  cases rr with
  |cons r' rr=>cases rr;cases r;cases r';have{oG,vP,p1,lM}:=I1.tuple XX;have{MT,Ct,p2,ZN}:=I1.tuple bX;refine zR4 (p1) (p2) λh' st NK k=>?_;refine Uf st ?_;refine{s1.heap.objs.size+4,lB s1.heap.objs.size,_,_,H1,rfl,I1.kept k,zVE c d _,st,λb hb=>?_,q};exact I1.fpOk (Zu hb) (I1.hok.fresh (Zu hb))
end
mutual
inductive DV(K:AC)(H:Hp):V->JT->Prop
 |non:DV K H .non .none
 |bl (b:Bool):DV K H (.bl b) (.bool b)
 |int (i:Int):DV K H (.int i) (.int i)
 |str (x:CD):K9 (.str x)=AN->DV K H (.str x) (.str x)
 |tup {a:AT} {xs:List V} {ds:List JT}:SqT K H a xs->DVs K H xs ds->DV K H (.ref a) (.tuple ds)
 |lst {a:AT} {xs:List V} {ds:List JT}:SqL K H a xs->DVs K H xs ds->DV K H (.ref a) (.list ds)
inductive DVs(K:AC)(H:Hp):List V->List JT->Prop
 |nil:DVs K H [] []
 |cons {x:V} {d:JT} {xs:List V} {ds:List JT}:DV K H x d->DVs K H xs ds->DVs K H (x::xs) (d::ds)
end
theorem DV.ind{K:AC}{P:V->JT->Prop}{Q:List V->List JT->Prop}(h1:P .non .none)(h2:∀b,P (.bl b) (.bool b))(h3:∀i,P (.int i) (.int i))(h4:∀x,K9 (.str x)=AN->P (.str x) (.str x)) (h5:∀{a xs ds},SqT K H a xs->DVs K H xs ds->Q xs ds->P (.ref a) (.tuple ds)) (h6:∀{a xs ds},SqL K H a xs->DVs K H xs ds->Q xs ds->P (.ref a) (.list ds)) (q1:Q [] []) (q2:∀{x d xs ds},DV K H x d->DVs K H xs ds->P x d->Q xs ds->Q (x::xs) (d::ds)):(∀{v d},DV K H v d->P v d)/\∀{v d},DVs K H v d->Q v d :={λh=>DV.rec h1 h2 h3 h4 h5 h6 q1 q2 h,λh=>DVs.rec h1 h2 h3 h4 h5 h6 q1 q2 h}
theorem pA1{K:AC}:(∀{v d},DV K H v d->d.canLay0=AN)/\∀{v d},DVs K H v d->GV d=AN :=DV.ind rfl (λ_=>rfl) (λ_=>rfl) (λ_ h=>h) (λ_ _ h=>by rw[K9];exact h) (λ_ _ h=>by rw[K9];exact h) rfl (λ_ _ h t=>by rw[GV,h,t];rfl)
theorem DV.can{K:AC}(h:DV K H v d):d.canLay0=AN:=pA1.1 h
theorem DVs.can{K:AC}(h:DVs K H v d):GV d=AN:=pA1.2 h
section
theorem pA2(I:Inv X AF σ H s):(∀{v d},DV X.K H v d->∀u,RelV v u->∃as,jQ s.heap u d as)/\∀{v d},DVs X.K H v d->∀u,Vals v u->∃as,jP s.heap u d as:=by
 refine DV.ind ?_ ?_ ?_ ?_ ?_ ?_ ?_ ?_
 .intro _ r;cases r;exact{_,.none}
 .intro b _ r;cases r;exact{_,.bool b}
 .intro i _ r;have{t,rfl}:=r;exact{_,.int i t}
 .intro x _ _ r;have{t,rfl}:=r;exact{_,.str x t}
 .intro a xs ds hq _ ih _ r;cases r;have{CK,rv,zz',hz}:=I.tuple hq;have{o,ho,hc,n,hd}:=zz';have{as,ra}:=ih _ rv;exact{as,.tuple ho hc hd (by simpa using ra)}
 .intro a xs ds hq _ ih _ r;cases r;have{CK,rv,pl,hz}:=I.list hq;have{o,ho,hc,n,hd}:=pl.isList;have{as,ra}:=ih _ rv;exact{_,.list ho hc hd (by simpa using ra)}
 .intro _ r;cases r;exact{_,.nil}
 .intro x d xs ds _ _ h t _ r;cases r with
  |cons r1 r2=>have{as,ra}:=h _ r1;have{bs,rb}:=t _ r2;exact{_,.cons ra rb}
theorem DV.reads(I:Inv X AF σ H s)(h:DV X.K H v d)(r:RelV v u):∃as,jQ s.heap u d as:=(pA2 I).1 h u r
theorem DVs.reads(I:Inv X AF σ H s)(h:DVs X.K H v d)(r:Vals v u):∃as,jP s.heap u d as:=(pA2 I).2 h u r
def Bu(K:AC)(dL:Bool):R2:=λx y H Q=>∃d e,DV K H x d/\DV K H y e/\min d.depth e.depth<=60/\Q (.bl (if dL then !EJ d e else EJ d e)) H
theorem Qs(hu:X.A.units+64<GZ):OpR X (EV .Eq) (Bu X.K AD):=by intro AF s σ H x y v u Q I rx ry h;have{d,e,hd,he,hm,q}:=h;have{as,ra}:=hd.reads I rx;have{bs,rb}:=he.reads I ry;exact SeqAt.compareEq_reads ra rb hd.can he.can 'L' {.bl _,H,I,rfl,q}
theorem yD3(hu:X.A.units+64<GZ):OpR X (EV .NotEq) (Bu X.K AN):=by intro AF s σ H x y v u Q I rx ry h;have{d,e,hd,he,hm,q}:=h;have{as,ra}:=hd.reads I rx;have{bs,rb}:=he.reads I ry;exact SeqAt.compareNe_reads ra rb hd.can he.can 'L' {.bl _,H,I,rfl,q}
open Classical in
noncomputable def YC(h:CM)(e:JT)(y:AH):Bool:=if z:∃(d:JT) (as:List AT),jQ h y d as then EJ z.choose e else AD
theorem tM(r:jQ h y d as):YC h e y=EJ d e:=by have z:∃d as,jQ h y d as:={d,as,r};unfold YC;rw[dif_pos z];have{as',r'}:=z.choose_spec;rw[(jQ.unique r _ _ r').1]
theorem Bc:∀{us:List AH} {ds:List JT} {as:List AT},jP h us ds as->∀u∈us,∃d∈ds,∃bs,jQ h u d bs:=by
 intro us;induction us with
 |nil=>intro _ _ _ u hu;cases hu
 |cons v us ih =>
  intro ds as h u hu;cases h with
  |cons r t =>
  rcases A8.mp hu with rfl|hu
  .exact{_,A2,_,r}
  .have{d,hd,bs,q}:=ih t u hu;exact{d,A5 _ hd,bs,q}
theorem Bb:∀{us:List AH} {ds:List JT} {as:List AT},jP h us ds as->us.any (YC h e)=ds.any λd=>EJ d e:=by
 intro us;induction us with
 |nil=>intro ds as h;cases h;rfl
 |cons v us ih =>
  intro ds as h;cases h with
  |cons r t=>rw[FT,FT,tM r,ih t]
theorem tW:∀{ds:List JT},GV ds=AN->∀d∈ds,d.canLay0=AN
 |[],_,d,hd=>by cases hd
 |x::ds,h,d,hd=>by
  rw[GV,EY] at h;rcases A8.mp hd with rfl|hd
  .exact h.1
  .exact tW h.2 d hd
def rH(K:AC)(dL:Bool):R2:=λx y H Q=>∃p xs ds e,y=.ref p/\(SqL K H p xs\/SqT K H p xs)/\DVs K H xs ds/\DV K H x e/\e.depth<=60 /\ Q (.bl (if dL then !(ds.any λd=>EJ d e) else ds.any λd=>EJ d e)) H
theorem Qr(hu:X.A.units+64<GZ):OpR X (EV .In) (rH X.K AD):=by
 intro AF s σ H x y v u Q I rx ry h;have{p,xs,ds,e,rfl,hq,YJ,hx,hm,q}:=h;cases ry;have{bs,rb}:=hx.reads I rx;have uV:X.A.in1.units+61<GZ:=by
  have:X.A.in1.units<=X.A.units+1:=by first|exact AL _|simp[Around.in1]
  lia
 rcases hq with hq|hq
 .have{CK,r,pl,hz}:=I.list hq;have{as,ra}:=YJ.reads I r;refine SeqAt.in_listAt (YC s.heap e) pl.isList (λw hw=>?_) {.bl _,H,I,rfl,?_}
  .have{d,hd,cs,rd}:=Bc ra w (by simpa using hw);rw[tM rd];exact M0 d e _ s w v cs bs rd rb (tW YJ.can d hd) hx.can 'L'
  .rw[show CK.toArray.any (YC s.heap e)=CK.any (YC s.heap e) by simp,Bb ra];exact q
 .have{CK,r,pl,hz}:=I.tuple hq;have{as,ra}:=YJ.reads I r;refine SeqAt.in_tupleAt (YC s.heap e) pl (λw hw=>?_) {.bl _,H,I,rfl,?_}
  .have{d,hd,cs,rd}:=Bc ra w (by simpa using hw);rw[tM rd];exact M0 d e _ s w v cs bs rd rb (tW YJ.can d hd) hx.can 'L'
  .rw[show CK.toArray.any (YC s.heap e)=CK.any (YC s.heap e) by simp,Bb ra];exact q
theorem zR5(hu:X.A.units+64<GZ):OpR X (EV .NotIn) (rH X.K AN):=by
 intro AF s σ H x y v u Q I rx ry h;have{p,xs,ds,e,rfl,hq,YJ,hx,hm,q}:=h;cases ry;have{bs,rb}:=hx.reads I rx;have uV:X.A.in1.units+61<GZ:=by
  have:X.A.in1.units<=X.A.units+1:=by first|exact AL _|simp[Around.in1]
  lia
 rcases hq with hq|hq
 .have{CK,r,pl,hz}:=I.list hq;have{as,ra}:=YJ.reads I r;refine SeqAt.notIn_listAt (YC s.heap e) pl.isList (λw hw=>?_) {.bl _,H,I,rfl,?_}
  .have{d,hd,cs,rd}:=Bc ra w (by simpa using hw);rw[tM rd];exact M0 d e _ s w v cs bs rd rb (tW YJ.can d hd) hx.can 'L'
  .rw[show CK.toArray.any (YC s.heap e)=CK.any (YC s.heap e) by simp,Bb ra];exact q
 .have{CK,r,pl,hz}:=I.tuple hq;have{as,ra}:=YJ.reads I r;refine SeqAt.notIn_tupleAt (YC s.heap e) pl (λw hw=>?_) {.bl _,H,I,rfl,?_}
  .have{d,hd,cs,rd}:=Bc ra w (by simpa using hw);rw[tM rd];exact M0 d e _ s w v cs bs rd rb (tW YJ.can d hd) hx.can 'L'
  .rw[show CK.toArray.any (YC s.heap e)=CK.any (YC s.heap e) by simp,Bb ra];exact q
theorem DVs.ints{K:AC}:∀ns:List Int,DVs K H (ns.map V.int) (ns.map ZX)
 |[]=>.nil
 |n::ns=>.cons (.int n) (DVs.ints ns)
theorem Gq(x:Int):∀ns:List Int,((ns.map ZX).any λd=>EJ d (.int x))=decide (x∈ns)
 |[]=>rfl
 |n::ns=>by
  rw[AV,FT,Gq x ns,EJ];by_cases h:n=x
  .subst h;simp
  .have h':¬x=n:=λz=>h z.symm;simp[h,h']
end
def Gr(H H':Hp):Prop:=∀b u,H b=AA u->H' b=AA u
theorem Gr.trans(g:Gr H H1)(g':Gr H1 H2):Gr H H2:=λb u e=>g' b u (g b u e)
theorem Gr.new(hp:H p=AK):Gr H (D4 H p o):=λb u e=>by rw[ET (U6 e hp)];exact e
theorem SqT.gr{K:AC}(h:SqT K H a xs)(g:Gr H H'):SqT K H' a xs:=by
 rcases h with h|h
 .rcases h with h|⟨o,h⟩
  .exact .inl (.inl (g _ _ h))
  .exact .inl (.inr {o,g _ _ h})
 .exact .inr h
section
variable{E:AH->AQ->Prop}
theorem zE2{lo hi:Option Int}{Q:AH->AQ->Prop}(ht:SI s.heap t items)(hs:s.heap.IsSliceOf sl vl vu .none)(pl:QP vl lo)(pu:QP vu hi) (hw:HT.sIx items.size 0 lo=0/\HT.sIx items.size items.size hi=items.size) (h:Q (.ref t) s):BE (A7 prog w) A (QZ (.ref t) (.ref sl)) Q E s:=by
 have{os,oU,YK,YJ}:=id hs;have Oh:s.TypeIs (.ref sl) "slice":={os,oU,YK};unfold QZ
 try with_reducible refine C9 ?_
 first|refine AB (wpAny_pure ?_)|skip
 refine AB (wpAny_sequenceKey ht.typeIs 'D' ?_)
 refine AB (C7 ht.typeIs EA
  (DH EA ht.typeIs l9 ?_ (args_tuple_getitem _ _)))
 show BE _ _ (PU (.ref t) >>= _) _ _ s;refine AB (tupleItemsOf_ ht ?_);refine AB (eZ Oh ?_);rw[if_pos 'D'];refine AB (HT.sliceApplied_gen hs pl pu ?_);rw[hw.1,hw.2];have e:(((0:Nat):Int)==0&&(1:Int)==1&&(items.size-0)==items.size)=AN:=by simp
 show BE _ _ (if(((0:Nat):Int)==0&&1==1&&(items.size-0)==items.size)=AN then _ else _) _ _ s;rw[if_pos e];refine AB (AB (eZ ht.typeIs (wpAny_pure ?_)));rw[if_pos 'D'];exact AB (FL (wpAny_pure {_,rfl,wpAny_pure h}))
theorem zZZ{Q:AH->AQ->Prop}(ht:SI s.heap t vs.toArray)(hb:SI s.heap b ws.toArray) (h0:vs=[]->Q (.ref b) s) (h1:vs≠[]->ws=[]->Q (.ref t) s) (h2:vs≠[]->ws≠[]->Q (.ref s.heap.objs.size) { s with heap:=s.heap.push { cls:=.type "tuple",data:=.seq (vs++ws).toArray } }) (NK:vs.length+ws.length<=sizeLine):BE (A7 prog w) A (HE .Add (.ref t) (.ref b)) Q E s:=by
 by_cases hv:vs=[]
 .have{zz',ho,hc,n,hd}:=id ht;have{cls,dd,data,sl}:=zz';have{zz',ZP,gU,n2,jH}:=id hb;have{yI,l6,data2,lF}:=zz';subst hc hd gU jH;exact UI {_,ho,rfl} {_,ZP,rfl} V4 aW M3 ME (LZ _ _)
   (tuple_addW0 t b vs.toArray ws.toArray n n2 dd l6 sl lF (by simp[hv])) {ho,ZP,h0 hv}
 .exact HT.cat_tup ht hb hv (h1 hv) (h2 hv) NK
end
section
theorem zR6{lo hi:Option Int}(h:HT.sIx xs.length 0 lo=0/\HT.sIx xs.length xs.length hi=xs.length):bG xs lo hi=xs:=by unfold bG;rw[h.1,h.2,OP,Nat.sub_zero,DE]
end
section
theorem zVF{E:AH->AQ->Prop}{Q:AH->AQ->Prop}(I:Inv X AF σ H s)(ha:SqT X.K H a xs) (e:BR X.K (.type "tuple") c=AA b) (h:∀tk,Q (.bool b) { s with toks:=tk }):BE (A7 X.prog X.w) A (call (.builtin "isinstance") [.ref a,c]) Q E s:=by have{CK,r,p,_}:=I.tuple ha;have{o,h1,h2,_}:=p;exact DD Y3 I.kIn {o,h1,h2} e (λz=>nomatch z) h
theorem zZ0{bs:List Bool}:∀{us:List AH},Vals (bs.map V.bl) us->us=bs.map LC:=by
 induction bs with
 |nil=>intro us r;rw[NN] at r;cases r;rfl
 |cons b bs ih =>
  intro us r;rw[AV] at r;cases r with
  |cons r1 r2=>cases r1;rw[ih r2];rfl
theorem zR7(bs:List Bool):(C4 bs.length).all (λi=>bs.getD i AD)=bs.all id:=by
 rw[Bool.eq_iff_iff,SH,SH];constructor
 .intro h b hb;have{i,hi,e}:=Z0.mp hb;have:=h i (GL.mpr hi);rw[LP,BP hi] at this;rw[<-e];exact this
 .intro h i hi;have hi:=GL.mp hi;rw[LP,BP hi];exact h _ (FQ hi)
theorem zVG(bs:List Bool):TruthOf prog w A (λi v=>(bs.map LC).toArray[i]?=AA v) (λi=>bs.getD i AD):=by
 intro i v s Q E hP hQ;have hP:(bs.map LC)[i]?=AA v:=by simpa using hP
 rw[AU] at hP;cases e:bs[i]? with
 |none=>rw[e] at hP;cases hP
 |some b =>
  rw[e] at hP;cases hP;refine IU ?_;have e3:bs.getD i AD=b:=by rw[LP,e];rfl
  have hQ:Q (bs.getD i AD) s:=hQ;rw[e3] at hQ;exact hQ
def Xq(K:AC):List V->Hp->VK->Prop:=λxs H Q=>∃(p:AT) (bs:List Bool),xs=[.ref p]/\SqL K H p (bs.map V.bl)/\Q (.bl (bs.all id)) H
theorem zVH(hc:X.calm=AN):CallR X (.builtin "all") (Xq X.K):=by
 intro AF s σ H xs us Q I r h;have{p,bs,rfl,hp,q}:=h;have{u,rfl,ru}:=X7 r;cases ru;have{CK,rv,pl,hz}:=I.list hp;have e:=zZ0 rv;subst e;have JB:p<s.heap.objs.size:=by have{o,ho,_}:=pl.isList;exact BB ho
 refine call_all_walk (KO pl.isList ?_);refine{_,_,_,_,_,_,λi=>bs.getD i AD,rfl,Walks.list (by have:=I.ok.hd hc;simp[this]) _ p (CF JB) (bs.map LC).toArray,{{_,AX _ rfl,rfl,rfl},pl.isList.push _},zVG bs,λh' tk hk=>?_};have e2:(C4 (bs.map LC).toArray.size).all (λi=>bs.getD i AD)=bs.all id:=by simpa using zR7 bs
 refine{.bl (bs.all id),H,I.kept λb o e=>hk b o ?_ (AG _ e),by rw[e2];rfl,q};simp only[A1];exact CF (BB e)
def fW(ns:List Int):List Int:=firstMet (λi=>ns.getD i 0) ns.length
theorem zR8:CallR X (.builtin "len") (λxs H Q=>∃a S n,xs=[V.ref a]/\H a=AA (.set S n)/\n<5000/\Q (.int n) H):=by intro AF s σ H xs us Q I r h;have{a,S,n,rfl,ha,hn,q}:=h;have{u,rfl,ru}:=X7 r;cases ru;have hS:=I.hok a _ ha;have{o,ho,hso}:=hS.objOf;have{hex,es,ep,t,hd,_,_,xC,hf}:=hso;subst xC;exact call_len_set ho hex hd hf 'L' {.int es.size,H,I.tok _,{_,rfl},q}
end
theorem zVI(ns:List Int):∀acc:List Int,(ns.foldl MY acc).length<=acc.length+ns.length:=by
 induction ns with
 |nil=>intro acc;exact AL _
 |cons n ns ih=>intro acc;have:=ih (MY acc n);rw[KW,BA];rw[step_length] at this;split at this<;>lia
theorem zVJ(ns:List Int):∀acc:List Int,(ns.foldl MY acc).length=acc.length+ns.length↔ns.Nodup/\∀x∈ns,x∉acc:=by
 induction ns with
 |nil=>intro acc;simp
 |cons n ns ih =>
  intro acc;rw[KW,BA];have hs:=step_length acc n;by_cases h:acc.any (·==n)=AN
  .rw[if_pos h] at hs;have SZ:=zVI ns (MY acc n);have hm:n∈acc:=by simpa using h
   constructor
   .intro e;lia
   .intro e;exact absurd hm (e.2 n A2)
  .rw[if_neg h] at hs;have hm:n∉acc:=by simpa using h
   have oX:∀x,x∈MY acc n↔x∈acc\/x=n:=λx=>by unfold MY;rw[if_neg h];simp
   have KN:=ih (MY acc n);rw[hs] at KN;rw[show acc.length+(ns.length+1)=acc.length+1+ns.length by lia,KN,D8];constructor
   .intro zz';have{h1,h2}:=zz';refine{{λz=>h2 n z ((oX n).mpr (.inr rfl)),h1},λx hx=>?_};rcases A8.mp hx with rfl|hx
    .exact hm
    .exact λz=>h2 x hx ((oX x).mpr (.inl z))
   .rintro⟨⟨h0,h1⟩,h2⟩;refine{h1,λx hx z=>?_};rcases(oX x).mp z with z|z
    .exact h2 x (A5 _ hx) z
    .exact h0 (z▸hx)
theorem zQG(ns:List Int):(C4 ns.length).map (λi=>ns.getD i 0)=ns:=by
 apply Q7;intro i;by_cases h:i<ns.length
 .simp[h]
 .simp[h]
theorem zVK(ns:List Int):(fW ns).length<=ns.length:=firstMet_length_le _ _
theorem zVL(ns:List Int):(fW ns).length=ns.length↔ns.Nodup:=by unfold fW firstMet;rw[zQG];have:=zVJ ns [];simpa using this
section
variable{E:AH->AQ->Prop}
abbrev fR(h:CM)(n:AT)(f0:AH)(f1:Bool)(i:Int)(II:AH):Prop :=h.get? (n+1)=AA { cls:=.type "enumerate",dict:=AK,data:=.fields #[f0,.bool f1,.ref n,FR i,.none,II],slots:=#[] }
theorem zR9{Q:Bool->AQ->Prop}(hz:fR s.heap n f0 f1 i II)(hf:F0 f0) (h:∀b h' f1,fR h' n f0 f1 i II->DK (n+1) s.heap h'->Q b { s with heap:=h' }):BE (A7 prog w) A (HS (.ref (n+1))) Q E s:=by
 rcases hf with rfl|⟨T,rfl⟩
 .exact AB (DA hz rfl rfl (wpAny_pure (h AN s.heap f1 hz (kY _ _))))
 .refine AB (DA hz rfl rfl ?_);refine AB (Vm ?_);cases e:(s.heap.get? (T:Int).toNat).isNone with
  |true=>exact wpAny_pure (h AN s.heap f1 hz (kY _ _))
  |false =>
   refine AB (DA hz rfl rfl ?_);cases f1 with
   |true=>exact wpAny_pure (h AD s.heap AN hz (kY _ _))
   |false=>exact AB (CY hz 'S' λh' dX SY=>wpAny_pure (h AD h' AN dX SY))
end
theorem lt2(h:c∈[n,n+1])(JB:n+1<S):c<S:=by simp only[A8,CG,or_false] at h;lia
theorem Zv(h:c∈[n,n+1]):n<=c:=by simp only[A8,CG,or_false] at h;lia
def PairsAt(K:AC)(H:Hp)(zs:List V)(ps:List (Int×Int)):Prop:=Paired (λ(z:V) (p:Int×Int)=>∃q,z=.ref q/\SqT K H q [.int p.1,.int p.2]) zs ps
theorem PairsAt.gr{K:AC}(h:PairsAt K H zs ps)(g:Gr H H'):PairsAt K H' zs ps:=pA0 h (λ_ _ q0=>by have{q,e,k}:=q0;exact{q,e,k.gr g})
theorem zSA(pp:l1.Perm l2):∀ns:List Int,l2=ns.map V.int->∃ms:List Int,l1=ms.map V.int/\ms.Perm ns:=by
 induction pp with
 |nil=>intro ns e;cases ns with|nil=>exact{[],rfl,GF _}|cons _ _=>cases e
 |cons a _ ih =>
  intro ns e;cases ns with
  |nil=>cases e
  |cons b ns=>rw[AV] at e;injection e with e1 e2;have{ms,h1,h2}:=ih ns e2;exact{b::ms,by rw[AV,e1,h1],h2.cons b}
 |swap a b l =>
  intro ns e;match ns,e with
  |c::d::ns,e=>rw[AV,AV] at e;injection e with e1 e2;injection e2 with e2 e3;exact{d::c::ns,by rw[AV,AV,e1,e2,e3],H9 _ _ _}
 |trans _ _ bU ih2=>intro ns e;have{ms,h1,h2}:=ih2 ns e;have{ks,h3,h4}:=bU ms h1;exact{ks,h3,h4.trans h2}
theorem nC(x:ObjOk P w H h a (.dK kvs)):∃es ep,RawD h a es ep/\es.size=kvs.length/\kvs.length<=sizeLine /\ ∀(i:Nat) (hi:i<es.size),∃k:Key,(kvs.map (·.1))[i]?=AA k/\RelV (kV k) es[i].key:=by
 have{z,y,vs,r,o,es,ep,h1,h2,h3,h4,h5,h6}:=x;have hl:es.size=vs.length:=by rw[<-h5.length];simp
 have aN:=r.length;refine{es,ep,{{o,h1,h2,h3},y},by lia,z,λi hi=>?_};have TV:=AO hi (CU hl);have{e1,_}:=h5.get? (i:=i) (e:=es[i]) (k:=vs[i].1) (v:=vs[i].2) (by simp[hi]) (by simp[TV]);refine{vs[i].1,by rw[r.keys];simp[TV],?_};rw[Wc] at e1;rcases dB e1 with⟨j,t,z1,z2⟩|⟨y,t,z1,z2⟩
 .rw[z1,z2];exact{t,rfl}
 .rw[z1,z2];exact{t,rfl}
section
def Co(d:AT)(o:IZ)(kvs:List (Key×V)):It :={λi H=>i<kvs.length/\H d=AA (.frz o (.dK kvs)),λi H x H'=>H'=H/\∃k,x=kV k/\(kvs.map (·.1))[i]?=AA k,λi H=>kvs.length<=i/\H d=AA (.frz o (.dK kvs))}
theorem Av{K:AC}(d it:AT)(o:IZ)(kvs:List (Key×V))(es:Array cJ)(ep:Nat)(hd:o.data=.dict es ep)(hz:es.size=kvs.length) : Turn P w K tg (Co d o kvs) [it] it (λi h=>h.IsKeyIter it d i es.size ep) where
 mem:=by simp
 obj:=λi h st b hb=>by
  have e:b=it:=by simpa using hb
  subst e;have{o,e,c,d}:=st;exact{o,e,λv z=>by rw[d] at z;cases z}
 keep:=λi h h' st k=>let ⟨o,e,r⟩:=st;{o,k it 'S' o e,r}
 item:=by intro X hP hw hK hc i AF s σ H E I hf st hg;subst hP hw hK;have{hi,hk}:=hg;have{ho,hx}:=I.hok d _ hk;have{aQ,lZ,KJ,e1,e2,e3}:=nC hx;have{o',q1,q2,q3}:=KJ.ex;rw[ho] at q1;cases q1;rw[hd] at q3;injection q3 with q4 q5;subst q4;subst q5;have{f0,f1,f2,f3,f4,f5}:=hf it 'S';refine Ug st KJ 'L' λh' CT sb=>?_;have{k,p2,p3}:=e3 i 'L';have I1:=I.turned (t':=s.toks) (λb ob hb e=>(sb.2 b hb).trans e) f0 f1 f3 f4 f5;have{oi,e,c,dd}:=id CT;refine{_,rfl,sX e c dd 'D' {kV k,H,I1,p3,{rfl,k,rfl,p2},CT,λb hb=>(hf b hb).1}}
 done:=by intro X hP hw hK hc i AF s σ H E I hf st hg;subst hP hw hK;have{hi,hk}:=hg;have{ho,hx}:=I.hok d _ hk;have{aQ,lZ,KJ,e1,e2,e3}:=nC hx;have{o',q1,q2,q3}:=KJ.ex;rw[ho] at q1;cases q1;rw[hd] at q3;injection q3 with q4 q5;subst q4;subst q5;have{f0,f1,f2,f3,f4,f5}:=hf it 'S';exact Sq (I.ok.hd hc) st KJ (AW (CU hz) hi) λh' eb=>{rfl,I.turned (λb ob hb e=>eb b ob hb e) f0 f1 f3 f4 f5}
 self:=λ_ _ _ _ _ st h=>jJ st h
theorem Inv.freezeK(I:Inv X AF σ H s)(ha:H a=AA (.dK kvs)) : ∃o,s.heap.get? a=AA o/\Inv X AF σ (D4 H a (.frz o (.dK kvs))) s:=by
 have x:=I.hok a _ ha;obtain⟨es,ep,⟨⟨o,h1,h2,h3⟩,_⟩,_⟩:=nC x;have kt:∀b ys,H b=AA (.tup ys)->b≠a:=λb ys e z=>by rw[z,ha] at e;cases e
 have ko:∀b y,H b=AA (.own y)->b≠a:=λb y e z=>by rw[z,ha] at e;cases e
 have kf:∀b ob u,H b=AA (.frz ob u)->b≠a:=λb ob u e z=>by rw[z,ha] at e;cases e
 have kb:∀b t ps,H b=AA (.tbl t ps)->b≠a:=λb t ps e z=>by rw[z,ha] at e;cases e
 have kn:∀b,H b=AK->b≠a:=λb e z=>by rw[z,ha] at e;cases e
 refine{o,h1,I.un {λb ob e _ _ _=>e,λb ob e _ _ _=>{ob.slots,e},λb ob e n _=>by rw[ET (kn b n)];exact n,λb ob e _=>{ob,e},λb ys e=>by rw[ET (kt b ys e)];exact e,λb ob u e=>by rw[ET (kf b ob u e)];exact e,λb t ps e=>{#[],by rw[ET (kb b t ps e),e];simp}} λb u e=>?_};by_cases hb:b=a
 .subst hb;rw[G9] at e;cases e;exact{h1,x.stay (λc v _ q=>q) (λc q=>by rw[ET (ko c _ q)];exact q) (λc ys q=>by rw[ET (kt c ys q)];exact q) λc ob x q=>by rw[ET (kf c ob _ q)];exact q}
 .rw[ET hb] at e;exact(I.hok b u e).stay (λc v _ q=>q) (λc q=>by rw[ET (ko c _ q)];exact q) (λc ys q=>by rw[ET (kt c ys q)];exact q) λc ob x q=>by rw[ET (kf c ob _ q)];exact q
def Qq(tl:TE):TI:=λσ H R=>tl σ H λx H1=>∃a kvs,x=.ref a/\H1 a=AA (.dK kvs)/\∀o,R (Co a o kvs) (D4 H1 a (.frz o (.dK kvs)))
theorem zVM{tg l:D0}(hl:PE X l tl):PI X tg l (Qq tl):=by
 intro AF s σ H R I h;refine G6 (hl AF s σ H _ I h) λv s1 q0=>?_;have{x,H1,I1,r1,a,kvs,e,ha,q}:=q0;subst e;cases r1;have{o,ho,I2}:=I1.freezeK ha;have{es,ep,KJ,e1,e2,e3}:=nC (I1.hok a _ ha);have{o',q1,q2,q3}:=id KJ.ex;rw[ho] at q1;cases q1;refine qO KJ λh' k ki=>?_;refine{s1.heap.objs.size,[s1.heap.objs.size],_,_,_,rfl,I2.kept k,Av a _ o kvs es ep q3 e1,ki,λb hb=>?_,q o};have e:b=s1.heap.objs.size:=by simpa using hb
 subst e;exact I2.fpOk (AL _) (I2.hok.fresh (AL _))
end
end _L
namespace _T
open PySem PyProof.Rows
section
variable{E:AH->AQ->Prop}
def WR(prog:BZ)(w:C8)(A:GD)(s:AQ)(kd:Y0)(CC:Array CI)(L:CI->CI->Bool):Prop :=∀x y:CI,x∈CC->y∈CC->∀(Q:Bool->AQ->Prop) (E:AH->AQ->Prop),Q (L x y) s->BE (A7 prog w) A (keyLt' kd x.1 y.1) Q E s
theorem Ab{st:BW}{Q:Option Bool->BW->Prop}(hA:WR prog w A s kd CC L)(hk:kindOf st=kd)(hx:x∈CC)(hy:y∈CC)(h:Q (AA (L x y)) st) : NZ (A7 prog w) A E s (lt' x y) Q st:=by rw[lt'_eq];refine BG (NL ?_);rw[hk];refine BG (QF (GP (hA x y hx hy _ _ {rfl,?_})));exact BD h
def Cut(B:Nat->Bool)(n k:Nat):Prop:=k<=n/\(∀i<k,B i=AN)/\∀i,k<=i->i<n->B i=AD
theorem Ji{α β γ:Type}{T:β->γ->StateT BW cC α}{E:AH->AQ->Prop}{Q:α->BW->Prop}{st:BW}{NX:Prop}(P:β->γ->Prop)(h1:(∀x y,P x y->NZ M A E s (T x y) Q st)->NX)(h2:∀x y,P x y->NZ M A E s (T x y) Q st):NX:=h1 h2
theorem Wh{st:BW}{base n GE:Nat}{Q:Option Nat->BW->Prop}(hA:WR prog w A s kd CC L)(hk:kindOf st=kd)(NV:KN∈CC)(QB:∀x∈IJ,x∈CC) (hb:base+n<=IJ.size) (hh:GE<n) (hB:∀i (hi:base+i<IJ.size),B i=if left then L IJ[base+i] KN else !L KN IJ[base+i]) (mono:∀i j,i<=j->j<n->B j=AN->B i=AN) (h:∀k,Cut B n k->Q (AA k) st):NZ (A7 prog w) A E s (tY left KN IJ base n GE) Q st:=by
 have hm:∀(i:Nat) (hi:base+i<IJ.size),IJ[base+i]∈CC:=λi hi=>QB _ (AI hi)
 have pU:∀i j,i<=j->j<n->B i=AD->B j=AD:=λi j LS hj hi=>by
  cases e:B j with
  |false=>rfl
  |true=>rw[mono i j LS hj e] at hi;cases hi
 have Do:∀(i:Nat) (hi:i<n) {Q:Option Bool->BW->Prop},Q (AA (B i)) st->NZ (A7 prog w) A E s (do let x <-elem' IJ (base+i);if left=AN then lt' x KN else return (<-lt' KN x).map (!·)) Q st:=λi hi {Q} q=>by
  have TV:base+i<IJ.size:=AO (A9 hi _) hb;have eB:=hB i TV;refine BG (qP TV (LQ (λhl=>Ab hA hk (hm _ TV) NV ?_) λhl=>BG (Ab hA hk NV (hm _ TV) (BD ?_))))
  .rw[if_pos hl] at eB;rw[<-eB];exact q
  .rw[if_neg hl] at eB;show Q (AA (!_)) st;rw[<-eB];exact q
 refine Ji (M:=A7 prog w) (A:=A) (E:=E) (s:=s) (λlo hi:Nat=>lo<=hi/\hi<=n/\(∀i<lo,B i=AN)/\∀i,hi<=i->i<n->B i=AD) (λK=>by
  refine BG (Do GE hh ?_)
  cases e:B GE with
  |true =>
   refine BG (JX (FY (I:=λx c CT=>CT=st/\∃l o,c=(AK,l,o)/\B (GE+l)=AN/\GE+l<n/\l<o/\x+1<=o)
    (Q:=λc CT=>CT=st/\∃l o,c=(AK,l,o)/\B (GE+l)=AN/\GE+l<n/\l<o/\(n-GE<=o\/GE+o<n/\B (GE+o)=AD)) ?step ((λc CT q0=>by have{e,l,o,e1,e2,e3,e4,e5}:=q0;exact{e,l,o,e1,e2,e3,e4,.inl 'O'})) {rfl,0,1,rfl,e,hh,DO _,AL _}) ?post)
   case step =>
    intro x c CT _ _ zz';have{rfl,l,o,rfl,h1,h2,h3,h4}:=zz'
    try dsimp only
    refine LQ (λq=>BD {rfl,l,o,rfl,h1,h2,h3,.inl q}) (λq=>?_);refine BG (Do (GE+o) 'O' ?_)
    cases e:B (GE+o) with
    |true=>exact BD {rfl,o,2 * o+1,rfl,e,by omega,by omega,by omega}
    |false=>exact BD {rfl,l,o,rfl,h1,h2,h3,.inr {by omega,e}}
   case post =>
    intro c CT zz';have{rfl,l,o,rfl,h1,h2,h3,h4}:=zz'
    have hP:GE+l+1<=GE+min o (n-GE)/\GE+min o (n-GE)<=n/\(∀i<GE+l+1,B i=AN)/\∀i,GE+min o (n-GE)<=i->i<n->B i=AD:={by omega,by omega,λi hi=>mono i (GE+l) (IK hi) h2 h1,λi hi hn=>by
     rcases h4 with h4|⟨h4,h5⟩
     .omega
     .exact pU (GE+o) i 'O' hn h5}
    revert hP
    dsimp only;generalize GE+l+1=lo',GE+min o (n-GE)=TV;exact λhP=>K lo' TV hP
  |false =>
   refine BG (JX (FY (I:=λx c CT=>CT=st/\∃l o,c=(AK,l,o)/\B (GE-l)=AD/\l<=GE/\l<o/\x+1<=o)
    (Q:=λc CT=>CT=st/\∃l o,c=(AK,l,o)/\B (GE-l)=AD/\l<=GE/\l<o/\(GE+1<=o\/o<=GE/\B (GE-o)=AN)) ?step ((λc CT q0=>by have{e,l,o,e1,e2,e3,e4,e5}:=q0;exact{e,l,o,e1,e2,e3,e4,.inl 'O'})) {rfl,0,1,rfl,e,BQ _,DO _,AL _}) ?post)
   case step =>
    intro x c CT _ _ zz';have{rfl,l,o,rfl,h1,h2,h3,h4}:=zz'
    try dsimp only
    refine LQ (λq=>BD {rfl,l,o,rfl,h1,h2,h3,.inl q}) (λq=>?_);refine BG (Do (GE-o) (AS (C6 _ _) hh) ?_)
    cases e:B (GE-o) with
    |true=>exact BD {rfl,l,o,rfl,h1,h2,h3,.inr {IK (jU q),e}}
    |false=>exact BD {rfl,o,2 * o+1,rfl,e,IK (jU q),by omega,by omega}
   case post =>
    intro c CT zz';have{rfl,l,o,rfl,h1,h2,h3,h4}:=zz'
    exact K (GE+1-min o (GE+1)) (GE-l) {by omega,CQ (AS (C6 _ _) hh),λi hi=>by
     rcases h4 with h4|⟨h4,h5⟩
     .omega
     .exact mono i (GE-o) 'O' (AS (C6 _ _) hh) h5,λi hi hn=>pU (GE-l) i hi hn h1}) ?_
 intro lo hi zz';have{p1,p2,p3,p4}:=zz'
 refine BG (JX (FY (I:=λx c st2=>st2=st/\∃l r,c=(AK,l,r)/\l<=r/\r<=n/\(∀i<l,B i=AN)/\(∀i,r<=i->i<n->B i=AD)/\r-l+x<=n)
  (Q:=λc st2=>st2=st/\∃l r,c=(AK,l,r)/\Cut B n r) ?st2 ((λc st2 q0=>by have{e,l,r,e1,e2,e3,e4,e5,e6}:=q0;exact{e,l,r,e1,e3,λi hi=>e4 i 'O',e5})) {rfl,lo,hi,rfl,p1,p2,p3,p4,by omega}) ?po2)
 case po2=>intro c st2 zz';have{rfl,l,r,rfl,hr}:=zz';exact BD (h r hr)
 case st2 =>
  intro x c st2 _ _ zz';have{rfl,l,r,rfl,q1,q2,q3,q4,q5}:=zz'
  try dsimp only
  refine LQ (λq=>BD {rfl,l,r,rfl,q2,λi hi=>q3 i 'O',q4}) (λq=>?_);refine BG (Do (l+(r-l) / 2) 'O' ?_)
  cases e:B (l+(r-l) / 2) with
  |true=>exact BD {rfl,l+(r-l) / 2+1,r,rfl,by omega,q2,λi hi=>mono i (l+(r-l) / 2) (IK hi) 'O' e,q4,by omega}
  |false=>exact BD {rfl,l,l+(r-l) / 2,rfl,A3 _ _,by omega,q3,λi hi hn=>pU (l+(r-l) / 2) i hi hn e,by omega}
end
structure Ord(L:CI->CI->Bool)(CC:Array CI):Prop where
 asym:∀x y,x∈CC->y∈CC->L x y=AN->L y x=AD
 trans:∀x y z,x∈CC->y∈CC->z∈CC->L y x=AD->L z y=AD->L z x=AD
def SA(L:CI->CI->Bool)(a:Array CI):Prop:=∀(i j:Nat) (hj:j<a.size) (LS:i<j),L a[j] (a[i]'(C0 LS hj))=AD
theorem Ord.refl(O:Ord L CC)(hx:x∈CC):L x x=AD:=by
 cases e:L x x with
 |false=>rfl
 |true=>rw[O.asym x x hx hx e] at e;cases e
theorem SA.le(O:Ord L CC)(ha:∀x∈a,x∈CC)(s:SA L a)(hj:j<a.size)(LS:i<=j):L a[j] (a[i]'(AS LS hj))=AD:=by
 rcases DI LS with h|h
 .exact s i j hj h
 .subst h;exact O.refl (ha _ (AI _))
section
variable{E:AH->AQ->Prop}
theorem Vl{st:BW}{IJ:Array CI}{Q:Option Nat->BW->Prop}(hA:WR prog w A s kd CC L)(O:Ord L CC)(hk:kindOf st=kd)(NV:KN∈CC)(QB:∀x∈IJ,x∈CC) (hb:base+n<=IJ.size) (hh:GE<n) (sl:∀(i j:Nat) (hj:base+j<IJ.size) (LS:i<j),j<n->L IJ[base+j] (IJ[base+i]'(C0 (A9 LS _) hj))=AD) (h:∀k,k<=n->(∀(i:Nat) (hi:base+i<IJ.size),i<k->L KN IJ[base+i]=AD)->(∀(i:Nat) (hi:base+i<IJ.size),k<=i->i<n->L KN IJ[base+i]=AN)->Q (AA k) st):NZ (A7 prog w) A E s (tY AD KN IJ base n GE) Q st:=by
 refine Wh (B:=λi=>if hi:base+i<IJ.size then !L KN IJ[base+i] else AD) hA hk NV QB hb hh (λi hi=>by simp[hi]) (λi j LS hj e=>?_) λk ⟨c1,c2,c3⟩=>h k c1 (λi hi eM=>?_) (λi hi Nh XY=>?_)
 .rcases DI LS with h'|h'
  .have bZ:=AO (A9 hj _) hb;have TV:=AS (EG (AL _) LS) bZ;rw[dif_pos bZ] at e;rw[dif_pos TV];have e':L KN IJ[base+j]=AD:=by simpa using e
   rw[O.trans _ _ _ (QB _ (AI TV)) (QB _ (AI bZ)) NV (sl i j bZ h' hj) e'];rfl
  .subst h';exact e
 .have:=c2 i eM;simpa[hi] using this
 .have:=c3 i Nh XY;simpa[hi] using this
theorem Uv{st:BW}{IJ:Array CI}{Q:Option Nat->BW->Prop}(hA:WR prog w A s kd CC L)(O:Ord L CC)(hk:kindOf st=kd)(NV:KN∈CC)(QB:∀x∈IJ,x∈CC) (hb:base+n<=IJ.size) (hh:GE<n) (sl:∀(i j:Nat) (hj:base+j<IJ.size) (LS:i<j),j<n->L IJ[base+j] (IJ[base+i]'(C0 (A9 LS _) hj))=AD) (h:∀k,k<=n->(∀(i:Nat) (hi:base+i<IJ.size),i<k->L IJ[base+i] KN=AN)->(∀(i:Nat) (hi:base+i<IJ.size),k<=i->i<n->L IJ[base+i] KN=AD)->Q (AA k) st):NZ (A7 prog w) A E s (tY AN KN IJ base n GE) Q st:=by
 refine Wh (B:=λi=>if hi:base+i<IJ.size then L IJ[base+i] KN else AD) hA hk NV QB hb hh (λi hi=>by simp[hi]) (λi j LS hj e=>?_) λk ⟨c1,c2,c3⟩=>h k c1 (λi hi eM=>?_) (λi hi Nh XY=>?_)
 .rcases DI LS with h'|h'
  .have bZ:=AO (A9 hj _) hb;have TV:=AS (EG (AL _) LS) bZ;rw[dif_pos bZ] at e;rw[dif_pos TV];cases ei:L IJ[base+i] KN with
   |true=>rfl
   |false=>rw[O.trans _ _ _ NV (QB _ (AI TV)) (QB _ (AI bZ)) ei (sl i j bZ h' hj)] at e;cases e
  .subst h';exact e
 .have:=c2 i eM;simpa[hi] using this
 .have:=c3 i Nh XY;simpa[hi] using this
end
structure MidO(L:CI->CI->Bool)(a b out:Array CI)(ia ib:Nat):Prop where
 m:Mid a b out ia ib
 so:out.toList.Pairwise λx y=>L y x=AD
 oa:∀x∈out,∀(i:Nat) (hi:i<a.size),ia<=i->L a[i] x=AD
 ob:∀x∈out,∀(i:Nat) (hi:i<b.size),ib<=i->L b[i] x=AD
section
variable{L:CI->CI->Bool}{a b out:Array CI}
theorem Sd(h:out.toList.Pairwise λx y=>L y x=AD)(hx:∀y∈out,L x y=AD):(out.push x).toList.Pairwise λx y=>L y x=AD:=by rw[FD,G4];refine{h,JU _ _,λy hy z hz=>?_};rw[A1.mp hz];exact hx y (G2.mp hy)
theorem MidO.pushB(m:MidO L a b out ia ib)(sb:SA L b)(h:ib<b.size)(SZ:∀(i:Nat) (hi:i<a.size),ia<=i->L a[i] b[ib]=AD):MidO L a b (out.push b[ib]) ia (ib+1) where
 m:=m.m.pushB h
 so:=Sd m.so λy hy=>m.ob y hy ib h (AL _)
 oa:=λx hx i hi PK=>by
  rcases HF.mp hx with hx|rfl
  .exact m.oa x hx i hi PK
  .exact SZ i hi PK
 ob:=λx hx i hi R1=>by
  rcases HF.mp hx with hx|rfl
  .exact m.ob x hx i hi (AW (A3 _ _) R1)
  .exact sb ib i hi (F9 R1)
theorem MidO.pushA(m:MidO L a b out ia ib)(sa:SA L a)(h:ia<a.size)(SZ:∀(i:Nat) (hi:i<b.size),ib<=i->L b[i] a[ia]=AD):MidO L a b (out.push a[ia]) (ia+1) ib where
 m:=m.m.pushA h
 so:=Sd m.so λy hy=>m.oa y hy ia h (AL _)
 oa:=λx hx i hi PK=>by
  rcases HF.mp hx with hx|rfl
  .exact m.oa x hx i hi (AW (A3 _ _) PK)
  .exact sa ia i hi (F9 PK)
 ob:=λx hx i hi R1=>by
  rcases HF.mp hx with hx|rfl
  .exact m.ob x hx i hi R1
  .exact SZ i hi R1
theorem Gp(a:Array CI)(h:i+k<a.size):out++a.extract i (i+(k+1))=(out++a.extract i (i+k)).push a[i+k]:=by apply Array.ext';rw[EK,FD,EK,KQ,KQ,CP];congr 1;show(a.toList.drop i).take (i+(k+1)-i)=(a.toList.drop i).take (i+k-i)++[a[i+k]];rw[NE _ _,NE _ _,BK (by simp;lia)];simp
theorem MidO.manyA(sa:SA L a):∀{k:Nat},MidO L a b out ia ib->ia+k<=a.size->(∀(i:Nat) (hi:i<a.size),ia<=i->i<ia+k->∀(j:Nat) (hj:j<b.size),ib<=j->L b[j] a[i]=AD)->MidO L a b (out++a.extract ia (ia+k)) (ia+k) ib
 |0,m,_,_=>by
  have e:out++a.extract ia (ia+0)=out:=by simp<;>lia
  rw[e];exact m
 |k+1,m,h,SZ=>by have z:=MidO.manyA sa m 'L' λi hi h1 h2=>SZ i hi h1 (C0 h2 (A9 (DO _) _));rw[Gp a (AO (A9 (DO _) _) h)];exact z.pushA sa (AO (A9 (DO _) _) h) λj hj xL=>SZ (ia+k) (AO (A9 (DO _) _) h) (A3 _ _) (A9 (DO _) _) j hj xL
theorem MidO.manyB(sb:SA L b):∀{k:Nat},MidO L a b out ia ib->ib+k<=b.size->(∀(i:Nat) (hi:i<b.size),ib<=i->i<ib+k->∀(j:Nat) (hj:j<a.size),ia<=j->L a[j] b[i]=AD)->MidO L a b (out++b.extract ib (ib+k)) ia (ib+k)
 |0,m,_,_=>by
  have e:out++b.extract ib (ib+0)=out:=by simp<;>lia
  rw[e];exact m
 |k+1,m,h,SZ=>by have z:=MidO.manyB sb m 'L' λi hi h1 h2=>SZ i hi h1 (C0 h2 (A9 (DO _) _));rw[Gp b (AO (A9 (DO _) _) h)];exact z.pushB sb (AO (A9 (DO _) _) h) λj hj xM=>SZ (ib+k) (AO (A9 (DO _) _) h) (A3 _ _) (A9 (DO _) _) j hj xM
theorem MidO.doneB(m:MidO L a b out ia ib)(sa:SA L a)(h:ib=b.size):(out++a.extract ia a.size++b.extract ib b.size).toList.Pairwise λx y=>L y x=AD:=by
 have la:=m.m.la;have z:=m.manyA sa (k:=a.size-ia) 'L' λi hi h1 h2 j hj xL=>by lia
 rw[show ia+(a.size-ia)=a.size by lia] at z;have e:b.extract ib b.size=#[]:=by rw[h];simp
 rw[e,bC];exact z.so
theorem MidO.doneA(m:MidO L a b out ia ib)(sb:SA L b)(h:ia=a.size):(out++a.extract ia a.size++b.extract ib b.size).toList.Pairwise λx y=>L y x=AD:=by
 have lb:=m.m.lb;have z:=m.manyB sb (k:=b.size-ib) 'L' λi hi h1 h2 j hj xM=>by lia
 rw[show ib+(b.size-ib)=b.size by lia] at z;have e:a.extract ia a.size=#[]:=by rw[h];simp
 rw[e,bC];exact z.so
theorem MidO.lastA(m:MidO L a b out ia ib)(sa:SA L a)(sb:SA L b)(h:ia+1=a.size)(hl:∀(j:Nat) (hj:j<b.size),L (a[a.size-1]'(by lia)) b[j]=AD):(out++b.extract ib b.size++a.extract ia a.size).toList.Pairwise λx y=>L y x=AD:=by
 have lb:=m.m.lb;have z:=m.manyB sb (k:=b.size-ib) 'L' λi hi h1 h2 j hj xM=>by
  have e:j=a.size-1:=by lia
  subst e;exact hl i hi
 rw[show ib+(b.size-ib)=b.size by lia] at z;have z2:=z.manyA sa (CU h) λi hi h1 h2 j hj xL=>by lia
 rw[h] at z2;exact z2.so
end
@[elab_as_elim] theorem Bs{K:Prop}{α0 α1 α2 α3 γ:Type}{f:α0->α1->α2->α3->γ}{P:α0->α1->α2->α3->Prop}{G:γ->Prop}{c:γ}(H:K/\∃x0 x1 x2 x3,c=f x0 x1 x2 x3/\P x0 x1 x2 x3)(k:K->∀x0 x1 x2 x3,P x0 x1 x2 x3->G (f x0 x1 x2 x3)):G c:=by have{g,x0,x1,x2,x3,rfl,p}:=H;exact k g x0 x1 x2 x3 p
@[elab_as_elim] theorem rG{K:Prop}{α0 α1 α2 α3 α4 γ:Type}{f:α0->α1->α2->α3->α4->γ}{P:α0->α1->α2->α3->α4->Prop}{G:γ->Prop}{c:γ}(H:K/\∃x0 x1 x2 x3 x4,c=f x0 x1 x2 x3 x4/\P x0 x1 x2 x3 x4)(k:K->∀x0 x1 x2 x3 x4,P x0 x1 x2 x3 x4->G (f x0 x1 x2 x3 x4)):G c:=by have{g,x0,x1,x2,x3,x4,rfl,p}:=H;exact k g x0 x1 x2 x3 x4 p
@[elab_as_elim] theorem rF{K:Prop}{α0 α1 α2 α3 α4 α5 γ:Type}{f:α0->α1->α2->α3->α4->α5->γ}{P:α0->α1->α2->α3->α4->α5->Prop}{G:γ->Prop}{c:γ}(H:K/\∃x0 x1 x2 x3 x4 x5,c=f x0 x1 x2 x3 x4 x5/\P x0 x1 x2 x3 x4 x5)(k:K->∀x0 x1 x2 x3 x4 x5,P x0 x1 x2 x3 x4 x5->G (f x0 x1 x2 x3 x4 x5)):G c:=by have{g,x0,x1,x2,x3,x4,x5,rfl,p}:=H;exact k g x0 x1 x2 x3 x4 x5 p
@[elab_as_elim] theorem Xp{K:Prop}{α0 α1 α2 α3 α4 α5 α6 γ:Type}{f:α0->α1->α2->α3->α4->α5->α6->γ}{P:α0->α1->α2->α3->α4->α5->α6->Prop}{G:γ->Prop}{c:γ}(H:K/\∃x0 x1 x2 x3 x4 x5 x6,c=f x0 x1 x2 x3 x4 x5 x6/\P x0 x1 x2 x3 x4 x5 x6)(k:K->∀x0 x1 x2 x3 x4 x5 x6,P x0 x1 x2 x3 x4 x5 x6->G (f x0 x1 x2 x3 x4 x5 x6)):G c:=by have{g,x0,x1,x2,x3,x4,x5,x6,rfl,p}:=H;exact k g x0 x1 x2 x3 x4 x5 x6 p
section
variable{E:AH->AQ->Prop}{β:Type}{Q:β->BW->Prop}{st:BW}
theorem WE(hi:i<IJ.size)(h:NZ (A7 prog w) A E s (f IJ[i]) Q st):NZ (A7 prog w) A E s (elem' IJ i >>= f) Q st:=BG (qP hi h)
theorem Br(h:NZ (A7 prog w) A E s (f ()) Q (tE st g)):NZ (A7 prog w) A E s (Ht g >>= f) Q st:=BG (zZR h)
theorem Xo(hA:WR prog w A s kd CC L)(hk:kindOf st=kd)(hx:x∈CC)(hy:y∈CC)(h:NZ (A7 prog w) A E s (f (AA (L x y))) Q st):NZ (A7 prog w) A E s (lt' x y >>= f) Q st:=BG (Ab hA hk hx hy h)
theorem qD{γ:Type}{f:Nat->γ->StateT BW cC (ForInStep γ)}{k:γ->StateT BW cC β}(I:Nat->γ->BW->Prop)(R:γ->BW->Prop) (wV:∀i c st,a<=i->i<b->I i c st->NZ (A7 prog w) A E s (f i c) (λr CT=>match r with|.done c'=>R c' CT|.yield c'=>I (i+1) c' CT) st) (jF:∀c st,I (max a b) c st->R c st) {c:γ} (h:I a c st) (hp:∀c CT,R c CT->NZ (A7 prog w) A E s (k c) Q CT):NZ (A7 prog w) A E s (forIn [a:b] c f >>= k) Q st:=BG (JX (FY I wV jF h) hp)
theorem Xn{IJ:Array CI}(hA:WR prog w A s kd CC L)(O:Ord L CC)(hk:kindOf st=kd)(NV:KN∈CC)(QB:∀x∈IJ,x∈CC) (hb:base+n<=IJ.size) (hh:GE<n) (sl:∀(i j:Nat) (hj:base+j<IJ.size) (LS:i<j),j<n->L IJ[base+j] (IJ[base+i]'(C0 (A9 LS _) hj))=AD) (h:∀k,k<=n->(∀(i:Nat) (hi:base+i<IJ.size),i<k->L KN IJ[base+i]=AD)->(∀(i:Nat) (hi:base+i<IJ.size),k<=i->i<n->L KN IJ[base+i]=AN)->NZ (A7 prog w) A E s (f (AA k)) Q st):NZ (A7 prog w) A E s (tY AD KN IJ base n GE >>= f) Q st:=BG (Vl hA O hk NV QB hb hh sl h)
theorem Xm{IJ:Array CI}(hA:WR prog w A s kd CC L)(O:Ord L CC)(hk:kindOf st=kd)(NV:KN∈CC)(QB:∀x∈IJ,x∈CC) (hb:base+n<=IJ.size) (hh:GE<n) (sl:∀(i j:Nat) (hj:base+j<IJ.size) (LS:i<j),j<n->L IJ[base+j] (IJ[base+i]'(C0 (A9 LS _) hj))=AD) (h:∀k,k<=n->(∀(i:Nat) (hi:base+i<IJ.size),i<k->L IJ[base+i] KN=AN)->(∀(i:Nat) (hi:base+i<IJ.size),k<=i->i<n->L IJ[base+i] KN=AD)->NZ (A7 prog w) A E s (f (AA k)) Q st):NZ (A7 prog w) A E s (tY AN KN IJ base n GE >>= f) Q st:=BG (Uv hA O hk NV QB hb hh sl h)
end
section
variable{E:AH->AQ->Prop}
theorem Xl{α β:Type}{T:β->StateT BW cC α}{E:AH->AQ->Prop}{Q:α->BW->Prop}{st:BW}{NX:Prop}(h1:(∀x,NZ M A E s (T x) Q st)->NX)(h2:∀x,NZ M A E s (T x) Q st):NX:=h1 h2
theorem zN0{st:BW}{a b:Array CI}{Q:Array CI->BW->Prop}(hA:WR prog w A s kd CC L)(O:Ord L CC)(hk:kindOf st=kd)(ha:∀x∈a,x∈CC)(hb:∀x∈b,x∈CC)(na:1<=a.size)(nb:1<=b.size)(sa:SA L a)(sb:SA L b)(hf:∀(i:Nat) (hi:i<a.size),L a[i] (b[0]'(F9 nb))=AD)(hl:∀(j:Nat) (hj:j<b.size),L (a[a.size-1]'(by lia)) b[j]=AD) (h:∀c CT,Gal st CT->c.Perm (a++b)->(c.toList.Pairwise λx y=>L y x=AD)->Q c CT):NZ (A7 prog w) A E s (zU7 a b) Q st:=by
 refine BG (QF (FL {rfl,?_}));refine WE (F9 nb) ?_;have m0:MidO L a b #[b[0]] 0 1:=by have z:MidO L a b #[] 0 0:={{by simp,BQ _,BQ _,rfl},N5,λx hx=>by simp at hx,λx hx=>by simp at hx};exact z.pushB sb (F9 nb) λi hi _=>hf i hi
 refine LQ (λe1=>BD (h _ _ (Gal.refl st) m0.m.done (m0.doneB sa (beq_iff_eq.mp e1)))) (λe1=>?_);replace e1:¬1=b.size:=λz=>e1 (beq_iff_eq.mpr z);refine LQ (λe2=>BD (h _ _ (Gal.refl st) m0.m.lastA (m0.lastA sa sb (beq_iff_eq.mp e2) hl))) (λe2=>?_);replace e2:¬0+1=a.size:=λz=>e2 (beq_iff_eq.mpr z);refine BG (NL ?_);refine qD
  (I:=λi c CT=>Gal st CT/\∃out ia ib g,c=(AK,out,ia,ib,g)/\MidO L a b out ia ib/\ia+1<a.size/\ib<b.size/\i+1<=out.size)
  (R:=λc CT=>Gal st CT/\∃r out ia ib g,c=(AA r,out,ia,ib,g)/\(r.Perm (a++b)/\r.toList.Pairwise λx y=>L y x=AD)) ?step ?fin ?init ?post
 case init=>exact{Gal.refl st,_,_,_,_,rfl,m0,GO na e2,GO nb e1,by simp}
 case post=>intro c CT H;refine rG (c:=c) H λg r out ia ib gg p=>?_;exact BD (h _ _ g p.1 p.2)
 case fin=>intro c CT H;refine Bs (c:=c) H λg out ia ib gg P=>?_;have m:=P.1;have h1:=P.2.1;have h2:=P.2.2.1;have h3:=P.2.2.2;exfalso;have:=m.m.sz;lia
 case step =>
  intro i c CT _ hi H;refine Bs (c:=c) H λg out ia ib gg P=>?_;have m:=P.1;have h1:=P.2.1;have h2:=P.2.2.1;have h3:=P.2.2.2;have Kk:0<a.size+b.size:=AS (BQ _) hi
  -- one by one
  refine qD
   (I:=λ_ c st2=>Gal st st2/\∃out ia ib ac bc,c=(AK,out,ia,ib,ac,bc)/\MidO L a b out ia ib/\ia+1<a.size/\ib<b.size/\i+1<=out.size)
   (R:=λc st2=>Gal st st2/\∃r out ia ib ac bc,c=(r,out,ia,ib,ac,bc)/\(match r with
    |some r=>(r.Perm (a++b)/\r.toList.Pairwise λx y=>L y x=AD)
    |none=>MidO L a b out ia ib/\ia+1<a.size/\ib<b.size/\i+1<=out.size)) ?step1 ?fin1 {g,_,_,_,_,_,rfl,m,h1,h2,h3} ?post1
  case fin1=>intro c st2 H;refine rG (c:=c) H λg2 out ia ib ac bc P=>?_;have m:=P.1;have h1:=P.2.1;have h2:=P.2.2.1;have h3:=P.2.2.2;exact{g2,AK,_,_,_,_,_,rfl,m,h1,h2,h3}
  case step1 =>
   intro j c st2 _ hj H;refine rG (c:=c) H λg2 out ia ib ac bc P=>?_;have m:=P.1;have h1:=P.2.1;have h2:=P.2.2.1;have h3:=P.2.2.2;refine WE h2 (WE (AS (A3 _ _) h1) (Xo hA (g2.kind hk) (hb _ (AI h2)) (ha _ (AI _)) ?_));have PK:ia<a.size:=AS (A3 _ _) h1;refine LQ (λew=>?_) (λew=>?_)
   .refine WE h2 ?_;have m2:=m.pushB sb h2 λi hi xN=>O.trans _ _ _ (hb _ (AI h2)) (ha _ (AI PK)) (ha _ (AI hi)) (O.asym _ _ (hb _ (AI h2)) (ha _ (AI PK)) ew) (sa.le O ha hi xN);have MU:i+1<=(out.push b[ib]).size:=by rw[EF];lia
    refine LQ (λq=>BD {g2,AA _,_,_,_,_,_,rfl,m2.m.done,m2.doneB sa (beq_iff_eq.mp q)}) (λq=>?_);have VZ:ib+1<b.size:=GO h2 λz=>q (beq_iff_eq.mpr z);refine LQ (λ_=>?_) (λ_=>?_)
    .exact BD {g2,AK,_,_,_,_,_,rfl,m2,h1,VZ,MU}
    .exact BD {g2,_,_,_,_,_,rfl,m2,h1,VZ,MU}
   .refine WE PK ?_;have m2:=m.pushA sa PK λi hi xN=>O.trans _ _ _ (ha _ (AI PK)) (hb _ (AI h2)) (hb _ (AI hi)) (Q9.mpr ew) (sb.le O hb hi xN);have MU:i+1<=(out.push a[ia]).size:=by rw[EF];lia
    refine LQ (λq=>BD {g2,AA _,_,_,_,_,_,rfl,m2.m.lastA,m2.lastA sa sb (beq_iff_eq.mp q) hl}) (λq=>?_);have YM:ia+1+1<a.size:=GO h1 λz=>q (beq_iff_eq.mpr z);refine LQ (λ_=>?_) (λ_=>?_)
    .exact BD {g2,AK,_,_,_,_,_,rfl,m2,YM,h2,MU}
    .exact BD {g2,_,_,_,_,_,rfl,m2,YM,h2,MU}
  case post1 =>
   intro c st2 H;refine rF (c:=c) H λg2 r out ia ib ac bc hr=>?_;cases r with
   |some r=>exact BD {g2,r,_,_,_,_,rfl,hr}
   |none =>
    have m:=hr.1;have h1:=hr.2.1;have h2:=hr.2.2.1;have h3:=hr.2.2.2;refine BG (QF (FL {rfl,?_}));refine qD
     (I:=λj c KS=>Gal st KS/\∃out ia ib gg ac bc,c=(AK,out,ia,ib,gg,ac,bc)/\MidO L a b out ia ib/\ia+1<a.size/\ib<b.size/\i+1+(if j=0 then 0 else 1)<=out.size)
     (R:=λc KS=>Gal st KS/\∃r out ia ib gg ac bc,c=(r,out,ia,ib,gg,ac,bc)/\(match r with
      |some r=>(r.Perm (a++b)/\r.toList.Pairwise λx y=>L y x=AD)
      |none=>MidO L a b out ia ib/\ia+1<a.size/\ib<b.size/\i+2<=out.size)) ?step2 ?fin2 {g2,_,_,_,_,_,_,rfl,m,h1,h2,by simpa using h3} ?post2
    case fin2=>intro c KS H;refine rF (c:=c) H λg3 out ia ib gg ac bc P=>?_;have m:=P.1;have h1:=P.2.1;have h2:=P.2.2.1;have h3:=P.2.2.2;rw[if_neg (FG (AO Kk (ND _ _)))] at h3;exact{g3,AK,_,_,_,_,_,_,rfl,m,h1,h2,h3}
    case step2 =>
     intro j c KS _ hj H;refine rF (c:=c) H λg3 out ia ib gg ac bc P=>?_;clear H;have m:=P.1;have h1:=P.2.1;have h2:=P.2.2.1;have h3:=P.2.2.2;clear P;replace h3:i+1<=out.size:=by split at h3<;>lia
     dsimp only;refine Xl (M:=A7 prog w) (A:=A) (E:=E) (s:=s) (λK=>by
      refine LQ (λhg=>?gpos) (λhg=>?gneg)
      case gneg=>generalize gg=g';exact K g'
      case gpos=>exact K (gg-1)) (λgg=>?_)
     refine Br ?_;refine WE h2 (Xn hA O ((g3.set _).kind hk) (hb _ (AI h2)) ha 'L' 'L' (λi j hj LS _=>sa (ia+i) (ia+j) hj (A9 LS _)) λk ZR c1 c2=>?_);have pT:∀(i:Nat) (hi:i<a.size),ia+k<=i->L a[i] b[ib]=AD:=λi hi eM=>O.asym _ _ (hb _ (AI h2)) (ha _ (AI hi)) (by have z:=c2 (i-ia) 'L' 'L' 'L';simpa[show ia+(i-ia)=i by lia] using z);dsimp only;refine Ji (λ(out:Array CI) (ia:Nat)=>MidO L a b out ia ib/\ia+1<a.size/\i+1<=out.size/\∀(i:Nat) (hi:i<a.size),ia<=i->L a[i] b[ib]=AD) (λK=>by
      by_cases gS:¬(k>0)
      .rw[if_neg gS];have hP:MidO L a b out ia ib/\ia+1<a.size/\i+1<=out.size/\∀(i:Nat) (hi:i<a.size),ia<=i->L a[i] b[ib]=AD:={m,h1,h3,λi hi eM=>pT i hi 'L'};revert hP;generalize out=YF,ia=ia';exact λhP=>K YF ia' hP
      .rw[if_pos (LA.mp gS)];replace m:=m.manyA sa (k:=k) 'L' λi hi YM VZ j hj xL=>O.trans _ _ _ (ha _ (AI hi)) (hb _ (AI h2)) (hb _ (AI hj)) (by have z:=c1 (i-ia) 'L' 'L';simpa[show ia+(i-ia)=i by lia] using z) (sb.le O hb hj xL);refine LQ (λq1=>BD {g3.set _,AA _,_,_,_,_,_,_,rfl,m.m.lastA,m.lastA sa sb (beq_iff_eq.mp q1) hl}) (λq1=>?_);replace q1:¬(ia+k+1=a.size):=λz=>q1 (beq_iff_eq.mpr z);refine LQ (λq2=>BD {g3.set _,AA _,_,_,_,_,_,_,rfl,m.m.done,m.doneA sb (beq_iff_eq.mp q2)}) (λq2=>?_);replace q2:¬(ia+k=a.size):=λz=>q2 (beq_iff_eq.mpr z);exact K _ _ {m,by lia,by rw[G1];lia,pT}) ?_
     clear c1 c2 pT m h1 h3 ZR;intro out ia P;have m:=P.1;have h1:=P.2.1;have h3:=P.2.2.1;have pT:=P.2.2.2;clear P;refine WE h2 ?_;have XW:=m.m.sz;replace m:=m.pushB sb h2 pT;have hs:=m.m.sz;refine LQ (λq3=>BD {g3.set _,AA _,_,_,_,_,_,_,rfl,m.m.done,m.doneB sa (beq_iff_eq.mp q3)}) (λq3=>?_);replace q3:¬(ib+1=b.size):=λz=>q3 (beq_iff_eq.mpr z);refine WE (AS (A3 _ _) h1) (Xm hA O ((g3.set _).kind hk) (ha _ (AI _)) hb 'L' 'L' (λi j hj LS _=>sb (ib+1+i) (ib+1+j) hj (A9 LS _)) λk2 sG d1 d2=>?_);dsimp only;refine Ji (λ(out:Array CI) (ib:Nat)=>MidO L a b out ia ib/\ib<b.size/\i+2<=out.size/\∀(i:Nat) (hi:i<b.size),ib<=i->L b[i] (a[ia]'(AS (A3 _ _) h1))=AD) (λK=>by
      by_cases xK:¬(k2>0)
      .rw[if_neg xK];have hP:MidO L a b (out.push b[ib]) ia (ib+1)/\ib+1<b.size/\i+2<=(out.push b[ib]).size/\∀(i:Nat) (hi:i<b.size),ib+1<=i->L b[i] (a[ia]'(AS (A3 _ _) h1))=AD:={m,GO (MM h2) q3,by rw[EF];lia,λi hi xN=>by have z:=d2 (i-(ib+1)) 'L' 'L' 'L';simpa[show ib+1+(i-(ib+1))=i by lia] using z};revert hP;generalize out.push b[ib]=YF,ib+1=ib';exact λhP=>K YF ib' hP
      .rw[if_pos (LA.mp xK)];replace m:=m.manyB sb (k:=k2) 'L' λi hi YM VZ j hj xM=>O.trans _ _ _ (hb _ (AI hi)) (ha _ (AI _)) (ha _ (AI hj)) (O.asym _ _ (hb _ (AI hi)) (ha _ (AI _)) (by have z:=d1 (i-(ib+1)) 'L' 'L';simpa[show ib+1+(i-(ib+1))=i by lia] using z)) (sa.le O ha hj xM);refine LQ (λq4=>BD {g3.set _,AA _,_,_,_,_,_,_,rfl,m.m.done,m.doneB sa (beq_iff_eq.mp q4)}) (λq4=>?_);replace q4:¬(ib+1+k2=b.size):=λz=>q4 (beq_iff_eq.mpr z);exact K _ _ {m,by lia,by rw[G1];lia,λi hi xN=>by have z:=d2 (i-(ib+1)) 'L' 'L' 'L';simpa[show ib+1+(i-(ib+1))=i by lia] using z}) ?_
     intro out ib P;have m:=P.1;have h2:=P.2.1;have h3:=P.2.2.1;have d2:=P.2.2.2;refine WE (AS (A3 _ _) h1) ?_;have MU:=m.m.sz;replace m:=m.pushA sa (AS (A3 _ _) h1) d2;have hs3:=m.m.sz;refine LQ (λq5=>?_) (λq5=>?_)
     .exact BD {g3.set _,AA _,_,_,_,_,_,_,rfl,m.m.lastA,m.lastA sa sb (beq_iff_eq.mp q5) hl}
     .have q5':¬(_=_):=λz=>q5 (beq_iff_eq.mpr z);refine LQ (λq6=>?_) (λq6=>?_)
      .exact BD {g3.set _,AK,_,_,_,_,_,_,rfl,m,GO (MM h1) q5',h2,by lia}
      .exact BD {g3.set _,_,_,_,_,_,_,rfl,m,GO (MM h1) q5',h2,by rw[if_neg (FG (RU _))];lia}
    case post2 =>
     intro c KS H;refine Xp (c:=c) H λg3 r out ia ib gg ac bc hr=>?_;cases r with
     |some r=>exact BD {g3,r,_,_,_,_,rfl,hr}
     |none=>have m:=hr.1;have h1:=hr.2.1;have h2:=hr.2.2.1;have h3:=hr.2.2.2;exact Br (BD {g3.set _,_,_,_,_,rfl,m,h1,h2,h3})
end
structure MidHO(L:CI->CI->Bool)(a b out:Array CI)(na nb:Nat):Prop where
 m:MidH a b out na nb
 so:out.toList.Pairwise λx y=>L x y=AD
 oa:∀x∈out,∀(i:Nat) (hi:i<a.size),i<na->L x a[i]=AD
 ob:∀x∈out,∀(i:Nat) (hi:i<b.size),i<nb->L x b[i]=AD
section
variable{L:CI->CI->Bool}{a b out:Array CI}
theorem Ue(h:out.toList.Pairwise λx y=>L x y=AD)(hx:∀y∈out,L y x=AD):(out.push x).toList.Pairwise λx y=>L x y=AD:=by rw[FD,G4];refine{h,JU _ _,λy hy z hz=>?_};rw[A1.mp hz];exact hx y (G2.mp hy)
theorem MidHO.pushA(m:MidHO L a b out na nb)(sa:SA L a)(h0:1<=na)(h:na-1<a.size)(SZ:∀(j:Nat) (hj:j<b.size),j<nb->L a[na-1] b[j]=AD):MidHO L a b (out.push a[na-1]) (na-1) nb where
 m:=m.m.pushA h0 h
 so:=Ue m.so λy hy=>m.oa y hy (na-1) h 'L'
 oa:=λx hx i hi PK=>by
  rcases HF.mp hx with hx|rfl
  .exact m.oa x hx i hi (AO PK (C6 _ _))
  .exact sa i (na-1) h (PK)
 ob:=λx hx i hi R1=>by
  rcases HF.mp hx with hx|rfl
  .exact m.ob x hx i hi R1
  .exact SZ i hi R1
theorem MidHO.pushB(m:MidHO L a b out na nb)(sb:SA L b)(h0:1<=nb)(h:nb-1<b.size)(SZ:∀(j:Nat) (hj:j<a.size),j<na->L b[nb-1] a[j]=AD):MidHO L a b (out.push b[nb-1]) na (nb-1) where
 m:=m.m.pushB h0 h
 so:=Ue m.so λy hy=>m.ob y hy (nb-1) h 'L'
 oa:=λx hx i hi PK=>by
  rcases HF.mp hx with hx|rfl
  .exact m.oa x hx i hi PK
  .exact SZ i hi PK
 ob:=λx hx i hi R1=>by
  rcases HF.mp hx with hx|rfl
  .exact m.ob x hx i hi (AO R1 (C6 _ _))
  .exact sb i (nb-1) h (R1)
theorem Sc(a:Array CI)(h:i<n)(hn:n-1<a.size):out++(a.extract i n).reverse=(out.push a[n-1])++(a.extract i (n-1)).reverse:=by
 have e:a.extract i n=(a.extract i (n-1)).push a[n-1]:=by have z:=Gp (out:=#[]) a (i:=i) (k:=n-1-i) 'L';rw[show i+(n-1-i+1)=n by lia] at z;simpa[show i+(n-1-i)=n-1 by lia] using z
 rw[e];generalize a.extract i (n-1)=x;generalize a[n-1]=y;apply Array.ext';simp
theorem MidHO.manyA(sa:SA L a)(m:MidHO L a b out na nb)(h:i0<=na)(SZ:∀(i:Nat) (hi:i<a.size),i0<=i->i<na->∀(j:Nat) (hj:j<b.size),j<nb->L a[i] b[j]=AD):MidHO L a b (out++(a.extract i0 na).reverse) i0 nb:=by
 obtain⟨d,hd⟩:∃d,na=i0+d:={na-i0,by lia};induction d generalizing na out with
 |zero =>
  have e0:na=i0:=by lia
  subst e0;have e:out++(a.extract na na).reverse=out:=by
   have:a.extract na na=#[]:=by simp<;>lia
   rw[this];simp
  rw[e];exact m
 |succ d ih=>have la:=m.m.la;rw[Sc a (show i0<na by lia) 'L'];exact ih (m.pushA sa 'L' 'L' λj hj S7=>SZ (na-1) 'L' 'L' 'L' j hj S7) 'L' (λi hi h1 h2=>SZ i hi h1 (AO h2 (C6 _ _))) 'L'
theorem MidHO.manyB(sb:SA L b)(m:MidHO L a b out na nb)(h:i0<=nb)(SZ:∀(i:Nat) (hi:i<b.size),i0<=i->i<nb->∀(j:Nat) (hj:j<a.size),j<na->L b[i] a[j]=AD):MidHO L a b (out++(b.extract i0 nb).reverse) na i0:=by
 obtain⟨d,hd⟩:∃d,nb=i0+d:={nb-i0,by lia};induction d generalizing nb out with
 |zero =>
  have e0:nb=i0:=by lia
  subst e0;have e:out++(b.extract nb nb).reverse=out:=by
   have:b.extract nb nb=#[]:=by simp<;>lia
   rw[this];simp
  rw[e];exact m
 |succ d ih=>have lb:=m.m.lb;rw[Sc b (show i0<nb by lia) 'L'];exact ih (m.pushB sb 'L' 'L' λj hj S7=>SZ (nb-1) 'L' 'L' 'L' j hj S7) 'L' (λi hi h1 h2=>SZ i hi h1 (AO h2 (C6 _ _))) 'L'
theorem El(h:out.toList.Pairwise λx y=>L x y=AD):out.reverse.toList.Pairwise λx y=>L y x=AD:=by rw[OL,List.pairwise_reverse];exact h
theorem MidHO.doneA(m:MidHO L a b out na nb)(sb:SA L b)(h:na=0):(a.extract 0 na++b.extract 0 nb++out.reverse).toList.Pairwise λx y=>L y x=AD:=by have z:=El (m.manyB sb (BQ _) λi hi h1 h2 j hj S7=>by lia).so;subst h;simpa using z
theorem MidHO.doneB(m:MidHO L a b out na nb)(sa:SA L a)(h:nb=0):(a.extract 0 na++b.extract 0 nb++out.reverse).toList.Pairwise λx y=>L y x=AD:=by have z:=El (m.manyA sa (BQ _) λi hi h1 h2 j hj S7=>by lia).so;subst h;simpa using z
theorem MidHO.firstB(m:MidHO L a b out na nb)(sa:SA L a)(sb:SA L b)(h:nb=1)(hf:∀(i:Nat) (hi:i<a.size),L a[i] (b[0]'(by have:=m.m.lb;lia))=AD):(b.extract 0 nb++a.extract 0 na++out.reverse).toList.Pairwise λx y=>L y x=AD:=by
 have z1:=m.manyA sa (BQ _) λi hi h1 h2 j hj S7=>by
  have e:j=0:=by lia
  subst e;exact hf i hi
 have z:=El (z1.manyB sb (BQ _) λi hi h1 h2 j hj S7=>by lia).so;simpa using z
end
section
variable{E:AH->AQ->Prop}
theorem Xk{α β γ δ:Type}{T:β->γ->δ->StateT BW cC α}{E:AH->AQ->Prop}{Q:α->BW->Prop}{st:BW}{NX:Prop}(P:β->γ->Prop)(h1:(∀x y z,P x y->NZ M A E s (T x y z) Q st)->NX)(h2:∀x y z,P x y->NZ M A E s (T x y z) Q st):NX:=h1 h2
theorem zN1{st:BW}{a b:Array CI}{Q:Array CI->BW->Prop}(hA:WR prog w A s kd CC L)(O:Ord L CC)(hk:kindOf st=kd)(ha:∀x∈a,x∈CC)(hb:∀x∈b,x∈CC)(na:1<=a.size)(nb:1<=b.size)(sa:SA L a)(sb:SA L b)(hf:∀(i:Nat) (hi:i<a.size),L a[i] (b[0]'(F9 nb))=AD)(hl:∀(j:Nat) (hj:j<b.size),L (a[a.size-1]'(by lia)) b[j]=AD) (h:∀c CT,Gal st CT->c.Perm (a++b)->(c.toList.Pairwise λx y=>L y x=AD)->Q c CT):NZ (A7 prog w) A E s (zU8 a b) Q st:=by
 refine BG (QF (FL {rfl,?_}));refine WE 'L' ?_;have m0:MidHO L a b #[a[a.size-1]] (a.size-1) b.size:=by have z:MidHO L a b #[] a.size b.size:={{by rw[J3 'S',J3 'S'];simp,AL _,AL _,by simp},N5,λx hx=>by simp at hx,λx hx=>by simp at hx};exact z.pushA sa (na) 'L' λj hj _=>hl j hj
 refine LQ (λe1=>?_) (λe1=>?_)
 .exact BD (h _ _ (Gal.refl st) m0.m.done (m0.doneA sb (beq_iff_eq.mp e1)))
 refine LQ (λe2=>?_) (λe2=>?_)
 .exact BD (h _ _ (Gal.refl st) m0.m.firstB (m0.firstB sa sb (beq_iff_eq.mp e2) hf))
 have e1':¬(a.size-1=0):=λz=>e1 (beq_iff_eq.mpr z);have e2':¬(b.size=1):=λz=>e2 (beq_iff_eq.mpr z);refine BG (NL ?_);refine qD
  (I:=λi c CT=>Gal st CT/\∃na nb out g,c=(AK,na,nb,out,g)/\MidHO L a b out na nb/\1<=na/\2<=nb/\i+1<=out.size)
  (R:=λc CT=>Gal st CT/\∃r na nb out g,c=(AA r,na,nb,out,g)/\(r.Perm (a++b)/\r.toList.Pairwise λx y=>L y x=AD)) ?step ?fin ?init ?post
 case init=>exact{Gal.refl st,_,_,_,_,rfl,m0,by lia,by lia,by simp}
 case post=>intro c CT H;refine rG (c:=c) H λg r ia ib out gg p=>?_;exact BD (h _ _ g p.1 p.2)
 case fin=>intro c CT H;refine Bs (c:=c) H λg na nb out gg P=>?_;have m:=P.1;have h1:=P.2.1;have h2:=P.2.2.1;have h3:=P.2.2.2;exfalso;have:=m.m.sz;lia
 case step =>
  intro i c CT _ hi H;refine Bs (c:=c) H λg na nb out gg P=>?_;have m:=P.1;have h1:=P.2.1;have h2:=P.2.2.1;have h3:=P.2.2.2;have Kk:0<a.size+b.size:=AS (BQ _) hi;refine qD
   (I:=λ_ c st2=>Gal st st2/\∃na nb out ac bc,c=(AK,na,nb,out,ac,bc)/\MidHO L a b out na nb/\1<=na/\2<=nb/\i+1<=out.size)
   (R:=λc st2=>Gal st st2/\∃r na nb out ac bc,c=(r,na,nb,out,ac,bc)/\(match r with
    |some r=>(r.Perm (a++b)/\r.toList.Pairwise λx y=>L y x=AD)
    |none=>MidHO L a b out na nb/\1<=na/\2<=nb/\i+1<=out.size)) ?step1 ?fin1 {g,_,_,_,_,_,rfl,m,h1,h2,h3} ?post1
  case fin1=>intro c st2 H;refine rG (c:=c) H λg2 na nb out ac bc P=>?_;clear H;have m:=P.1;have h1:=P.2.1;have h2:=P.2.2.1;have h3:=P.2.2.2;clear P;exact{g2,AK,_,_,_,_,_,rfl,m,h1,h2,h3}
  case step1 =>
   intro j c st2 _ hj H;refine rG (c:=c) H λg2 na nb out ac bc P=>?_;clear H;have m:=P.1;have h1:=P.2.1;have h2:=P.2.2.1;have h3:=P.2.2.2;clear P;dsimp only;have la:=m.m.la;have lb:=m.m.lb;refine WE 'L' (WE 'L' (Xo hA (g2.kind hk) (hb _ (AI _)) (ha _ (AI _)) ?_));have PK:na-1<a.size:=by lia
   have R1:nb-1<b.size:=by lia
   refine LQ (λew=>?_) (λew=>?_)
   .refine WE PK ?_;have m2:=m.pushA sa h1 PK λj hj S7=>O.trans _ _ _ (hb _ (AI hj)) (hb _ (AI R1)) (ha _ (AI PK)) (sb.le O hb R1 'L') (O.asym _ _ (hb _ (AI R1)) (ha _ (AI PK)) ew);have MU:i+1<=(out.push a[na-1]).size:=by rw[EF];lia
    refine LQ (λq=>BD {g2,AA _,_,_,_,_,_,rfl,m2.m.done,m2.doneA sb (beq_iff_eq.mp q)}) (λq=>?_);have YM:1<=na-1:=Nat.pos_of_ne_zero λz=>q (beq_iff_eq.mpr z);refine LQ (λq=>?_) (λq=>?_)
    .exact BD {g2,AK,_,_,_,_,_,rfl,m2,YM,h2,MU}
    .exact BD {g2,_,_,_,_,_,rfl,m2,YM,h2,MU}
   .refine WE R1 ?_;have m2:=m.pushB sb (AW (DP _ _) h2) R1 λj hj S7=>O.trans _ _ _ (ha _ (AI hj)) (ha _ (AI PK)) (hb _ (AI R1)) (sa.le O ha PK 'L') (Q9.mpr ew);have MU:i+1<=(out.push b[nb-1]).size:=by rw[EF];lia
    refine LQ (λq=>BD {g2,AA _,_,_,_,_,_,rfl,m2.m.firstB,m2.firstB sa sb (beq_iff_eq.mp q) hf}) (λq=>?_);have VZ:2<=nb-1:=by have q':¬(nb-1=1):=λz=>q (beq_iff_eq.mpr z);lia
    refine LQ (λq=>?_) (λq=>?_)
    .exact BD {g2,AK,_,_,_,_,_,rfl,m2,h1,VZ,MU}
    .exact BD {g2,_,_,_,_,_,rfl,m2,h1,VZ,MU}
  case post1 =>
   intro c st2 H;refine rF (c:=c) H λg2 r na nb out ac bc hr=>?_;clear H;cases r with
   |some r=>exact BD {g2,r,_,_,_,_,rfl,hr}
   |none =>
    have m:=hr.1;have h1:=hr.2.1;have h2:=hr.2.2.1;have h3:=hr.2.2.2;clear hr;dsimp only;refine BG (QF (FL {rfl,?_}));refine qD
     (I:=λj c KS=>Gal st KS/\∃na nb out gg ac bc,c=(AK,na,nb,out,gg,ac,bc)/\MidHO L a b out na nb/\1<=na/\2<=nb/\i+1+(if j=0 then 0 else 1)<=out.size)
     (R:=λc KS=>Gal st KS/\∃r na nb out gg ac bc,c=(r,na,nb,out,gg,ac,bc)/\(match r with
      |some r=>(r.Perm (a++b)/\r.toList.Pairwise λx y=>L y x=AD)
      |none=>MidHO L a b out na nb/\1<=na/\2<=nb/\i+2<=out.size)) ?step2 ?fin2 {g2,_,_,_,_,_,_,rfl,m,h1,h2,by simpa using h3} ?post2
    case fin2=>intro c KS H;refine rF (c:=c) H λg3 na nb out gg ac bc P=>?_;clear H;have m:=P.1;have h1:=P.2.1;have h2:=P.2.2.1;have h3:=P.2.2.2;clear P;rw[if_neg (FG (AO Kk (ND _ _)))] at h3;exact{g3,AK,_,_,_,_,_,_,rfl,m,h1,h2,h3}
    case step2 =>
     intro j c KS _ hj H;refine rF (c:=c) H λg3 na nb out gg ac bc P=>?_;clear H;have m:=P.1;have h1:=P.2.1;have h2:=P.2.2.1;have h3:=P.2.2.2;clear P;replace h3:i+1<=out.size:=by split at h3<;>lia
     dsimp only;have la:=m.m.la;have lb:=m.m.lb;refine Xl (λK=>by
      refine LQ (λhg=>?gpos) (λhg=>?gneg)
      case gneg=>generalize gg=g';exact K g'
      case gpos=>exact K (gg-1)) (λgg=>?_)
     refine Br ?_;refine WE 'L' (Xn hA O ((g3.set _).kind hk) (hb _ (AI _)) ha (AW (CU (ED _)) la) 'L' (λi j hj LS _=>sa (0+i) (0+j) hj (A9 LS _)) λk ZR c1 c2=>?_);have R1:nb-1<b.size:=by lia
     have jI:∀(i:Nat) (hi:i<a.size),i<k->L b[nb-1] a[i]=AD:=λi hi eM=>by have z:=c1 i (AS (CU (ED _)) hi) eM;simpa using z
     dsimp only;refine Xk (λ(out:Array CI) (na:Nat)=>MidHO L a b out na nb/\1<=na/\i+1<=out.size/\∀(i:Nat) (hi:i<a.size),i<na->L b[nb-1] a[i]=AD) (λK=>by
      by_cases gS:¬(na-k>0)
      .rw[if_neg gS];have hP:MidHO L a b out na nb/\1<=na/\i+1<=out.size/\∀(i:Nat) (hi:i<a.size),i<na->L b[nb-1] a[i]=AD:={m,h1,h3,λi hi eM=>jI i hi 'L'};revert hP;generalize na-k=ac';generalize out=YF,na=sA;exact λhP=>K YF sA ac' hP
      .rw[if_pos (LA.mp gS)];replace m:=m.manyA sa ZR λi hi YM VZ j hj S7=>O.trans _ _ _ (hb _ (AI hj)) (hb _ (AI R1)) (ha _ (AI hi)) (sb.le O hb R1 'L') (O.asym _ _ (hb _ (AI R1)) (ha _ (AI hi)) (by have z:=c2 i (AS (CU (ED _)) hi) YM VZ;simpa using z));refine LQ (λq1=>BD {g3.set _,AA _,_,_,_,_,_,_,rfl,m.m.done,m.doneA sb (beq_iff_eq.mp q1)}) (λq1=>?_);replace q1:¬(k=0):=λz=>q1 (beq_iff_eq.mpr z);exact K _ _ _ {m,by lia,by rw[G1];lia,jI}) ?_
     clear c1 c2 jI m h1 h3 ZR la;intro out na ac P;have m:=P.1;have h1:=P.2.1;have h3:=P.2.2.1;have jI:=P.2.2.2;clear P;refine WE (R1) ?_;have XW:=m.m.sz;have la:=m.m.la;replace m:=m.pushB sb (AW (DP _ _) h2) (R1) jI;have hs:=m.m.sz;refine LQ (λq3=>BD {g3.set _,AA _,_,_,_,_,_,_,rfl,m.m.firstB,m.firstB sa sb (beq_iff_eq.mp q3) hf}) (λq3=>?_);have q3':¬(nb-1=1):=λz=>q3 (beq_iff_eq.mpr z);refine WE 'L' (Xm hA O ((g3.set _).kind hk) (ha _ (AI _)) hb 'L' 'L' (λi j hj LS _=>sb (0+i) (0+j) hj (A9 LS _)) λk2 sG d1 d2=>?_);have PK:na-1<a.size:=by lia
     have sM:∀(j:Nat) (hj:j<b.size),j<k2->L a[na-1] b[j]=AD:=λj hj S7=>O.asym _ _ (hb _ (AI hj)) (ha _ (AI _)) (by have z:=d1 j (AS (CU (ED _)) hj) S7;simpa using z);dsimp only;refine Xk (λ(out:Array CI) (nb:Nat)=>MidHO L a b out na nb/\2<=nb/\i+2<=out.size/\∀(j:Nat) (hj:j<b.size),j<nb->L a[na-1] b[j]=AD) (λK=>by
      by_cases xK:¬(nb-1-k2>0)
      .rw[if_neg xK];have hP:MidHO L a b (out.push b[nb-1]) na (nb-1)/\2<=nb-1/\i+2<=(out.push b[nb-1]).size/\∀(j:Nat) (hj:j<b.size),j<nb-1->L a[na-1] b[j]=AD:={m,by lia,by rw[EF];lia,λj hj S7=>sM j hj 'L'};revert hP;generalize nb-1-k2=bc';generalize out.push b[nb-1]=YF;generalize nb-1=nb';exact λhP=>K YF nb' bc' hP
      .rw[if_pos (LA.mp xK)];replace m:=m.manyB sb sG λi hi YM VZ j hj S7=>O.trans _ _ _ (ha _ (AI hj)) (ha _ (AI PK)) (hb _ (AI hi)) (sa.le O ha PK 'L') (by have z:=d2 i (AS (CU (ED _)) hi) YM VZ;simpa using z);refine LQ (λq4=>BD {g3.set _,AA _,_,_,_,_,_,_,rfl,m.m.firstB,m.firstB sa sb (beq_iff_eq.mp q4) hf}) (λq4=>?_);replace q4:¬(k2=1):=λz=>q4 (beq_iff_eq.mpr z);refine LQ (λq5=>BD {g3.set _,AA _,_,_,_,_,_,_,rfl,m.m.done,m.doneB sa (beq_iff_eq.mp q5)}) (λq5=>?_);replace q5:¬(k2=0):=λz=>q5 (beq_iff_eq.mpr z);exact K _ _ _ {m,by lia,by rw[G1,EF];lia,sM}) ?_
     intro out nb' bc P;have m:=P.1;have VZ:=P.2.1;have h3:=P.2.2.1;have sM:=P.2.2.2;refine WE (PK) ?_;have MU:=m.m.sz;replace m:=m.pushA sa (h1) (PK) sM;have hs3:=m.m.sz;refine LQ (λq6=>BD {g3.set _,AA _,_,_,_,_,_,_,rfl,m.m.done,m.doneA sb (beq_iff_eq.mp q6)}) (λq6=>?_);have q6':¬(na-1=0):=λz=>q6 (beq_iff_eq.mpr z);refine LQ (λq7=>?_) (λq7=>?_)
     .exact BD {g3.set _,AK,_,_,_,_,_,_,rfl,m,by lia,VZ,by lia}
     .exact BD {g3.set _,_,_,_,_,_,_,rfl,m,by lia,VZ,by rw[if_neg (FG (RU _))];lia}
    case post2 =>
     intro c KS H;refine Xp (c:=c) H λg3 r na nb out gg ac bc hr=>?_;cases r with
     |some r=>exact BD {g3,r,_,_,_,_,rfl,hr}
     |none=>have m:=hr.1;have h1:=hr.2.1;have h2:=hr.2.2.1;have h3:=hr.2.2.2;exact Br (BD {g3.set _,_,_,_,_,rfl,m,h1,h2,h3})
end
def Seg(L:CI->CI->Bool)(a:Array CI)(i n:Nat):Prop:=∀(p q:Nat) (hq:q<a.size) (NT:p<q),i<=p->q<i+n->L a[q] (a[p]'(C0 NT hq))=AD
theorem zZ1{a c:Array CI}(h:sa+c.size<=a.size):(c.toList.zipIdx.foldl (λa (p:CI×Nat)=>a.setIfInBounds (sa+p.2) p.1) a).size=a.size /\ ∀(p:Nat) (hp:p<(c.toList.zipIdx.foldl (λa (p:CI×Nat)=>a.setIfInBounds (sa+p.2) p.1) a).size) (bY:p<a.size),(c.toList.zipIdx.foldl (λa (p:CI×Nat)=>a.setIfInBounds (sa+p.2) p.1) a)[p]=if h:sa<=p/\p-sa<c.size then c[p-sa]'h.2 else a[p]:=by
 have e:=Sg c.toList a sa 0 (by simpa using h);generalize c.toList.zipIdx.foldl (λa p=>a.setIfInBounds (sa+p.2) p.1) a=r at e ⊢;rw[Y5 _] at e;have hs:r.size=a.size:=by have:=congrArg MF e;simp at this;lia
 refine{hs,λp hp bY=>?_};have e2:r.toList[p]?=(a.toList.take sa++c.toList++a.toList.drop (sa+c.toList.length))[p]?:=by rw[e]
 rw[C2,getElem?_pos r p hp] at e2;have hl:(a.toList.take sa).length=sa:=by simp;lia
 by_cases h1:p<sa
 .rw[dif_neg 'L'];rw[CP,CA 'L',WO h1,C2,getElem?_pos a p bY] at e2;exact BH e2
 .by_cases h2:p-sa<c.size
  .rw[dif_pos {E4 h1,h2}];rw[CP,BX 'L',hl,CA (by simpa using h2),C2,getElem?_pos c (p-sa) h2] at e2;exact BH e2
  .rw[dif_neg 'L'];rw[CP,BX 'L',hl,BX (by simp;lia),LO] at e2;rw[show sa+c.toList.length+(p-sa-c.toList.length)=p by simp;lia,C2,getElem?_pos a p bY] at e2;exact BH e2
section
variable{E:AH->AQ->Prop}
theorem Fu{a:Array CI}(hx:x∈a.extract i j):∃(p:Nat) (hp:p<a.size),i<=p/\p<j/\x=a[p]:=by rw[Array.mem_iff_getElem] at hx;have{k,hk,rfl}:=hx;rw[JH] at hk;exact{i+k,by lia,A3 _ _,by lia,by simp}
theorem yKD{P NX:Prop}(h1:P->NX)(h2:P):NX:=h1 h2
theorem zN3{st:BW}{i sa na sb nb pa pb:Nat}{Q:Bool->BW->Prop}(hA:WR prog w A s kd CC L)(O:Ord L CC)(hB:SB CC kd st)(e1:(DL st)[i]?=AA (sa,na,pa))(e2:(DL st)[i+1]?=AA (sb,nb,pb)) (h1:1<=na) (h2:1<=nb) (wW:sb=sa+na) (hz:sb+nb<=CC.size) (ga:Seg L (A0 st) sa na) (gb:Seg L (A0 st) sb nb) (h:∀CT,SB CC kd CT->DL CT=((DL st).setIfInBounds i (sa,na+nb,pa)).eraseIdxIfInBounds (i+1)->Seg L (A0 CT) sa (na+nb) ->(∀(p:Nat) (hp:p<(A0 CT).size) (bY:p<(A0 st).size),p<sa\/sa+(na+nb)<=p->(A0 CT)[p]=(A0 st)[p])->Q AN CT) : NZ (A7 prog w) A E s (mergeAt' i) Q st:=by
 refine BG (NL ?_);rw[e1,e2];have NK:=hB.size;have MV:∀x∈A0 st,x∈CC:=λx hx=>hB.perm.mem_iff.mp hx;have mm:∀(p:Nat) (hp:p<(A0 st).size),(A0 st)[p]∈CC:=λp hp=>MV _ (AI hp);refine BG (zZS ?_);have sL:SB CC kd (setPending st (((DL st).setIfInBounds i (sa,na+nb,pa)).eraseIdxIfInBounds (i+1))):={hB.perm,hB.kind,hB.failed};have eD:sb<(A0 st).size:=by lia
 -- b's first is at D7 the others of b;a's last is at Yk the others of a
 have b0:∀(q:Nat) (hq:q<(A0 st).size),sb<=q->q<sb+nb->L (A0 st)[q] (A0 st)[sb]=AD:=λq hq h3 h4=>by
  rcases DI h3 with z|z
  .exact gb sb q hq z (AL _) h4
  .subst z;exact O.refl (mm _ _)
 have Di:sa+na-1<(A0 st).size:=by lia
 have aL:∀(p:Nat) (hp:p<(A0 st).size),sa<=p->p<sa+na->L (A0 st)[sa+na-1] (A0 st)[p]=AD:=λp hp h3 h4=>by
  rcases DI (show p<=sa+na-1 by lia) with z|z
  .exact ga p (sa+na-1) Di z h3 'L'
  .subst z;exact O.refl (mm _ _)
 refine BG (qP (IJ:=A0 st) (eD) (BG (Vl (IJ:=A0 st) hA O sL.kind (MV _ (AI _)) MV 'L' (F9 h1) (λi j hj LS S7=>ga (sa+i) (sa+j) hj (A9 LS _) (A3 _ _) (A9 S7 _)) λk hk c1 c2=>?_)));have jI:∀(p:Nat) (hp:p<(A0 st).size),sa<=p->p<sa+k->L (A0 st)[sb] (A0 st)[p]=AD:=λp hp h3 h4=>by have z:=c1 (p-sa) 'L' 'L';simpa[show sa+(p-sa)=p by lia] using z
 have pT:∀(p:Nat) (hp:p<(A0 st).size),sa+k<=p->p<sa+na->L (A0 st)[sb] (A0 st)[p]=AN:=λp hp h3 h4=>by have z:=c2 (p-sa) 'L' 'L' 'L';simpa[show sa+(p-sa)=p by lia] using z
 refine LQ (λq=>?_) (λq=>?_)
 .have q':na-k=0:=beq_iff_eq.mp q;refine BD (h _ sL rfl (λp r hr WI h3 h4=>?_) λp hp bY _=>rfl);by_cases eR:r<sa+na
  .exact ga p r hr WI h3 eR
  .by_cases eP:sb<=p
   .exact gb p r hr WI eP 'L'
   .exact O.trans _ _ _ (mm p (C0 WI hr)) (mm sb eD) (mm r hr) (jI p (C0 WI hr) h3 'L') (b0 r hr 'L' 'L')
 have q':¬(na-k=0):=λz=>q (beq_iff_eq.mpr z);refine BG (qP (IJ:=A0 st) 'L' (BG (Uv (IJ:=A0 st) hA O sL.kind (MV _ (AI _)) MV 'L' 'L' (λi j hj LS S7=>gb (sb+i) (sb+j) hj (A9 LS _) (A3 _ _) (A9 S7 _)) λm hm d1 d2=>?_)));have eal:sa+k+(na-k)-1=sa+na-1:=by lia
 have sM:∀(r:Nat) (hr:r<(A0 st).size),sb<=r->r<sb+m->L (A0 st)[r] (A0 st)[sa+na-1]=AN:=λr hr h3 h4=>by have z:=d1 (r-sb) 'L' 'L';simpa[show sb+(r-sb)=r by lia,eal] using z
 have d2':∀(r:Nat) (hr:r<(A0 st).size),sb+m<=r->r<sb+nb->L (A0 st)[r] (A0 st)[sa+na-1]=AD:=λr hr h3 h4=>by have z:=d2 (r-sb) 'L' 'L' 'L';simpa[show sb+(r-sb)=r by lia,eal] using z
 refine LQ (λr=>?_) (λr=>?_)
 .have r':m=0:=beq_iff_eq.mp r;refine BD (h _ sL rfl (λp r hr WI h3 h4=>?_) λp hp bY _=>rfl);by_cases eR:r<sa+na
  .exact ga p r hr WI h3 eR
  .by_cases eP:sb<=p
   .exact gb p r hr WI eP 'L'
   .exact O.trans _ _ _ (mm p (C0 WI hr)) (mm _ Di) (mm r hr) (aL p (C0 WI hr) h3 'L') (d2' r hr 'L' 'L')
 have r':¬(m=0):=λz=>r (beq_iff_eq.mpr z);have ex:∀i j x,x∈(A0 st).extract i j->x∈CC:=λi j x hx=>by have{p,hp,_,_,rfl}:=Fu hx;exact mm p hp
 have zx:((A0 st).extract (sa+k) sb).size=na-k:=by rw[JH];lia
 have zy:((A0 st).extract sb (sb+m)).size=m:=by rw[JH];lia
 have sx:SA L ((A0 st).extract (sa+k) sb):=λi j hj LS=>by rw[zx] at hj;simpa using ga (sa+k+i) (sa+k+j) 'L' (A9 LS _) 'L' 'L'
 have sy:SA L ((A0 st).extract sb (sb+m)):=λi j hj LS=>by rw[zy] at hj;simpa using gb (sb+i) (sb+j) 'L' (A9 LS _) (A3 _ _) (A9 (AO hj hm) _)
 have hf:∀(i:Nat) (hi:i<((A0 st).extract (sa+k) sb).size),L ((A0 st).extract (sa+k) sb)[i] (((A0 st).extract sb (sb+m))[0]'(by lia))=AD:=λi hi=>by have z:=O.asym _ _ (mm sb eD) (mm (sa+k+i) 'L') (pT (sa+k+i) 'L' (A3 _ _) 'L');simpa using z
 have hl:∀(j:Nat) (hj:j<((A0 st).extract sb (sb+m)).size),L (((A0 st).extract (sa+k) sb)[((A0 st).extract (sa+k) sb).size-1]'(by lia)) ((A0 st).extract sb (sb+m))[j]=AD:=λj hj=>by have z:=O.asym _ _ (mm (sb+j) 'L') (mm (sa+na-1) Di) (sM (sb+j) 'L' (A3 _ _) 'L');simpa[zx,show sa+k+(na-k-1)=sa+na-1 by lia] using z
 refine yKD (λK=>LQ (λ_=>BG (zN0 (a:=(A0 st).extract (sa+k) sb) (b:=(A0 st).extract sb (sb+m)) hA O sL.kind (ex _ _) (ex _ _) 'L' 'L' sx sy hf hl K)) (λ_=>BG (zN1 (a:=(A0 st).extract (sa+k) sb) (b:=(A0 st).extract sb (sb+m)) hA O sL.kind (ex _ _) (ex _ _) 'L' 'L' sx sy hf hl K))) ?_;rintro c CT ⟨g,rfl⟩ hp oS;refine BG (MW (BG (NL (BD ?_))));have hn:(jN st).isNone=AN:=by rw[hB.failed];rfl
 show Q (jN st).isNone _;rw[hn];have YK:c.size=na-k+m:=by rw[hp.size_eq,G1,zx,zy]
 have{os,Lr}:=zZ1 (a:=A0 st) (c:=c) (sa:=sa+k) 'L';have yH:∀(j:Nat) (hj:j<c.size),(∃(p:Nat) (hp:p<(A0 st).size),sa+k<=p/\p<sb/\c[j]=(A0 st)[p])\/∃(p:Nat) (hp:p<(A0 st).size),sb<=p/\p<sb+m/\c[j]=(A0 st)[p]:=λj hj=>by
  have hx:c[j]∈(A0 st).extract (sa+k) sb++(A0 st).extract sb (sb+m):=hp.mem_iff.mp (AI hj);rcases Array.mem_append.mp hx with hx|hx
  .exact .inl (Fu hx)
  .exact .inr (Fu hx)
 refine h _ {(zRY 'L' 'L' hp).trans hB.perm,hB.kind,hB.failed} rfl (λp r hr WI h3 h4=>?_) λp hpp Ms Dc=>?_
 .have W8:r<(A0 st).size:=by rw[<-os];exact hr
  show L (_:Array CI)[r] (_:Array CI)[p]=AD;rw[Lr r hr W8,Lr p (C0 WI hr) (C0 WI W8)];by_cases gP:p<sa+k
  .rw[dif_neg (show ¬(sa+k<=p/\p-(sa+k)<c.size) by lia)];by_cases hr1:r<sa+k
   .rw[dif_neg (show ¬(sa+k<=r/\r-(sa+k)<c.size) by lia)];exact ga p r W8 WI h3 (AO hr1 (EG (AL _) hk))
   .by_cases oQ:r-(sa+k)<c.size
    .rw[dif_pos (show sa+k<=r/\r-(sa+k)<c.size from{E4 hr1,oQ})];rcases yH _ oQ with⟨u,hu,u1,u2,eu⟩|⟨u,hu,u1,u2,eu⟩
     .rw[eu];exact ga p u hu (AO gP u1) h3 (AO u2 (CU wW))
     .rw[eu];exact O.trans _ _ _ (mm p (C0 WI W8)) (mm sb eD) (mm u hu) (jI p (C0 WI W8) h3 gP) (b0 u hu u1 (AO u2 (EG (AL _) hm)))
    .rw[dif_neg (show ¬(sa+k<=r/\r-(sa+k)<c.size) by lia)];exact O.trans _ _ _ (mm p (C0 WI W8)) (mm sb eD) (mm r W8) (jI p (C0 WI W8) h3 gP) (b0 r W8 'L' 'L')
  .by_cases YH:p-(sa+k)<c.size
   .rw[dif_pos (show sa+k<=p/\p-(sa+k)<c.size from{E4 gP,YH})];by_cases oQ:r-(sa+k)<c.size
    .rw[dif_pos (show sa+k<=r/\r-(sa+k)<c.size from{by lia,oQ})];have z:=DM.mp oS (p-(sa+k)) (r-(sa+k)) (by simpa using YH) (by simpa using oQ) 'L';simpa using z
    .rw[dif_neg (show ¬(sa+k<=r/\r-(sa+k)<c.size) by lia)];rcases yH _ YH with⟨u,hu,u1,u2,eu⟩|⟨u,hu,u1,u2,eu⟩
     .rw[eu];exact O.trans _ _ _ (mm u hu) (mm _ Di) (mm r W8) (aL u hu (AW (A3 _ _) u1) (AO u2 (CU wW))) (d2' r W8 'L' 'L')
     .rw[eu];exact gb u r W8 'L' u1 'L'
   .rw[dif_neg (show ¬(sa+k<=p/\p-(sa+k)<c.size) by lia),dif_neg (show ¬(sa+k<=r/\r-(sa+k)<c.size) by lia)];exact gb p r W8 WI 'L' 'L'
 .show(_:Array CI)[p]=_;rw[Lr p hpp Ms,dif_neg (show ¬(sa+k<=p/\p-(sa+k)<c.size) by lia)]
end
theorem seg_iff:Seg L a i n↔∀p q x y,p<q->i<=p->q<i+n->a[p]?=AA x->a[q]?=AA y->L y x=AD:=by
 constructor
 .intro h p q x y NT hi hq ex ey;have{h1,rfl}:=CO.mp ex;have{h2,rfl}:=CO.mp ey;exact h p q h2 NT hi hq
 .intro h p q hq NT hi hn;exact h p q _ _ NT hi hn (getElem?_pos a p (C0 NT hq)) (getElem?_pos a q hq)
section
variable{E:AH->AQ->Prop}
theorem qT{st:BW}{Q:Option Bool->BW->Prop}(hA:WR prog w A s kd CC L)(hB:SB CC kd st)(hi:i<(A0 st).size)(hj:j<(A0 st).size)(h:Q (AA (L (A0 st)[i] (A0 st)[j])) st) : NZ (A7 prog w) A E s (ltAt' i j) Q st:=by rw[ltAt'_eq];refine BG (NL ?_);exact BG (qP hi (BG (qP hj (Ab hA hB.kind (hB.mem hi) (hB.mem hj) h))))
theorem zIK{st:BW}{lo n ok:Nat}{Q:Bool->BW->Prop}(hA:WR prog w A s kd CC L)(O:Ord L CC)(hn:lo+n<=CC.size)(hok:ok<=n)(h1:1<=n)(hB:SB CC kd st)(hs:Seg L (A0 st) lo ok) (h:∀CT,SB CC kd CT->DL CT=DL st->Seg L (A0 CT) lo n->(∀p,p<lo->(A0 CT)[p]?=(A0 st)[p]?)->Q AN CT):NZ (A7 prog w) A E s (binarySort' lo n ok) Q st:=by
 rw[binarySort'_eq];refine BG (JX (FY (I:=λk c CT=>c=(AK,())/\SB CC kd CT/\DL CT=DL st/\Seg L (A0 CT) lo k/\∀p,p<lo->(A0 CT)[p]?=(A0 st)[p]?)
  (Q:=λc CT=>c=(AK,())/\SB CC kd CT/\DL CT=DL st/\Seg L (A0 CT) lo n/\∀p,p<lo->(A0 CT)[p]?=(A0 st)[p]?) ?step ?fin {rfl,hB,rfl,?ini,λ_ _=>rfl}) ?post)
 case ini=>intro p q hq NT hp oR;exact hs p q hq NT hp 'O'
 case fin=>intro c CT zz';have{e,lY,hp,SY,ho}:=zz';refine{e,lY,hp,λp q hq NT hp oR=>SY p q hq NT hp ?_,ho};omega
 case post=>intro c CT zz';have{rfl,lY,hp,SY,ho}:=zz';exact BD (h CT lY hp SY ho)
 case step =>
  intro k c CT hak hkn zz';have{rfl,lY,hp,SY,ho}:=zz';have NK:=lY.size;have ZR:lo+k<(A0 CT).size:=by omega
  have mm:∀(p:Nat) (hp:p<(A0 CT).size),(A0 CT)[p]∈CC:=λp hp=>lY.mem hp;refine BG (JX (FY (I:=λx c PD=>PD=CT/\∃l r,c=(AK,l,r)/\l<=r/\r<=k/\(∀(p:Nat) (hp:lo+p<(A0 CT).size),p<l->L (A0 CT)[lo+k] (A0 CT)[lo+p]=AD)/\(∀(p:Nat) (hp:lo+p<(A0 CT).size),r<=p->p<k->L (A0 CT)[lo+k] (A0 CT)[lo+p]=AN)/\r-l+x<=k)
   (Q:=λc PD=>PD=CT/\∃l r,c=(AK,l,r)/\l<=k/\(∀(p:Nat) (hp:lo+p<(A0 CT).size),p<l->L (A0 CT)[lo+k] (A0 CT)[lo+p]=AD)/\(∀(p:Nat) (hp:lo+p<(A0 CT).size),l<=p->p<k->L (A0 CT)[lo+k] (A0 CT)[lo+p]=AN)) ?istep
   ((λc PD q0=>by have{e,l,r,e2,q1,q2,q3,q4,q5}:=q0;exact{e,l,r,e2,AW q1 q2,q3,λp hp h1 h2=>q4 p hp 'O' h2})) {rfl,0,k,rfl,BQ _,AL _,λp hp h=>by omega,λp hp h1 h2=>by omega,by omega}) ?ipost)
  case istep =>
   intro x c PD _ hxk zz';have{rfl,l,r,rfl,q1,q2,q3,q4,q5}:=zz';by_cases lS:l>=r
   .rw[if_pos lS];exact BD {rfl,l,r,rfl,AW q1 q2,q3,λp hp h1 h2=>q4 p hp 'O' h2}
   .rw[if_neg lS];have hm:lo+(l+r) / 2<(A0 PD).size:=by omega
    refine BG (qT hA lY ZR hm ?_);cases e:L (A0 PD)[lo+k] (A0 PD)[lo+(l+r) / 2] with
    |true =>
     refine BD {rfl,l,(l+r) / 2,rfl,by omega,by omega,q3,λp hp h1 h2=>?_,by omega};cases e3:L (A0 PD)[lo+k] (A0 PD)[lo+p] with
     |true=>rfl
     |false =>
      rcases DI h1 with z|z
      .rw[O.trans _ _ _ (mm _ hm) (mm _ hp) (mm _ ZR) (SY (lo+(l+r) / 2) (lo+p) hp (A9 z _) (A3 _ _) (A9 h2 _)) e3] at e;cases e
      .subst z;rw[e] at e3;cases e3
    |false =>
     refine BD {rfl,(l+r) / 2+1,r,rfl,by omega,q2,λp hp h1=>?_,q4,by omega};rcases DI (show p<=(l+r) / 2 from IK h1) with z|z
     .exact O.trans _ _ _ (mm _ hp) (mm _ hm) (mm _ ZR) (SY (lo+p) (lo+(l+r) / 2) hm (A9 z _) (A3 _ _) 'O') e
     .subst z;exact e
  case ipost =>
   intro c PD zz';have{rfl,l,r,rfl,hl,q3,q4}:=zz';show NZ _ _ _ _ (do moveDown' (lo+k) (lo+l);pure (QQ (AK,()))) _ _;rw[moveDown'_eq];have bu:=getElem?_bubble (xs:=A0 PD) ZR (lo+k-(lo+l)) (C6 _ _);refine BG (MW (BD {rfl,lY.setArr (bubble_perm _ _ _),hp,?_,λp YH=>?_}))
   .show Seg L (bubble (A0 PD) (lo+k) (lo+k-(lo+l))) lo (k+1);have Mq:=seg_iff.mp SY;rw[seg_iff];intro p q x y NT hlp oR ex ey;rw[bu] at ex ey;rw[show lo+k-(lo+k-(lo+l))=lo+l by omega] at ex ey;by_cases gP:p=lo+l
    .rw[if_pos gP] at ex;rw[if_neg 'O',if_pos 'O'] at ey;have{z1,rfl}:=CO.mp ex;have{z2,rfl}:=CO.mp ey;have z:=q4 (q-1-lo) 'O' 'O' 'O';have e:lo+(q-1-lo)=q-1:=by omega
     simp only[e] at z;exact O.asym _ _ (mm _ z1) (mm _ z2) z
    .rw[if_neg gP] at ex;by_cases XX:q=lo+l
     .rw[if_pos XX] at ey;rw[if_neg 'O'] at ex;have{z1,rfl}:=CO.mp ex;have{z2,rfl}:=CO.mp ey;have z:=q3 (p-lo) 'O' 'O';have e:lo+(p-lo)=p:=by omega
      simp only[e] at z;exact z
     .rw[if_neg XX] at ey;by_cases YH:lo+l<p/\p<=lo+k
      .rw[if_pos YH] at ex;rw[if_pos 'O'] at ey;exact Mq (p-1) (q-1) x y 'O' 'O' 'O' ex ey
      .rw[if_neg YH] at ex;by_cases bX:lo+l<q/\q<=lo+k
       .rw[if_pos bX] at ey;exact Mq p (q-1) x y 'O' (hlp) 'O' ex ey
       .rw[if_neg bX] at ey;exact Mq p q x y (NT) (hlp) 'O' ex ey
   .show(bubble (A0 PD) (lo+k) (lo+k-(lo+l)))[p]?=_;rw[bu,if_neg 'O',if_neg 'O'];exact ho p YH
end
section
def Desc(L:CI->CI->Bool)(a:Array CI)(i n:Nat):Prop:=∀p q x y,p<q->i<=p->q<i+n->a[p]?=AA x->a[q]?=AA y->L x y=AD
def Blk(L:CI->CI->Bool)(a:Array CI)(i j:Nat):Prop:=∀p q x y,i<=p->p<j->i<=q->q<j->a[p]?=AA x->a[q]?=AA y->L x y=AD
theorem mir(hj:j<=xs.size)(k:Nat):(QM xs i j ((j-i) / 2))[k]?=if i<=k/\k<j then xs[i+j-1-k]? else xs[k]?:=getElem?_mirror_all hj k
theorem Desc.blk{lo n i:Nat}(d:Desc L a lo n)(hi:lo<=i)(hj:lo+n<=a.size)(b:Blk L a i (lo+n)):Desc L (QM a i (lo+n) ((lo+n-i) / 2)) lo n:=by
 intro p q x y NT hp hq ex ey;rw[mir hj] at ex ey;by_cases gP:i<=p/\p<lo+n
 .rw[if_pos gP] at ex;rw[if_pos 'L'] at ey;exact b _ _ x y 'L' 'L' 'L' 'L' ex ey
 .rw[if_neg gP] at ex;by_cases XX:i<=q/\q<lo+n
  .rw[if_pos XX] at ey;exact d p _ x y 'L' hp 'L' ex ey
  .rw[if_neg XX] at ey;exact d p q x y NT hp hq ex ey
theorem Desc.rev{lo n:Nat}(d:Desc L a lo n)(hj:lo+n<=a.size):Seg L (QM a lo (lo+n) ((lo+n-lo) / 2)) lo n:=by rw[seg_iff];intro p q x y NT hp hq ex ey;rw[mir hj] at ex ey;rw[if_pos 'L'] at ex ey;exact d _ _ y x 'L' 'L' 'L' ey ex
theorem Seg.more{lo n:Nat}(O:Ord L CC)(hm:∀x∈a,x∈CC)(s:Seg L a lo n)(h1:1<=n)(hs:lo+n<a.size)(h:L a[lo+n] (a[lo+n-1]'(AS (C6 _ _) hs))=AD):Seg L a lo (n+1):=by
 intro p q hq NT hp oR;rcases DI (show q<=lo+n by lia) with z|z
 .exact s p q hq NT hp z
 .subst z;rcases DI (show p<=lo+n-1 by lia) with z|z
  .exact O.trans _ _ _ (hm _ (AI _)) (hm _ (AI _)) (hm _ (AI hs)) (s p (lo+n-1) (AS (C6 _ _) hs) z hp 'L') h
  .subst z;exact h
theorem Desc.snoc{lo n:Nat}(d:Desc L a lo n)(h:∀p z,lo<=p->p<lo+n->a[p]?=AA z->L z y=AD)(e:a[lo+n]?=AA y):Desc L a lo (n+1):=λp q x y' NT hp hq ex ey=>by
 rcases DI (show q<=lo+n by lia) with z|z
 .exact d p q x y' NT hp z ex ey
 .subst z;rw[e] at ey;cases ey;exact h p x hp (NT) ex
theorem Sb{lo n i:Nat}{P:CI->Prop}(hj:lo+n<=a.size)(hi:lo<=i)(h:∀p z,lo<=p->p<lo+n->a[p]?=AA z->P z):∀p z,lo<=p->p<lo+n->(QM a i (lo+n) ((lo+n-i) / 2))[p]?=AA z->P z:=λp z h1 h2 e=>by
 rw[mir hj] at e;split at e
 .exact h _ z 'L' 'L' e
 .exact h p z h1 h2 e
theorem Blk.mir(b:Blk L a i j)(hj:j<=a.size):Blk L (QM a i j ((j-i) / 2)) i j:=λp q x y h1 h2 h3 h4 ex ey=>by rw[_T.mir hj,if_pos {h1,h2}] at ex;rw[_T.mir hj,if_pos {h3,h4}] at ey;exact b _ _ x y 'L' 'L' 'L' 'L' ex ey
theorem Blk.one(O:Ord L CC)(hm:∀x∈a,x∈CC):Blk L a i (i+1):=λp q x y h1 h2 h3 h4 ex ey=>by
 have e1:p=i:=by lia
 have e2:q=i:=by lia
 subst e1;subst e2;rw[ex] at ey;cases ey;exact O.refl (hm _ (Array.mem_of_getElem? ex))
theorem Seg.one{lo:Nat}:Seg L a lo 1:=λp q hq NT hp oR=>by lia
end
section
variable{E:AH->AQ->Prop}
def KpO(CC:Array CI)(kd:Y0)(lo:Nat)(st CT:BW):Prop:=Kp CC kd st CT/\∀p,p<lo->(A0 CT)[p]?=(A0 st)[p]?
theorem KpO.rev{st CT:BW}{lo i j:Nat}(h:KpO CC kd lo st CT)(hi:lo<=i)(hj:j<=CC.size):KpO CC kd lo st (setArr CT (QM (A0 CT) i j ((j-i) / 2))):=by refine{h.1.rev,λp hp=>?_};rw[mir (by rw[h.1.1.size];exact hj),if_neg 'L'];exact h.2 p hp
theorem Xj{α:Type}{T:StateT BW cC α}{E:AH->AQ->Prop}{Q:α->BW->Prop}{NX:Prop}(P:BW->Prop)(h1:(∀st,P st->NZ M A E s T Q st)->NX)(h2:∀st,P st->NZ M A E s T Q st):NX:=h1 h2
theorem zMB{st:BW}{lo RG:Nat}{Q:Option Nat->BW->Prop}(hA:WR prog w A s kd CC L)(O:Ord L CC)(hn:lo+RG<=CC.size)(h1:1<=RG)(hB:SB CC kd st) (h:∀m CT,KpO CC kd lo st CT->1<=m->m<=RG->Seg L (A0 CT) lo m->Q (AA m) CT):NZ (A7 prog w) A E s (countRun' lo RG) Q st:=by
 have k0:KpO CC kd lo st st:={{hB,rfl},λ_ _=>rfl};have NK:=hB.size;have mm:∀x∈A0 st,x∈CC:=λx hx=>hB.perm.mem_iff.mp hx;refine BG (JX (FY (I:=λx c CT=>CT=st/\c=(AK,x)/\Seg L (A0 st) lo x) (Q:=λc CT=>CT=st/\∃n,c=(AK,n)/\1<=n/\n<=RG/\Seg L (A0 st) lo n/\(n=RG\/∃(hx:lo+n<(A0 st).size),L (A0 st)[lo+n] ((A0 st)[lo+n-1]'(AS (C6 _ _) hx))=AN)) ?s1 ?f1 {rfl,rfl,Seg.one}) ?p1)
 case f1=>intro c CT zz';have{rfl,rfl,sg}:=zz';have e:(if 1<=RG then RG else 1)=RG:=if_pos h1;exact{rfl,_,rfl,mG _ _,by lia,sg,.inl 'L'}
 case s1 =>
  intro x c CT pF wU zz';have{rfl,rfl,sg}:=zz';have RJ:lo+x<(A0 CT).size:=by lia
  refine BG (qT hA hB RJ (show lo+x-1<(A0 CT).size from AS (C6 _ _) RJ) ?_);cases e:L (A0 CT)[lo+x] ((A0 CT)[lo+x-1]'(AS (C6 _ _) RJ)) with
  |true=>exact BD {rfl,x,rfl,pF,CQ wU,sg,.inr {RJ,e}}
  |false=>exact BD {rfl,rfl,sg.more O mm pF RJ e}
 case p1 =>
  intro c CT zz';have{rfl,n,rfl,hn1,aJ,sg,Dc}:=zz';refine LQ (λq=>?_) (λq=>?_)
  .exact BD (h n _ k0 hn1 aJ sg)
  have q':¬(n=RG):=λz=>q (beq_iff_eq.mpr z);obtain⟨RJ,xI⟩:∃(hx:lo+n<(A0 CT).size),L (A0 CT)[lo+n] ((A0 CT)[lo+n-1]'(AS (C6 _ _) hx))=AN:=by
   rcases Dc with z|z
   .exact absurd z q'
   .exact z
  -- the first n are alike,and the next is below
  have start:∀st1,KpO CC kd lo CT st1->Blk L (A0 st1) lo (lo+n)->(∀p x,lo<=p->p<lo+n->(A0 st1)[p]?=AA x->L x (A0 CT)[lo+n]=AD)->(A0 st1)[lo+n]?=(A0 CT)[lo+n]?->Desc L (A0 st1) lo (n+1):=λst1 k1 bl MV he p q x y NT hp hq ex ey=>by
   rcases DI (show q<=lo+n by lia) with z|z
   .exact bl p q x y hp (C0 NT z) (CQ (AS hp NT)) z ex ey
   .subst z;rw[he,getElem?_pos (A0 CT) (lo+n) RJ] at ey;cases ey;exact MV p x hp (NT) ex
  have Oy:∀(hq0:n=1\/L ((A0 CT)[lo]'(AS (A3 _ _) RJ)) ((A0 CT)[lo+n-1]'(AS (C6 _ _) RJ))=AD),Blk L (A0 CT) lo (lo+n):=λhq0 p q x y hp YH hq bX ex ey=>by
   have{z1,rfl}:=CO.mp ex;have{z2,rfl}:=CO.mp ey;have le:∀(u v:Nat) (hv:v<(A0 CT).size) (Mj:u<=v),lo<=u->v<lo+n->L (A0 CT)[v] ((A0 CT)[u]'(AS Mj hv))=AD:=λu v hv Mj h3 h4=>by
    rcases DI Mj with z|z
    .exact sg u v hv z h3 h4
    .subst z;exact O.refl (mm _ (AI _))
   rcases hq0 with z|z
   .have e1:p=lo:=by lia
    have e2:q=lo:=by lia
    subst e1;subst e2;exact O.refl (mm _ (AI _))
   ·-- y<=last<=first<=x turned: y at D7 x
    have a1:=le q (lo+n-1) (AS (C6 _ _) RJ) 'L' hq 'L';have a2:=le lo p z1 hp (AL _) YH;exact O.trans _ _ _ (mm _ (AI z2)) (mm _ (AI (show lo<(A0 CT).size from AS (A3 _ _) RJ))) (mm _ (AI z1))
     (O.trans _ _ _ (mm _ (AI z2)) (mm _ (AI (show lo+n-1<(A0 CT).size from AS (C6 _ _) RJ))) (mm _ (AI (show lo<(A0 CT).size from AS (A3 _ _) RJ))) a1 z) a2
  have yL:Blk L (A0 CT) lo (lo+n)->∀p x,lo<=p->p<lo+n->(A0 CT)[p]?=AA x->L x (A0 CT)[lo+n]=AD:=λbl p x hp YH ex=>by have{z1,rfl}:=CO.mp ex;have a1:=O.asym _ _ (mm _ (AI RJ)) (mm _ (AI (show lo+n-1<(A0 CT).size from AS (C6 _ _) RJ))) xI;have a2:=bl p (lo+n-1) _ _ hp YH 'L' 'L' (getElem?_pos (A0 CT) p z1) (getElem?_pos (A0 CT) (lo+n-1) (AS (C6 _ _) RJ));exact O.trans _ _ _ (mm _ (AI RJ)) (mm _ (AI (show lo+n-1<(A0 CT).size from AS (C6 _ _) RJ))) (mm _ (AI z1)) a1 a2
  refine Xj (λst1=>KpO CC kd lo CT st1/\Desc L (A0 st1) lo (n+1)) (λK=>by
   refine LQ (λq1=>?_) (λq1=>?_)
   case refine_2=>exact K _ {k0,start _ k0 (Oy (.inl 'L')) (yL (Oy (.inl 'L'))) rfl}
   case refine_1 =>
    refine BG (qT hA hB (show lo<(A0 CT).size from AS (A3 _ _) RJ) (show lo+n-1<(A0 CT).size from AS (C6 _ _) RJ) ?_);cases eq1:L ((A0 CT)[lo]'(AS (A3 _ _) RJ)) ((A0 CT)[lo+n-1]'(AS (C6 _ _) RJ))
    case true=>exact BD (h n _ k0 hn1 aJ sg)
    refine BG (z7 ?_);have bl:=Oy (.inr eq1);have k1:=k0.rev (i:=lo) (j:=lo+n) (AL _) (AW (EG (AL _) aJ) hn);exact K _ {k1,start _ k1 (Blk.mir (i:=lo) (j:=lo+n) bl (CQ RJ)) (Sb (CQ RJ) (AL _) (yL bl)) (by show(QM (A0 CT) lo (lo+n) ((lo+n-lo) / 2))[lo+n]?=_;rw[mir (CQ RJ),if_neg 'L'])}) ?_
  intro st1 zz';have{k1,D1}:=zz';refine BG (QF (FL {rfl,?_}));have mk:∀st2,KpO CC kd lo CT st2->∀x∈A0 st2,x∈CC:=λst2 k x hx=>k.1.1.perm.mem_iff.mp hx;refine BG (JX (FY (I:=λx c st2=>∃WH,c=(AK,x,WH)/\KpO CC kd lo CT st2/\Desc L (A0 st2) lo x/\WH+1<=x/\Blk L (A0 st2) (lo+x-(WH+1)) (lo+x))
   (Q:=λc st2=>∃m WH,c=(AK,m,WH)/\KpO CC kd lo CT st2/\n+1<=m/\m<=RG/\Desc L (A0 st2) lo m/\WH+1<=m/\Blk L (A0 st2) (lo+m-(WH+1)) (lo+m)) ?s2 ?f2 {0,rfl,k1,D1,DP _ _,Blk.one O (mk _ k1)}) ?p2)
  case f2=>intro c st2 zz';have{WH,rfl,k,D,gR,bk}:=zz';exact{_,WH,rfl,k,mG _ _,by lia,D,gR,bk}
  case s2 =>
   intro x c st2 pF wU zz';have{WH,rfl,k,D,gR,bk}:=zz';have ZN:=k.1.1.size;have m2:=mk _ k;have SX:lo+x<(A0 st2).size:=by lia
   have oI:lo+x-1<(A0 st2).size:=AS (C6 _ _) SX;have all1:L (A0 st2)[lo+x-1] (A0 st2)[lo+x]=AD->∀p z,lo<=p->p<lo+x->(A0 st2)[p]?=AA z->L z (A0 st2)[lo+x]=AD:=λe p z hp YH ez=>by
    have{z1,rfl}:=CO.mp ez;rcases DI (show p<=lo+x-1 by lia) with u|u
    .exact O.trans _ _ _ (m2 _ (AI SX)) (m2 _ (AI oI)) (m2 _ (AI z1)) e (D p (lo+x-1) _ _ u hp 'L' ez (getElem?_pos (A0 st2) (lo+x-1) oI))
    .subst u;exact e
   refine BG (qT hA k.1.1 SX oI ?_);cases e:L (A0 st2)[lo+x] (A0 st2)[lo+x-1] with
   |true =>
    have al:=all1 (O.asym _ _ (m2 _ (AI SX)) (m2 _ (AI oI)) e);simp only[if_true];refine LQ (λ_=>?_) (λ_=>?_)
    .have k':=k.rev (i:=lo+x-(WH+1)) (j:=lo+x) 'L' 'L';refine BG (z7 (BD {0,rfl,k',?_,DP _ _,Blk.one O (mk _ k')}));refine Desc.snoc (y:=(A0 st2)[lo+x]) (D.blk 'L' (CQ SX) bk) (Sb (CQ SX) 'L' al) ?_;show(QM (A0 st2) (lo+x-(WH+1)) (lo+x) ((lo+x-(lo+x-(WH+1))) / 2))[lo+x]?=_;rw[mir (CQ SX),if_neg 'L'];exact getElem?_pos (A0 st2) (lo+x) SX
    .exact BD {0,rfl,k,D.snoc al (getElem?_pos (A0 st2) (lo+x) SX),DP _ _,Blk.one O m2}
   |false =>
    refine BG (qT hA k.1.1 oI SX ?_);cases e2:L (A0 st2)[lo+x-1] (A0 st2)[lo+x] with
    |true=>exact BD {x,WH,rfl,k,pF,CQ wU,D,gR,bk}
    |false =>
     have al:=all1 e2;refine BD {WH+1,rfl,k,D.snoc al (getElem?_pos (A0 st2) (lo+x) SX),EG gR (AL _),λp q u v YM VZ h3' h4' eu ev=>?_};by_cases hp:p<lo+x
     .by_cases hq:q<lo+x
      .exact bk p q u v 'L' hp 'L' hq eu ev
      .have e3:q=lo+x:=by lia
       subst e3;rw[getElem?_pos (A0 st2) (lo+x) SX] at ev;cases ev;exact al p u 'L' hp eu
     .have e3:p=lo+x:=by lia
      subst e3;rw[getElem?_pos (A0 st2) (lo+x) SX] at eu;cases eu;by_cases hq:q<lo+x
      .have{z1,rfl}:=CO.mp ev;have a1:=bk (lo+x-1) q _ _ 'L' 'L' 'L' hq (getElem?_pos (A0 st2) (lo+x-1) oI) ev;exact O.trans _ _ _ (m2 _ (AI z1)) (m2 _ (AI oI)) (m2 _ (AI SX)) a1 e
      .have e4:q=lo+x:=by lia
       subst e4;rw[getElem?_pos (A0 st2) (lo+x) SX] at ev;cases ev;exact O.refl (m2 _ (AI SX))
  case p2 =>
   intro c st2 zz';have{m,WH,rfl,k2,aM,aK,D,gR,bk}:=zz';have ZN:=k2.1.1.size;dsimp only;refine Xj (λst1=>KpO CC kd lo CT st1/\Desc L (A0 st1) lo m) (λK=>by
    refine LQ (λ_=>?_) (λ_=>?_)
    case refine_2=>exact K _ {k2,D}
    case refine_1=>exact BG (z7 (K _ {k2.rev (i:=lo+m-(WH+1)) (j:=lo+m) 'L' (AW (EG (AL _) aK) hn),D.blk (i:=lo+m-(WH+1)) 'L' 'L' bk}))) ?_
   intro st2 zz';have{k2,D}:=zz';have Mb:=k2.1.1.size;refine BG (z7 ?_);have rX:=Desc.rev D (by first|exact AW (AW (EG (AL _) aK) hn) (CU Mb.symm)|lia);have k3:=k2.rev (i:=lo) (j:=lo+m) (AL _) (AW (EG (AL _) aK) hn);refine BG (JX (FY (I:=λx c KS=>KpO CC kd lo CT KS/\c=(AK,x)/\Seg L (A0 KS) lo x) (Q:=λc KS=>KpO CC kd lo CT KS/\∃n,c=(AK,n)/\1<=n/\n<=RG/\Seg L (A0 KS) lo n) ?s3 ?f3 {k3,rfl,rX}) ?p3)
   case f3=>intro c KS zz';have{k,rfl,sg}:=zz';exact{k,_,rfl,AW h1 (ND _ _),by lia,sg}
   case s3 =>
    intro x c KS pF wU zz';have{k,rfl,sg}:=zz';have hz4:=k.1.1.size;have SX:lo+x<(A0 KS).size:=by lia
    refine BG (qT hA k.1.1 SX (show lo+x-1<(A0 KS).size from AS (C6 _ _) SX) ?_);cases e:L (A0 KS)[lo+x] ((A0 KS)[lo+x-1]'(AS (C6 _ _) SX)) with
    |true=>exact BD {k,x,rfl,AW (AW (DP _ _) aM) pF,CQ wU,sg}
    |false=>exact BD {k,rfl,sg.more O (mk _ k) (AW (AW (DP _ _) aM) pF) SX e}
   case p3=>intro c KS zz';have{k,z,rfl,lM,ZN,sg}:=zz';exact BD (h z _ k lM ZN sg)
end
section
theorem Seg.keep(s:Seg L x i n)(h:∀q,i<=q->q<i+n->x'[q]?=x[q]?):Seg L x' i n:=by rw[seg_iff] at s ⊢;intro p q u v NT hp hq eu ev;rw[h p hp (C0 NT hq)] at eu;rw[h q (CQ (AS hp NT)) hq] at ev;exact s p q u v NT hp hq eu ev
def CovO(L:CI->CI->Bool)(x:Array CI):List Run->Nat->Nat->Prop
 |[],a,b=>a=b
 |(st,len,_)::r,a,b=>st=a/\1<=len/\Seg L x a len/\CovO L x r (a+len) b
theorem CovO.le:∀{p:List Run} {a b:Nat},CovO L x p a b->a<=b
 |[],_,_,h=>CU h
 |(_,len,_)::r,a,b,h=>by have:=CovO.le h.2.2.2;lia
theorem CovO.len:∀{p:List Run} {a b:Nat},CovO L x p a b->p.length+a<=b
 |[],_,_,h=>by have h:_=_:=h;simp;lia
 |(_,len,_)::r,a,b,h=>by have:=CovO.len h.2.2.2;have:=h.2.1;rw[BA];lia
theorem CovO.keepIn:∀{p:List Run} {a b:Nat},CovO L x p a b->(∀q,a<=q->q<b->x'[q]?=x[q]?)->CovO L x' p a b
 |[],_,_,h,_=>h
 |(_,len,_)::r,a,b,h,hk=>by have:=CovO.le h.2.2.2;exact{h.1,h.2.1,h.2.2.1.keep λq h1 h2=>hk q h1 (AO h2 this),CovO.keepIn h.2.2.2 λq h1 h2=>hk q (AW (A3 _ _) h1) h2}
theorem CovO.keep(h:CovO L x p 0 b)(hk:∀q,q<b->x'[q]?=x[q]?):CovO L x' p 0 b:=h.keepIn λq _ hq=>hk q hq
theorem CovO.snoc:∀{p:List Run} {a b n k:Nat},CovO L x p a b->1<=n->Seg L x b n->CovO L x (p++[(b,n,k)]) a (b+n)
 |[],a,b,n,k,h,hn,s=>by have h:a=b:=h;subst h;exact{rfl,hn,s,rfl}
 |(_,len,_)::r,a,b,n,k,h,hn,s=>{h.1,h.2.1,h.2.2.1,CovO.snoc h.2.2.2 hn s}
theorem CovO.modify:∀{p:List Run} {a b i pw:Nat},CovO L x p a b->CovO L x (p.modify i λ(st,len,_)=>(st,len,pw)) a b
 |[],a,b,i,pw,h=>by simpa using h
 |(_,len,_)::r,a,b,0,pw,h=>{h.1,h.2.1,h.2.2.1,h.2.2.2}
 |(_,len,_)::r,a,b,i+1,pw,h=>by rw[List.modify_succ_cons];exact{h.1,h.2.1,h.2.2.1,CovO.modify h.2.2.2}
theorem CovO.last(h:CovO L x p 0 b)(hl:p.length<=1):Seg L x 0 b:=by
 match p,h,hl with
 |[],h,_=>have h:=h;subst h;intro p q hq NT hp oR;lia
 |[(st,len,k)],h,_ =>
  have{_,_,s,e}:=h;have e:0+len=b:=e;have e':b=len:=by lia
  subst e';exact s
theorem CovO.at:∀{p:List Run} {a b i sa na pa sb nb pb:Nat},CovO L x p a b->p[i]?=AA (sa,na,pa)->p[i+1]?=AA (sb,nb,pb) ->(1<=na/\1<=nb/\sb=sa+na/\sb+nb<=b/\a<=sa)/\Seg L x sa na/\Seg L x sb nb /\ ((∀q,q<sa\/sa+(na+nb)<=q->x'[q]?=x[q]?)->Seg L x' sa (na+nb)->CovO L x' ((p.set i (sa,na+nb,pa)).eraseIdx (i+1)) a b)
 |[],a,b,i,_,_,_,_,_,_,h,e,_=>by simp at e
 |[y],a,b,0,_,_,_,_,_,_,h,e,e2=>by simp at e2
 |y::z::r,a,b,0,sa,na,pa,sb,nb,pb,h,e,e2=>by simp at e e2;subst e;subst e2;have{h1,h2,h3,h4,h5,h6,h7}:=h;have:=h7.le;refine{{h2,h5,by lia,by lia,by lia},by rw[h1];exact h3,by rw[h4];exact h6,λhk s=>?_};refine{h1,AW h2 (A3 _ _),by rw[<-h1];exact s,?_};rw[<-Nat.add_assoc];exact h7.keepIn λq h8 _=>hk q 'L'
 |(_,len,_)::r,a,b,i+1,sa,na,pa,sb,nb,pb,h,e,e2=>by have{zz',s1,s2,q6}:=CovO.at h.2.2.2 (by simpa using e) (by simpa using e2);have{q1,q2,q3,q4,q5}:=zz';exact{{q1,q2,q3,q4,AW (A3 _ _) q5},s1,s2,λhk s=>{h.1,h.2.1,h.2.2.1.keep λq h8 h9=>hk q 'L',q6 hk s}}
end
section
variable{E:AH->AQ->Prop}
structure SRO(L:CI->CI->Bool)(CC:Array CI)(kd:Y0)(lo:Nat)(st:BW):Prop where
 sb:SB CC kd st
 cov:CovO L (A0 st) (DL st).toList 0 lo
 le:lo<=CC.size
theorem Ww{st:BW}{i lo:Nat}{Q:Bool->BW->Prop}(hA:WR prog w A s kd CC L)(O:Ord L CC)(R:SRO L CC kd lo st)(hi:i+1<(DL st).size) (h:∀CT,SRO L CC kd lo CT->(DL CT).size+1=(DL st).size->(∀q,lo<=q->(A0 CT)[q]?=(A0 st)[q]?)->Q AN CT) : NZ (A7 prog w) A E s (mergeAt' i) Q st:=by
 have Nk:=AS (A3 _ _) hi;obtain⟨⟨sa,na,pa⟩,e1⟩:∃r:Run,(DL st)[i]?=AA r:={_,getElem?_pos _ i Nk};obtain⟨⟨sb,nb,pb⟩,e2⟩:∃r:Run,(DL st)[i+1]?=AA r:={_,getElem?_pos _ (i+1) hi};obtain⟨⟨q1,q2,q3,q4,q5⟩,s1,s2,_⟩:=R.cov.at (x':=A0 st) (i:=i) (by rw[C2];exact e1) (by rw[C2];exact e2);refine zN3 hA O R.sb e1 e2 q1 q2 q3 (AW q4 R.le) s1 s2 λCT hB hp sg hk=>?_;have lM:=hB.size;have ZN:=R.sb.size;have ZR:∀q,q<sa\/sa+(na+nb)<=q->(A0 CT)[q]?=(A0 st)[q]?:=λq hq=>by
  by_cases z:q<CC.size
  .rw[getElem?_pos (A0 CT) q 'L',getElem?_pos (A0 st) q 'L',hk q 'L' 'L' hq]
  .rw[getElem?_neg (A0 CT) q 'L',getElem?_neg (A0 st) q 'L']
 have hz:i+1<((DL st).setIfInBounds i (sa,na+nb,pa)).size:=by rw[MK];exact hi
 refine h CT {hB,?_,R.le} ?_ λq hq=>ZR q (.inr 'L')
 .rw[hp,WB,dif_pos hz,Array.toList_eraseIdx,UO];exact(R.cov.at (by rw[C2];exact e1) (by rw[C2];exact e2)).2.2.2 ZR sg
 .rw[hp,WB,dif_pos hz,Array.size_eraseIdx,MK];lia
theorem yKE{α:Type}{T:Nat->StateT BW cC α}{E:AH->AQ->Prop}{Q:α->BW->Prop}{NX:Prop}(P:Nat->BW->Prop)(h1:(∀n st,P n st->NZ M A E s (T n) Q st)->NX)(h2:∀n st,P n st->NZ M A E s (T n) Q st):NX:=h1 h2
theorem zMC{st:BW}{Q:Unit->BW->Prop}(hA:WR prog w A s kd CC L)(O:Ord L CC)(hB:SB CC kd st)(hp:DL st=#[]) (h:∀CT,SB CC kd CT->Seg L (A0 CT) 0 CC.size->Q () CT):NZ (A7 prog w) A E s sortRuns' Q st:=by
 rw[sortRuns'_eq];refine BG (NL ?_);dsimp only;rw[hB.size];refine BG (JX (FY (I:=λx c CT=>∃lo,c=(AK,lo)/\SRO L CC kd lo CT/\x<=lo)
  (Q:=λc CT=>∃lo,c=(AK,lo)/\SRO L CC kd lo CT/\CC.size<=lo) ?step ((λc CT q0=>by have{lo,e,R,hx}:=q0;exact{lo,e,R,AW (ND _ _) hx})) {0,rfl,{hB,by rw[hp];rfl,BQ _},AL _}) ?post)
 case step =>
  intro x c CT _ hx zz';have{lo,rfl,R,gO}:=zz';refine LQ (λq=>?_) (λq=>?_)
  .exact BD {lo,rfl,R,q}
  refine BG (zMB hA O 'L' 'L' R.sb λm st2 k2 aM aK sg2=>?_);have R2:SRO L CC kd lo st2:={k2.1.1,by rw[k2.1.2];exact R.cov.keep λq hq=>k2.2 q hq,R.le};refine yKE (λm KS=>SRO L CC kd lo KS/\Seg L (A0 KS) lo m/\1<=m/\lo+m<=CC.size) (λK=>by
   refine LQ (λJB=>?_) (λJB=>?_)
   case refine_2=>have hP:SRO L CC kd lo st2/\Seg L (A0 st2) lo m/\1<=m/\lo+m<=CC.size:={R2,sg2,aM,by lia};revert hP;generalize m=m';exact λhP=>K m' _ hP
   case refine_1=>refine BG (QF (FL {rfl,?_}));refine BG (zIK hA O 'L' 'L' 'L' R2.sb sg2 λKS hB3 hp3 rX ho3=>?_);exact K _ _ {{hB3,by rw[hp3];exact R2.cov.keep λq hq=>ho3 q hq,R2.le},rX,by lia,by lia}) ?_
  intro m KS zz';have{R3,rX,aM,aK}:=zz';refine BG (NL ?_);split
  .rename_i s1 n1 p1 hb;refine BG (JX (FY (I:=λ_ c CT=>c=(AK,())/\SRO L CC kd lo CT/\Seg L (A0 CT) lo _) (Q:=λc CT=>c=(AK,())/\SRO L CC kd lo CT/\Seg L (A0 CT) lo _) ?st1 (λ_ _ h=>h) {rfl,R3,rX}) ?po1)
   case po1=>intro c oB zz';have{rfl,R4,vO}:=zz';refine BG (MW (BG (MW (BD {_,rfl,{{R4.sb.perm,R4.sb.kind,R4.sb.failed},?_,aK},EG gO aM}))));rw[FD];refine CovO.snoc ?_ (aM) vO;rw[Array.toList_modify];exact R4.cov.modify
   case st1 =>
    intro y c oB _ _ zz';have{rfl,R4,vO}:=zz';refine BG (NL ?_);by_cases hz:(DL oB).size>1
    .rw[if_pos hz,getElem?_pos (DL oB) ((DL oB).size-2) 'L'];refine LQ (λ_=>?_) (λ_=>?_)
     .exact BD {rfl,R4,vO}
     refine BG (Ww hA O R4 'L' λi6 R5 _ ho5=>?_);exact BD {rfl,R5,vO.keep λq hq _=>ho5 q hq}
    .rw[if_neg hz];exact BD {rfl,R4,vO}
  .refine BG (MW (BD {_,rfl,{{R3.sb.perm,R3.sb.kind,R3.sb.failed},?_,aK},EG gO aM}));rw[FD];exact R3.cov.snoc (aM) rX
 case post =>
  intro c CT zz';have{lo,rfl,R,hlo}:=zz';have SZ:=R.le;have elo:lo=CC.size:=by lia
  subst elo;have hpz:=R.cov.len;refine BG (JX (FY (I:=λy c CT=>c=(AK,())/\SRO L CC kd CC.size CT/\(DL CT).size+y<=CC.size+1) (Q:=λc CT=>c=(AK,())/\SRO L CC kd CC.size CT/\(DL CT).size<=1) ?st2 ((λc CT q0=>by have{e,R,hs}:=q0;exact{e,R,by lia})) {rfl,R,by simp at hpz;lia}) ?po2)
  case po2=>intro c oB zz';have{rfl,R4,h4}:=zz';exact BD (h _ R4.sb (R4.cov.last (by simpa using h4)))
  case st2 =>
   intro y c oB _ _ zz';have{rfl,R4,h4}:=zz';refine BG (NL ?_);refine LQ (λhz=>?_) (λhz=>?_)
   .exact BD {rfl,R4,hz}
   refine BG (Ww hA O R4 ?_ λi6 R5 hs5 _=>?_)
   .exact AS (Nat.add_le_add_right (yDZ (n:=(DL oB).size-2) (C6 _ _) (AL _)) 1) 'L'
   .exact BD {rfl,R5,by lia}
end
end _T
namespace _T
open PySem PySem.W PyProof.Rows
theorem yD4{LV:AH->AH->Bool}(hp:xs.Perm (IV vs))(sg:Seg (λx y=>LV x.1 y.1) xs 0 (IV vs).size):(xs.map (·.2)).toList.Pairwise λx y=>LV y x=AD:=by
 rw[Array.toList_map,D3,DM];intro i j hi hj LS;have hz:=hp.size_eq;have TV:i<xs.size:=by simpa using hi
 have bZ:j<xs.size:=by simpa using hj
 have z:=sg i j bZ LS (BQ _) 'O';have same:=λx hx=>by
  have h1:x∈IV vs:=hp.mem_iff.mp hx;have h2:x∈vs.zip vs:=by rw[<-QL];exact G2.mpr h1
  exact(mem_zip_self h2).1
 have e1:=same _ (AI TV);have e2:=same _ (AI bZ);simp only[e1,e2] at z;simpa using z
section
variable{E:AH->AQ->Prop}
theorem zVN{R:fG->AQ->Prop}{LV:AH->AH->Bool}(O:Ord (λx y=>LV x.1 y.1) (IV vs))(ho:s.heap.get? a=AA (EW "list" vs.toArray n))(hz:vs.length<=sizeLine) (hk:∀h6:CM,(∀b o,b≠a->s.heap.get? b=AA o->h6.get? b=AA o)->2<=vs.length->BE (A7 prog w) A (keyKind' vs.toArray) (λk s'=>s'={ s with heap:=h6 }/\WR prog w A s' k (IV vs) (λx y=>LV x.1 y.1)) E { s with heap:=h6 }) (h:∀out:List AH,out.Perm vs->(out.Pairwise λx y=>LV y x=AD)->R (.done (.ret .none)) { s with heap:=sortedHeap s.heap a vs out.toArray }):BE (A7 prog w) A (GG.«list.sort» {[.ref a],[]}) R E s:=by
 have la:a<s.heap.objs.size:=BB ho;have zs:vs.toArray.size<=sizeLine:=by simpa using hz
 rw[list_sort_plain];refine AB (fC ho rfl (AB (N1 ho rfl ?_ zs (BQ _))));have g1:=XH ho (λ_=>#[]);generalize oZ:s.heap.update a (DS λ_=>#[])=h1 at g1;have z1:h1.objs.size=s.heap.objs.size:=by rw[<-oZ,M9]
 have o1:∀b o,b≠a->s.heap.get? b=AA o->h1.get? b=AA o:=λb o hb e=>by rw[<-oZ,O3 _ _ _ _ hb];exact e
 refine AB (WK g1 rfl (AB (MX (AB (R8 (C9 ?_))) (by simpa using hz))));generalize hh6:(h1.push (EW "tuple" vs.toArray 0)).push (EW "list" #[] 0)=h6;have wA:∀b o,h1.get? b=AA o->h6.get? b=AA o:=λb o e=>by rw[<-hh6];exact AG _ (AG _ e)
 have g6:=wA _ _ g1;have fin:∀CT:BW,(A0 CT).Perm (IV vs)->Seg (λx y=>LV x.1 y.1) (A0 CT) 0 (IV vs).size->R (.done (.ret .none)) { s with heap:=h6.update a (DS λ_=>(A0 CT).map (·.2)) }:=λCT hp sg=>by have q:=h _ (zL2 hp) (yD4 hp sg);unfold sortedHeap at q;rw[oZ,hh6,Array.toArray_toList] at q;exact q
 have szp:∀CT:BW,(A0 CT).Perm (IV vs)->((A0 CT).map (·.2)).size<=sizeLine+1:=λCT hp=>by rw[Array.size_map,hp.size_eq,pairsOf_size];omega
 by_cases h2:vs.toArray.size<2
 .rw[if_pos h2,if_pos h2];refine AB (wpAny_pure ?_);dsimp only;rw[StateT.run_pure];refine AB (wpAny_pure (AB (WK g6 rfl ?_)));refine AB (N1 g6 rfl ?_ (BQ _) (szp (ZV general' (IV vs) #[] 7 AK) (P4 _)));simp only[bne_self_eq_false,if_false];exact wpAny_pure (fin (ZV general' (IV vs) #[] 7 AK) (P4 _) (λp q hq NT hp oR=>by rw[pairsOf_size] at oR;simp at h2;omega))
 .rw[if_neg h2,if_neg h2];refine AB (CZ (hk h6 (λb o hb e=>wA b o (o1 b o hb e)) (by simpa using h2)) (λk s7 ⟨e7,ask⟩=>?_) λ_ _ e=>e);subst e7;refine AB (CZ (zMC (Q:=λ_ CT=>SB (IV vs) k CT/\Seg (λx y=>LV x.1 y.1) (A0 CT) 0 (IV vs).size) ask O {P4 _,rfl,rfl} rfl λCT b sg=>{b,sg}) ?_ λ_ _ e=>e);rintro⟨⟨⟩,CT⟩ s8 ⟨e8,B,sg⟩;subst e8;refine AB (WK g6 rfl (AB (N1 g6 rfl ?_ (BQ _) (szp CT B.perm))));rw[B.failed];simp only[bne_self_eq_false,P3,if_false];exact wpAny_pure (fin CT B.perm sg)
theorem sorted_inO{vs:List AH}{Q:AH->AQ->Prop}{LV:AH->AH->Bool}(O:Ord (λx y=>LV x.1 y.1) (IV vs))(hl:s.heap.IsList l vs.toArray)(hz:vs.length<=sizeLine) (hk:∀h6:CM,(∀b o,s.heap.get? b=AA o->h6.get? b=AA o)->2<=vs.length->∀E',BE (A7 prog w) A.in1.in1 (keyKind' vs.toArray) (λk s'=>s'={ s with heap:=h6 }/\WR prog w A.in1.in1 s' k (IV vs) (λx y=>LV x.1 y.1)) E' { s with heap:=h6 }) (h:∀out:List AH,out.Perm vs->(out.Pairwise λx y=>LV y x=AD)->Q (.ref (s.heap.objs.size+1)) { s with heap:=sortedAll s.heap vs out.toArray }):BE (A7 prog w) A (call (.builtin "sorted") [.ref l]) Q E s:=by
 refine UZ kind_sorted plain_sorted entry_sorted (args_sorted1 _) ?_;refine AB (wpAny_pure (AB (collect_list hl (AB (R8 ?_ hz)) hz)));have II:∀b o,s.heap.get? b=AA o->((s.heap.push (EW "list" #[] 0)).update s.heap.objs.size (DS (·++vs.toArray))).get? b=AA o:=λb o e=>by rw[O3 _ _ _ _ (CF (BB e))];exact AG _ e
 have z2:((s.heap.push (EW "list" #[] 0)).update s.heap.objs.size (DS (·++vs.toArray))).objs.size=s.heap.objs.size+1:=by rw[M9,YQ]
 generalize hh2:(s.heap.push (EW "list" #[] 0)).update s.heap.objs.size (DS (·++vs.toArray))=h2 at II z2;have gL:(h2.push (EW "list" vs.toArray 0)).get? h2.objs.size=AA (EW "list" vs.toArray 0):=AX _ rfl;refine AB (C9 (DH slot_list_sort {_,gL,rfl} entry_list_sort (zVN O gL hz (λh6 o6 VZ=>?_) λout ho oS=>{_,rfl,?_}) (args_list_sort _)))
 .exact hk h6 (λb o e=>o6 b o (by rw[z2];exact CF (J9 (BB e))) (AG _ (II b o e))) VZ _
 .have q:=h out ho oS;unfold sortedAll at q;rw[hh2,<-z2] at q;exact wpAny_pure {_,rfl,q}
end
end _T
namespace _L
open PySem PySem.Spec PyProof.Rows
theorem zZ2(CC:Array CI):_T.Ord (λx y=>decide (b8 x.1<b8 y.1)) CC where
 asym:=λx y _ _ h=>by have:=of_decide_eq_true h;exact decide_eq_false 'O'
 trans:=λx y z _ _ _ h1 h2=>by have a:=of_decide_eq_false h1;have b:=of_decide_eq_false h2;exact decide_eq_false 'O'
theorem zZ3(h:IH us ns)(p:us.Pairwise λx y=>decide (b8 y<b8 x)=AD):ns.Pairwise (·<=·):=by rw[<-h.nums,D3];exact p.imp λh=>by have:=of_decide_eq_false h;omega
theorem yD5{α:Type}:∀{l:List α},2<=l.length->∃a b r,l=a::b::r
 |a::b::r,_=>{a,b,r,rfl}
 |[],h=>by simp at h
 |[_],h=>by simp at h
theorem T9:CallR X (.builtin "sorted") (λxs H Q=>∃(l:AT) (ns:List Int),xs=[.ref l]/\SqL X.K H l (ns.map V.int)/\∀(ms:List Int) (q:AT),ms.Perm ns->ms.Pairwise (·<=·)->H q=AK->Q (.ref q) (D4 H q (.lst (ms.map V.int)))):=by
 intro AF s σ H xs us Q I r h;have{l,ns,rfl,hl,q}:=h;have{u,rfl,ru}:=X7 r;cases ru;have{CK,rv,pl,z}:=I.list hl;have EU:=rv.length;have hi:=nI rv;refine _T.sorted_inO (LV:=λx y=>decide (b8 x<b8 y)) (zZ2 _) pl.isList (by rw[<-EU];exact z) (λh6 o6 h2 E'=>?_) λout ho oS=>?_
 .have{v1,v2,vr,rfl}:=yD5 h2;rw[keyKind_ints hi];refine wpAny_pure {rfl,λx y hx hy Q' E2 hq=>?_};have mem:∀x:CI,x∈IV (v1::v2::vr)->∃n t,x.1=.int n t:=λx hx=>by
   have:x∈(v1::v2::vr).zip (v1::v2::vr):=by rw[<-QL];exact G2.mpr hx
   have{i,TV,ei}:=Z0.mp (JF this).1;have{t,et}:=IntsAre.int_at hi i x.1 (by rw[BP TV,ei]);exact{_,t,et}
  have{n1,t1,e1}:=mem x hx;have{n2,t2,e2}:=mem y hy;dsimp only at hq;rw[e1,e2] at hq ⊢;exact PySem.W.kat_lt_int hq
 .have{zs,p,rz}:=Vals.perm ho rv;have{e',xZ}:=sortedAll_at s.heap CK out.toArray;have hf:=I.hok.fresh (HQ _);have{ms,rfl,pm}:=zSA p ns rfl;refine{.ref (s.heap.objs.size+1),_,I.laid (o:=.lst (ms.map V.int)) (λb o hb=>sortedAll_old hb) (HQ _) {?_,out,e',rz,xZ},rfl,q ms _ pm (zZ3 (nI rz) oS) hf};rw[p.length_eq];exact z
noncomputable def kN(h:CM):AH->Int×Int
 |.ref p=>match h.get? p with
  |some o=>match o.data with
   |.seq xs _=>(b8 (xs.getD 0 .none),b8 (xs.getD 1 .none))
   |_=>(0,0)
  |none=>(0,0)
 |_=>(0,0)
def U9(a b:Int×Int):Bool:=decide (a.1<b.1\/a.1=b.1/\a.2<b.2)
theorem zVO(h:CM)(CC:Array CI):_T.Ord (λx y=>U9 (kN h x.1) (kN h y.1)) CC where
 asym:=λx y _ _ e=>by have:=of_decide_eq_true e;exact decide_eq_false 'O'
 trans:=λx y z _ _ _ h1 h2=>by have a:=of_decide_eq_false h1;have b:=of_decide_eq_false h2;exact decide_eq_false 'O'
def Prs(H:Hp)(ys:List V)(ps:List (Int×Int)):Prop:=Paired (λ(z:V) (p:Int×Int)=>∃q,z=.ref q/\H q=AA (.tup [.int p.1,.int p.2])) ys ps
section
theorem zVP{Q:Bool->AQ->Prop}(hf:fin=AD)(hq:Q (U9 (x1,y1) (x2,y2)) s):PySem.W.KatLex prog w A b fin Q [(.int x1 t1,.int x2 t2),(.int y1 t3,.int y2 t4)] 0 s:=by
 have one:∀{i:Nat} {u v:Int} {t t':Tok},Q (decide (u<v)) s->BE (A7 prog w) A (oneLt' (b&&i==0) (.int u t) (.int v t')) Q (λ_ _=>False) s:=λ{i u v t t'} h=>by
  cases hb:(b&&i==0) with
  |true=>exact oneLt_int h
  |false=>exact PySem.W.kat_one _ _ (lt_int h)
 refine a7 (V3 (fF (λh1=>cF (a7 (V3 (fF (λh2=>cF (PySem.W.kat_nil ?_)) λh2=>fE (one ?_))))) λh1=>fE (one ?_)))
 .have e1:x1=x2:=by simpa using h1
  have e2:y1=y2:=by simpa using h2
  subst e1;subst e2;rw[hf];have:U9 (x1,y1) (x1,y1)=AD:=decide_eq_false 'S';rw[this] at hq;exact hq
 .have e1:x1=x2:=by simpa using h1
  subst e1;have:U9 (x1,y1) (x1,y2)=decide (y1<y2):=by unfold U9;simp
  rw[this] at hq;exact hq
 .have e1:¬x1=x2:=by simpa using h1
  have:U9 (x1,y1) (x2,y2)=decide (x1<x2):=by unfold U9;simp[e1]
  rw[this] at hq;exact hq
end
theorem Prs.perm(p:zs.Perm ys):∀{ps:List (Int×Int)},Prs H ys ps->∃qs,qs.Perm ps/\Prs H zs qs:=by
 induction p with
 |nil=>intro ps r;cases r;exact{[],GF _,.nil}
 |cons a _ ih =>
  intro ps r;cases r with
  |cons h t=>have{qs,q,r'}:=ih t;exact{_::qs,q.cons _,.cons h r'}
 |swap a b l =>
  intro ps r;cases r with
  |cons h t =>
   cases t with
   |cons h' t'=>exact{_::_::_,H9 _ _ _,.cons h' (.cons h t')}
 |trans _ _ bU ih2=>intro ps r;have{qs,q,r'}:=ih2 r;have{us,q',vT}:=bU r';exact{us,q'.trans q,vT}
theorem Qp(I:Inv X AF σ H s):∀{ys:List V} {us:List AH} {ps:List (Int×Int)},Vals ys us->Prs H ys ps ->(∀y∈ys,Qu H y)/\us.map (kN s.heap)=ps/\∀u∈us,∃(p:AT) (o:IZ) (k:Nat) (x y:Int) (t1 t2:Tok),u=.ref p/\s.heap.get? p=AA o/\o.data=.seq #[.int x t1,.int y t2] k/\kN s.heap u=(x,y):= by
 intro ys;induction ys with
 |nil=>intro us ps h1 h2;cases h1;cases h2;exact{(λy hy=>nomatch hy),rfl,(λu hu=>nomatch hu)}
 |cons y0 ys ih =>
  intro us ps h1 h2;cases h1 with
  |cons r t =>
  cases h2 with
  |@cons _ pp _ _ pr t' =>
  have{q,e,hq}:=pr;have{i1,i2,i3}:=ih t t';subst e;cases r;have{CK,rv,tp,_}:=I.tuple (SqT.of hq);have hi:=nI (ns:=[pp.1,pp.2]) rv;have{o,ho,hc,k,hd}:=tp;obtain⟨t1,t2,rfl⟩:∃t1 t2,CK=[.int pp.1 t1,.int pp.2 t2]:=by
   cases hi with
   |cons _ t1 h2 =>
    cases h2 with
    |cons _ t2 h3=>cases h3;exact{t1,t2,rfl}
  have e2:kN s.heap (.ref q)=(pp.1,pp.2):=by unfold kN;simp only[ho,hd];rfl
  refine{λy hy=>?_,?_,λv hv=>?_}
  .rcases A8.mp hy with rfl|hy
   .exact{q,pp.1,[pp.2],rfl,hq}
   .exact i1 y hy
  .rw[AV,i2,e2]
  .rcases A8.mp hv with rfl|hv
   .exact{q,o,k,pp.1,pp.2,t1,t2,rfl,ho,hd,e2}
   .exact i3 v hv
theorem zJ4:CallR X (.builtin "sorted") (λxs H Q=>∃(l:AT) (ys:List V) (ps:List (Int×Int)),xs=[.ref l]/\SqL X.K H l ys/\Prs H ys ps/\∀(zs:List V) (qs:List (Int×Int)) (q:AT),zs.Perm ys->Prs H zs qs->qs.Perm ps->(qs.Pairwise λa b=>U9 b a=AD)->H q=AK->Q (.ref q) (D4 H q (.lst zs))):=by
 intro AF s σ H xs us Q I r h;have{l,ys,ps,rfl,hl,wY,q}:=h;have{u,rfl,ru}:=X7 r;cases ru;have{CK,rv,pl,z}:=I.list hl;have EU:=rv.length;have{ht,e0,at0}:=Qp I rv wY;have{fs,f1,f2,f3,f4}:=Sr I rv ht;refine _T.sorted_inO (LV:=λx y=>U9 (kN s.heap x) (kN s.heap y)) (zVO _ _) pl.isList (by rw[<-EU];exact z) (λh6 o6 h2 E'=>?_) λout ho oS=>?_
 .refine PySem.W.kat_kind (T:=.type "int") (Vo o6 f2) (by rw[f1];omega) (λv hv=>?_) 'D' {rfl,λx y hx hy Q' E2 hq=>?_}
  .have{n,t,rfl}:=f3 v hv;exact PySem.W.Looks.now
  .have mem:=λx hx=>by
    have:x∈CK.zip CK:=by rw[<-QL];exact G2.mpr hx
    exact(JF this).1
   have{p1,o1,k1,x1,y1,t1,t2,e1,sE,hd1,ep1}:=at0 _ (mem x hx);have{p2,o2,k2,x2,y2,t3,t4,e2,ZP,jH,ep2}:=at0 _ (mem y hy);dsimp only at hq;rw[ep1,ep2] at hq;rw[e1,e2];exact PySem.W.kat_lt (o6 _ _ sE) hd1 (o6 _ _ ZP) jH (zVP rfl hq)
 .have{zs,p,rz}:=Vals.perm ho rv;have{qs,pq,jB}:=Prs.perm p wY;have{_,e3,_}:=Qp I rz jB;have{e',xZ}:=sortedAll_at s.heap CK out.toArray;have hf:=I.hok.fresh (HQ _);have pw:qs.Pairwise λa b=>U9 b a=AD:=by rw[<-e3,D3];exact oS
  refine{.ref (s.heap.objs.size+1),_,I.laid (o:=.lst zs) (λb o hb=>sortedAll_old hb) (HQ _) {?_,out,e',rz,xZ},rfl,q zs qs _ p jB pq pw hf};rw[p.length_eq];exact z
inductive D where
 |non|bl (b:Bool)|int (i:Int)|str (x:CD)|tup (xs:List D)|lst (xs:List D)
 |dk (kvs:List (Key×D))|dt (kvs:List (List Int×D))
inductive Out(α:Type) where
 |ok (a:α)|exc (c:Nat)|bad
noncomputable def Out.bind{α β:Type}:Out α->(α->Out β)->Out β
 |.ok a,f=>f a
 |.exc c,_=>.exc c
 |.bad,_=>.bad
theorem pA3{α β:Type}{x:Out α}{f:α->Out β}{b:β}(h:x.bind f=.ok b):∃a,x=.ok a/\f a=.ok b:=by
 cases x with
 |ok a=>exact{a,rfl,h}
 |exc c=>cases h
 |bad=>cases h
inductive Sl where
 |no|val (d:D)|own (t:Bool) (d:D)
abbrev Ev:=List Sl
def sR:HO->Prop
 |.dK _=>True
 |.dT _=>True
 |_=>False
def Le(F F':Hp):Prop:=∀a u,F a=AA u->F' a=AA u\/(sR u/\∃o,F' a=AA (.frz o u))\/∃t ps bT,u=.tbl t ps/\F' a=AA (.tbl t bT)
theorem Le.refl(F:Hp):Le F F:=λ_ _ h=>.inl h
theorem Le.trans(x:Le F G)(y:Le G H):Le F H:=λa u e=>by
 rcases x a u e with h|⟨hd,o,h⟩|⟨t,ps,bT,rfl,h⟩
 .exact y a u h
 .rcases y a _ h with h|⟨xT,_⟩|⟨_,_,_,z,_⟩
  .exact .inr (.inl {hd,o,h})
  .exact xT.elim
  .cases z
 .rcases y a _ h with h|⟨xT,_⟩|⟨_,_,_,z,h⟩
  .exact .inr (.inr {_,_,_,rfl,h})
  .exact xT.elim
  .cases z;exact .inr (.inr {_,_,_,rfl,h})
theorem Le.rd(l:Le F F')(h:Rd F a u)(hu:∀t ps,u≠.tbl t ps:=by intro _ _ z;cases z):Rd F' a u:=by
 rcases h with h|⟨o,h⟩
 .rcases l a u h with h|⟨_,o,h⟩|⟨_,_,_,z,_⟩
  .exact .inl h
  .exact .inr {o,h}
  .exact absurd z (hu _ _)
 .rcases l a _ h with h|⟨hd,_⟩|⟨_,_,_,z,_⟩
  .exact .inr {o,h}
  .exact hd.elim
  .cases z
theorem Le.tup(l:Le F F')(h:F a=AA (.tup vs)):F' a=AA (.tup vs):=by
 rcases l a _ h with h|⟨hd,_⟩|⟨_,_,_,z,_⟩
 .exact h
 .exact hd.elim
 .cases z
theorem Le.of_gr(g:Gr F F'):Le F F':=λa u e=>.inl (g a u e)
mutual
inductive Rep(K:AC)(F:Hp):V->D->Prop
 |non:Rep K F .non .non
 |bl (b:Bool):Rep K F (.bl b) (.bl b)
 |int (i:Int):Rep K F (.int i) (.int i)
 |str (x:CD):Rep K F (.str x) (.str x)
 |tup {a:AT} {vs:List V} {ds:List D}:F a=AA (.tup vs)->Reps K F vs ds->Rep K F (.ref a) (.tup ds)
 |tupK {a:AT} {xs:List CD}:SqT K (λ_=>AK) a (xs.map V.str)->xs≠[]->Rep K F (.ref a) (.tup (xs.map D.str))
 |lst {a:AT} {vs:List V} {ds:List D}:SqL K F a vs->Reps K F vs ds->Rep K F (.ref a) (.lst ds)
 |dk {a:AT} {kvs:List (Key×V)} {ds:List (Key×D)}:Rd F a (.dK kvs)->RepK K F kvs ds->Rep K F (.ref a) (.dk ds)
 |dt {a:AT} {kvs:List (List Key×V)} {ds:List (List Int×D)}:Rd F a (.dT kvs)->RepT K F kvs ds->Rep K F (.ref a) (.dt ds)
inductive Reps(K:AC)(F:Hp):List V->List D->Prop
 |nil:Reps K F [] []
 |cons {v:V} {d:D} {vs:List V} {ds:List D}:Rep K F v d->Reps K F vs ds->Reps K F (v::vs) (d::ds)
inductive RepK(K:AC)(F:Hp):List (Key×V)->List (Key×D)->Prop
 |nil:RepK K F [] []
 |cons {k:Key} {v:V} {d:D} {vs:List (Key×V)} {ds:List (Key×D)}:Rep K F v d->RepK K F vs ds->RepK K F ((k,v)::vs) ((k,d)::ds)
inductive RepT(K:AC)(F:Hp):List (List Key×V)->List (List Int×D)->Prop
 |nil:RepT K F [] []
 |cons {k:List Int} {v:V} {d:D} {vs:List (List Key×V)} {ds:List (List Int×D)}:Rep K F v d->RepT K F vs ds->RepT K F ((k.map CS,v)::vs) ((k,d)::ds)
end
section
variable{K:AC}
theorem Rep.ind{P:V->D->Prop}{Q:List V->List D->Prop}{R:List (Key×V)->List (Key×D)->Prop}{T:List (List Key×V)->List (List Int×D)->Prop} (h1:P .non .non) (h2:∀b,P (.bl b) (.bl b)) (h3:∀i,P (.int i) (.int i)) (h4:∀x,P (.str x) (.str x)) (h5:∀{a vs ds},F a=AA (.tup vs)->Reps K F vs ds->Q vs ds->P (.ref a) (.tup ds)) (h6:∀{a xs},SqT K (λ_=>AK) a (xs.map V.str)->xs≠[]->P (.ref a) (.tup (xs.map D.str))) (h7:∀{a vs ds},SqL K F a vs->Reps K F vs ds->Q vs ds->P (.ref a) (.lst ds)) (h8:∀{a kvs ds},Rd F a (.dK kvs)->RepK K F kvs ds->R kvs ds->P (.ref a) (.dk ds)) (h9:∀{a kvs ds},Rd F a (.dT kvs)->RepT K F kvs ds->T kvs ds->P (.ref a) (.dt ds)) (q1:Q [] []) (q2:∀{v d vs ds},Rep K F v d->Reps K F vs ds->P v d->Q vs ds->Q (v::vs) (d::ds)) (r1:R [] []) (r2:∀{k v d vs ds},Rep K F v d->RepK K F vs ds->P v d->R vs ds->R ((k,v)::vs) ((k,d)::ds)) (t1:T [] []) (t2:∀{k:List Int} {v d vs ds},Rep K F v d->RepT K F vs ds->P v d->T vs ds->T ((k.map CS,v)::vs) ((k,d)::ds)) : (∀{v d},Rep K F v d->P v d)/\(∀{vs ds},Reps K F vs ds->Q vs ds)/\(∀{vs ds},RepK K F vs ds->R vs ds)/\∀{vs ds},RepT K F vs ds->T vs ds :={λh=>Rep.rec h1 h2 h3 h4 h5 h6 h7 h8 h9 q1 q2 r1 r2 t1 t2 h,λh=>Reps.rec h1 h2 h3 h4 h5 h6 h7 h8 h9 q1 q2 r1 r2 t1 t2 h,λh=>RepK.rec h1 h2 h3 h4 h5 h6 h7 h8 h9 q1 q2 r1 r2 t1 t2 h,λh=>RepT.rec h1 h2 h3 h4 h5 h6 h7 h8 h9 q1 q2 r1 r2 t1 t2 h}
theorem pA4(l:Le F F'):(∀{v d},Rep K F v d->Rep K F' v d)/\(∀{vs ds},Reps K F vs ds->Reps K F' vs ds)/\(∀{vs ds},RepK K F vs ds->RepK K F' vs ds)/\∀{vs ds},RepT K F vs ds->RepT K F' vs ds :=Rep.ind .non .bl .int .str (λh _ r=>.tup (l.tup h) r) (λh n=>.tupK h n) (λh _ r=>.lst (h.imp (λz=>l.rd z) id) r) (λh _ r=>.dk (l.rd h) r) (λh _ r=>.dt (l.rd h) r) .nil (λ_ _ h r=>.cons h r) .nil (λ_ _ h r=>.cons h r) .nil (λ_ _ h r=>.cons h r)
theorem Rep.le(l:Le F F')(r:Rep K F v d):Rep K F' v d:=(pA4 l).1 r
theorem Reps.le(l:Le F F')(r:Reps K F v d):Reps K F' v d:=(pA4 l).2.1 r
theorem RepK.le(l:Le F F')(r:RepK K F v d):RepK K F' v d:=(pA4 l).2.2.1 r
theorem RepT.le(l:Le F F')(r:RepT K F v d):RepT K F' v d:=(pA4 l).2.2.2 r
theorem Rep.vI(r:Rep K F v (.int i)):v=.int i:=by cases r;rfl
theorem Rep.vB(r:Rep K F v (.bl b)):v=.bl b:=by cases r;rfl
theorem Rep.vS(r:Rep K F v (.str x)):v=.str x:=by cases r;rfl
theorem Rep.vN(r:Rep K F v .non):v=.non:=by cases r;rfl
theorem Reps.rec1{Q:List V->List D->Prop}(q1:Q [] [])(q2:∀{v d vs ds},Rep K F v d->Reps K F vs ds->Q vs ds->Q (v::vs) (d::ds))(h:Reps K F vs ds):Q vs ds :=(Rep.ind (P:=λ_ _=>True) (R:=λ_ _=>True) (T:=λ_ _=>True) trivial (λ_=>trivial) (λ_=>trivial) (λ_=>trivial) (λ_ _ _=>trivial) (λ_ _=>trivial) (λ_ _ _=>trivial) (λ_ _ _=>trivial) (λ_ _ _=>trivial) q1 (λh r _ ih=>q2 h r ih) trivial (λ_ _ _ _=>trivial) trivial (λ_ _ _ _=>trivial)).2.1 h
theorem RepK.rec1{R:List (Key×V)->List (Key×D)->Prop}(r1:R [] [])(r2:∀{k v d vs ds},Rep K F v d->RepK K F vs ds->R vs ds->R ((k,v)::vs) ((k,d)::ds))(h:RepK K F vs ds):R vs ds :=(Rep.ind (P:=λ_ _=>True) (Q:=λ_ _=>True) (T:=λ_ _=>True) trivial (λ_=>trivial) (λ_=>trivial) (λ_=>trivial) (λ_ _ _=>trivial) (λ_ _=>trivial) (λ_ _ _=>trivial) (λ_ _ _=>trivial) (λ_ _ _=>trivial) trivial (λ_ _ _ _=>trivial) r1 (λh r _ ih=>r2 h r ih) trivial (λ_ _ _ _=>trivial)).2.2.1 h
theorem RepT.rec1{T:List (List Key×V)->List (List Int×D)->Prop}(t1:T [] [])(t2:∀{k:List Int} {v d vs ds},Rep K F v d->RepT K F vs ds->T vs ds->T ((k.map CS,v)::vs) ((k,d)::ds))(h:RepT K F vs ds):T vs ds :=(Rep.ind (P:=λ_ _=>True) (Q:=λ_ _=>True) (R:=λ_ _=>True) trivial (λ_=>trivial) (λ_=>trivial) (λ_=>trivial) (λ_ _ _=>trivial) (λ_ _=>trivial) (λ_ _ _=>trivial) (λ_ _ _=>trivial) (λ_ _ _=>trivial) trivial (λ_ _ _ _=>trivial) trivial (λ_ _ _ _=>trivial) t1 (λh r _ ih=>t2 h r ih)).2.2.2 h
theorem Reps.length(r:Reps K F vs ds):vs.length=ds.length :=r.rec1 (Q:=λvs ds=>vs.length=ds.length) rfl λ_ _ ih=>congrArg (·+1) ih
theorem Reps.append(r:Reps K F vs ds)(s:Reps K F ws es):Reps K F (vs++ws) (ds++es) :=r.rec1 (Q:=λvs ds=>Reps K F (vs++ws) (ds++es)) s λh _ ih=>.cons h ih
theorem Reps.get{i:Nat}(r:Reps K F vs ds):ds[i]?=AA d->∃v,vs[i]?=AA v/\Rep K F v d :=r.rec1 (Q:=λvs ds=>∀i,ds[i]?=AA d->∃v,vs[i]?=AA v/\Rep K F v d) (λ_ e=>by simp at e) (λh _ ih i e=>by
  cases i with
  |zero=>cases e;exact{_,rfl,h}
  |succ i=>exact ih i e) i
theorem Reps.set(i:Nat)(r:Reps K F vs ds)(h:Rep K F v d):Reps K F (vs.set i v) (ds.set i d) :=r.rec1 (Q:=λvs ds=>∀i,Reps K F (vs.set i v) (ds.set i d)) (λ_=>.nil) (λq r ih i=>by
  cases i with
  |zero=>exact .cons h r
  |succ i=>exact .cons q (ih i)) i
theorem Reps.take(n:Nat)(r:Reps K F vs ds):Reps K F (vs.take n) (ds.take n) :=r.rec1 (Q:=λvs ds=>∀n,Reps K F (vs.take n) (ds.take n)) (λn=>by rw[List.take_nil,List.take_nil];exact .nil) (λq r ih n=>by
  cases n with
  |zero=>exact .nil
  |succ n=>exact .cons q (ih n)) n
theorem Reps.drop(n:Nat)(r:Reps K F vs ds):Reps K F (vs.drop n) (ds.drop n) :=r.rec1 (Q:=λvs ds=>∀n,Reps K F (vs.drop n) (ds.drop n)) (λn=>by rw[List.drop_nil,List.drop_nil];exact .nil) (λq r ih n=>by
  cases n with
  |zero=>exact .cons q r
  |succ n=>exact ih n) n
theorem Reps.reverse(r:Reps K F vs ds):Reps K F vs.reverse ds.reverse :=r.rec1 (Q:=λvs ds=>Reps K F vs.reverse ds.reverse) .nil λh _ ih=>by rw[J4,J4];exact ih.append (.cons h .nil)
theorem Reps.eraseIdx(i:Nat)(r:Reps K F vs ds):Reps K F (vs.eraseIdx i) (ds.eraseIdx i) :=r.rec1 (Q:=λvs ds=>∀n,Reps K F (vs.eraseIdx n) (ds.eraseIdx n)) (λn=>.nil) (λq r ih n=>by
  cases n with
  |zero=>exact r
  |succ n=>exact .cons q (ih n)) i
theorem Reps.rep(n:Nat)(r:Reps K F vs ds):Reps K F (BI n vs).flatten (BI n ds).flatten:=by
 induction n with
 |zero=>exact .nil
 |succ n ih=>rw[EL,G5,EL,G5];exact r.append ih
theorem Reps.nil_iff(r:Reps K F vs ds):vs=[]↔ds=[]:=by cases r<;>simp
theorem Reps.ints:∀ns:List Int,Reps K F (ns.map V.int) (ns.map D.int)
 |[]=>.nil
 |n::ns=>.cons (.int n) (Reps.ints ns)
theorem Reps.vint{ns:List Int}(r:Reps K F vs (ns.map D.int)):vs=ns.map V.int :=r.rec1 (Q:=λvs ds=>∀bs:List Int,ds=bs.map D.int->vs=bs.map V.int) (λbs e=>by cases bs with
  |nil=>rfl
  |cons=>cases e) (λh _ ih bs e=>by
  cases bs with
  |nil=>cases e
  |cons b bs=>cases e;rw[h.vI,ih bs rfl];rfl) ns rfl
theorem Reps.vbl{bs:List Bool}(r:Reps K F vs (bs.map D.bl)):vs=bs.map V.bl :=r.rec1 (Q:=λvs ds=>∀bs:List Bool,ds=bs.map D.bl->vs=bs.map V.bl) (λbs e=>by cases bs with
  |nil=>rfl
  |cons=>cases e) (λh _ ih bs e=>by
  cases bs with
  |nil=>cases e
  |cons b bs=>cases e;rw[h.vB,ih bs rfl];rfl) bs rfl
theorem pA5{bs:List CD}(r:Reps K F vs (bs.map D.str)):vs=bs.map V.str :=r.rec1 (Q:=λvs ds=>∀bs:List CD,ds=bs.map D.str->vs=bs.map V.str) (λbs e=>by cases bs with
  |nil=>rfl
  |cons=>cases e) (λh _ ih bs e=>by
  cases bs with
  |nil=>cases e
  |cons b bs=>cases e;rw[h.vS,ih bs rfl];rfl) bs rfl
end
def Sub(F H:Hp):Prop:=∀a u,F a=AA u->H a=AA u
theorem Sub.rd(s:Sub F H)(h:Rd F a u):Rd H a u:=h.imp (s a u) (λq0=>by have{o,h}:=q0;exact{o,s a _ h})
def OwnAt(K:AC)(F H:Hp)(a:AT):D->Prop
 |.lst ds=>∃vs,H a=AA (.lst vs)/\Reps K F vs ds
 |.dk ds=>∃kvs,H a=AA (.dK kvs)/\RepK K F kvs ds
 |.dt ds=>∃kvs,H a=AA (.dT kvs)/\RepT K F kvs ds
 |_=>False
def kE:HO->Prop
 |.lst _=>True
 |.dK _=>True
 |.dT _=>True
 |_=>False
theorem OwnAt.ho{K:AC}(h:OwnAt K F H a d):∃o,H a=AA o/\kE o:=by
 cases d with
 |lst ds=>have{vs,e,_}:=h;exact{_,e,trivial}
 |dk ds=>have{vs,e,_}:=h;exact{_,e,trivial}
 |dt ds=>have{vs,e,_}:=h;exact{_,e,trivial}
 |_=>exact h.elim
theorem OwnAt.mono{K:AC}(h:OwnAt K F H a d)(l:Le F F')(e:H' a=H a):OwnAt K F' H' a d:=by
 cases d with
 |lst ds=>have{vs,q,r}:=h;exact{vs,e.trans q,r.le l}
 |dk ds=>have{vs,q,r}:=h;exact{vs,e.trans q,r.le l}
 |dt ds=>have{vs,q,r}:=h;exact{vs,e.trans q,r.le l}
 |_=>exact h.elim
theorem OwnAt.rep{K:AC}(h:OwnAt K F H a d)(n:F a=AK)(eo:H a=AA o):Rep K (D4 F a o) (.ref a) d:=by
 have l:Le F (D4 F a o):=.of_gr (Gr.new n);cases d with
 |lst ds=>have{vs,q,r}:=h;rw[eo] at q;cases q;exact .lst (.inl (.inl G9)) (r.le l)
 |dk ds=>have{vs,q,r}:=h;rw[eo] at q;cases q;exact .dk (.inl G9) (r.le l)
 |dt ds=>have{vs,q,r}:=h;rw[eo] at q;cases q;exact .dt (.inl G9) (r.le l)
 |_=>exact h.elim
def D6(σ:St)(E:Ev)(a:AT):Prop:=∃(i:Nat) (t:Bool) (d:D),E[i]?=AA (Sl.own t d)/\σ[i]?=AA (AA (V.ref a))
structure Sim(K:AC)(H₀:Hp)(τ:AT)(F H:Hp)(σ:St)(E:Ev):Prop where
 sub:Sub F H
 len:E.length=σ.length
 val:∀(i:Nat) d,E[i]?=AA (.val d)->∃v,σ[i]?=AA (AA v)/\Rep K F v d
 own:∀(i:Nat) t d,E[i]?=AA (.own t d)->∃a,σ[i]?=AA (AA (.ref a))/\F a=AK/\OwnAt K F H a d/\(∀o u,H₀ a≠AA (.frz o u))/\(t=AN->τ=a)
 inj:∀(i j:Nat) t u d e a,E[i]?=AA (.own t d)->E[j]?=AA (.own u e)->σ[i]?=AA (AA (.ref a))->σ[j]?=AA (AA (.ref a))->i=j
def Nw(H:Hp)(a:AT):Prop:=∀o,H a=AA o->¬kE o
theorem Nw.none(h:H a=AK):Nw H a:=λo e=>by rw[h] at e;cases e
structure Stp(ow:AT->Prop)(F H F' H':Hp)(W3:AT->Prop):Prop where
 keep:∀a o,H a=AA o->kE o->F a=AK->¬ow a->H' a=AA o
 dom:∀a,H' a=AK->H a=AK
 le:Le F F'
 new:∀a o,F' a=AA o->F a≠AK\/Nw H a\/ow a
 own:∀a,W3 a->ow a\/H a=AK
section
variable{K:AC}{ow RZ Cu:AT->Prop}
theorem Stp.refl:Stp ow F H F H ow:={λ_ _ h _ _ _=>h,λ_ h=>h,.refl _,λa o e=>.inl (by rw[e];exact nofun),λ_ h=>.inl h}
theorem Stp.nF(x:Stp ow F H F1 H1 RZ)(hf:F a=AK)(e:H a=AA o)(hw:kE o)(ho:¬ow a):F1 a=AK:=by
 cases e1:F1 a with
 |none=>rfl
 |some u =>
  rcases x.new a u e1 with z|z|z
  .exact absurd hf z
  .exact absurd hw (z o e)
  .exact absurd z ho
theorem Stp.nw(x:Stp ow F H F1 H1 RZ)(z:Nw H1 a):F a≠AK\/Nw H a\/ow a:=by
 by_cases h1:F a=AK
 .by_cases h2:ow a
  .exact .inr (.inr h2)
  .exact .inr (.inl λo e hw=>z o (x.keep a o e hw h1 h2) hw)
 .exact .inl h1
theorem Stp.trans(x:Stp ow F H F1 H1 RZ)(y:Stp RZ F1 H1 F2 H2 Cu):Stp ow F H F2 H2 Cu:=by
 have o1:∀a,H a≠AK->¬ow a->¬RZ a:=λa hh ho z=>(x.own a z).elim ho hh;refine{λa o e hw hf ho=>?_,λa h=>x.dom a (y.dom a h),x.le.trans y.le,λa o e=>?_,λa h=>?_}
 .have hh:H a≠AK:=by rw[e];exact nofun
  exact y.keep a o (x.keep a o e hw hf ho) hw (x.nF hf e hw ho) (o1 a hh ho)
 .rcases y.new a o e with z|z|z
  .cases e1:F1 a with
   |none=>exact absurd e1 z
   |some u=>exact x.new a u e1
  .exact x.nw z
  .exact(x.own a z).elim (λq=>.inr (.inr q)) λq=>.inr (.inl (.none q))
 .exact(y.own a h).elim (x.own a) λq=>.inr (x.dom a q)
theorem Stp.weak(x:Stp ow F H F1 H1 RZ)(h:∀a,Cu a->RZ a):Stp ow F H F1 H1 Cu:={x.keep,x.dom,x.le,x.new,λa q=>x.own a (h a q)}
def New(F H F' H':Hp):Prop:=Stp (λ_=>False) F H F' H' (λ_=>False)/\Sub F' H'
theorem New.stp(n:New F H F' H'):Stp ow F H F' H' ow :={λa o e hw hf _=>n.1.keep a o e hw hf id,n.1.dom,n.1.le,λa o e=>(n.1.new a o e).elim .inl λz=>z.elim (λz=>.inr (.inl z)) λz=>z.elim,λ_ h=>.inl h}
theorem New.refl(s:Sub F H):New F H F H:={Stp.refl,s}
theorem New.trans(x:New F H F1 H1)(y:New F1 H1 F2 H2):New F H F2 H2:={x.1.trans y.1,y.2}
theorem New.laid(s:Sub F H)(h:H p=AK):New F H (D4 F p o) (D4 H p o):=by
 have hf:F p=AK:=by
  cases e:F p with
  |none=>rfl
  |some u=>rw[s p u e] at h;cases h
 refine{{λa u e _ _ _=>by rw[ET (U6 e h)];exact e,λa e=>?_,.of_gr (Gr.new hf),λa u e=>?_,λ_ z=>z.elim},λa u e=>?_}
 .by_cases ha:a=p
  .subst ha;rw[G9] at e;cases e
  .rw[ET ha] at e;exact e
 .by_cases ha:a=p
  .subst ha;exact .inr (.inl (.none h))
  .rw[ET ha] at e;exact .inl (by rw[e];exact nofun)
 .by_cases ha:a=p
  .subst ha;rw[G9] at e ⊢;exact e
  .rw[ET ha] at e ⊢;exact s a u e
theorem Gr.dom(g:Gr H H')(a:AT)(e:H' a=AK):H a=AK:=by
 cases q:H a with
 |none=>rfl
 |some o=>rw[g a o q] at e;cases e
theorem pA6(s:Sub F H)(g:Gr H H'):New F H F H' :={{λa o e _ _ _=>g a o e,g.dom,.refl _,λa o e=>.inl (by rw[e];exact nofun),λ_ z=>z.elim},λa u e=>g a u (s a u e)}
def gro(F H H':Hp):Hp:=λa=>match H a with|none=>H' a|some _=>F a
theorem Aa(h:H a=AK):gro F H H' a=H' a:=by unfold gro;rw[h]
theorem Ft(h:H a=AA o):gro F H H' a=F a:=by unfold gro;rw[h]
theorem New.gro(s:Sub F H)(g:Gr H H'):New F H (gro F H H') H':=by
 refine{{λa o e _ _ _=>g a o e,g.dom,.of_gr λa u e=>by rw[Ft (s a u e)];exact e,λa o e=>?_,λ_ z=>z.elim},λa u e=>?_}
 .cases q:H a with
  |none=>exact .inr (.inl (.none q))
  |some v=>rw[Ft q] at e;exact .inl (by rw[e];exact nofun)
 .cases q:H a with
  |none=>rw[Aa q] at e;exact e
  |some v=>rw[Ft q] at e;exact g a u (s a u e)
theorem Sim.new(S:Sim K H₀ τ F H σ E)(n:New F H F' H'):Sim K H₀ τ F' H' σ E where
 sub:=n.2
 len:=S.len
 val:=λi d e=>let ⟨v,h1,h2⟩:=S.val i d e;{v,h1,h2.le n.1.le}
 own:=λi t d e=>by have{a,h1,h2,h3,h4}:=S.own i t d e;have{o,ho,hw}:=h3.ho;exact{a,h1,n.1.nF h2 ho hw id,h3.mono n.1.le ((n.1.keep a o ho hw h2 id).trans ho.symm),h4}
 inj:=S.inj
theorem Sim.fresh(S:Sim K H₀ τ F H σ E){a:AT}(h:H a=AK):¬D6 σ E a:=λq0=>by have{i,t,d,e,e'}:=q0;have{b,h1,_,h3,_}:=S.own i t d e;rw[e'] at h1;cases h1;have{o,ho,_}:=h3.ho;rw[h] at ho;cases ho
end
abbrev G:=Ev->Out (D×Ev)
def tV(K:AC)(H₀:Hp)(g:G):TE:=λσ H Q=>∃τ F E d E',Sim K H₀ τ F H σ E/\g E=.ok (d,E') /\ ∀v F' H',Stp (D6 σ E) F H F' H' (D6 σ E')->Sim K H₀ τ F' H' σ E'->Rep K F' v d->Q v H'
def tF(K:AC)(H₀:Hp)(g:G):TE:=λσ H Q=>∃τ F E d E',Sim K H₀ τ F H σ E/\g E=.ok (d,E') /\ ∀a F' H',Stp (D6 σ E) F H F' H' (D6 σ E')->Sim K H₀ τ F' H' σ E'->F' a=AK->H a=AK->OwnAt K F' H' a d->¬D6 σ E' a->Q (.ref a) H'
def tT(K:AC)(H₀:Hp)(g:Ev->Out (Bool×Ev)):TT:=λσ H Q=>∃τ F E b E',Sim K H₀ τ F H σ E/\g E=.ok (b,E') /\ ∀F' H',Stp (D6 σ E) F H F' H' (D6 σ E')->Sim K H₀ τ F' H' σ E'->Q b H'
theorem PE.imp(h:PE X e t)(hi:∀σ H Q,t' σ H Q->t σ H Q):PE X e t':=λAF s σ H Q I q=>h AF s σ H Q I (hi σ H Q q)
theorem PT.imp(h:PT X e t)(hi:∀σ H Q,t' σ H Q->t σ H Q):PT X e t':=λAF s σ H Q I q=>h AF s σ H Q I (hi σ H Q q)
theorem PW.imp(h:PW X e t)(hi:∀σ H Q,t' σ H Q->t σ H Q):PW X e t':=λw AF s σ H Q I q=>h w AF s σ H Q I (hi σ H Q q)
theorem PS.imp(h:PS X e t)(hi:∀D σ H,t' D σ H->t D σ H):PS X e t':=λAF s σ H D I q=>h AF s σ H D I (hi D σ H q)
theorem PSs.imp(h:PSs X e t)(hi:∀D σ H,t' D σ H->t D σ H):PSs X e t':=λAF s σ H D I q=>h AF s σ H D I (hi D σ H q)
abbrev VE(X:Cx)(e:D0)(g:G):Prop:=PE X e (tV X.K X.H₀ g)
abbrev FE(X:Cx)(e:D0)(g:G):Prop:=PE X e (tF X.K X.H₀ g)
abbrev VT(X:Cx)(e:D0)(g:Ev->Out (Bool×Ev)):Prop:=PT X e (tT X.K X.H₀ g)
section
variable{K:AC}
theorem pA7{H:Hp}(h:tV K H₀ g σ H Q):tF K H₀ g σ H Q:=by
 have{τ,F,E,d,E',S,hg,k}:=h;refine{τ,F,E,d,E',S,hg,λp F' H' st S' n n0 ow no=>?_};have{o,ho,hown}:=ow.ho;have nw:Stp (D6 σ E) F H (D4 F' p o) H' (D6 σ E'):={st.keep,st.dom,st.le.trans (.of_gr (Gr.new n)),λa u e=>by
  by_cases ha:a=p
  .subst ha;exact .inr (.inl (.none n0))
  .rw[ET ha] at e;exact st.new a u e,st.own}
 refine k _ _ _ nw {λa u e=>?_,S'.len,λi d e=>?_,λi t d e=>?_,S'.inj} (ow.rep n ho)
 .by_cases ha:a=p
  .subst ha;rw[G9] at e;rw[ho];exact e
  .rw[ET ha] at e;exact S'.sub a u e
 .have{v,h1,h2}:=S'.val i d e;exact{v,h1,h2.le (.of_gr (Gr.new n))}
 .have{b,h1,h2,h3,h4}:=S'.own i t d e;refine{b,h1,?_,h3.mono (.of_gr (Gr.new n)) rfl,h4};rw[ET (λz=>no {i,t,d,e,by rw[<-z];exact h1})];exact h2
theorem pA8(h:FE X e g):VE X e g:=PE.imp h λ_ _ _ q=>pA7 q
noncomputable def AY(i:Nat):G:=λE=>match E[i]? with
 |some (.val d)=>.ok (d,E)
 |some (.own AD d)=>.ok (d,E.set i (.val d))
 |_=>.bad
def gC(d:D):G:=λE=>.ok (d,E)
theorem Sim.share(S:Sim K H₀ τ F H σ E)(e:E[i]?=AA (.own t d)) : ∃a F',σ[i]?=AA (AA (.ref a))/\Stp (D6 σ E) F H F' H (D6 σ (E.set i (.val d)))/\Sim K H₀ τ F' H σ (E.set i (.val d))/\Rep K F' (.ref a) d:=by
 have{a,h1,h2,h3,h4}:=S.own i t d e;have{o,ho,_}:=h3.ho;have hi:=(AR.mp e).1;have l:Le F (D4 F a o):=.of_gr (Gr.new h2);have II:∀j t d',(E.set i (.val d))[j]?=AA (.own t d')->j≠i/\E[j]?=AA (.own t d'):=λj t d' q=>by
  by_cases hj:i=j
  .subst hj;rw[BF hi] at q;cases q
  .rw[A6 hj] at q;exact{FI hj,q}
 refine{a,D4 F a o,h1,{λ_ _ q _ _ _=>q,λ_ q=>q,l,λb u q=>?_,λb ⟨j,t',d',q1,q2⟩=>.inl {j,t',d',(II j t' d' q1).2,q2}},{λb u q=>?_,by rw[BY];exact S.len,λj d' q=>?_,λj t' d' q=>?_,λj k t1 t2 d1 d2 b q1 q2=>S.inj j k t1 t2 d1 d2 b (II _ _ _ q1).2 (II _ _ _ q2).2},h3.rep h2 ho}
 .by_cases hb:b=a
  .subst hb;exact .inr (.inr {i,t,d,e,h1})
  .rw[ET hb] at q;exact .inl (by rw[q];exact nofun)
 .by_cases hb:b=a
  .subst hb;rw[G9] at q;rw[ho];exact q
  .rw[ET hb] at q;exact S.sub b u q
 .by_cases hj:i=j
  .subst hj;rw[BF hi] at q;cases q;exact{_,h1,h3.rep h2 ho}
  .rw[A6 hj] at q;have{v,z1,z2}:=S.val j d' q;exact{v,z1,z2.le l}
 .have{hj,q}:=II j t' d' q;have{b,z1,z2,z3,z4}:=S.own j t' d' q;refine{b,z1,?_,z3.mono l rfl,z4};rw[ET (λz=>hj (S.inj j i t' t d' d a q e (by rw[z1,z]) h1))];exact z2
theorem B0(i:Nat)(hN:X.N[i]?=AA x:=by rfl)(hv:ZK X.env.scope x:=by first|exact BM rfl|exact DW (BM rfl)|exact DW (DW rfl))(hd:(x==("__debug__":CD))=AD:=by decide) (LU:(x==("__classdict__":CD))=AD:=by decide):VE X (.Name x pos) (AY i):=(gA hN hv hd LU).imp λσ H Q h=>by
 have{τ,F,E,d,E',S,hg,k}:=h;unfold AY at hg;split at hg
 .cases hg;rename_i e;have{v,h1,h2}:=S.val i _ e;exact{v,h1,k v F H .refl S h2}
 .cases hg;rename_i e;have{a,F',h1,h2,h3,h4}:=S.share e;exact{_,h1,k _ F' H h2 h3 h4}
 .cases hg
theorem Ik(r:∀F,Rep K F v d)(h:tV K H₀ (gC d) σ H Q):tC v σ H Q:=by have{τ,F,E,d',E',S,hg,k}:=h;cases hg;exact k v F H .refl S (r F)
theorem IA {i j pos}:VE X (.Constant (.int i) j pos) (gC (.int i)):=nR.imp λ_ _ _ h=>Ik (λ_=>.int i) h
theorem iG {b j pos}:VE X (.Constant (.bool b) j pos) (gC (.bl b)):=uR.imp λ_ _ _ h=>Ik (λ_=>.bl b) h
theorem kD {j pos}:VE X (.Constant .none j pos) (gC .non):=nQ.imp λ_ _ _ h=>Ik (λ_=>.non) h
def g2(f:D->D->Out D)(ga gb:G):G:=λE=>(ga E).bind λp=>(gb p.2).bind λq=>(f p.1 q.1).bind λd=>.ok (d,q.2)
def g1(f:D->Out D)(ga:G):G:=λE=>(ga E).bind λp=>(f p.1).bind λd=>.ok (d,p.2)
def UV(K:AC)(rd:R2)(f:D->D->Out D):Prop:=∀v u x y F H d Q,Sub F H->Rep K F v x->Rep K F u y->f x y=.ok d->(∀z F' H',New F H F' H'->Rep K F' z d->Q z H')->rd v u H Q
def Jt(K:AC)(rd:V->Hp->VK->Prop)(f:D->Out D):Prop:=∀v x F H d Q,Sub F H->Rep K F v x->f x=.ok d->(∀z F' H',New F H F' H'->Rep K F' z d->Q z H')->rd v H Q
theorem yT{f:D->D->Out D}(hs:UV K rd f)(h:tV K H₀ (g2 f ga gb) σ H Q):k8 rd (tV K H₀ ga) (tV K H₀ gb) σ H Q:=by have{τ,F,E,d,E',S,hg,k}:=h;have{p,ea,hg}:=pA3 hg;have{q,eb,hg}:=pA3 hg;have{z,ef,hg}:=pA3 hg;cases hg;refine{τ,F,E,p.1,p.2,S,ea,λv F1 H1 st1 S1 r1=>?_};refine{τ,F1,p.2,q.1,q.2,S1,eb,λu F2 H2 st2 S2 r2=>?_};exact hs v u p.1 q.1 F2 H2 d Q S2.sub (r1.le st2.le) r2 ef λz F3 H3 n r3=>k z F3 H3 ((st1.trans st2).trans n.stp) (S2.new n) r3
theorem yHD{rd:V->Hp->VK->Prop}{f:D->Out D}(hs:Jt K rd f){H:Hp}(h:tV K H₀ (g1 f ga) σ H Q):Zo rd (tV K H₀ ga) σ H Q:=by have{τ,F,E,d,E',S,hg,k}:=h;have{p,ea,hg}:=pA3 hg;have{z,ef,hg}:=pA3 hg;cases hg;refine{τ,F,E,p.1,p.2,S,ea,λv F1 H1 st1 S1 r1=>?_};exact hs v p.1 F1 H1 d Q S1.sub r1 ef λz F3 H3 n r3=>k z F3 H3 (st1.trans n.stp) (S1.new n) r3
theorem rE(ho:OpR X (HE op) rd)(hs:UV X.K rd f)(ha:VE X a ga)(hb:VE X b gb):VE X (.BinOp a op b pos) (g2 f ga gb):=(yZ ho ha hb).imp λ_ _ _ h=>yT hs h
theorem yKF{rd:V->Hp->VK->Prop}(ho:Cm X (unaryOp op) rd)(hs:Jt X.K rd f)(ha:VE X a ga):VE X (.UnaryOp op a pos) (g1 f ga):=(yGZ ho ha).imp λ_ _ _ h=>yHD hs h
theorem Zj(ho:OpR X (EV op) rd)(hs:UV X.K rd f)(ha:VE X a ga)(hb:VE X b gb)(hm:DX op b=AD):VE X (.Compare a [op] [b] pos) (g2 f ga gb):=(zZB ho ha hb hm).imp λ_ _ _ h=>yT hs h
def gB(g:G):Ev->Out (Bool×Ev):=λE=>(g E).bind λp=>match p.1 with|.bl b=>.ok (b,p.2)|_=>.bad
theorem iP{op:CmpOp}{rd:R2}{f:D->D->Out D}(ho:OpR X (EV op) rd)(hs:UV X.K rd f)(ha:VE X a ga)(hb:VE X b gb)(hm:DX op b=AD):VT X (.Compare a [op] [b] pos) (gB (g2 f ga gb)):=(zZC ho ha hb hm).imp λσ H Q h=>by
 have{τ,F,E,b',E',S,hg,k}:=h;have{p,ea,hg}:=pA3 hg;refine yT hs {τ,F,E,p.1,p.2,S,ea,λv F1 H1 st1 S1 r1=>?_};split at hg
 .rename_i b' eb;cases hg;rw[eb] at r1;cases r1;exact{_,rfl,k F1 H1 st1 S1}
 .cases hg
def iO(t:Ev->Out (Bool×Ev)):Ev->Out (Bool×Ev):=λE=>(t E).bind λp=>.ok (!p.1,p.2)
def bK(t u:Ev->Out (Bool×Ev)):Ev->Out (Bool×Ev):=λE=>(t E).bind λp=>if p.1=AN then u p.2 else .ok (AD,p.2)
def rD(t u:Ev->Out (Bool×Ev)):Ev->Out (Bool×Ev):=λE=>(t E).bind λp=>if p.1=AN then .ok (AN,p.2) else u p.2
theorem Ek{t:Ev->Out (Bool×Ev)}(h:VT X a t):VT X (.UnaryOp .Not a pos) (iO t):=(yC3 h).imp λσ H Q q=>by have{τ,F,E,b',E',S,hg,k}:=q;have{p,ea,hg}:=pA3 hg;cases hg;exact{τ,F,E,p.1,p.2,S,ea,λF1 H1 st1 S1=>k F1 H1 st1 S1}
abbrev VW(X:Cx)(e:D0)(g:Ev->Out (Bool×Ev)):Prop:=PW X e (tT X.K X.H₀ g)
theorem VW.t{t:Ev->Out (Bool×Ev)}(h:VW X a t):VT X a t:=PW.pt h
theorem z9(h:VT X a t):VW X (.BoolOp .And [a] pos) t:=zY6 h
theorem Qf(h:VT X a t):VW X (.BoolOp .Or [a] pos) t:=yC1 h
theorem zK{t u:Ev->Out (Bool×Ev)}{rest:List D0}(h:VT X a t)(h':VW X (.BoolOp .And (b::rest) pos) u):VW X (.BoolOp .And (a::b::rest) pos) (bK t u):=(yC2 h h').imp λσ H Q q=>by
 have{τ,F,E,b',E',S,hg,k}:=q;have{p,ea,hg}:=pA3 hg;refine{τ,F,E,p.1,p.2,S,ea,λF1 H1 st1 S1=>?_};by_cases hp:p.1=AN
 .rw[if_pos hp] at hg ⊢;exact{τ,F1,p.2,b',E',S1,hg,λF2 H2 st2 S2=>k F2 H2 (st1.trans st2) S2}
 .rw[if_neg hp] at hg ⊢;cases hg;exact k F1 H1 st1 S1
theorem Zi{t u:Ev->Out (Bool×Ev)}{rest:List D0}(h:VT X a t)(h':VW X (.BoolOp .Or (b::rest) pos) u):VW X (.BoolOp .Or (a::b::rest) pos) (rD t u):=(yGP h h').imp λσ H Q q=>by
 have{τ,F,E,b',E',S,hg,k}:=q;have{p,ea,hg}:=pA3 hg;refine{τ,F,E,p.1,p.2,S,ea,λF1 H1 st1 S1=>?_};by_cases hp:p.1=AN
 .rw[if_pos hp] at hg ⊢;cases hg;exact k F1 H1 st1 S1
 .rw[if_neg hp] at hg ⊢;exact{τ,F1,p.2,b',E',S1,hg,λF2 H2 st2 S2=>k F2 H2 (st1.trans st2) S2}
def Ij(ga gb:G):G:=λE=>(ga E).bind λp=>match p.1 with|.bl AN=>gb p.2|.bl AD=>.ok (.bl AD,p.2)|_=>.bad
def Zy(ga gb:G):G:=λE=>(ga E).bind λp=>match p.1 with|.bl AN=>.ok (.bl AN,p.2)|.bl AD=>gb p.2|_=>.bad
def Ii(ga:G):G:=λE=>(ga E).bind λp=>match p.1 with|.bl b=>.ok (.bl (!b),p.2)|_=>.bad
theorem Zh {op} (h:VE X a g):VE X (.BoolOp op [a] pos) g:=yC4 h
theorem yHG{rest:List D0}(ha:VE X a ga)(hb:VE X (.BoolOp .And (b::rest) pos) gb):VE X (.BoolOp .And (a::b::rest) pos) (Ij ga gb):=(yC5 ha hb).imp λσ H Q q=>by
 have{τ,F,E,d,E',S,hg,k}:=q;have{p,ea,hg}:=pA3 hg;refine{τ,F,E,p.1,p.2,S,ea,λv F1 H1 st1 S1 r1=>?_};split at hg
 .rename_i eb;rw[eb] at r1;cases r1;exact{AN,rfl,Xs {τ,F1,p.2,d,E',S1,hg,λv F2 H2 st2 S2 r2=>k v F2 H2 (st1.trans st2) S2 r2}}
 .rename_i eb;rw[eb] at r1;cases r1;cases hg;exact{AD,rfl,Xt (k _ F1 H1 st1 S1 (.bl AD))}
 .cases hg
theorem yKG{rest:List D0}(ha:VE X a ga)(hb:VE X (.BoolOp .Or (b::rest) pos) gb):VE X (.BoolOp .Or (a::b::rest) pos) (Zy ga gb):=(yGS ha hb).imp λσ H Q q=>by
 have{τ,F,E,d,E',S,hg,k}:=q;have{p,ea,hg}:=pA3 hg;refine{τ,F,E,p.1,p.2,S,ea,λv F1 H1 st1 S1 r1=>?_};split at hg
 .rename_i eb;rw[eb] at r1;cases r1;cases hg;exact{AN,rfl,Xs (k _ F1 H1 st1 S1 (.bl AN))}
 .rename_i eb;rw[eb] at r1;cases r1;exact{AD,rfl,Xt {τ,F1,p.2,d,E',S1,hg,λv F2 H2 st2 S2 r2=>k v F2 H2 (st1.trans st2) S2 r2}}
 .cases hg
theorem yHH(ha:VE X a ga):VE X (.UnaryOp .Not a pos) (Ii ga):=(yC6 ha).imp λσ H Q q=>by
 have{τ,F,E,d,E',S,hg,k}:=q;have{p,ea,hg}:=pA3 hg;refine{τ,F,E,p.1,p.2,S,ea,λv F1 H1 st1 S1 r1=>?_};split at hg
 .rename_i b' eb;rw[eb] at r1;cases r1;cases hg;exact{_,rfl,k _ F1 H1 st1 S1 (.bl _)}
 .cases hg
def uW(t:Ev->Out (Bool×Ev))(ga gb:G):G:=λE=>(t E).bind λp=>if p.1=AN then ga p.2 else gb p.2
theorem yKH{c:D0}{t:Ev->Out (Bool×Ev)}(hc:VT X c t)(ha:VE X a ga)(hb:VE X b gb):VE X (.IfExp c a b pos) (uW t ga gb):=(Tx hc ha hb).imp λσ H Q q=>by
 have{τ,F,E,d,E',S,hg,k}:=q;have{p,ea,hg}:=pA3 hg;refine{τ,F,E,p.1,p.2,S,ea,λF1 H1 st1 S1=>?_};by_cases hp:p.1=AN
 .rw[if_pos hp] at hg ⊢;exact{τ,F1,p.2,d,E',S1,hg,λv F2 H2 st2 S2 r=>k v F2 H2 (st1.trans st2) S2 r}
 .rw[if_neg hp] at hg ⊢;exact{τ,F1,p.2,d,E',S1,hg,λv F2 H2 st2 S2 r=>k v F2 H2 (st1.trans st2) S2 r}
end
def Thw(H₀ H H2:Hp):Prop:=∀a,H2 a=H a\/∃o u,H a=AA (.frz o u)/\H2 a=AA u/\sR u/\∀o' u',H₀ a≠AA (.frz o' u')
theorem Inv.thaw(I:Inv X AF σ H s)(t:Thw X.H₀ H H2):Inv X AF σ H2 s:=by
 have tn:∀a,H a=AK->H2 a=AK:=λa e=>by
  rcases t a with h|⟨o,u,h,_⟩
  .rw[h,e]
  .rw[e] at h;cases h
 have tk:∀a v,H a=AA v->(∀o u,v≠.frz o u)->H2 a=AA v:=λa v e n=>by
  rcases t a with h|⟨o,u,h,_⟩
  .rw[h,e]
  .rw[e] at h;cases h;exact absurd rfl (n o u)
 refine{I.ok,I.os,I.bare,{I.base.keep,I.base.slot,λb o e n hx=>tn b (I.base.free b o e n hx),I.base.there,λb xs e=>tk b _ (I.base.tups b xs e) (λ_ _ z=>HO.noConfusion z),λb o u e=>?_,λb t' ps e=>?_},I.loc,I.cell,tn _ I.free,λx c e=>tn c (I.freeC x c e),λp hp=>?_,λb u e=>?_,I.len}
 .rcases t b with h|⟨o',u',_,_,_,h⟩
  .rw[h];exact I.base.frzs b o u e
  .exact absurd e (h o u)
 .have{m,h}:=I.base.tbls b t' ps e;exact{m,tk b _ h (λ_ _ z=>HO.noConfusion z)}
 .have{h1,h2,h3}:=I.pin p hp;exact{h1,tn _ h2,h3}
 .have ok:ObjOk X.prog X.w H s.heap b u:=by
   rcases t b with h|⟨o',u',h1,h2,_⟩
   .exact I.hok b u (by rw[<-h];exact e)
   .rw[e] at h2;cases h2;have{_,q}:=I.hok b _ h1;exact q
  exact ok.stay (λc v _ q=>q) (λc q=>tk c _ q (λ_ _ z=>HO.noConfusion z)) (λc ys q=>tk c _ q (λ_ _ z=>HO.noConfusion z)) λc o x q=>(t c).elim (λh=>h.trans q) (λq0=>by have{_,_,h,_,d,_}:=q0;exact by rw[q] at h;cases h;exact d.elim)
mutual
noncomputable def D.flat:D->Bool
 |.tup xs=>pA9 xs
 |.lst _=>AD
 |.dk _=>AD
 |.dt _=>AD
 |_=>AN
noncomputable def pA9:List D->Bool
 |[]=>AN
 |d::ds=>d.flat&&pA9 ds
end
mutual
noncomputable def D.nod:D->Bool
 |.tup xs=>pAA xs
 |.lst xs=>pAA xs
 |.dk _=>AD
 |.dt _=>AD
 |_=>AN
noncomputable def pAA:List D->Bool
 |[]=>AN
 |d::ds=>d.nod&&pAA ds
end
section
variable{K:AC}
theorem pAB(ht:∀a vs,F a=AA (.tup vs)->F2 a=AA (.tup vs)):(∀{v d},Rep K F v d->d.flat=AN->Rep K F2 v d)/\(∀{vs ds},Reps K F vs ds->pA9 ds=AN->Reps K F2 vs ds) /\ (∀{vs ds},RepK K F vs ds->pA9 (ds.map (·.2))=AN->RepK K F2 vs ds)/\∀{vs ds},RepT K F vs ds->pA9 (ds.map (·.2))=AN->RepT K F2 vs ds :=Rep.ind (λ_=>.non) (λb _=>.bl b) (λi _=>.int i) (λx _=>.str x) (λh _ ih e=>.tup (ht _ _ h) (ih (by rw[D.flat] at e;exact e))) (λh n _=>.tupK h n) (λ_ _ _ e=>by rw[D.flat] at e;cases e) (λ_ _ _ e=>by rw[D.flat] at e;cases e) (λ_ _ _ e=>by rw[D.flat] at e;cases e) (λ_=>.nil) (λ_ _ h r e=>by rw[pA9,EY] at e;exact .cons (h e.1) (r e.2)) (λ_=>.nil) (λ_ _ h r e=>by rw[AV,pA9,EY] at e;exact .cons (h e.1) (r e.2)) (λ_=>.nil) (λ_ _ h r e=>by rw[AV,pA9,EY] at e;exact .cons (h e.1) (r e.2))
theorem Rep.flat2(ht:∀a vs,F a=AA (.tup vs)->F2 a=AA (.tup vs))(r:Rep K F v d):d.flat=AN->Rep K F2 v d:=(pAB ht).1 r
theorem Reps.flat2(ht:∀a vs,F a=AA (.tup vs)->F2 a=AA (.tup vs))(r:Reps K F v d):pA9 d=AN->Reps K F2 v d:=(pAB ht).2.1 r
theorem pAC(ht:∀a vs,F a=AA (.tup vs)->F2 a=AA (.tup vs))(hl:∀a vs,SqL K F a vs->SqL K F2 a vs):(∀{v d},Rep K F v d->d.nod=AN->Rep K F2 v d)/\(∀{vs ds},Reps K F vs ds->pAA ds=AN->Reps K F2 vs ds) /\ (∀{vs ds},RepK K F vs ds->True)/\∀{vs ds},RepT K F vs ds->True :=Rep.ind (λ_=>.non) (λb _=>.bl b) (λi _=>.int i) (λx _=>.str x) (λh _ ih e=>.tup (ht _ _ h) (ih (by rw[D.nod] at e;exact e))) (λh n _=>.tupK h n) (λh _ ih e=>.lst (hl _ _ h) (ih (by rw[D.nod] at e;exact e))) (λ_ _ _ e=>by rw[D.nod] at e;cases e) (λ_ _ _ e=>by rw[D.nod] at e;cases e) (λ_=>.nil) (λ_ _ h r e=>by rw[pAA,EY] at e;exact .cons (h e.1) (r e.2)) trivial (λ_ _ _ _=>trivial) trivial (λ_ _ _ _=>trivial)
theorem pAD(ht:∀a vs,F a=AA (.tup vs)->F2 a=AA (.tup vs))(hl:∀a vs,SqL K F a vs->SqL K F2 a vs)(r:Rep K F v d):d.nod=AN->Rep K F2 v d:=(pAC ht hl).1 r
end
noncomputable def bJ(is:List Nat)(j:Nat):Sl->Sl
 |.own _ d=>if is.contains j then .val d else .no
 |s=>s
def iN(is:List Nat):Nat->Ev->Ev
 |_,[]=>[]
 |j,s::E=>bJ is j s::iN is (j+1) E
abbrev N6(is:List Nat)(E:Ev):Ev:=iN is 0 E
theorem Uu(is:List Nat):∀(E:Ev) (k j:Nat),(iN is k E)[j]?=(E[j]?).map (bJ is (k+j))
 |[],_,_=>by simp[iN]
 |s::E,k,0=>by simp[iN]
 |s::E,k,j+1=>by show(iN is (k+1) E)[j]?=_;rw[Uu is E (k+1) j,F7,show k+1+j=k+(j+1) by lia]
theorem Ud(is:List Nat)(E:Ev)(j:Nat):(N6 is E)[j]?=(E[j]?).map (bJ is j):=by rw[Uu];simp
theorem Ut(is:List Nat):∀(E:Ev) (k:Nat),(iN is k E).length=E.length
 |[],_=>rfl
 |s::E,k=>by rw[iN,BA,BA,Ut is E (k+1)]
def uO:Option Sl->Bool
 |some (.own _ (.lst _))=>AN
 |_=>AD
noncomputable def Ih:Option Sl->Bool
 |some (.own _ (.dk _))=>AN
 |some (.own _ (.dt _))=>AN
 |_=>AD
def cW(is:List Nat)(E:Ev)(d:D):Bool:=(!(is.any λi=>uO E[i]?)||d.flat)&&(!(is.any λi=>Ih E[i]?)||d.nod)
def OY(is:List Nat)(g:G):G:=λE=>(g (N6 is E)).bind λp=>if cW is E p.1=AN then .ok (p.1,E) else .bad
def QT(is:List Nat)(g:Ev->Out (Bool×Ev)):Ev->Out (Bool×Ev):=λE=>(g (N6 is E)).bind λp=>.ok (p.1,E)
section
variable{K:AC}
def Lent(σ:St)(E:Ev)(is:List Nat)(a:AT):Prop:=∃(i:Nat) (t:Bool) (d:D),i∈is/\E[i]?=AA (Sl.own t d)/\σ[i]?=AA (AA (V.ref a))
theorem Lent.ow(h:Lent σ E is a):D6 σ E a:=let ⟨i,t,d,_,e,q⟩:=h;{i,t,d,e,q}
theorem Sim.owned(S:Sim K H₀ τ F H σ E)(h:D6 σ E a):F a=AK/\(∃o,H a=AA o/\kE o)/\∀o u,H₀ a≠AA (.frz o u):=by have{i,t,d,e,q}:=h;have{b,h1,h2,h3,h4,_}:=S.own i t d e;rw[q] at h1;cases h1;exact{h2,h3.ho,h4}
open Classical in
noncomputable def X5(σ:St)(E:Ev)(is:List Nat)(F H:Hp):Hp:=λa=>if Lent σ E is a then H a else F a
open Classical in
noncomputable def WQ(σ:St)(E:Ev)(is:List Nat)(F':Hp):Hp:=λa=>if Lent σ E is a then AK else F' a
open Classical in
noncomputable def bF(σ:St)(E:Ev)(is:List Nat)(H H':Hp):Hp:=λa=>if Lent σ E is a then H a else H' a
theorem Sim.lend(S:Sim K H₀ τ F H σ E)(is:List Nat):Sim K H₀ τ (X5 σ E is F H) H σ (N6 is E)/\∀a,¬D6 σ (N6 is E) a:=by
 have l:Le F (X5 σ E is F H):=λa u e=>by
  refine .inl ?_;unfold X5;split
  .exact S.sub a u e
  .exact e
 have no:∀(i:Nat) t d,(N6 is E)[i]?≠AA (.own t d):=λi t d e=>by
  rw[Ud] at e;cases q:E[i]? with
  |none=>rw[q] at e;cases e
  |some s =>
   rw[q] at e;have e:bJ is i s=.own t d:=BH e;cases s with
   |no=>cases e
   |val _=>cases e
   |own t' d' =>
    by_cases hc:is.contains i=AN
    .rw[show bJ is i (.own t' d')=.val d' from if_pos hc] at e;cases e
    .rw[show bJ is i (.own t' d')=.no from if_neg hc] at e;cases e
 refine{{λa u e=>?_,by rw[Ut];exact S.len,λi d e=>?_,λi t d e=>absurd e (no i t d),λi j t u d d' a e=>absurd e (no i t d)},(λa q0=>by have{i,t,d,e,_}:=q0;exact no i t d e)}
 .unfold X5 at e;split at e
  .exact e
  .exact S.sub a u e
 .rw[Ud] at e;cases q:E[i]? with
  |none=>rw[q] at e;cases e
  |some s =>
   rw[q] at e;have e:bJ is i s=.val d:=BH e;cases s with
   |no=>cases e
   |val d'=>cases e;have{v,h1,h2}:=S.val i d q;exact{v,h1,h2.le l}
   |own t' d' =>
    by_cases hc:is.contains i=AN
    .rw[show bJ is i (.own t' d')=.val d' from if_pos hc] at e;cases e;have{a,h1,h2,h3,_}:=S.own i t' d q;have{o,ho,_}:=h3.ho;refine{.ref a,h1,(h3.rep h2 ho).le λb u e=>.inl ?_};have la:Lent σ E is a:={i,t',d,by simpa using hc,q,h1};by_cases hb:b=a
     .subst hb;rw[G9] at e;unfold X5;rw[if_pos la,ho];exact e
     .rw[ET hb] at e;unfold X5;split
      .exact S.sub b u e
      .exact e
    .rw[show bJ is i (.own t' d')=.no from if_neg hc] at e;cases e
theorem Sim.back(S:Sim K H₀ τ F H σ E)(is:List Nat){W3:AT->Prop}(st:Stp (λ_=>False) (X5 σ E is F H) H F' H' W3)(sb:Sub F' H') : Thw H₀ H' (bF σ E is H H')/\Stp (D6 σ E) F H (WQ σ E is F') (bF σ E is H H') (D6 σ E)/\Sim K H₀ τ (WQ σ E is F') (bF σ E is H H') σ E /\ (∀a u,F' a=AA u->(∀o w,kE o->u≠o/\u≠.frz w o)->WQ σ E is F' a=AA u) /\ ((is.any λi=>uO E[i]?)=AD->∀a vs,SqL K F' a vs->SqL K (WQ σ E is F') a vs):=by
 have lh:∀a,Lent σ E is a->∃o,H a=AA o/\kE o/\(F' a=AA o\/(sR o/\∃w,F' a=AA (.frz w o))):=λa h=>by have{_,zz',_}:=S.owned h.ow;have{o,ho,hw}:=zz';refine{o,ho,hw,(st.le a o ?_).imp_right λz=>z.resolve_right (λq0=>by have{_,_,_,y,_}:=q0;exact by subst y;exact hw)};unfold X5;rw[if_pos h];exact ho
 have l2:Le F (WQ σ E is F'):=λa u e=>by
  have hn:¬Lent σ E is a:=λh=>by rw[(S.owned h.ow).1] at e;cases e
  unfold WQ;rw[if_neg hn];exact st.le a u (by unfold X5;rw[if_neg hn];exact e)
 have kp:∀a o,H a=AA o->kE o->F a=AK->bF σ E is H H' a=AA o:=λa o e hw n=>by
  unfold bF;by_cases h:Lent σ E is a
  .rw[if_pos h];exact e
  .rw[if_neg h];exact st.keep a o e hw (by unfold X5;rw[if_neg h];exact n) id
 have nw:∀a o,WQ σ E is F' a=AA o->F a≠AK\/Nw H a:=λa o e=>by
  unfold WQ at e;by_cases h:Lent σ E is a
  .rw[if_pos h] at e;cases e
  .rw[if_neg h] at e;rcases st.new a o e with z|z|z
   .unfold X5 at z;rw[if_neg h] at z;exact .inl z
   .exact .inr z
   .exact z.elim
 refine{λa=>?_,{λa o e hw n _=>kp a o e hw n,λa e=>?_,l2,λa o e=>(nw a o e).imp_right .inl,λ_ h=>.inl h},{λa u e=>?_,S.len,λi d e=>?_,λi t d e=>?_,S.inj},λa u e hn=>?_,λhl a vs h=>?_}
 .by_cases h:Lent σ E is a
  .obtain⟨o,ho,_,z|⟨id,w,z⟩⟩:=lh a h
   .exact .inl (by unfold bF;rw[if_pos h,sb a o z,ho])
   .exact .inr {w,o,sb a _ z,by unfold bF;rw[if_pos h,ho],id,(S.owned h.ow).2.2}
  .exact .inl (by unfold bF;rw[if_neg h])
 .unfold bF at e;by_cases h:Lent σ E is a
  .rw[if_pos h] at e;exact e
  .rw[if_neg h] at e;exact st.dom a e
 .unfold WQ at e;by_cases h:Lent σ E is a
  .rw[if_pos h] at e;cases e
  .rw[if_neg h] at e;unfold bF;rw[if_neg h];exact sb a u e
 .have{v,h1,h2}:=S.val i d e;exact{v,h1,h2.le l2}
 .have{a,h1,h2,h3,h4}:=S.own i t d e;have{o,ho,hw}:=h3.ho;refine{a,h1,?_,h3.mono l2 ((kp a o ho hw h2).trans ho.symm),h4};cases q:WQ σ E is F' a with
  |none=>rfl
  |some u =>
   rcases nw a u q with z|z
   .exact absurd h2 z
   .exact absurd hw (z o ho)
 .unfold WQ;by_cases h:Lent σ E is a
  .obtain⟨o,ho,hw,z|⟨_,w,z⟩⟩:=lh a h
   .rw[e] at z;cases z;exact absurd rfl (hn u default hw).1
   .rw[e] at z;cases z;exact absurd rfl (hn o w hw).2
  .rw[if_neg h];exact e
 .rcases h with h|h
  case inr=>exact .inr h
  refine .inl ?_;have hn:¬Lent σ E is a:=λhh=>by
   have{o,ho,hw,z}:=lh a hh;have{i,t,d,hi,e,q}:=id hh;have hld:uO E[i]?=AD:=by have:=MG.mp hl i hi;simpa using this
   have{b,h1,h2,h3,_}:=S.own i t d e;rw[q] at h1;cases h1;have od:sR o:=by
    cases d with
    |lst ds=>rw[e] at hld;cases hld
    |dk ds=>have{_,q,_}:=h3;rw[ho] at q;cases q;trivial
    |dt ds=>have{_,q,_}:=h3;rw[ho] at q;cases q;trivial
    |_=>exact h3.elim
   rcases h with h|⟨w,h⟩<;>rcases z with z|⟨_,w',z⟩<;>rw[h] at z<;>cases z<;>exact od
  unfold Rd WQ;rw[if_neg hn];exact h
theorem zVS(S:Sim K H₀ τ F H σ E)(is:List Nat){W3:AT->Prop}(st:Stp (λ_=>False) (X5 σ E is F H) H F' H' W3)(sb:Sub F' H')(hl:cW is E d=AN)(r:Rep K F' v d):Rep K (WQ σ E is F') v d:=by
 have{_,_,_,h1,h2}:=S.back is st sb;have ht:∀a vs,F' a=AA (.tup vs)->WQ σ E is F' a=AA (.tup vs):=λa vs e=>h1 a _ e λo w ho=>{λz=>by subst z;exact ho,λz=>HO.noConfusion z};unfold cW at hl;rw[EY,jX,jX] at hl;rcases hl.1 with z|z
 .rcases hl.2 with y|y
  ·-- nothing is lent at all
   have no:∀a,¬Lent σ E is a:=λa q0=>by
    have{i,t,d,hi,e,q}:=q0;have e1:uO E[i]?=AD:=by have:=MG.mp (by simpa using z) i hi;simpa using this
    have e2:Ih E[i]?=AD:=by have:=MG.mp (by simpa using y) i hi;simpa using this
    have{b,_,_,h3,_}:=S.own i t d e;rw[e] at e1 e2;cases d with
    |lst ds=>cases e1
    |dk ds=>cases e2
    |dt ds=>cases e2
    |_=>exact h3.elim
   exact r.le λa u e=>.inl (by unfold WQ;rw[if_neg (no a)];exact e)
  .exact pAD ht (h2 (by simpa using z)) r y
 .exact Rep.flat2 ht r z
theorem Stp.toF{ow W3:AT->Prop}(h:∀a,¬ow a)(st:Stp ow F H F' H' W3):Stp (λ_=>False) F H F' H' W3 :={λa o e hw n _=>st.keep a o e hw n (h a),st.dom,st.le,λa o e=>(st.new a o e).imp_right λz=>z.imp_right (h a),λa z=>(st.own a z).elim (λz=>absurd z (h a)) .inr}
theorem ZF(is:List Nat)(h:VE X e g):VE X e (OY is g):=by
 intro AF s σ H Q I zz';have{τ,F,E,d,E',S,hg,k}:=zz';have{p,eg,hg}:=pA3 hg;split at hg
 .rename_i hl;cases hg;have{S1,no}:=S.lend is;refine G6 (h AF s σ H (λv H'=>∃F' W3,Stp (λ_=>False) (X5 σ E is F H) H F' H' W3/\Sub F' H'/\Rep X.K F' v p.1) I {τ,_,_,p.1,p.2,S1,eg,λv F' H' st S' r=>{F',_,st.toF no,S'.sub,r}}) λu s' q0=>?_;have{v,H',I',rv,F',W3,st,sb,r}:=q0;have{t1,t2,t3,_}:=S.back is st sb;exact{v,_,I'.thaw t1,rv,k v _ _ t2 t3 (zVS S is st sb hl r)}
 .cases hg
theorem fZ(is:List Nat)(h:VT X e g):VT X e (QT is g):=by intro AF s σ H Q I zz';have{τ,F,E,d,E',S,hg,k}:=zz';have{p,eg,hg}:=pA3 hg;cases hg;have{S1,no}:=S.lend is;refine G6 (h AF s σ H (λb H'=>b=p.1/\∃F' W3,Stp (λ_=>False) (X5 σ E is F H) H F' H' W3/\Sub F' H') I {τ,_,_,p.1,p.2,S1,eg,λF' H' st S'=>{rfl,F',_,st.toF no,S'.sub}}) λu s' q0=>?_;have{H',I',eb,F',W3,st,sb}:=q0;have{t1,t2,t3,_}:=S.back is st sb;subst eb;exact{_,I'.thaw t1,k _ _ t2 t3}
end
inductive Fl where
 |nx (E:Ev)|rt (b:Bool) (d:D) (E:Ev)|bk (E:Ev)|ct (E:Ev)
abbrev GS:=Ev->Out Fl
def RetR(K:AC)(ow:AT->Prop)(H:Hp)(F' H':Hp)(σ':St)(E':Ev):Bool->V->D->Prop
 |false,v,d=>Rep K F' v d
 |true,v,d=>∃a,v=.ref a/\F' a=AK/\OwnAt K F' H' a d/\(ow a\/H a=AK)/\∀(i:Nat) d',E'[i]?=AA (.own AN d')->σ'[i]?≠AA (AA (.ref a))
def FlOk(K:AC)(H₀:Hp)(τ:AT)(ow:AT->Prop)(F H:Hp)(D:Ends):Fl->Prop
 |.nx E'=>∀σ' F' H',Stp ow F H F' H' (D6 σ' E')->Sim K H₀ τ F' H' σ' E'->D.nx σ' H'
 |.bk E'=>∀σ' F' H',Stp ow F H F' H' (D6 σ' E')->Sim K H₀ τ F' H' σ' E'->D.bk σ' H'
 |.ct E'=>∀σ' F' H',Stp ow F H F' H' (D6 σ' E')->Sim K H₀ τ F' H' σ' E'->D.ct σ' H'
 |.rt b d E'=>∀σ' v F' H',Stp ow F H F' H' (D6 σ' E')->Sim K H₀ τ F' H' σ' E'->RetR K ow H F' H' σ' E' b v d->D.rt v H'
def tS(K:AC)(H₀:Hp)(g:GS):TS:=λD σ H=>∃τ F E r,Sim K H₀ τ F H σ E/\g E=.ok r/\FlOk K H₀ τ (D6 σ E) F H D r
abbrev VS(X:Cx)(st:FM)(g:GS):Prop:=PS X st (tS X.K X.H₀ g)
abbrev aH(X:Cx)(st:List FM)(g:GS):Prop:=PSs X st (tS X.K X.H₀ g)
section
variable{K:AC}{ow RZ:AT->Prop}{st:FM}{rest:List FM}
theorem RetR.pre(s:Stp ow F H F1 H1 RZ)(h:RetR K RZ H1 F' H' σ' E' b v d):RetR K ow H F' H' σ' E' b v d:=by
 cases b with
 |false=>exact h
 |true=>have{a,h1,h2,h3,h4,h5}:=h;exact{a,h1,h2,h3,h4.elim (s.own a) λz=>.inr (s.dom a z),h5}
theorem FlOk.pre(s:Stp ow F H F1 H1 RZ)(h:FlOk K H₀ τ ow F H D' r):FlOk K H₀ τ RZ F1 H1 D' r:=by
 cases r with
 |nx E'=>exact λσ' F' H' st S=>h σ' F' H' (s.trans st) S
 |bk E'=>exact λσ' F' H' st S=>h σ' F' H' (s.trans st) S
 |ct E'=>exact λσ' F' H' st S=>h σ' F' H' (s.trans st) S
 |rt b d E'=>exact λσ' v F' H' st S q=>h σ' v F' H' (s.trans st) S (q.pre s)
def PB:GS:=λE=>.ok (.nx E)
def FX(g g':GS):GS:=λE=>(g E).bind λr=>match r with|.nx E1=>g' E1|r=>.ok r
theorem WF:aH X [] PB:=U7.imp λD' σ H h=>by have{τ,F,E,r,S,hg,k}:=h;cases hg;exact k σ F H .refl S
theorem yEA(h:tS K H₀ (FX g g') D' σ H):mI (tS K H₀ g) (tS K H₀ g') D' σ H:=by
 have{τ,F,E,r,S,hg,k}:=h;have{r1,e1,hg}:=pA3 hg;refine{τ,F,E,r1,S,e1,?_};cases r1 with
 |nx E1=>exact λσ' F' H' st S'=>{τ,F',E1,r,S',hg,k.pre st}
 |bk E1=>cases hg;exact k
 |ct E1=>cases hg;exact k
 |rt b d E1=>cases hg;exact k
theorem HU(h1:VS X st g)(h2:aH X rest g'):aH X (st::rest) (FX g g'):=(aC h1 h2).imp λ_ _ _ h=>yEA h
theorem JI(h:VS X st g):aH X [st] g:=kZ h
def Ig:GS:=λ_=>.bad
theorem Qe:VS X st Ig:=dD.imp λD' σ H h=>by have{τ,F,E,r,S,hg,k}:=h;cases hg
def NH(t:Ev->Out (Bool×Ev))(g g':GS):GS:=λE=>(t E).bind λp=>if p.1=AN then g p.2 else g' p.2
theorem U4(hc:VT X c t)(ha:aH X a g)(hb:aH X b g'):VS X (.If c a b pos) (NH t g g'):=(Dv hc ha hb).imp λD' σ H h=>by
 have{τ,F,E,r,S,hg,k}:=h;have{p,e1,hg}:=pA3 hg;refine{τ,F,E,p.1,p.2,S,e1,λF1 H1 s1 S1=>?_};by_cases hp:p.1=AN
 .rw[if_pos hp] at hg ⊢;exact{τ,F1,p.2,r,S1,hg,k.pre s1}
 .rw[if_neg hp] at hg ⊢;exact{τ,F1,p.2,r,S1,hg,k.pre s1}
def NB(g:G):GS:=λE=>(g E).bind λp=>.ok (.rt AD p.1 p.2)
theorem O8(h:VE X e ge):VS X (.Return (AA e) pos) (NB ge):=(tL h).imp λD' σ H q=>by have{τ,F,E,r,S,hg,k}:=q;have{p,e1,hg}:=pA3 hg;cases hg;exact{τ,F,E,p.1,p.2,S,e1,λv F1 H1 s1 S1 r1=>k σ v F1 H1 s1 S1 r1}
def yS(g:G):GS:=λE=>(g E).bind λp=>.ok (.rt AN p.1 p.2)
theorem Sa(h:FE X e ge):VS X (.Return (AA e) pos) (yS ge):=(tL h).imp λD' σ H q=>by have{τ,F,E,r,S,hg,k}:=q;have{p,e1,hg}:=pA3 hg;cases hg;exact{τ,F,E,p.1,p.2,S,e1,λa F1 H1 s1 S1 n1 n2 ow no=>k σ _ F1 H1 s1 S1 {a,rfl,n1,ow,.inr n2,λi d' z1 z2=>no {i,AN,d',z1,z2}}}
inductive Tg where
 |nm (i:Nat)|tp (ts:List Tg)
mutual
noncomputable def WY:Tg->D->Ev->Out Ev
 |.nm i,d,E=>.ok (E.set i (.val d))
 |.tp ts,d,E=>match d with
  |.tup ds=>cN ts ds E
  |_=>.bad
noncomputable def cN:List Tg->List D->Ev->Out Ev
 |[],[],E=>.ok E
 |[],_::_,_=>.bad
 |_::_,[],_=>.bad
 |t::ts,d::ds,E=>(WY t d E).bind λE1=>cN ts ds E1
end
mutual
noncomputable def Tg.ltn(n:Nat):Tg->Bool
 |.nm i=>decide (i<n)
 |.tp ts=>pAE n ts
noncomputable def pAE(n:Nat):List Tg->Bool
 |[]=>AN
 |t::ts=>t.ltn n&&pAE n ts
end
theorem Sim.put(S:Sim K H₀ τ F H σ E)(r:Rep K F v d):Sim K H₀ τ F H (σ.set i (AA v)) (E.set i (.val d))/\∀a,D6 (σ.set i (AA v)) (E.set i (.val d)) a->D6 σ E a:=by
 have II:∀j t d',(E.set i (.val d))[j]?=AA (.own t d')->i≠j/\E[j]?=AA (.own t d'):=λj t d' q=>by
  by_cases hj:i=j
  .subst hj;by_cases hi:i<E.length
   .rw[BF hi] at q;cases q
   .rw[OD (by rw[BY];lia)] at q;cases q
  .rw[A6 hj] at q;exact{hj,q}
 refine{{S.sub,by rw[BY,BY];exact S.len,λj d' q=>?_,λj t d' q=>?_,λj k t1 t2 d1 d2 b q1 q2 z1 z2=>?_},λa ⟨j,t,d',q1,q2⟩=>?_}
 .by_cases hj:i=j
  .subst hj;have hi:i<E.length:=by have:=(AR.mp q).1;rw[BY] at this;exact this
   rw[BF hi] at q;cases q;exact{v,by rw[BF (by rw[<-S.len];exact hi)],r}
  .rw[A6 hj] at q ⊢;exact S.val j d' q
 .have{hj,q}:=II j t d' q;rw[A6 hj];exact S.own j t d' q
 .have{hj,q1}:=II j _ _ q1;have{hk,q2}:=II k _ _ q2;rw[A6 hj] at z1;rw[A6 hk] at z2;exact S.inj j k t1 t2 d1 d2 b q1 q2 z1 z2
 .have{hj,q1}:=II j t d' q1;rw[A6 hj] at q2;exact{j,t,d',q1,q2}
theorem Sim.putO(S:Sim K H₀ τ F H σ E)(h2:F a=AK)(h3:OwnAt K F H a d)(h4:∀o u,H₀ a≠AA (.frz o u))(no:¬D6 σ E a) : Sim K H₀ τ F H (σ.set i (AA (.ref a))) (E.set i (.own AD d))/\∀b,D6 (σ.set i (AA (.ref a))) (E.set i (.own AD d)) b->D6 σ E b\/b=a:=by
 have II:∀j t d',(E.set i (.own AD d))[j]?=AA (.own t d')->(i=j/\t=AD/\d'=d/\(σ.set i (AA (V.ref a)))[j]?=AA (AA (.ref a)))\/(i≠j/\E[j]?=AA (.own t d')/\(σ.set i (AA (V.ref a)))[j]?=σ[j]?):=λj t d' q=>by
  by_cases hj:i=j
  .subst hj;have hi:i<E.length:=by have:=(AR.mp q).1;rw[BY] at this;exact this
   rw[BF hi] at q;cases q;exact .inl {rfl,rfl,rfl,by rw[BF (by rw[<-S.len];exact hi)]}
  .rw[A6 hj] at q;exact .inr {hj,q,by rw[A6 hj]}
 refine{{S.sub,by rw[BY,BY];exact S.len,λj d' q=>?_,λj t d' q=>?_,λj k t1 t2 d1 d2 b q1 q2 z1 z2=>?_},λb ⟨j,t,d',q1,q2⟩=>?_}
 .by_cases hj:i=j
  .subst hj;have hi:i<E.length:=by have:=(AR.mp q).1;rw[BY] at this;exact this
   rw[BF hi] at q;cases q
  .rw[A6 hj] at q ⊢;exact S.val j d' q
 .rcases II j t d' q with⟨rfl,rfl,rfl,z⟩|⟨hj,q,z⟩
  .exact{a,z,h2,h3,h4,nofun}
  .rw[z];exact S.own j t d' q
 .rcases II j t1 d1 q1 with⟨e1,_,_,y1⟩|⟨hj,p1,y1⟩<;>rcases II k t2 d2 q2 with⟨e2,_,_,y2⟩|⟨hk,p2,y2⟩
  .rw[<-e1,<-e2]
  .rw[y1] at z1;cases z1;rw[y2] at z2;exact absurd {k,t2,d2,p2,z2} no
  .rw[y2] at z2;cases z2;rw[y1] at z1;exact absurd {j,t1,d1,p1,z1} no
  .rw[y1] at z1;rw[y2] at z2;exact S.inj j k t1 t2 d1 d2 b p1 p2 z1 z2
 .rcases II j t d' q1 with⟨rfl,rfl,rfl,y1⟩|⟨hj,q1,y1⟩
  .rw[y1] at q2;cases q2;exact .inr rfl
  .rw[y1] at q2;exact .inl {j,t,d',q1,q2}
def tG(K:AC)(H₀:Hp)(t:Tg):TG:=λv σ H Q=>∃τ F E d E',Sim K H₀ τ F H σ E/\Rep K F v d/\WY t d E=.ok E'/\∀σ',Sim K H₀ τ F H σ' E'->(∀a,D6 σ' E' a->D6 σ E a)->(∀n,t.ltn n=AN->∀j:Nat,n<=j->σ'[j]?=σ[j]?)->Q σ' H
def tGs(K:AC)(H₀:Hp)(ts:List Tg):lC:=λvs σ H Q=>∃τ F E ds E',Sim K H₀ τ F H σ E/\Reps K F vs ds/\cN ts ds E=.ok E'/\∀σ',Sim K H₀ τ F H σ' E'->(∀a,D6 σ' E' a->D6 σ E a)->(∀n,pAE n ts=AN->∀j:Nat,n<=j->σ'[j]?=σ[j]?)->Q σ' H
theorem PG.imp(h:PG X tg t)(hi:∀v σ H Q,t' v σ H Q->t v σ H Q):PG X tg t':=λAF s σ H x u Q I r q=>h AF s σ H x u Q I r (hi _ _ _ _ q)
theorem PGs.imp(h:PGs X tg t)(hi:∀v σ H Q,t' v σ H Q->t v σ H Q):PGs X tg t':=λAF s σ H x u Q I r q=>h AF s σ H x u Q I r (hi _ _ _ _ q)
abbrev VG(X:Cx)(tg:D0)(t:Tg):Prop:=PG X tg (tG X.K X.H₀ t)
abbrev Ck(X:Cx)(tg:List D0)(t:List Tg):Prop:=PGs X tg (tGs X.K X.H₀ t)
theorem US(hN:X.N.Nodup)(hi:X.N[i]?=AA x)(hx:Loc X.env.scope x)(hf:X.fn x=AN\/X.env.scope.names.lookup x=AA .local:=by first|exact .inl rfl|exact .inr rfl|assumption):VG X (.Name x pos) (.nm i):=(iQ hN hi hx hf).imp λv σ H Q h=>by have{τ,F,E,d,E',S,r,hg,k}:=h;rw[WY] at hg;cases hg;have{S1,h1}:=S.put r;refine k _ S1 h1 λn hn j hj=>?_;rw[Tg.ltn] at hn;have:i<n:=of_decide_eq_true hn;rw[A6 (CF (AO this hj))]
theorem Rep.sqT(s:Sub F H)(r:Rep K F (.ref a) (.tup ds)):∃vs,SqT K H a vs/\Reps K F vs ds:=by
 cases r with
 |tup h r=>exact{_,.inl (.inl (s _ _ h)),r}
 |@tupK _ xs h n =>
  rcases h with h|h
  .rcases h with h|⟨o,h⟩<;>cases h
  .refine{_,.inr h,?_};induction xs with
   |nil=>exact .nil
   |cons x xs ih=>exact .cons (.str x) (by
     clear ih n h;induction xs with
     |nil=>exact .nil
     |cons y ys ih=>exact .cons (.str y) ih)
theorem Rep.isRefT(r:Rep K F v (.tup ds)):∃a,v=.ref a:=by (cases r)<;>exact{_,rfl}
theorem Rep.isRefL(r:Rep K F v (.lst ds)):∃a vs,v=.ref a/\SqL K F a vs/\Reps K F vs ds:=by cases r with|lst h r=>exact{_,_,rfl,h,r}
theorem Uc:∀{ts:List Tg} {ds:List D} {E E':Ev},cN ts ds E=.ok E'->ts.length=ds.length
 |[],[],_,_,_=>rfl
 |[],_::_,_,_,h=>by rw[cN] at h;cases h
 |_::_,[],_,_,h=>by rw[cN] at h;cases h
 |t::ts,d::ds,E,E',h=>by rw[cN] at h;have{E1,_,h}:=pA3 h;rw[BA,BA,Uc h]
theorem kX:Ck X [] []:=U8.imp λv σ H Q h=>by
 have{τ,F,E,d,E',S,r,hg,k}:=h;cases r with
 |nil=>rw[cN] at hg;cases hg;exact{rfl,k σ S (λ_ h=>h) λ_ _ _ _=>rfl}
 |cons _ _=>rw[cN] at hg;cases hg
theorem XT(h1:VG X e t)(h2:Ck X es ts) (hs:(HM (e::es) X.env).map (·.2)=N2 e X.env::(HM es X.env).map (·.2):=by rfl):Ck X (e::es) (t::ts):=(uD h1 h2 hs).imp λv σ H Q h=>by
 have{τ,F,E,ds,E',S,r,hg,k}:=h;cases r with
 |nil=>rw[cN] at hg;cases hg
 |@cons v d vs ds r rs =>
  rw[cN] at hg;have{E1,e1,hg}:=pA3 hg;exact{v,vs,rfl,τ,F,E,d,E1,S,r,e1,λσ1 S1 h1 b1=>{τ,F,E1,ds,E',S1,rs,hg,λσ2 S2 h2 b2=>k σ2 S2 (λa z=>h1 a (h2 a z)) λn hn j hj=>by rw[pAE,EY] at hn;rw[b2 n hn.2 j hj,b1 n hn.1 j hj]}}
theorem kM(hc:X.calm=AN)(h:Ck X es ts) (hn:(HM es X.env).length=ts.length:=by rfl) (bV:(HM es X.env).findIdx? (·.1)=AK:=by rfl):VG X (.Tuple es k pos) (.tp ts):=(Et hc h hn bV).imp λv σ H Q h=>by
 have{τ,F,E,d,E',S,r,hg,k}:=h;cases d with
 |tup ds=>have{a,rfl}:=r.isRefT;have{vs,h1,h2}:=r.sqT S.sub;rw[WY] at hg;exact{a,vs,rfl,h1,by rw[h2.length,<-Uc hg],τ,F,E,ds,E',S,h2,hg,λσ' S' h' b'=>k σ' S' h' λn hn=>b' n (by rw[Tg.ltn] at hn;exact hn)}
 |_=>have hg:=hg;cases hg
def I0(t:Tg)(g:G):GS:=λE=>(g E).bind λp=>(WY t p.1 p.2).bind λE1=>.ok (.nx E1)
theorem yEB(h:tS K H₀ (I0 t ge) D' σ H):j5 (tV K H₀ ge) (tG K H₀ t) D' σ H:=by have{τ,F,E,r,S,hg,k}:=h;have{p,e1,hg}:=pA3 hg;have{E1,e2,hg}:=pA3 hg;cases hg;exact{τ,F,E,p.1,p.2,S,e1,λv F1 H1 s1 S1 r1=>{τ,F1,p.2,p.1,E1,S1,r1,e2,λσ2 S2 h2 _=>k σ2 F1 H1 (s1.weak h2) S2}}
theorem Qd(he:VE X e ge)(hg:VG X tg t)(hs:aU [tg] e pos.line X.env=pure AD:=by rfl)(hw:aV [tg] e X.env=pure AK:=by rfl) (h1:(HM [tg] X.env).map (·.2)=[N2 tg X.env]:=by rfl):VS X (.Assign [tg] e pos) (I0 t ge):=(Es he hg hs hw h1).imp λ_ _ _ h=>yEB h
theorem O6(hN:X.N.Nodup)(hi:X.N[i]?=AA x)(hx:Loc X.env.scope x)(he:VE X e ge)(hs:HW e (AA (.Name x OS)) pos.line X.env=pure AD:=by rfl)(hf:X.fn x=AN\/X.env.scope.names.lookup x=AA .local:=by first|exact .inl rfl|exact .inr rfl|assumption) : VS X (.Assign [.Name x OS] e pos) (I0 (.nm i) ge):=(qB hN hi hx he hs hf).imp λD' σ H h=>by have{τ,F,E,r,S,hg,k}:=h;have{p,e1,hg}:=pA3 hg;have{E1,e2,hg}:=pA3 hg;cases hg;rw[WY] at e2;cases e2;refine{τ,F,E,p.1,p.2,S,e1,λv F1 H1 s1 S1 r1=>?_};have{S2,h2}:=S1.put r1;exact k _ F1 H1 (s1.weak h2) S2
def RX(i:Nat)(g:G):GS:=λE=>(g E).bind λp=>.ok (.nx (p.2.set i (.own AD p.1)))
theorem zVU(I:Inv X AF σ H s)(h:H a=AK):∀o u,X.H₀ a≠AA (.frz o u):=λo u e=>by rw[I.base.frzs a o u e] at h;cases h
theorem yEC(I:Inv X AF σ H s)(h:tS X.K X.H₀ (RX i ge) D' σ H):j5 (tF X.K X.H₀ ge) (bL i) D' σ H:=by
 have{τ,F,E,r,S,hg,k}:=h;have{p,e1,hg}:=pA3 hg;cases hg;refine{τ,F,E,p.1,p.2,S,e1,λa F1 H1 s1 S1 n1 n0 ow no=>?_};have{S2,h2}:=S1.putO n1 ow (zVU I n0) no;refine k _ F1 H1 {s1.keep,s1.dom,s1.le,s1.new,λb z=>?_} S2;rcases h2 b z with z|rfl
 .exact s1.own b z
 .exact .inr n0
theorem YA(hN:X.N.Nodup)(hi:X.N[i]?=AA x)(hx:Loc X.env.scope x)(he:FE X e ge)(hs:HW e (AA (.Name x OS)) pos.line X.env=pure AD:=by rfl)(hf:X.fn x=AN\/X.env.scope.names.lookup x=AA .local:=by first|exact .inl rfl|exact .inr rfl|assumption) : VS X (.Assign [.Name x OS] e pos) (RX i ge):=λAF s σ H D' I h=>qB hN hi hx he hs hf AF s σ H D' I (yEC I h)
def X6(g:G):GS:=λE=>(g E).bind λp=>.ok (.nx p.2)
theorem qM(he:VE X e ge)(hs:HW e AK pos.line X.env=pure AD:=by rfl):VS X (.Expr e pos) (X6 ge):=(Fp he hs).imp λD' σ H h=>by have{τ,F,E,r,S,hg,k}:=h;have{p,e1,hg}:=pA3 hg;cases hg;exact{τ,F,E,p.1,p.2,S,e1,λv F1 H1 s1 S1 r1=>k σ F1 H1 s1 S1}
def XV(t:Ev->Out (Bool×Ev))(g:GS):Nat->GS
 |0,_=>.bad
 |n+1,E=>(t E).bind λp=>if p.1=AN then(g p.2).bind λr=>match r with
   |.nx E1=>XV t g n E1
   |.ct E1=>XV t g n E1
   |.bk E1=>.ok (.nx E1)
   |.rt b d E1=>.ok (.rt b d E1)
  else .ok (.nx p.2)
theorem Ai(n:Nat)(hp:V8 (A7 X.prog X.w) X.A X.env X.xe)(hc:VT X c t)(hb:aH X body g):VS X (.While c body [] pos) (XV t g n):=(zUR hp hc hb).imp λD' σ H h=>by
 have{τ,F,E,r,S,hg,k}:=h;refine{λm σ1 H1=>∃F1 E1,Sim X.K X.H₀ τ F1 H1 σ1 E1/\Stp (D6 σ E) F H F1 H1 (D6 σ1 E1)/\XV t g m E1=.ok r,{n,F,E,S,.refl,hg},?_};intro m σ1 H1 zz';have{F1,E1,S1,s1,h1}:=zz';cases m with
 |zero=>rw[XV] at h1;cases h1
 |succ m =>
  rw[XV] at h1;have{p,e1,h1}:=pA3 h1;refine{τ,F1,E1,p.1,p.2,S1,e1,λF2 H2 s2 S2=>?_};have bS:=s1.trans s2;dsimp only;by_cases hp:p.1=AN
  .rw[if_pos hp] at h1 ⊢;have{q,e2,h1}:=pA3 h1;refine{λσ3 H3=>∃F3 E3,Sim X.K X.H₀ τ F3 H3 σ3 E3/\Stp (D6 σ E) F H F3 H3 (D6 σ3 E3)/\XV t g m E3=.ok r,λσ3 H3 ⟨F3,E3,a1,a2,a3⟩=>{m,DO m,F3,E3,a1,a2,a3},τ,F2,p.2,q,S2,e2,?_};cases q with
   |nx E3=>exact λσ3 F3 H3 s3 S3=>{F3,E3,S3,bS.trans s3,h1}
   |ct E3=>exact λσ3 F3 H3 s3 S3=>{F3,E3,S3,bS.trans s3,h1}
   |bk E3=>cases h1;exact λσ3 F3 H3 s3 S3=>k σ3 F3 H3 (bS.trans s3) S3
   |rt b d E3=>cases h1;exact λσ3 v F3 H3 s3 S3 q=>k σ3 v F3 H3 (bS.trans s3) S3 (q.pre bS)
  .rw[if_neg hp] at h1 ⊢;cases h1;exact k σ1 F2 H2 bS S2
end
def Walks(K:AC)(J:It)(F:Hp)(ds:List D):Prop:=∀(i:Nat) F1 H1,Le F F1->Sub F1 H1->(i<ds.length->J.go i H1)/\(i=ds.length->J.stop i H1)/\∀x H' d,ds[i]?=AA d->J.yld i H1 x H'->∃F',New F1 H1 F' H'/\Rep K F' x d
abbrev GI:=Ev->Out (List D×Ev)
def tI(K:AC)(H₀:Hp)(g:GI):TI:=λσ H R=>∃τ F E ds E',Sim K H₀ τ F H σ E/\g E=.ok (ds,E') /\ ∀J F' H',Stp (D6 σ E) F H F' H' (D6 σ E')->Sim K H₀ τ F' H' σ E'->Walks K J F' ds->R J H'
theorem PI.imp(h:PI X tg e t)(hi:∀σ H Q,t' σ H Q->t σ H Q):PI X tg e t':=λAF s σ H Q I q=>h AF s σ H Q I (hi σ H Q q)
abbrev VI(X:Cx)(tg e:D0)(g:GI):Prop:=PI X tg e (tI X.K X.H₀ g)
section
variable{K:AC}{ow RZ:AT->Prop}
def Zx(g:G):GI:=λE=>(g E).bind λp=>match p.1 with|.lst ds=>.ok (ds,p.2)|_=>.bad
def Zw(g:G):GI:=λE=>(g E).bind λp=>match p.1 with|.tup ds=>.ok (ds,p.2)|_=>.bad
theorem Wg(h:SqL K F a vs)(r:Reps K F vs ds):Walks K (rR K a) F ds:=λi F1 H1 l s=>by
 have sq:=h.imp (λh=>s.rd (l.rd h)) id;refine{λhi=>?_,λhi=>{vs,sq,by rw[r.length,hi];exact AL _},λx H' d e ⟨e1,y⟩=>?_}
 .have hv:i<vs.length:=by rw[r.length];exact hi
  exact{vs,vs[i],sq,by simp[hv]}
 .subst e1;have{v,h1,h2}:=r.get e;rw[y vs sq] at h1;cases h1;exact{F1,.refl s,h2.le l}
theorem Rep.tupSq(r:Rep K F v (.tup ds)):∃a vs,v=.ref a/\Reps K F vs ds/\∀F1 H1,Le F F1->Sub F1 H1->SqT K H1 a vs:=by
 cases r with
 |tup h r=>exact{_,_,rfl,r,λF1 H1 l s=>.inl (.inl (s _ _ (l.tup h)))}
 |@tupK a xs h n =>
  have{vs,h1,h2}:=Rep.sqT (λ_ _ e=>e) (.tupK h n);refine{a,vs,rfl,h2,λF1 H1 _ _=>?_};rcases h with h|h
  .rcases h with h|⟨o,h⟩<;>cases h
  .have:vs=xs.map V.str:=pA5 h2;subst this;exact .inr h
theorem zSJ(sq:∀F1 H1,Le F F1->Sub F1 H1->SqT K H1 a vs)(r:Reps K F vs ds):Walks K (rP K a) F ds:=λi F1 H1 l s=>by
 have sq:=sq F1 H1 l s;refine{λhi=>?_,λhi=>{vs,sq,by rw[r.length,hi];exact AL _},λx H' d e ⟨e1,y⟩=>?_}
 .have hv:i<vs.length:=by rw[r.length];exact hi
  exact{vs,vs[i],sq,by simp[hv]}
 .subst e1;have{v,h1,h2}:=r.get e;rw[y vs sq] at h1;cases h1;exact{F1,.refl s,h2.le l}
theorem zZ4(h:VE X e ge):VI X tg e (Zx ge):=(So h).imp λσ H Q h=>by
 have{τ,F,E,ds,E',S,hg,k}:=h;have{p,e1,hg}:=pA3 hg;refine{τ,F,E,p.1,p.2,S,e1,λv F1 H1 s1 S1 r1=>?_};split at hg
 .rename_i UD ed;cases hg;rw[ed] at r1;have{a,vs,rfl,h1,h2}:=r1.isRefL;exact{a,rfl,{vs,h1.imp S1.sub.rd id},k _ F1 H1 s1 S1 (Wg h1 h2)}
 .cases hg
theorem yED(h:VE X e ge):VI X tg e (Zw ge):=(Qn h).imp λσ H Q h=>by
 have{τ,F,E,ds,E',S,hg,k}:=h;have{p,e1,hg}:=pA3 hg;refine{τ,F,E,p.1,p.2,S,e1,λv F1 H1 s1 S1 r1=>?_};split at hg
 .rename_i UD ed;cases hg;rw[ed] at r1;have{a,vs,rfl,h1,h2}:=r1.tupSq;exact{a,rfl,{vs,h2 F1 H1 (.refl _) S1.sub},k _ F1 H1 s1 S1 (zSJ h2 h1)}
 .cases hg
def N8:List G->Ev->Out (List D×Ev)
 |[],E=>.ok ([],E)
 |g::gs,E=>(g E).bind λp=>(N8 gs p.2).bind λq=>.ok (p.1::q.1,q.2)
def gF(K:AC)(H₀:Hp)(gs:List G):TA:=λσ H Q=>∃τ F E ds E',Sim K H₀ τ F H σ E/\N8 gs E=.ok (ds,E') /\ ∀vs F' H',Stp (D6 σ E) F H F' H' (D6 σ E')->Sim K H₀ τ F' H' σ E'->Reps K F' vs ds->Q vs H'
theorem PA.imp{es:List D0}{t t':TA}(h:PA X es t)(hi:∀σ H Q,t' σ H Q->t σ H Q):PA X es t':=λp AF s σ H Q I q=>h p AF s σ H Q I (hi σ H Q q)
abbrev VA(X:Cx)(es:List D0)(gs:List G):Prop:=PA X es (gF X.K X.H₀ gs)
theorem EZ:VA X [] []:=HK.imp λσ H Q h=>by have{τ,F,E,ds,E',S,hg,k}:=h;cases hg;exact k [] F H .refl S .nil
theorem zZ5{Q:List V->Hp->Prop}(h:gF K H₀ (ge::gs) σ H Q):sW (tV K H₀ ge) (gF K H₀ gs) σ H Q:=by have{τ,F,E,ds,E',S,hg,k}:=h;rw[N8] at hg;have{p,e1,hg}:=pA3 hg;have{q,e2,hg}:=pA3 hg;cases hg;exact{τ,F,E,p.1,p.2,S,e1,λv F1 H1 s1 S1 r1=>{τ,F1,p.2,q.1,q.2,S1,e2,λvs F2 H2 s2 S2 r2=>k (v::vs) F2 H2 (s1.trans s2) S2 (.cons (r1.le s2.le) r2)}}
theorem DN(ha:VE X e ge)(hr:VA X es gs)(hs:AM (e::es) X.env=(AD,eval e X.env)::AM es X.env:=by rfl):VA X (e::es) (ge::gs):=(SK ha hr hs).imp λ_ _ _ h=>zZ5 h
theorem bM{n:Nat}(h:n<10000):n<sizeLine:=AO h 'D'
def few(n:Nat){α:Type}(x:Out α):Out α:=if n<10000 then x else .bad
theorem XS{n:Nat}{α:Type}{x:Out α}{a:α}(h:few n x=.ok a):n<10000/\x=.ok a:=by
 unfold few at h;split at h
 .exact{by assumption,h}
 .cases h
def T8(gs:List G):G:=λE=>(N8 gs E).bind λp=>few p.1.length (.ok (.tup p.1,p.2))
def J1(gs:List G):G:=λE=>(N8 gs E).bind λp=>few p.1.length (.ok (.lst p.1,p.2))
theorem cU{es:List D0}{gs:List G} {x1} (h:VA X es gs):VE X (.Tuple es x1 pos) (T8 gs):=(yDI h).imp λσ H Q h=>by have{τ,F,E,ds,E',S,hg,k}:=h;have{p,e1,hg}:=pA3 hg;have{hl,hg}:=XS hg;cases hg;refine{τ,F,E,p.1,p.2,S,e1,λvs F1 H1 s1 S1 r1=>{by rw[r1.length];exact CQ (bM hl),λq hq=>?_}};have n:=New.laid (o:=.tup vs) S1.sub hq;exact k _ _ _ (s1.trans n.stp) (S1.new n) (.tup G9 (r1.le n.1.le))
theorem TQ{es:List D0}{gs:List G}(h:VA X es gs):FE X (.List es pos) (J1 gs):=(mY h).imp λσ H Q h=>by
 have{τ,F,E,ds,E',S,hg,k}:=h;have{p,e1,hg}:=pA3 hg;have{hl,hg}:=XS hg;cases hg;refine{τ,F,E,p.1,p.2,S,e1,λvs F1 H1 s1 S1 r1=>{by rw[r1.length];exact CQ (bM hl),λq hq=>?_}};have n:=pA6 (H':=D4 H1 q (.lst vs)) S1.sub (Gr.new hq);have fq:F1 q=AK:=by
  cases z:F1 q with
  |none=>rfl
  |some o=>rw[S1.sub q o z] at hq;cases hq
 exact k q _ _ (s1.trans n.stp) (S1.new n) fq (s1.dom q hq) {vs,G9,r1} (S1.fresh hq)
def UR(t:Tg)(g:GS):List D->GS
 |[],E=>.ok (.nx E)
 |d::ds,E=>(WY t d E).bind λE1=>(g E1).bind λr=>match r with
  |.nx E2=>UR t g ds E2
  |.ct E2=>UR t g ds E2
  |.bk E2=>.ok (.nx E2)
  |.rt b d E2=>.ok (.rt b d E2)
def OQ(gi:GI)(t:Tg)(g:GS):GS:=λE=>(gi E).bind λp=>UR t g p.1 p.2
theorem aA(hp:V8 (A7 X.prog X.w) X.A X.env X.xe)(hc:X.calm=AN)(hi:VI X tg iter gi)(hg:VG X tg t)(hb:aH X body g) (hs:∀x,DJ iter X.env x=pure x:=by intro _;rfl):VS X (.For tg iter body [] pos) (OQ gi t g):=(qA hp hc hi hg hb hs).imp λD' σ H h=>by
 have{τ,F,E,r,S,hg,k}:=h;have{p,e1,hg}:=pA3 hg;refine{τ,F,E,p.1,p.2,S,e1,λJ F1 H1 s1 S1 w1=>?_};refine{λi m σ2 H2=>m=p.1.length-i/\i<=p.1.length/\∃F2 E2,Sim X.K X.H₀ τ F2 H2 σ2 E2/\Stp (D6 σ E) F H F2 H2 (D6 σ2 E2)/\Le F1 F2/\UR t g (p.1.drop i) E2=.ok r,{_,rfl,BQ _,F1,p.2,S1,s1,.refl _,by rw[OP];exact hg},?_};intro i m σ2 H2 zz';have{rfl,De,F2,E2,S2,s2,l2,h2}:=zz';have{w2,w3,w4}:=w1 i F2 H2 l2 S2.sub;by_cases hi:i<p.1.length
 .obtain⟨d,hd⟩:∃d,p.1[i]?=AA d:={p.1[i],by simp[hi]};have xR:p.1.drop i=d::p.1.drop (i+1):=by
   rw[FN hi];have:p.1[i]=d:=by rw[BP hi] at hd;exact BH hd
   rw[this]
  rw[xR,UR] at h2;have{E3,e3,h2}:=pA3 h2;have{q,e4,h2}:=pA3 h2;refine .inr {w2 hi,λσ5 H5=>∃F5 E5,Sim X.K X.H₀ τ F5 H5 σ5 E5/\Stp (D6 σ E) F H F5 H5 (D6 σ5 E5)/\Le F1 F5/\UR t g (p.1.drop (i+1)) E5=.ok r,λσ5 H5 ⟨F5,E5,a1,a2,a3,a4⟩=>{_,by omega,rfl,hi,F5,E5,a1,a2,a3,a4},λx H' y=>?_};have{F3,n3,r3}:=w4 x H' d hd y;refine{τ,F3,E2,d,E3,S2.new n3,r3,e3,λσ4 S4 h4 _=>{τ,F3,E3,q,S4,e4,?_}};have s4:=(s2.trans n3.stp).weak h4;have l3:=l2.trans n3.1.le;cases q with
  |nx E5=>exact λσ5 F5 H5 s5 S5=>{F5,E5,S5,s4.trans s5,l3.trans s5.le,h2}
  |ct E5=>exact λσ5 F5 H5 s5 S5=>{F5,E5,S5,s4.trans s5,l3.trans s5.le,h2}
  |bk E5=>cases h2;exact λσ5 F5 H5 s5 S5=>k σ5 F5 H5 (s4.trans s5) S5
  |rt b d E5=>cases h2;exact λσ5 v F5 H5 s5 S5 q=>k σ5 v F5 H5 (s4.trans s5) S5 (q.pre s4)
 .have hi:i=p.1.length:=by omega
  rw[J6 'O',UR] at h2;cases h2;exact .inl {w3 hi,k σ2 F2 H2 s2 S2}
end
abbrev Mr:=List Sl->Out (Bool×D×D)
noncomputable def iF(sl:Ev)(d:D):Ev:=match sl with
 |.own t _::r=>.own t d::r
 |sl=>sl
noncomputable def fin(sl:Ev)(E':Ev)(b:Bool)(d:D):Out (Bool×D×D):=match sl with
 |.own _ _::_=>match E' with
  |.own AN d'::_=>.ok (b,d,d')
  |_=>.bad
 |_=>.ok (b,d,.non)
def O5(n:Nat)(gb:GS):Mr:=λsl=>(gb (sl++BI (n-sl.length) .no)).bind λr=>match r with
 |.rt b d E'=>fin sl E' b d
 |.nx E'=>fin sl E' AD .non
 |_=>.bad
def Jv(sl:Ev):Prop:=∀(i:Nat) t d,sl[i]?=AA (.own t d)->i=0/\t=AN
def yKI(K:AC)(H F' H':Hp)(ow:AT->Prop):Bool->V->D->Prop
 |false,v,d=>Rep K F' v d
 |true,v,d=>∃a,v=.ref a/\F' a=AK/\OwnAt K F' H' a d/\H a=AK/\¬ow a
def NI(K:AC)(np:Nat)(m:Mr):Sp:=λvs H Q _=>vs.length=np/\∃τ F sl b d d',Sim K H τ F H (vs.map AA) sl/\Jv sl/\m sl=.ok (b,d,d') /\ ∀v F' H',Stp (D6 (vs.map AA) sl) F H F' H' (D6 (vs.map AA) (iF sl d'))->Sim K H τ F' H' (vs.map AA) (iF sl d')->yKI K H F' H' (D6 (vs.map AA) (iF sl d')) b v d->Q v H'
theorem yEE(h:fin sl E' b d=.ok (b',d0,d')):b'=b/\d0=d/\∀t x r,sl=.own t x::r->∃r',E'=.own AN d'::r':=by
 unfold fin at h;split at h
 .split at h
  .cases h;exact{rfl,rfl,λ_ _ _ _=>{_,rfl}}
  .cases h
 .rename_i hn;cases h;refine{rfl,rfl,λt x r e=>?_};exact absurd e (by intro z;exact hn t x r z)
section
variable{K:AC}
theorem Fun.okC{st:FM}(F:Fun K x qual st f fd)(S:FnScope N ps (J2 st))(len:∀vs H Q E,sp vs H Q E->vs.length=ps.length) (K0:∀(G3:AH) (A:GD) (outer:List V9) (s:AQ) (H:Hp) (vs:List V) (Q:VK) (E:XK),G3=fd.code->Room k (A.deeper (GY qual (J2 st) s.heap.objs.size f G3))->sp vs H Q E ->∃t,PSs (SJ LJ P w K mg base N qual (J2 st) f G3 A outer s H E).nox (WG st) t/\t { nx:=λ_ H'=>Q .non H',rt:=Q } (start N vs) H):FnOk P w K mg base LJ (k+1) f fd ps sp:=by have{oc,od,kV,TC,pm,an,G3,ct,ZL,rfl,lk,LU}:=F.ex;refine Ds lk LU S len λA outer s H vs Q E hr bW=>?_;have{t,h,q}:=K0 G3 A outer s H vs Q E rfl hr bW;exact{t,h.nox,q}
theorem Du{st:FM}(Fn:Fun K x qual st f fd)(S:FnScope N ps (J2 st)) (K0:∀(G3:AH) (A:GD) (outer:List V9) (s:AQ) (H:Hp) (E:XK),G3=fd.code->Room k (A.deeper (GY qual (J2 st) s.heap.objs.size f G3)) ->aH (SJ LJ P w K mg base N qual (J2 st) f G3 A outer s H E).nox (WG st) gb):FnOk P w K mg base LJ (k+1) f fd ps (NI K ps.length (O5 N.length gb)):=by
 refine Fn.okC S (λvs H Q E h=>h.1) λG3 A outer s H vs Q E Dg hr h=>{_,K0 G3 A outer s H E Dg hr,?_};have{hl,τ,F,sl,b,d,d',Sm,sh,hm,k}:=h;have{r,e1,hm}:=pA3 hm;have lsl:sl.length=vs.length:=by rw[Sm.len,AJ]
 have i7:∀(i:Nat) t d,(sl++BI (N.length-sl.length) Sl.no)[i]?=AA (.own t d)->sl[i]?=AA (.own t d):=λi t d q=>by
  by_cases hi:i<sl.length
  .rw[CA hi] at q;exact q
  .rw[BX (E4 hi),DZ] at q;split at q<;>cases q
 have Ki:∀(i:Nat) d,(sl++BI (N.length-sl.length) Sl.no)[i]?=AA (.val d)->sl[i]?=AA (.val d):=λi d q=>by
  by_cases hi:i<sl.length
  .rw[CA hi] at q;exact q
  .rw[BX (E4 hi),DZ] at q;split at q<;>cases q
 have rW:∀(i:Nat),i<sl.length->(start N vs)[i]?=(vs.map AA)[i]?:=λi hi=>by unfold start;rw[CA (by rw[AJ];omega)]
 have Sm0:Sim K H τ F H (start N vs) (sl++BI (N.length-sl.length) .no):=by
  refine{Sm.sub,?_,λi d q=>?_,λi t d q=>?_,λi j t u d d2 a q1 q2 z1 z2=>?_}
  .unfold start;rw[BC,BC,C3,C3,AJ,lsl]
  .have q:=Ki i d q;rw[rW i (AR.mp q).1];exact Sm.val i d q
  .have q:=i7 i t d q;rw[rW i (AR.mp q).1];exact Sm.own i t d q
  .have q1:=i7 i _ _ q1;have q2:=i7 j _ _ q2;rw[rW i (AR.mp q1).1] at z1;rw[rW j (AR.mp q2).1] at z2;exact Sm.inj i j t u d d2 a q1 q2 z1 z2
 have rY:∀a,D6 (start N vs) (sl++BI (N.length-sl.length) .no) a↔D6 (vs.map AA) sl a:=λa=>by
  constructor
  .intro zz';have{i,t,d,q1,q2}:=zz';have q:=i7 i t d q1;rw[rW i (AR.mp q).1] at q2;exact{i,t,d,q,q2}
  .intro zz';have{i,t,d,q1,q2}:=zz';have hi:=(AR.mp q1).1;exact{i,t,d,by rw[CA hi];exact q1,by rw[rW i hi];exact q2}
 -- the end,from what the body ends with
 have dJ:∀{E':Ev} {b0:Bool} {d0:D},fin sl E' b0 d0=.ok (b,d,d')->∀σ' v F' H',Stp (D6 (start N vs) (sl++BI (N.length-sl.length) .no)) F H F' H' (D6 σ' E')->Sim K H τ F' H' σ' E' ->
   RetR K (D6 (start N vs) (sl++BI (N.length-sl.length) .no)) H F' H' σ' E' b0 v d0->Q v H':=by
  intro E' b0 d0 hf σ' v F' H' s1 S1 rr;have{rfl,rfl,h3}:=yEE hf;have p0:∀(i:Nat) t x,(iF sl d')[i]?=AA (.own t x)->i=0/\t=AN/\x=d'/\∃x0 r,sl=.own AN x0::r:=λi t x q=>by
   cases sl with
   |nil=>simp[iF] at q
   |cons y r =>
    have EB:(∀t0 x0,y≠.own t0 x0)->(y::r)[i]?=AA (.own t x)->False:=λhn q=>by have{h0,ht}:=sh i t x q;subst h0;simp at q;exact hn _ _ q
    cases y with
    |no=>exact(EB (λ_ _ z=>Sl.noConfusion z) q).elim
    |val _=>exact(EB (λ_ _ z=>Sl.noConfusion z) q).elim
    |own t0 x0 =>
     cases i with
     |zero=>have{_,ht}:=sh 0 t0 x0 rfl;subst ht;have q:AA (Sl.own AN d')=AA (.own t x):=q;cases q;exact{rfl,rfl,rfl,x0,r,rfl}
     |succ i=>have:=(sh (i+1) t x q).1;omega
  have pv:∀(i:Nat) x,(iF sl d')[i]?=AA (.val x)->sl[i]?=AA (.val x):=λi x q=>by
   unfold iF at q;split at q
   .cases i with
    |zero=>simp at q
    |succ i=>simpa using q
   .exact q
  have v4:∀x0 r,sl=.own AN x0::r->∃a,(vs.map AA)[0]?=AA (AA (.ref a))/\τ=a/\σ'[0]?=AA (AA (.ref a))/\F' a=AK/\OwnAt K F' H' a d'/\(∀o u,H a≠AA (.frz o u))/\E'[0]?=AA (.own AN d'):=λx0 r e=>by
   have{r',e'}:=h3 AN x0 r e;have q0:E'[0]?=AA (.own AN d'):=by rw[e'];rfl
   have{a,a1,a2,a3,a4,a5}:=S1.own 0 AN d' q0;have{c,c1,c2,c3,c4,c5}:=Sm.own 0 AN x0 (by rw[e];rfl);have:a=c:=by rw[<-a5 rfl,<-c5 rfl]
   subst this;exact{a,c1,c5 rfl,a1,a2,a3,a4,q0}
  refine k v F' H' {λa o e hw n ho=>s1.keep a o e hw n λz=>ho ((rY a).mp z),s1.dom,s1.le,λa o e=>(s1.new a o e).imp_right λz=>z.imp_right (rY a).mp,λa ⟨i,t,x,q1,q2⟩=>?_}
   {S1.sub,?_,λi x q=>?_,λi t x q=>?_,λi j t u x y a q1 q2 _ _=>by rw[(p0 i t x q1).1,(p0 j u y q2).1]} ?_
  .have{rfl,rfl,rfl,x0,r,e}:=p0 i t x q1;exact .inl {0,AN,x0,by rw[e];rfl,q2}
  .have:(iF sl d').length=sl.length:=by unfold iF;split<;>rfl
   rw[this];exact Sm.len
  .have{v,h1,h2}:=Sm.val i x (pv i x q);exact{v,h1,h2.le s1.le}
  .have{rfl,rfl,rfl,x0,r,e}:=p0 i t x q;have{a,a1,a2,a3,a4,a5,a6,_}:=v4 x0 r e;exact{a,a1,a4,a5,a6,λ_=>a2}
  .cases b with
   |false=>exact rr
   |true =>
    have{a,r1,r2,r3,r4,r5}:=rr;have no:¬D6 (vs.map AA) sl a:=by
     intro zz';have{i,t,x,q1,q2}:=zz';have{rfl,rfl}:=sh i t x q1;cases sl with
     |nil=>simp at q1
     |cons y r=>simp at q1;subst q1;have{c,c1,c2,c3,c4,c5,c6,c7}:=v4 x r rfl;rw[q2] at c1;cases c1;exact r5 0 d' c7 c3
    refine{a,r1,r2,r3,r4.elim (λz=>absurd ((rY a).mp z) no) id,?_};intro zz';have{i,t,x,q1,q2}:=zz';have{rfl,rfl,rfl,x0,r,e}:=p0 i t x q1;exact no {0,AN,x0,by rw[e];rfl,q2}
 refine{τ,F,_,r,Sm0,e1,?_};cases r with
 |rt b0 d0 E'=>exact dJ hm
 |nx E'=>exact λσ' F' H' s1 S1=>dJ hm σ' .non F' H' s1 S1 .non
 |bk E'=>cases hm
 |ct E'=>cases hm
theorem UQ{st:FM}(Fn:Fun K x qual st f fd)(S:FnScope N ps (J2 st)) (K0:∀(G3:AH) (A:GD) (outer:List V9) (s:AQ) (H:Hp) (E:XK),Room k (A.deeper (GY qual (J2 st) s.heap.objs.size f G3)) ->aH (SJ LJ P w K mg base N qual (J2 st) f G3 A outer s H E).nox (WG st) gb):FnOk P w K mg base LJ (k+1) f fd ps (NI K ps.length (O5 N.length gb)) :=Du Fn S λG3 A outer s H E _ hr=>K0 G3 A outer s H E hr
end
section
variable{K:AC}
def MR(P:BZ)(w:C8)(K:AC)(mg:CD->Option AH)(base:CM)(x:CD)(k np:Nat)(m:Mr):Prop :=∃(f:AT) (fd:CV) (ps:List CD),FnOk P w K mg base LJ k f fd ps (NI K np m)/\mg x=AA (.ref f)/\EO K (.ref f)=AN/\Binds K fd ps []
theorem yR{ds:List D}(a:AT):¬D6 σ (ds.map Sl.val) a:=λq0=>by
 have{i,t,d,e,_}:=q0;rw[AU] at e;cases q:ds[i]? with
 |none=>rw[q] at e;cases e
 |some d'=>rw[q] at e;cases e
theorem Sim.args(s:Sub F H)(r:Reps K F vs ds):Sim K H₀ τ F H (vs.map AA) (ds.map Sl.val):=by
 have no:∀(i:Nat) t d,(ds.map Sl.val)[i]?≠AA (.own t d):=λi t d e=>by
  rw[AU] at e;cases q:ds[i]? with
  |none=>rw[q] at e;cases e
  |some d'=>rw[q] at e;cases e
 refine{s,by rw[AJ,AJ,r.length],λi d e=>?_,λi t d e=>absurd e (no i t d),λi j t u d d' a e=>absurd e (no i t d)};rw[AU] at e;cases q:ds[i]? with
 |none=>rw[q] at e;cases e
 |some d'=>rw[q] at e;cases e;have{v,h1,h2}:=r.get q;exact{v,by rw[AU,h1];rfl,h2}
theorem Go(ds:List D):Jv (ds.map Sl.val):=λi t d e=>by
 rw[AU] at e;cases q:ds[i]? with
 |none=>rw[q] at e;cases e
 |some d'=>rw[q] at e;cases e
theorem New.share(n:New F1 H1 F2 H2)(h:H1 a=AK)(ho:H2 a=AA o)(hf:F2 a=AK):New F1 H1 (D4 F2 a o) H2:=by
 refine{{n.1.keep,n.1.dom,n.1.le.trans (.of_gr (Gr.new hf)),λb u e=>?_,λ_ z=>z.elim},λb u e=>?_}
 .by_cases hb:b=a
  .subst hb;exact .inr (.inl (.none h))
  .rw[ET hb] at e;exact n.1.new b u e
 .by_cases hb:b=a
  .subst hb;rw[G9] at e;rw[ho];exact e
  .rw[ET hb] at e;exact n.2 b u e
def KB(m:Mr)(gs:List G):G:=λE=>(N8 gs E).bind λp=>(m (p.1.map Sl.val)).bind λq=>.ok (q.2.1,p.2)
def qC(m:Mr)(gs:List G):G:=λE=>(N8 gs E).bind λp=>(m (p.1.map Sl.val)).bind λq=>if q.1=AN then .ok (q.2.1,p.2) else .bad
theorem k4:∀{gs:List G} {E:Ev} {q:List D×Ev},N8 gs E=.ok q->q.1.length=gs.length
 |[],_,_,h=>by rw[N8] at h;cases h;rfl
 |g::gs,E,q,h=>by rw[N8] at h;have{p,_,h}:=pA3 h;have{r,e2,h}:=pA3 h;cases h;rw[BA,BA,k4 e2]
theorem zZ7(hn:gs.length=np)(h:tV K H₀ (KB m gs) σ H Q):sV (NI K np m) [] E0 (gF K H₀ gs) σ H Q:=by
 have{τ,F,E,d,E',S,hg,k}:=h;have{p,e1,hg}:=pA3 hg;have{q,e2,hg}:=pA3 hg;cases hg;refine{τ,F,E,p.1,p.2,S,e1,λvs F1 H1 s1 S1 r1=>?_};dsimp only;rw[C5];refine{by rw[r1.length,k4 e1,hn],0,F1,_,q.1,q.2.1,q.2.2,Sim.args S1.sub r1,Go _,e2,λv F2 H2 s2 S2 rr=>?_};have n:New F1 H1 F2 H2:={(s2.toF λa=>yR a).weak λ_ z=>z.elim,S2.sub};cases hb:q.1 with
 |false=>rw[hb] at rr;exact k v F2 H2 (s1.trans n.stp) (S1.new n) rr
 |true=>rw[hb] at rr;have{a,rfl,h1,h2,h3,h4}:=rr;have{o,ho,_}:=h2.ho;have n':=n.share h3 ho h1;exact k _ _ H2 (s1.trans n'.stp) (S1.new n') (h2.rep h1 ho)
theorem zVX(hn:gs.length=np)(h:tF K H₀ (qC m gs) σ H Q):sV (NI K np m) [] E0 (gF K H₀ gs) σ H Q:=by
 have{τ,F,E,d,E',S,hg,k}:=h;have{p,e1,hg}:=pA3 hg;have{q,e2,hg}:=pA3 hg;split at hg
 .rename_i hb;cases hg;refine{τ,F,E,p.1,p.2,S,e1,λvs F1 H1 s1 S1 r1=>?_};dsimp only;rw[C5];refine{by rw[r1.length,k4 e1,hn],0,F1,_,q.1,q.2.1,q.2.2,Sim.args S1.sub r1,Go _,e2,λv F2 H2 s2 S2 rr=>?_};have n:New F1 H1 F2 H2:={(s2.toF λa=>yR a).weak λ_ z=>z.elim,S2.sub};rw[hb] at rr;have{a,rfl,h1,h2,h3,h4}:=rr;exact k a F2 H2 (s1.trans n.stp) (S1.new n) h1 (s1.dom a h3) h2 (S1.fresh h3)
 .cases hg
theorem P6(C:MR X.prog X.w X.K X.mg X.base x k np m)(hr:Room k X.A)(ha:VA X (e::es) gs)(hn:gs.length=np:=by rfl)(hg:Gl X x:=by rfl)(RK:(x==("__debug__":CD))=AD:=by decide) (he:AM (e::es) X.env=(AD,eval e X.env)::AM es X.env:=by rfl) (JQ:(DC pos (AM es X.env)).any (·.1)=AD:=by rfl):VE X (.Call (.Name x p) (e::es) [] pos) (KB m gs):=by have{f,fd,ps,Fn,hm,hk,hb}:=C;exact(tZ Fn hr hg hm hk hb .nil zA ha RK he JQ).imp λ_ _ _ h=>zZ7 hn h
theorem yEF(C:MR X.prog X.w X.K X.mg X.base x k np m)(hr:Room k X.A)(ha:VA X (e::es) gs)(hn:gs.length=np:=by rfl)(hg:Gl X x:=by rfl)(RK:(x==("__debug__":CD))=AD:=by decide) (he:AM (e::es) X.env=(AD,eval e X.env)::AM es X.env:=by rfl) (JQ:(DC pos (AM es X.env)).any (·.1)=AD:=by rfl):FE X (.Call (.Name x p) (e::es) [] pos) (qC m gs):=by have{f,fd,ps,Fn,hm,hk,hb}:=C;exact(tZ Fn hr hg hm hk hb .nil zA ha RK he JQ).imp λ_ _ _ h=>zVX hn h
def LH(m:Mr)(i:Nat)(gs:List G):G:=λE=>match E[i]? with
 |some (.own _ _)=>(N8 gs E).bind λp=>match p.2[i]? with
  |some (.own t d)=>(m (.own AN d::p.1.map Sl.val)).bind λq=>.ok (q.2.1,p.2.set i (.own t q.2.2))
  |_=>.bad
 |_=>.bad
theorem pAF(s:Sub F H)(r:Reps K F vs ds)(h1:F a=AK)(h2:OwnAt K F H a d):Sim K H a F H ((V.ref a::vs).map AA) (.own AN d::ds.map Sl.val):=by
 have S:=Sim.args (H₀:=H) (τ:=a) s r;have no:∀i t d',(Sl.own AN d::ds.map Sl.val)[i]?=AA (.own t d')->i=0/\t=AN/\d'=d:=λi t d' e=>by
  cases i with
  |zero=>cases e;exact{rfl,rfl,rfl}
  |succ i =>
   have e:(ds.map Sl.val)[i]?=AA (.own t d'):=by simpa using e
   rw[AU] at e;cases q:ds[i]? with
   |none=>rw[q] at e;cases e
   |some d'=>rw[q] at e;cases e
 refine{s,by rw[AJ,BA,BA,AJ,r.length],λi d' e=>?_,λi t d' e=>?_,λi j t u d1 d2 b e1 e2 _ _=>by rw[(no i _ _ e1).1,(no j _ _ e2).1]}
 .cases i with
  |zero=>cases e
  |succ i=>simpa using S.val i d' (by simpa using e)
 .have{rfl,rfl,rfl}:=no i t d' e;have{o,ho,hw}:=h2.ho;exact{a,rfl,h1,h2,λob u z=>by rw[ho] at z;cases z;exact hw,λ_=>rfl}
theorem Ie{ds:List D}:Jv (.own AN d::ds.map Sl.val):=λi t d' e=>by
 cases i with
 |zero=>cases e;exact{rfl,rfl}
 |succ i =>
  have e:(ds.map Sl.val)[i]?=AA (.own t d'):=by simpa using e
  exact absurd (Go ds i t d' e) (by
   rw[AU] at e;cases q:ds[i]? with
   |none=>rw[q] at e;cases e
   |some d'=>rw[q] at e;cases e)
theorem lA{ds:List D}(h:D6 ((V.ref a::vs).map AA) (.own AN d::ds.map Sl.val) b):b=a:=by have{i,t,d',e1,e2}:=h;have{rfl,_}:=Ie i t d' e1;cases e2;rfl
theorem zVY(hn:gs.length+1=np)(h:tV K H₀ (LH m i gs) σ H Q):sV (NI K np m) [] E0 (sW (bH i) (gF K H₀ gs)) σ H Q:=by
 have{τ,F,E,d,E',S,hg,k}:=h;unfold LH at hg;split at hg
 .rename_i t0 d0 e0;have{p,e1,hg}:=pA3 hg;split at hg
  .rename_i t d1 e3;have{q,e2,hg}:=pA3 hg;cases hg;have{a,a1,_}:=S.own i _ _ e0;refine{_,a1,τ,F,E,p.1,p.2,S,e1,λvs F1 H1 s1 S1 r1=>?_};dsimp only;rw[C5];have{a',b1,b2,b3,b4,b5}:=S1.own i _ _ e3;rw[a1] at b1;cases b1;refine{by rw[BA,r1.length,k4 e1,hn],a,F1,_,q.1,q.2.1,q.2.2,pAF S1.sub r1 b2 b3,Ie,e2,λv F2 H2 s2 S2 rr=>?_};have s2:=s2;have S2:=S2;have hi:=(AR.mp e3).1;have II:∀(j:Nat) t' d',(p.2.set i (.own t q.2.2))[j]?=AA (.own t' d')->(j=i/\t'=t/\d'=q.2.2)\/(j≠i/\p.2[j]?=AA (.own t' d')):=λj t' d' z=>by
    by_cases hj:i=j
    .subst hj;rw[BF hi] at z;cases z;exact .inl {rfl,rfl,rfl}
    .rw[A6 hj] at z;exact .inr {FI hj,z}
   have oin:∀b,D6 σ (p.2.set i (.own t q.2.2)) b->D6 σ p.2 b:=λb q0=>by
    have{j,t',d',z1,z2}:=q0;rcases II j t' d' z1 with⟨rfl,_,_⟩|⟨_,z1⟩
    .exact{_,_,_,e3,z2}
    .exact{j,t',d',z1,z2}
   have ina:D6 σ p.2 a:={i,t,d1,e3,a1};have KS:Stp (D6 σ p.2) F1 H1 F2 H2 (D6 σ (p.2.set i (.own t q.2.2))):={λb o z hw n ho=>s2.keep b o z hw n λy=>ho (by rw[lA y];exact ina),s2.dom,s2.le,λb o z=>(s2.new b o z).imp_right λy=>y.imp_right λy=>by rw[lA y];exact ina,λb z=>.inl (oin b z)};have Sm:Sim K H₀ τ F2 H2 σ (p.2.set i (.own t q.2.2)):=by
    refine{S2.sub,by rw[BY];exact S1.len,λj d' z=>?_,λj t' d' z=>?_,λj l t1 t2 x y b z1 z2 y1 y2=>?_}
    .by_cases hj:i=j
     .subst hj;rw[BF hi] at z;cases z
     .rw[A6 hj] at z;have{v,h1,h2}:=S1.val j d' z;exact{v,h1,h2.le s2.le}
    .rcases II j t' d' z with⟨rfl,rfl,rfl⟩|⟨hj,z⟩
     .have{c,c1,c2,c3,_}:=S2.own 0 AN q.2.2 rfl;cases c1;exact{a,a1,c2,c3,b4,b5}
     .have{c,c1,c2,c3,c4}:=S1.own j t' d' z;have{o,ho,hw}:=c3.ho;have xY:c≠a:=λy=>hj (S1.inj j i t' t d' d1 a z e3 (by rw[c1,y]) a1);refine{c,c1,?_,c3.mono s2.le ((s2.keep c o ho hw c2 λy=>xY (lA y)).trans ho.symm),c4};cases y:F2 c with
      |none=>rfl
      |some u =>
       rcases s2.new c u y with y|y|y
       .exact absurd c2 y
       .exact absurd hw (y o ho)
       .exact absurd (lA y) xY
    .have f:∀(j:Nat) t' d',(p.2.set i (.own t q.2.2))[j]?=AA (.own t' d')->∃oA Ou,p.2[j]?=AA (.own oA Ou):=λj t' d' z=>by
      rcases II j t' d' z with⟨rfl,_,_⟩|⟨_,z⟩
      .exact{_,_,e3}
      .exact{_,_,z}
     have{_,_,w1}:=f j _ _ z1;have{_,_,w2}:=f l _ _ z2;exact S1.inj j l _ _ _ _ b w1 w2 y1 y2
   cases hb:q.1 with
   |false=>rw[hb] at rr;exact k v F2 H2 (s1.trans KS) Sm rr
   |true =>
    rw[hb] at rr;have{c,rfl,h1,h2,h3,h4}:=rr;have{o,ho,_}:=h2.ho;have nc:∀b,D6 σ (p.2.set i (.own t q.2.2)) b->b≠c:=λb z y=>by subst y;exact S1.fresh h3 (oin b z)
    refine k _ (D4 F2 c o) H2 (s1.trans {KS.keep,KS.dom,KS.le.trans (.of_gr (Gr.new h1)),λb u z=>?_,KS.own}) {λb u z=>?_,Sm.len,λj d' z=>?_,λj t' d' z=>?_,Sm.inj} (h2.rep h1 ho)
    .by_cases hb:b=c
     .subst hb;exact .inr (.inl (.none h3))
     .rw[ET hb] at z;exact KS.new b u z
    .by_cases hb:b=c
     .subst hb;rw[G9] at z;rw[ho];exact z
     .rw[ET hb] at z;exact Sm.sub b u z
    .have{v,y1,y2}:=Sm.val j d' z;exact{v,y1,y2.le (.of_gr (Gr.new h1))}
    .have{b,y1,y2,y3,y4}:=Sm.own j t' d' z;exact{b,y1,by rw[ET (nc b {j,t',d',z,y1})];exact y2,y3.mono (.of_gr (Gr.new h1)) rfl,y4}
  .cases hg
 .cases hg
theorem WU(i:Nat)(C:MR X.prog X.w X.K X.mg X.base x k np m)(hr:Room k X.A)(ha:VA X es gs)(hn:gs.length+1=np:=by rfl)(hg:Gl X x:=by rfl)(RK:(x==("__debug__":CD))=AD:=by decide) (he:AM (.Name xn q::es) X.env=(AD,eval (.Name xn q) X.env)::AM es X.env:=by rfl) (JQ:(DC pos (AM es X.env)).any (·.1)=AD:=by rfl) (hN:X.N[i]?=AA xn:=by rfl) (hv:ZK X.env.scope xn:=by first|exact BM rfl|exact DW (BM rfl)|exact DW (DW rfl)) (hd:(xn==("__debug__":CD))=AD:=by decide) (LU:(xn==("__classdict__":CD))=AD:=by decide):VE X (.Call (.Name x p) (.Name xn q::es) [] pos) (LH m i gs):=by have{f,fd,ps,Fn,hm,hk,hb}:=C;exact(tZ Fn hr hg hm hk hb .nil zA (SK (gA hN hv hd LU) ha he) RK he JQ).imp λ_ _ _ h=>zVY hn h
end
theorem PTs.imp(h:PTs X es t)(hi:∀σ H Q,t' σ H Q->t σ H Q):PTs X es t':=λAF s σ H Q I q=>h AF s σ H Q I (hi σ H Q q)
abbrev uX(X:Cx)(es:List D0)(g:Ev->Out (Bool×Ev)):Prop:=PTs X es (tT X.K X.H₀ g)
def RA:Ev->Out (Bool×Ev):=λE=>.ok (AN,E)
theorem kW:uX X [] RA:=ZH.imp λσ H Q h=>by have{τ,F,E,d,E',S,hg,k}:=h;cases hg;exact k F H .refl S
theorem zX(h:VT X c t):uX X [c] t:=zZT h
theorem zSK{l:List Nat}(h:l.Nodup){i j x:Nat}(hi:l[i]?=AA x)(hj:l[j]?=AA x):i=j:=by
 have{a1,a2}:=AR.mp hi;have{b1,b2}:=AR.mp hj;have p:=DM.mp h;rcases RV i j with z|z|z
 .exact absurd (a2.trans b2.symm) (p i j a1 b1 z)
 .exact z
 .exact absurd (b2.trans a2.symm) (p j i b1 a1 z)
noncomputable def WP(k:Nat)(js:List Nat)(E:Ev):Ev:=BI k .no++js.map λj=>(E[j]?).getD .no
noncomputable def kC(j:Nat):List Nat->Nat->Option Nat
 |[],_=>AK
 |x::xs,n=>if x=j then AA n else kC j xs (n+1)
theorem Hh:∀{js:List Nat} {n0 n:Nat},kC j js n0=AA n->∃m,n=n0+m/\js[m]?=AA j
 |[],_,_,h=>by cases h
 |x::xs,n0,n,h=>by
  rw[kC] at h;split at h
  .rename_i hx;cases h;exact{0,rfl,by simp[hx]}
  .have{m,h1,h2}:=Hh h;exact{m+1,by lia,by simpa using h2}
theorem Wf:∀{js:List Nat} {n0:Nat},kC j js n0=AK->j∉js
 |[],_,_=>by simp
 |x::xs,n0,h=>by
  rw[kC] at h;split at h
  .cases h
  .rename_i hx;have:=Wf h;simp only[A8,not_or];exact{λz=>hx z.symm,this}
def j4(Ec:Ev)(k:Nat)(js:List Nat)(j:Nat):Sl->Sl
 |.own t d=>match kC j js 0 with
  |some n=>(Ec[k+n]?).getD .no
  |none=>.own t d
 |s=>s
def cM(Ec:Ev)(k:Nat)(js:List Nat):Nat->Ev->Ev
 |_,[]=>[]
 |j,s::E=>j4 Ec k js j s::cM Ec k js (j+1) E
abbrev WZ(E Ec:Ev)(k:Nat)(js:List Nat):Ev:=cM Ec k js 0 E
theorem Gg(Ec:Ev)(k:Nat)(js:List Nat):∀(E:Ev) (j0 j:Nat),(cM Ec k js j0 E)[j]?=(E[j]?).map (j4 Ec k js (j0+j))
 |[],_,_=>by simp[cM]
 |s::E,j0,0=>by simp[cM]
 |s::E,j0,j+1=>by show(cM Ec k js (j0+1) E)[j]?=_;rw[Gg Ec k js E (j0+1) j,F7,show j0+1+j=j0+(j+1) by lia]
theorem Ub(Ec:Ev)(k:Nat)(js:List Nat):∀(E:Ev) (j0:Nat),(cM Ec k js j0 E).length=E.length
 |[],_=>rfl
 |s::E,j0=>by rw[cM,BA,BA,Ub Ec k js E (j0+1)]
theorem zW(h:(WZ E Ec k js)[j]?=AA s):(E[j]?=AA s/\((∃t d,s=.own t d)->j∉js))\/∃t d n,E[j]?=AA (.own t d)/\js[n]?=AA j/\s=(Ec[k+n]?).getD .no:=by
 rw[Gg,ED] at h;cases q:E[j]? with
 |none=>rw[q] at h;cases h
 |some s0 =>
  rw[q] at h;have h:=BH h;cases s0 with
  |no=>cases h;exact .inl {rfl,(λq0=>by have{_,_,z}:=q0;exact by cases z)}
  |val d=>cases h;exact .inl {rfl,(λq0=>by have{_,_,z}:=q0;exact by cases z)}
  |own t d =>
   cases f:kC j js 0 with
   |none =>
    have:j4 Ec k js j (.own t d)=.own t d:=by unfold j4;rw[f]
    rw[this] at h;exact .inl {by rw[h],λ_=>Wf f}
   |some n =>
    have{m,h1,h2}:=Hh f;have:j4 Ec k js j (.own t d)=(Ec[k+n]?).getD .no:=by unfold j4;rw[f]
    rw[this] at h;exact .inr {t,d,m,rfl,h2,by rw[<-h];congr 2;lia}
theorem tU(h:(WP k js E)[i]?=AA s)(hs:s≠.no):∃n j,i=k+n/\js[n]?=AA j/\E[j]?=AA s:=by
 unfold WP at h;by_cases hi:i<k
 .rw[CA (by rw[C3];exact hi),DZ,if_pos hi] at h;exact absurd (BH h).symm hs
 .rw[BX (by rw[C3];lia),C3,AU] at h;cases q:js[i-k]? with
  |none=>rw[q] at h;cases h
  |some j =>
   rw[q] at h;have h:(E[j]?).getD .no=s:=BH h;refine{i-k,j,by lia,q,?_};cases z:E[j]? with
   |none=>rw[z] at h;exact absurd h.symm hs
   |some s'=>rw[z] at h;rw[<-h];rfl
theorem qS(h:js[n]?=AA j):(WS k js σ)[k+n]?=AA ((σ[j]?).getD AK):=by unfold WS;rw[BX (by rw[C3];lia),C3,AU,NE _ _,h];rfl
section
variable{K:AC}
theorem Sim.off(S:Sim K H₀ τ F H σ E)(hf:F acc=AK)(no:¬D6 σ E acc):Sim K H₀ τ F (D4 H acc o) σ E:=by
 refine{λa u e=>?_,S.len,S.val,λi t d e=>?_,S.inj}
 .have:a≠acc:=λz=>by rw[z,hf] at e;cases e
  rw[ET this];exact S.sub a u e
 .have{a,h1,h2,h3,h4}:=S.own i t d e;have:a≠acc:=λz=>no {i,t,d,e,by rw[<-z];exact h1};exact{a,h1,h2,h3.mono (.refl _) (ET this),h4}
theorem pAG(S:Sub F H)(h:H acc=AK):F acc=AK:=by
 cases e:F acc with
 |none=>rfl
 |some u=>rw[S acc u e] at h;cases h
theorem Ej(h:D6 (WS k js σ) (WP k js E) a):∃(n j:Nat) (t:Bool) (d:D),js[n]?=AA j/\E[j]?=AA (.own t d)/\σ[j]?=AA (AA (.ref a)):=by
 have{i,t,d,e1,e2}:=h;have{n,j,rfl,h1,h2}:=tU e1 (by intro z;cases z);rw[qS h1] at e2;refine{n,j,t,d,h1,h2,?_};cases q:σ[j]? with
 |none=>rw[q] at e2;cases e2
 |some z=>rw[q] at e2;cases e2;rfl
theorem Sim.enter(S:Sim K H₀ τ F H σ E)(k:Nat)(hj:js.Nodup)(ha:H acc=AK):Sim K (D4 H acc o) τ F (D4 H acc o) (WS k js σ) (WP k js E):=by
 have hf:=pAG S.sub ha;refine{λa u e=>?_,by unfold WP WS;simp,λi d e=>?_,λi t d e=>?_,λi j t u d d' a e1 e2 z1 z2=>?_}
 .have:a≠acc:=λz=>by rw[z,hf] at e;cases e
  rw[ET this];exact S.sub a u e
 .have{n,j,rfl,h1,h2}:=tU e (by intro z;cases z);have{v,h3,h4}:=S.val j d h2;exact{v,by rw[qS h1,h3];rfl,h4}
 .have{n,j,rfl,h1,h2}:=tU e (by intro z;cases z);have{a,h3,h4,h5,h6,h7}:=S.own j t d h2;have{ob,ho,hw}:=h5.ho;have:a≠acc:=λz=>by rw[z,ha] at ho;cases ho
  exact{a,by rw[qS h1,h3];rfl,h4,h5.mono (.refl _) (ET this),λw u z=>by rw[ET this,ho] at z;cases z;exact hw,h7}
 .have{n,l,rfl,h1,h2}:=tU e1 (by intro z;cases z);have{n',l',rfl,YM,VZ}:=tU e2 (by intro z;cases z);rw[qS h1] at z1;rw[qS YM] at z2;have w1:σ[l]?=AA (AA (.ref a)):=by
   cases q:σ[l]? with
   |none=>rw[q] at z1;cases z1
   |some z=>rw[q] at z1;cases z1;rfl
  have w2:σ[l']?=AA (AA (.ref a)):=by
   cases q:σ[l']? with
   |none=>rw[q] at z2;cases z2
   |some z=>rw[q] at z2;cases z2;rfl
  have:=S.inj l l' t u d d' a h2 VZ w1 w2;subst this;rw[zSK hj h1 YM]
theorem Sim.leave(S:Sim K H₀ τ F1 H1 σ E1)(ha:H1 acc=AK)(s:Stp (λa=>D6 (WS k js σ) (WP k js E1) a\/a=acc) F1 (D4 H1 acc o) F2 H2 (D6 σ2 E2)) (S2:Sim K (D4 H1 acc o) τ F2 H2 σ2 E2) (hs:∀j:Nat,k<=j->σ2[j]?=(WS k js σ)[j]?) : Sim K H₀ τ F2 H2 σ (WZ E1 E2 k js)/\Stp (D6 σ E1) F1 H1 F2 H2 (D6 σ (WZ E1 E2 k js)):=by
 have cow:∀a,D6 (WS k js σ) (WP k js E1) a->D6 σ E1 a:=λa h=>let ⟨n,j,t,d,_,h2,h3⟩:=Ej h;{j,t,d,h2,h3};have ne:∀a u,H1 a=AA u->a≠acc:=λa u e z=>by rw[z,ha] at e;cases e
 have slot:∀(n j:Nat),js[n]?=AA j->σ2[k+n]?=AA ((σ[j]?).getD AK):=λn j h=>by rw[hs (k+n) (A3 _ _),qS h]
 have dP:∀(j:Nat) t d,(WZ E1 E2 k js)[j]?=AA (.own t d)->∃t' d',E1[j]?=AA (.own t' d'):=λj t d e=>by
  rcases zW e with⟨h,_⟩|⟨t',d',n,h,_⟩
  .exact{t,d,h}
  .exact{t',d',h}
 have st:Stp (D6 σ E1) F1 H1 F2 H2 (D6 σ (WZ E1 E2 k js)):=by
  refine{λa u e hw n ho=>s.keep a u (by rw[ET (ne a u e)];exact e) hw n λz=>z.elim (λz=>ho (cow a z)) (ne a u e),λa e=>?_,s.le,λa u e=>?_,λa ⟨j,t,d,e1,e2⟩=>?_}
  .have:=s.dom a e;by_cases h:a=acc
   .rw[h];exact ha
   .rw[ET h] at this;exact this
  .rcases s.new a u e with z|z|z|z
   .exact .inl z
   .by_cases h:a=acc
    .rw[h];exact .inr (.inl (.none ha))
    .exact .inr (.inl λo' e'=>z o' (by rw[ET h];exact e'))
   .exact .inr (.inr (cow a z))
   .rw[z];exact .inr (.inl (.none ha))
  .have{t',d',h}:=dP j t d e1;exact .inl {j,t',d',h,e2}
 refine{{S2.sub,by rw[Ub];exact S.len,λj d e=>?_,λj t d e=>?_,λi j t u d d' a e1 e2 z1 z2=>?_},st}
 .rcases zW e with⟨h,_⟩|⟨t',d',n,h,h1,h2⟩
  .have{v,h1,h2}:=S.val j d h;exact{v,h1,h2.le s.le}
  .have e2:E2[k+n]?=AA (.val d):=by
    cases q:E2[k+n]? with
    |none=>rw[q] at h2;cases h2
    |some z=>rw[q] at h2;rw[h2];rfl
   have{v,h3,h4}:=S2.val _ d e2;rw[slot n j h1] at h3;refine{v,?_,h4};cases q:σ[j]? with
   |none=>rw[q] at h3;cases h3
   |some z=>rw[q] at h3;cases h3;rfl
 .rcases zW e with⟨h,h'⟩|⟨t',d',n,h,h1,h2⟩
  .have hj:=h' {t,d,rfl};have{a,c1,c2,c3,c4}:=S.own j t d h;have{ob,ho,hw}:=c3.ho;have nc:¬(D6 (WS k js σ) (WP k js E1) a\/a=acc):=λz=>by
    rcases z with z|z
    .have{n,l,t2,d2,y1,y2,y3}:=Ej z;have:=S.inj j l t t2 d d2 a h y2 c1 y3;subst this;exact hj (BJ y1)
    .exact ne a ob ho z
   refine{a,c1,?_,c3.mono s.le ((s.keep a ob (by rw[ET (ne a ob ho)];exact ho) hw c2 nc).trans ho.symm),c4};cases y:F2 a with
   |none=>rfl
   |some u =>
    rcases s.new a u y with y|y|y
    .exact absurd c2 y
    .exact absurd hw (y ob (by rw[ET (ne a ob ho)];exact ho))
    .exact absurd y nc
  .have e2:E2[k+n]?=AA (.own t d):=by
    cases q:E2[k+n]? with
    |none=>rw[q] at h2;cases h2
    |some z=>rw[q] at h2;rw[h2];rfl
   have{a,h3,h4,h5,h6,h7}:=S2.own _ t d e2;rw[slot n j h1] at h3;have{a',c1,c2,c3,c4,c5}:=S.own j t' d' h;rw[c1] at h3;cases h3;exact{a,c1,h4,h5,c4,h7}
 .have{_,_,h1}:=dP i t d e1;have{_,_,h2}:=dP j u d' e2;exact S.inj i j _ _ _ _ a h1 h2 z1 z2
end
abbrev GM:=D->Ev->Out (D×Ev)
theorem Stp.more{ow RZ:AT->Prop}(x:Stp ow F H F1 H1 RZ):Stp (λa=>ow a\/a=acc) F H F1 H1 (λa=>RZ a\/a=acc) :={λa o e w f n=>x.keep a o e w f λz=>n (.inl z),x.dom,x.le,λa o e=>(x.new a o e).imp id λz=>z.imp id .inl,λa q=>q.elim (λz=>(x.own a z).imp .inl id) λz=>.inl (.inr z)}
def Ca(K:AC)(H₀:Hp)(acc:AT)(k:Nat)(g:GM):TM:=λσ H N=>∃τ F E d d' E',Sim K H₀ τ F H σ E/\F acc=AK/\¬D6 σ E acc/\OwnAt K F H acc d/\g d E=.ok (d',E') /\ ∀σ' F' H',Stp (λa=>D6 σ E a\/a=acc) F H F' H' (λa=>D6 σ' E' a\/a=acc)->Sim K H₀ τ F' H' σ' E'->F' acc=AK->¬D6 σ' E' acc->OwnAt K F' H' acc d'->(∀j:Nat,k<=j->σ'[j]?=σ[j]?)->N σ' H'
def ZD(t:Tg)(tt:Ev->Out (Bool×Ev))(gm:GM):List D->GM
 |[],d,E=>.ok (d,E)
 |x::xs,d,E=>(WY t x E).bind λE1=>(tt E1).bind λb=>if b.1=AN then(gm d b.2).bind λq=>ZD t tt gm xs q.1 q.2 else ZD t tt gm xs d b.2
section
variable{K:AC}
theorem yQ(st:Stp (D6 σ' Ea) Fa Ha Fb Hb (D6 σ' Eb))(a1:Fa acc=AK)(a2:¬D6 σ' Ea acc)(a3:OwnAt K Fa Ha acc d):Fb acc=AK/\¬D6 σ' Eb acc/\OwnAt K Fb Hb acc d:=by
 have{o,ho,hw}:=a3.ho;have hb:=st.keep acc o ho hw a1 a2;refine{?_,λz=>(st.own acc z).elim a2 λz=>by (rw[ho] at z;cases z),a3.mono st.le (hb.trans ho.symm)};cases z:Fb acc with
 |none=>rfl
 |some u =>
  rcases st.new acc u z with z|z|z
  .exact absurd a1 z
  .exact absurd hw (z _ ho)
  .exact absurd z a2
theorem yHL(JB:t.ltn k=AN){N:St->Hp->Prop}(S:Sim K H₀ τ F H σ E)(hf:F acc=AK)(no:¬D6 σ E acc)(ho:OwnAt K F H acc d)(hw:Walks K J F ds) (hg:ZD t tt gm ds d E=.ok (d',E')) (htm:∀σ5 F5 H5 E5 N',Stp (λa=>D6 σ E a\/a=acc) F H F5 H5 (λa=>D6 σ5 E5 a\/a=acc)->(∃d5 d6 E6,Sim K H₀ τ F5 H5 σ5 E5/\F5 acc=AK/\¬D6 σ5 E5 acc/\OwnAt K F5 H5 acc d5/\gm d5 E5=.ok (d6,E6) /\ ∀σ' F' H',Stp (λa=>D6 σ5 E5 a\/a=acc) F5 H5 F' H' (λa=>D6 σ' E6 a\/a=acc)->Sim K H₀ τ F' H' σ' E6->F' acc=AK->¬D6 σ' E6 acc->OwnAt K F' H' acc d6->(∀j:Nat,k<=j->σ'[j]?=σ5[j]?)->N' σ' H')->tm σ5 H5 N') (hN:∀σ' F' H',Stp (λa=>D6 σ E a\/a=acc) F H F' H' (λa=>D6 σ' E' a\/a=acc)->Sim K H₀ τ F' H' σ' E'->F' acc=AK->¬D6 σ' E' acc->OwnAt K F' H' acc d'->(∀j:Nat,k<=j->σ'[j]?=σ[j]?)->N σ' H') : tWalkC J (tG K H₀ t) (tT K H₀ tt) tm σ H N:=by
 refine{λi m σ2 H2=>m=ds.length-i/\i<=ds.length/\∃F2 E2 d2,Sim K H₀ τ F2 H2 σ2 E2/\Stp (λa=>D6 σ E a\/a=acc) F H F2 H2 (λa=>D6 σ2 E2 a\/a=acc) /\
   F2 acc=AK/\¬D6 σ2 E2 acc/\OwnAt K F2 H2 acc d2/\(∀j:Nat,k<=j->σ2[j]?=σ[j]?)/\ZD t tt gm (ds.drop i) d2 E2=.ok (d',E'),
  {_,rfl,BQ _,F,E,d,S,Stp.refl,hf,no,ho,λ_ _=>rfl,by rw[OP];exact hg},?_}
 intro i m σ2 H2 zz';have{rfl,De,F2,E2,d2,S2,s2,f2,n2,o2,MU,g2}:=zz';have{w2,w3,w4}:=hw i F2 H2 s2.le S2.sub;by_cases hi:i<ds.length
 .obtain⟨x,hd⟩:∃d,ds[i]?=AA d:={ds[i],by simp[hi]};have xR:ds.drop i=x::ds.drop (i+1):=by
   rw[FN hi];have:ds[i]=x:=by rw[BP hi] at hd;exact BH hd
   rw[this]
  rw[xR,ZD] at g2;have{E3,e3,g2}:=pA3 g2;have{b,e4,g2}:=pA3 g2;refine .inr {w2 hi,λy H' yl=>?_};have{F3,n3,r3}:=w4 y H' x hd yl;have{f3,m3,o3}:=yQ (n3.stp) f2 n2 o2;refine{τ,F3,E2,x,E3,S2.new n3,r3,e3,λσ4 S4 o4 b4=>?_};have m4:=λz=>n2 (o4 acc z);have hs4:∀j:Nat,k<=j->σ4[j]?=σ[j]?:=λj hj=>by rw[b4 k JB j hj,MU j hj]
  have s4:Stp (λa=>D6 σ E a\/a=acc) F H F3 H' (λa=>D6 σ4 E3 a\/a=acc):=(s2.trans n3.stp).weak λa z=>z.imp (o4 a) id;refine{τ,F3,E3,b.1,b.2,S4,e4,λF5 H5 s5 S5=>?_};have{f5,m5,o5}:=yQ s5 f3 m4 o3;have Kw:=s4.trans (s5.more);dsimp only;by_cases hb:b.1=AN
  .rw[if_pos hb] at g2 ⊢;have{z,e6,g2}:=pA3 g2;refine htm σ4 F5 H5 b.2 _ Kw {d2,z.1,z.2,S5,f5,m5,o5,e6,λσ6 F6 H6 s6 S6 f6 m6 o6 hs6=>?_};exact{_,by lia,rfl,hi,F6,z.2,z.1,S6,Kw.trans s6,f6,m6,o6,λj hj=>by rw[hs6 j hj,hs4 j hj],g2}
  .rw[if_neg hb] at g2 ⊢;exact{_,by lia,rfl,hi,F5,b.2,d2,S5,Kw,f5,m5,o5,hs4,g2}
 .have hi:i=ds.length:=by lia
  rw[J6 'L',ZD] at g2;cases g2;exact .inl {w3 hi,hN σ2 F2 H2 s2 S2 f2 n2 o2 MU}
theorem yHM(JB:t.ltn k=AN){N:St->Hp->Prop}(S:Sim K H₀ τ F H σ E)(hf:F acc=AK)(no:¬D6 σ E acc)(ho:OwnAt K F H acc d)(hw:Walks K J F ds) (hg:ZD t tt gm ds d E=.ok (d',E')) (hN:∀σ' F' H',Stp (λa=>D6 σ E a\/a=acc) F H F' H' (λa=>D6 σ' E' a\/a=acc)->Sim K H₀ τ F' H' σ' E'->F' acc=AK->¬D6 σ' E' acc->OwnAt K F' H' acc d'->(∀j:Nat,k<=j->σ'[j]?=σ[j]?)->N σ' H') : tWalkC J (tG K H₀ t) (tT K H₀ tt) (Ca K H₀ acc k gm) σ H N :=yHL JB S hf no ho hw hg (λσ5 F5 H5 E5 N' _ ⟨d5,d6,E6,h⟩=>{τ,F5,E5,d5,d6,E6,h}) hN
theorem Za(s6:Stp (D6 σ E) F H F6 H6 (D6 σ' E')):Stp (λa=>D6 σ E a\/a=acc) F H F6 (D4 H6 acc o) (λa=>D6 σ' E' a\/a=acc):=by
 have st:=s6.more (acc:=acc);refine{λa u e hw n ho=>by rw[ET (λy=>ho (.inr y))];exact st.keep a u e hw n ho,λa e=>?_,st.le,st.new,st.own};by_cases hac:a=acc
 .rw[hac,G9] at e;cases e
 .rw[ET hac] at e;exact st.dom a e
def Dt(ge:G):GM:=λd E=>(ge E).bind λp=>match d with|.lst ds=>few ds.length (.ok (.lst (ds++[p.1]),p.2))|_=>.bad
theorem zV0{N:St->Hp->Prop}(h:Ca K H₀ acc k (Dt ge) σ H N):kJ acc (tV K H₀ ge) σ H N:=by
 have{τ,F,E,d,d',E',S,f,n,o,hg,k}:=h;have{p,e1,hg}:=pA3 hg;split at hg
 .rename_i ds;have{hz,hg}:=XS hg;cases hg;refine{τ,F,E,p.1,p.2,S,e1,λy F6 H6 s6 S6 r6=>?_};have{f6,m6,ys,h6,r2}:=yQ s6 f n o;exact{ys,h6,by rw[r2.length];exact bM hz,k σ F6 _ (Za s6) (S6.off f6 m6) f6 m6 {_,G9,r2.append (.cons r6 .nil)} λ_ _=>rfl}
 .cases hg
def mV(gi:GI)(k:Nat)(js:List Nat)(d0:D)(t:Tg)(tt:Ev->Out (Bool×Ev))(gm:GM):G:=λE=>(gi E).bind λp=>(ZD t tt gm p.1 d0 (WP k js p.2)).bind λq=>.ok (q.1,WZ p.2 q.2 k js)
theorem Ua(hd0:∀(F H:Hp) (a:AT),OwnAt K F (D4 H a o) a d0)(JB:t.ltn k=AN)(hj:js.Nodup)(h:tF K H₀ (mV gi k js d0 t tt gm) σ H Q) : p7 (tI K H₀ gi) k js o (λH=>tG K H t) (λH=>tT K H tt) (λH acc=>Ca K H acc k gm) σ H Q:=by
 have{τ,F,E,d,E',S,hg,kq}:=h;have{p,e1,hg}:=pA3 hg;have{q,e2,hg}:=pA3 hg;cases hg;refine{τ,F,E,p.1,p.2,S,e1,λJ F1 H1 s1 S1 w1 acc ha=>?_};have hf:=pAG S1.sub ha;have S0:=S1.enter (o:=o) k hj ha;have no:¬D6 (WS k js σ) (WP k js p.2) acc:=λz=>by have{n,j,t',d',_,z2,z3}:=Ej z;exact S1.fresh ha {j,t',d',z2,z3}
 refine yHM JB S0 hf no (hd0 _ _ _) w1 e2 λσ2 F2 H2 s2 S2 f2 n2 o2 MU=>?_;have s2':=s2.weak λa z=>.inl z;have{S9,s9}:=S1.leave ha s2' S2 MU;refine kq acc F2 H2 (s1.trans s9) S9 f2 (s1.dom acc ha) o2 λz=>?_;exact(s9.own acc z).elim (λy=>S1.fresh ha y) λy=>S1.fresh ha (by
   have{j,t',d',z1,z2}:=z;rcases zW z1 with⟨h,_⟩|⟨oA,Ou,n,h,_⟩
   .exact{j,t',d',h,z2}
   .exact{j,oA,Ou,h,z2})
theorem tWalkC.imp(hi:∀σ H N,tm σ H N->tm' σ H N){N:St->Hp->Prop}(mt:∀(σ:St) (H:Hp) (P P':Bool->Hp->Prop),(∀b H2,P b H2->P' b H2)->tt σ H P->tt σ H P')(mg:∀(x:V) (σ:St) (H:Hp) (P P':St->Hp->Prop),(∀σ2 H2,P σ2 H2->P' σ2 H2)->g x σ H P->g x σ H P')(h:tWalkC J g tt tm σ H N):tWalkC J g tt tm' σ H N:=by
 have{W,w0,turn}:=h;refine{W,w0,λi m σ H w=>(turn i m σ H w).imp id λ⟨go,st⟩=>{go,λx H' y=>mg _ _ _ _ _ (λσ2 H2 q=>mt _ _ _ _ (λb H3 q=>?_) q) (st x H' y)}};cases b with
 |true=>rw[if_pos rfl] at q ⊢;exact hi _ _ _ q
 |false=>rw[if_neg CH] at q ⊢;exact q
theorem Rz(σ:St)(H:Hp)(P P':Bool->Hp->Prop)(hp:∀b H2,P b H2->P' b H2)(h:tT K H₀ tt σ H P):tT K H₀ tt σ H P' :=
 let ⟨τ,F,E,b,E',S,hg,k⟩:=h;{τ,F,E,b,E',S,hg,λF' H' s S'=>hp _ _ (k F' H' s S')}
theorem Ry(x:V)(σ:St)(H:Hp)(P P':St->Hp->Prop)(hp:∀b H2,P b H2->P' b H2)(h:tG K H₀ t x σ H P):tG K H₀ t x σ H P' :=
 let ⟨τ,F,E,d,E',S,r,hg,k⟩:=h;{τ,F,E,d,E',S,r,hg,λσ' a b c=>hp _ _ (k σ' a b c)}
theorem Rx{R R':It->Hp->Prop}(hp:∀J H2,R J H2->R' J H2)(h:tI K H₀ gi σ H R):tI K H₀ gi σ H R' :=
 let ⟨τ,F,E,ds,E',S,hg,k⟩:=h;{τ,F,E,ds,E',S,hg,λJ F' H' a b c=>hp _ _ (k J F' H' a b c)}
def RC(gi:GI)(k:Nat)(js:List Nat)(t:Tg)(tt:Ev->Out (Bool×Ev))(ge:G):G:=mV gi k js (.lst []) t tt (Dt ge)
theorem Rw(JB:t.ltn k=AN)(hj:js.Nodup)(h:tF K H₀ (RC gi k js t tt ge) σ H Q) : p7 (tI K H₀ gi) k js (.lst []) (λH=>tG K H t) (λH=>tT K H tt) (λH acc=>kJ acc (tV K H ge)) σ H Q :=Rx (λJ H2 q acc ha=>tWalkC.imp (λ_ _ _ z=>zV0 z) (λσ H=>Rz σ H) (λx σ H=>Ry x σ H) (q acc ha)) (Ua (d0:=.lst []) (λF H a=>{[],G9,.nil}) JB hj h)
theorem fY(n:CompNm X scope xo cl own CN js)(hc:X.calm=AN)(hi:VI X tg iter gi) (hg:∀C s H fp,VG (NP X scope xo cl (own++CN) C s H fp) tg t) (ht:∀C s H fp,uX (NP X scope xo cl (own++CN) C s H fp) OE tt) (he:∀C s H fp,VE (NP X scope xo cl (own++CN) C s H fp) QY ge) (JB:t.ltn own.length=AN:=by rfl) (hj:js.Nodup:=by decide) (hs:∀x,DJ iter X.env x=pure x:=by intro _;rfl):FE X (.ListComp QY [{tg,iter,OE,0}] scope pos) (RC gi own.length js t tt ge) :=(zZW n hc hi hg ht he hs).imp λ_ _ _ h=>Rw JB hj h
end
mutual
noncomputable def D.py:D->Option JT
 |.non=>AA .none
 |.bl b=>AA (.bool b)
 |.int i=>AA (.int i)
 |.str x=>if K9 (.str x)=AN then AA (.str x) else AK
 |.tup xs=>(pAH xs).map .tuple
 |.lst xs=>(pAH xs).map .list
 |.dk _=>AK
 |.dt _=>AK
noncomputable def pAH:List D->Option (List JT)
 |[]=>AA []
 |d::ds=>match d.py,pAH ds with
  |some p,AA ps=>AA (p::ps)
  |_,_=>AK
end
section
variable{K:AC}
mutual
theorem Rep.dv(s:Sub F H):∀(d:D) {v:V} {p:JT},Rep K F v d->d.py=AA p->DV K H v p
 |.non,_,_,.non,e=>by rw[D.py] at e;cases e;exact .non
 |.bl b,_,_,.bl _,e=>by rw[D.py] at e;cases e;exact .bl b
 |.int i,_,_,.int _,e=>by rw[D.py] at e;cases e;exact .int i
 |.str x,_,_,.str _,e=>by
  rw[D.py] at e;split at e
  .rename_i h;cases e;exact .str x h
  .cases e
 |.tup xs,_,_,r,e=>by rw[D.py] at e;have{ps,h1,h2}:=BN.mp e;subst h2;have{a,vs,rfl,r,sq}:=r.tupSq;exact .tup (sq F H (.refl _) s) (Reps.dv s xs r h1)
 |.lst xs,_,_,.lst h r,e=>by rw[D.py] at e;have{ps,h1,h2}:=BN.mp e;subst h2;exact .lst (h.imp s.rd id) (Reps.dv s xs r h1)
 |.dk _,_,_,_,e=>by rw[D.py] at e;cases e
 |.dt _,_,_,_,e=>by rw[D.py] at e;cases e
theorem Reps.dv(s:Sub F H):∀(d:List D) {v:List V} {p:List JT},Reps K F v d->pAH d=AA p->DVs K H v p
 |[],_,_,.nil,e=>by rw[pAH] at e;cases e;exact .nil
 |d::ds,_,_,.cons h r,e=>by
  rw[pAH] at e;split at e
  .rename_i p ps e1 e2;cases e;exact .cons (Rep.dv s d h e1) (Reps.dv s ds r e2)
  .cases e
end
end
noncomputable def aF(x y:D):Out D:=match x.py,y.py with
 |some p,AA q=>if min p.depth q.depth<=60 then .ok (.bl (EJ p q)) else .bad
 |_,_=>.bad
noncomputable def L9(x y:D):Out D:=match x.py,y.py with
 |some p,AA q=>if min p.depth q.depth<=60 then .ok (.bl (!EJ p q)) else .bad
 |_,_=>.bad
section
variable{K:AC}
theorem Qc:UV K (Bu K AD) aF:=λv u x y F H d Q s r1 r2 hf k=>by
 unfold aF at hf;split at hf
 .rename_i p q e1 e2;split at hf
  .rename_i hm;cases hf;exact{p,q,r1.dv s _ e1,r2.dv s _ e2,hm,k _ F H (.refl s) (.bl _)}
  .cases hf
 .cases hf
theorem yEH:UV K (Bu K AN) L9:=λv u x y F H d Q s r1 r2 hf k=>by
 unfold L9 at hf;split at hf
 .rename_i p q e1 e2;split at hf
  .rename_i hm;cases hf;exact{p,q,r1.dv s _ e1,r2.dv s _ e2,hm,k _ F H (.refl s) (.bl _)}
  .cases hf
 .cases hf
theorem yHN(hu:X.A.units+64<GZ)(ha:VE X a ga)(hb:VE X b gb)(hm:DX .Eq b=AD:=by with_unfolding_all rfl):VT X (.Compare a [.Eq] [b] pos) (gB (g2 aF ga gb)):=iP (Qs hu) Qc ha hb hm
theorem cT(hu:X.A.units+64<GZ)(ha:VE X a ga)(hb:VE X b gb)(hm:DX .NotEq b=AD:=by with_unfolding_all rfl):VT X (.Compare a [.NotEq] [b] pos) (gB (g2 L9 ga gb)):=iP (yD3 hu) yEH ha hb hm
theorem Ic(hu:X.A.units+64<GZ)(ha:VE X a ga)(hb:VE X b gb)(hm:DX .Eq b=AD:=by with_unfolding_all rfl):VE X (.Compare a [.Eq] [b] pos) (g2 aF ga gb):=Zj (Qs hu) Qc ha hb hm
end
section
variable{κ:Type}[DecidableEq κ]
noncomputable def NA(kvs:List (κ×D))(k:κ):Option D:=(kvs.find? λkv=>decide (kv.1=k)).map (·.2)
noncomputable def O4(kvs:List (κ×D))(k:κ)(v:D):List (κ×D) :=if(kvs.any λkv=>decide (kv.1=k))=AN then kvs.map (λkv=>if kv.1=k then(kv.1,v) else kv) else kvs++[(k,v)]
end
noncomputable def iL:D->Option Key
 |.int i=>AA (.inl i)
 |.str x=>AA (.inr x)
 |_=>AK
noncomputable def RE:List D->Option (List Int)
 |[]=>AA []
 |.int i::ds=>(RE ds).map (i::·)
 |_::_=>AK
theorem qR:∀{ds:List D} {ns:List Int},RE ds=AA ns->ds=ns.map D.int
 |[],_,h=>by rw[RE] at h;cases h;rfl
 |.int i::ds,_,h=>by rw[RE] at h;have{r,h1,h2}:=BN.mp h;subst h2;rw[qR h1];rfl
 |.non::_,_,h=>by simp[RE] at h
 |.bl _::_,_,h=>by simp[RE] at h
 |.str _::_,_,h=>by simp[RE] at h
 |.tup _::_,_,h=>by simp[RE] at h
 |.lst _::_,_,h=>by simp[RE] at h
 |.dk _::_,_,h=>by simp[RE] at h
 |.dt _::_,_,h=>by simp[RE] at h
theorem uG:∀ns:List Int,RE (ns.map D.int)=AA ns
 |[]=>rfl
 |n::ns=>by rw[AV,RE,uG ns];rfl
theorem zV:∀{a b:List Int},a.map (CS:Int->Key)=b.map CS->a=b
 |[],[],_=>rfl
 |[],_::_,h=>by simp at h
 |_::_,[],h=>by simp at h
 |x::a,y::b,h=>by rw[AV,AV] at h;injection h with h1 h2;injection h1 with h1;rw[h1,zV h2]
section
variable{K:AC}
theorem RepK.length(r:RepK K F vs ds):vs.length=ds.length:=r.rec1 (R:=λvs ds=>vs.length=ds.length) rfl λ_ _ ih=>congrArg (·+1) ih
theorem RepT.length(r:RepT K F vs ds):vs.length=ds.length:=r.rec1 (T:=λvs ds=>vs.length=ds.length) rfl λ_ _ ih=>congrArg (·+1) ih
def OpR1(K:AC)(F:Hp):Option V->Option D->Prop
 |some v,AA d=>Rep K F v d
 |none,AK=>True
 |_,_=>False
theorem RepK.get(k:Key)(r:RepK K F vs ds):OpR1 K F (QS vs k) (NA ds k):=by
 refine r.rec1 (R:=λvs ds=>OpR1 K F (QS vs k) (NA ds k)) trivial ?_
 .intro k' v d vs ds h _ ih;by_cases e:k'=k
  .have e1:QS ((k',v)::vs) k=AA v:=by simp[QS,e]
   have e2:NA ((k',d)::ds) k=AA d:=by simp[NA,e]
   rw[e1,e2];exact h
  .have e1:QS ((k',v)::vs) k=QS vs k:=by simp[QS,e]
   have e2:NA ((k',d)::ds) k=NA ds k:=by simp[NA,e]
   rw[e1,e2];exact ih
theorem RepT.get(k:List Int)(r:RepT K F vs ds):OpR1 K F (QS vs (k.map CS)) (NA ds k):=by
 refine r.rec1 (T:=λvs ds=>OpR1 K F (QS vs (k.map CS)) (NA ds k)) trivial ?_
 .intro k' v d vs ds h _ ih;by_cases e:k'=k
  .have e1:QS ((k'.map CS,v)::vs) (k.map CS)=AA v:=by simp[QS,e]
   have e2:NA ((k',d)::ds) k=AA d:=by simp[NA,e]
   rw[e1,e2];exact h
  .have e':¬k'.map CS=k.map CS:=λz=>e (zV z);have e1:QS ((k'.map CS,v)::vs) (k.map CS)=QS vs (k.map CS):=by simp[QS,e']
   have e2:NA ((k',d)::ds) k=NA ds k:=by simp[NA,e]
   rw[e1,e2];exact ih
theorem OpR1.isSome(h:OpR1 K F o p):o.isSome=p.isSome:=by cases o<;>cases p<;>first|rfl|exact h.elim
theorem OpR1.some_of(h:OpR1 K F o (AA d)):∃v,o=AA v/\Rep K F v d:=by
 cases o with
 |none=>exact h.elim
 |some v=>exact{v,rfl,h}
theorem OpR1.none_of(h:OpR1 K F o AK):o=AK:=by
 cases o with
 |none=>rfl
 |some v=>exact h.elim
def iK:D->D->Option (Option D)
 |.dk kvs,k=>(iL k).map (NA kvs)
 |.dt kvs,.tup ks=>(RE ks).map (NA kvs)
 |_,_=>AK
theorem pAI(s:Sub F H)(r1:Rep K F v x)(r2:Rep K F u y)(h:iK x y=AA o):∃a ov,v=.ref a/\iH H a u ov/\OpR1 K F ov o:=by
 cases x with
 |dk kvs =>
  have{k,h1,h2}:=BN.mp (h);subst h2;cases r1 with
  |dk hr r =>
   refine{_,_,rfl,.inl {_,k,s.rd hr,?_,rfl},r.get k};cases y<;>first|cases h1|skip
   .obtain rfl:=r2.vI;rfl
   .obtain rfl:=r2.vS;rfl
 |dt kvs =>
  cases y with
  |tup ks =>
   have{ns,h1,h2}:=BN.mp (h);subst h2;have:=qR h1;subst this;cases r1 with
   |dt hr r =>
    generalize hk:ns.map D.int=kk at r2;cases r2 with
    |tup hb rb=>subst hk;have:=rb.vint;subst this;refine{_,_,rfl,.inr {_,ns.map CS,_,s.rd hr,rfl,?_,rfl},r.get ns};rw[DY];exact s _ _ hb
    |@tupK a xs hb nb =>
     cases xs with
     |nil=>exact absurd rfl nb
     |cons x xs =>
      cases ns with
      |nil=>cases hk
      |cons n ns=>cases hk
  |_=>cases h
 |_=>cases h
end
def QA(x y:D):Out D:=match y with
 |.lst ds=>match pAH ds,x.py with
  |some ps,AA p=>if p.depth<=60 then .ok (.bl (ps.any λd=>EJ d p)) else .bad
  |_,_=>.bad
 |.tup ds=>match pAH ds,x.py with
  |some ps,AA p=>if p.depth<=60 then .ok (.bl (ps.any λd=>EJ d p)) else .bad
  |_,_=>.bad
 |y=>match iK y x with
  |some o=>.ok (.bl o.isSome)
  |none=>.bad
def QU(x y:D):Out D:=(QA x y).bind λd=>match d with|.bl b=>.ok (.bl (!b))|_=>.bad
section
variable{K:AC}
def rC(dL:Bool):R2:=λx y H Q=>∃a o,y=.ref a/\iH H a x o/\Q (.bl (if dL then !o.isSome else o.isSome)) H
theorem Us(hu:X.A.units+64<GZ):OpR X (EV .In) (rC AD):=λAF s σ H x y v u Q I rx ry h=>by have{a,o,rfl,g,q}:=h;cases ry;exact yKB 'L' I g rx λs3 I3=>{.bl _,H,I3,rfl,q}
theorem zML(hu:X.A.units+64<GZ):OpR X (EV .NotIn) (rC AN):=λAF s σ H x y v u Q I rx ry h=>by have{a,o,rfl,g,q}:=h;cases ry;exact zZM 'L' I g rx λs3 I3=>{.bl _,H,I3,rfl,q}
theorem Rv(dL:Bool)(hf:∀x y d,f x y=.ok d->∃b,QA x y=.ok (.bl b)/\d=.bl (if dL then !b else b)):UV K (λx y H Q=>rH K dL x y H Q\/rC dL x y H Q) f:=λv u x y F H d Q s r1 r2 h k=>by
 have{b,hi,rfl}:=hf x y d h;have seq:∀ds p (sq:SqL K H p ds\/SqT K H p ds) xs,Reps K F ds xs->u=.ref p->(match pAH xs,x.py with
   |some ps,AA p=>if p.depth<=60 then Out.ok (D.bl (ps.any λd=>EJ d p)) else .bad
   |_,_=>.bad)=.ok (.bl b)->rH K dL v u H Q:=λds p sq xs rr eu hh=>by
  split at hh
  .rename_i ps q e1 e2;split at hh
   .rename_i hd;cases hh;exact{p,ds,ps,q,eu,sq,rr.dv s _ e1,r1.dv s _ e2,hd,k _ F H (.refl s) (.bl _)}
   .cases hh
  .cases hh
 have Oq:(match iK y x with|some o=>Out.ok (D.bl o.isSome)|none=>.bad)=.ok (.bl b)->rC dL v u H Q:=λhh=>by
  split at hh
  .rename_i o eo;cases hh;have{a,ov,rfl,g,ro}:=pAI s r2 r1 eo;refine{a,ov,rfl,g,?_};rw[ro.isSome];exact k _ F H (.refl s) (.bl _)
  .cases hh
 cases y with
 |lst ds=>have{p,vs,rfl,hr,rr}:=r2.isRefL;exact .inl (seq vs p (.inl (hr.imp s.rd id)) ds rr rfl hi)
 |tup ds=>have{p,vs,rfl,rr,sq}:=r2.tupSq;exact .inl (seq vs p (.inr (sq F H (.refl _) s)) ds rr rfl hi)
 |_=>exact .inr (Oq hi)
theorem Qb(h:QA x y=.ok d):∃b,d=.bl b:=by
 unfold QA at h;split at h
 .split at h
  .split at h
   .cases h;exact{_,rfl}
   .cases h
  .cases h
 .split at h
  .split at h
   .cases h;exact{_,rfl}
   .cases h
  .cases h
 .split at h
  .cases h;exact{_,rfl}
  .cases h
theorem Qa:UV K (λx y H Q=>rH K AD x y H Q\/rC AD x y H Q) QA:=Rv AD λx y d h=>by have{b,rfl}:=Qb h;exact{b,h,rfl}
theorem zSS:UV K (λx y H Q=>rH K AN x y H Q\/rC AN x y H Q) QU:=Rv AN λx y d h=>by have{d',h1,h2}:=pA3 h;have{b,rfl}:=Qb h1;cases h2;exact{b,h1,rfl}
theorem yY(hu:X.A.units+64<GZ)(ha:VE X a ga)(hb:VE X b gb)(hm:DX .In b=AD:=by with_unfolding_all rfl):VT X (.Compare a [.In] [b] pos) (gB (g2 QA ga gb)):=iP ((Qr hu).or (Us hu)) Qa ha hb hm
theorem yKJ(hu:X.A.units+64<GZ)(ha:VE X a ga)(hb:VE X b gb)(hm:DX .In b=AD:=by with_unfolding_all rfl):VE X (.Compare a [.In] [b] pos) (g2 QA ga gb):=Zj ((Qr hu).or (Us hu)) Qa ha hb hm
theorem qN(hu:X.A.units+64<GZ)(ha:VE X a ga)(hb:VE X b gb)(hm:DX .NotIn b=AD:=by with_unfolding_all rfl):VT X (.Compare a [.NotIn] [b] pos) (gB (g2 QU ga gb)):=iP ((zR5 hu).or (zML hu)) zSS ha hb hm
noncomputable def fQ(x y:D):Out D:=match y with
 |.non=>match x with
  |.non=>.ok (.bl AN)
  |_=>.ok (.bl AD)
 |_=>.bad
noncomputable def sQ(x y:D):Out D:=match y with
 |.non=>match x with
  |.non=>.ok (.bl AD)
  |_=>.ok (.bl AN)
 |_=>.bad
theorem Rep.nonV(r:Rep K F v x):v=.non↔x=.non:=by
 constructor
 .intro e;subst e;cases r;rfl
 .intro e;subst e;cases r;rfl
theorem yEI(h:fQ x y=.ok d):y=.non/\d=.bl (open Classical in decide (x=.non)):=by
 cases y with
 |non=>cases x<;>(injection h with h;exact{rfl,by rw[<-h];simp})
 |_=>cases h
theorem zZ9(h:sQ x y=.ok d):y=.non/\d=.bl (!(open Classical in decide (x=.non))):=by
 cases y with
 |non=>cases x<;>(injection h with h;exact{rfl,by rw[<-h];simp})
 |_=>cases h
theorem yAA:UV K (λx y H Q=>y=.non/\Q (.bl (decide (x=.non))) H) fQ:=λv u x y F H d Q s r1 r2 hf k=>by have h:=yEI hf;refine{r2.nonV.mpr h.1,k _ F H (.refl s) ?_};rw[h.2,decide_eq_decide.mpr r1.nonV];exact .bl _
theorem zV2:UV K (λx y H Q=>y=.non/\Q (.bl (!decide (x=.non))) H) sQ:=λv u x y F H d Q s r1 r2 hf k=>by have h:=zZ9 hf;refine{r2.nonV.mpr h.1,k _ F H (.refl s) ?_};rw[h.2,decide_eq_decide.mpr r1.nonV];exact .bl _
theorem Ei(ha:VE X a ga)(hb:VE X b gb)(hm:DX .Is b=AD:=by with_unfolding_all rfl):VT X (.Compare a [.Is] [b] pos) (gB (g2 fQ ga gb)):=iP yDG yAA ha hb hm
theorem yAB(ha:VE X a ga)(hb:VE X b gb)(hm:DX .IsNot b=AD:=by with_unfolding_all rfl):VT X (.Compare a [.IsNot] [b] pos) (gB (g2 sQ ga gb)):=iP zZA zV2 ha hb hm
def YB(x y:D):Out D:=match x,y with
 |.int i,.int j=>.ok (.bl (decide (i<j)))
 |.tup xs,.tup ys=>match RE xs,RE ys with
  |some ns,AA ms=>.ok (.bl (HT.lexLt ns ms))
  |_,_=>.bad
 |_,_=>.bad
theorem Rep.intsT(s:Sub F H)(r:Rep K F v (.tup ds))(h:RE ds=AA ns):∃a,v=.ref a/\SqT K H a (ns.map V.int):=by have:=qR h;subst this;have{a,vs,rfl,rr,sq}:=r.tupSq;have:=rr.vint;subst this;exact{a,rfl,sq F H (.refl _) s}
theorem yEJ:UV K (λx y H Q=>dC (λi j=>.bl (decide (i<j))) x y H Q\/Xy K x y H Q) YB:=λv u x y F H d Q s r1 r2 hf k=>by
 unfold YB at hf;split at hf
 .cases hf;obtain rfl:=r1.vI;obtain rfl:=r2.vI;exact .inl {_,_,rfl,rfl,k _ F H (.refl s) (.bl _)}
 .split at hf
  .rename_i e1 e2;cases hf;have{a,rfl,h1}:=r1.intsT s e1;have{b,rfl,h2}:=r2.intsT s e2;exact .inr {a,b,_,_,rfl,rfl,h1,h2,k _ F H (.refl s) (.bl _)}
  .cases hf
 .cases hf
noncomputable def Bq(p:Int->Int->Bool)(x y:D):Out D:=match x,y with
 |.int i,.int j=>.ok (.bl (p i j))
 |_,_=>.bad
theorem Ru(p:Int->Int->Bool):UV K (dC λi j=>.bl (p i j)) (Bq p):=λv u x y F H d Q s r1 r2 hf k=>by
 unfold Bq at hf;split at hf
 .cases hf;obtain rfl:=r1.vI;obtain rfl:=r2.vI;exact{_,_,rfl,rfl,k _ F H (.refl s) (.bl _)}
 .cases hf
abbrev Jn:=Bq λi j=>decide (j<i)
abbrev Jo:=Bq λi j=>decide (j<=i)
theorem yX(hu:X.A.units+64<GZ)(ha:VE X a ga)(hb:VE X b gb)(hm:DX .Lt b=AD:=by with_unfolding_all rfl):VT X (.Compare a [.Lt] [b] pos) (gB (g2 YB ga gb)):=iP (uS.or (yDM (AS (A3 _ _) hu))) yEJ ha hb hm
theorem yHP(ha:VE X a ga)(hb:VE X b gb)(hm:DX .Gt b=AD:=by with_unfolding_all rfl):VT X (.Compare a [.Gt] [b] pos) (gB (g2 Jn ga gb)):=iP yG1 (Ru _) ha hb hm
theorem yHQ(ha:VE X a ga)(hb:VE X b gb)(hm:DX .GtE b=AD:=by with_unfolding_all rfl):VT X (.Compare a [.GtE] [b] pos) (gB (g2 Jo ga gb)):=iP yG2 (Ru _) ha hb hm
end
theorem zU{h h':CM}(x:h.IsListIter it t i)(k:∀o,h.get? it=AA o->h'.get? it=AA o):h'.IsListIter it t i:=let ⟨o,e,r⟩:=x;{o,k o e,r}
theorem zT{h h':CM}(k:h.IsListIter t l i)(hs:DK a h h')(ne:t≠a):h'.IsListIter t l i:=zU k λo e=>hs.extBut _ _ ne e
theorem pAJ{fp:List AT}(I:Inv X AF σ H s)(hf:∀b∈fp,FpOk X AF H b)(h:SqL X.K H a xs):a∉fp:=λz=>by
 have{f0,f1,f2,f3,f4,f5}:=hf a z;rcases h with h|⟨o,CK,n,hk,_⟩
 .rcases h with h|⟨o,h⟩
  .rw[f0] at h;cases h
  .rw[f0] at h;cases h
 .have hb:=I.ok.mod.kin a o hk;rcases f3 with f3|f3
  .exact I.ok.noex a o hb f3
  .exact absurd (AO (BB hb) I.ok.bsz) (QO.mpr f3)
section
variable{E:AH->AQ->Prop}
structure EnStL(h:CM)(n l:AT)(i:Nat):Prop where
 eo:∃f0 f1 II,fR h n f0 f1 i II/\F0 f0
 k1:h.IsListIter n l i
theorem EnStL.keep{h h':CM}(z:EnStL h n l i)(k:∀b∈[n,n+1],∀o,h.get? b=AA o->h'.get? b=AA o):EnStL h' n l i:=by have{f0,f1,II,e,r}:=z.eo;exact{{f0,f1,II,k _ 'S' _ e,r},zU z.k1 (k _ 'S')}
theorem zV4{Q:Option AH->AQ->Prop}(z:EnStL s.heap n l i)(o1:l≠n)(o2:l≠n+1)(hl:s.heap.IsList l xs)(hx:xs[i]?=AA x) (hQ:∀h' t,EnStL h' n l (i+1)->K7 h' s.heap.objs.size (.int i t) x->h'.objs.size=s.heap.objs.size+1->(∀b o,b≠n->b≠n+1->s.heap.get? b=AA o->h'.get? b=AA o)->Q (AA (.ref s.heap.objs.size)) { s with heap:=h',toks:=s.toks+1 }) : BE (A7 prog w) A (OV (.ref (n+1))) Q E s:=by
 have{f0,f1,II,he,hf}:=z.eo;have k1:=z.k1;have hT:s.TypeIs (.ref (n+1)) "enumerate":={_,he,rfl};have aR:n≠n+1:=gD 'D';refine AB (GP (C7 (name:=IW "__next__") hT GC (DH GC hT RT ?_ (Q3 _))));show BE _ _ (YU (.ref (n+1)) 2 >>= _) _ _ _;refine AB (DA he rfl (x:=.ref n) rfl ?_);refine AB (wpAny_nextOf_list_item k1 hl hx λIS Lx FC=>?_);have pN:fR IS n f0 f1 i II:=FC.extBut _ _ aR.symm he;show BE _ _ (YU (.ref (n+1)) 3 >>= _) _ _ _;refine AB (DA pN rfl (x:=FR i) rfl ?_);refine AB (DA pN rfl rfl ?_);refine AB (jL ?_);refine AB (CY pN 'S' λMB pM PC=>?_);replace pM:fR MB n f0 f1 (i+1) II:=pM;replace PC:DK (n+1) IS MB:=PC;refine AB (CY pM 'S' λPJ pL VP=>?_);replace pL:fR PJ n f0 f1 (i+1) II:=pL;replace VP:DK (n+1) MB PJ:=VP;refine AB (MX (items:=[.int i s.toks,x]) ?_);have NK:PJ.objs.size=s.heap.objs.size:=by rw[VP.1,PC.1,FC.1]
 have yC:fR (PJ.push { cls:=.type "tuple",data:=.seq #[.int i s.toks,x] }) n f0 f1 ((i:Int)+1) II:=AG _ pL;have vX:K7 (PJ.push { cls:=.type "tuple",data:=.seq #[.int i s.toks,x] }) s.heap.objs.size (.int i s.toks) x:=by rw[<-NK];exact AX _ rfl
 have nW:(PJ.push { cls:=.type "tuple",data:=.seq #[.int i s.toks,x] }).objs.size=s.heap.objs.size+1:=by rw[ES,NK]
 have vV:∀b o,b≠n->b≠n+1->s.heap.get? b=AA o->(PJ.push { cls:=.type "tuple",data:=.seq #[.int i s.toks,x] }).get? b=AA o:=λb o b1 b2 e=>AG _ (VP.extBut b o b2 (PC.extBut b o b2 (FC.extBut b o b1 e)));have wM:(PJ.push { cls:=.type "tuple",data:=.seq #[.int i s.toks,x] }).IsListIter n l (i+1):=zU (zT (zT Lx PC aR) VP aR) λo e=>AG _ e;have QY:n+1<s.heap.objs.size:=BB he;rw[show(GU PJ.objs.size)=GU s.heap.objs.size by rw[NK]];generalize PJ.push { cls:=.type "tuple",data:=.seq #[.int i s.toks,x] }=NS at yC vX nW vV wM ⊢;refine AB (zR9 (s:={ s with heap:=NS,toks:=s.toks+1 }) yC hf λb MA g1 pK YE=>?_);replace YE:DK (n+1) NS MA:=YE;have wL:=zT wM YE aR;have vW:=YE.extBut _ _ (FG QY) vX;have vU:=λb o b1 b2 e=>YE.extBut b o b2 (vV b o b1 b2 e);cases b with
 |false=>exact wpAny_pure {_,rfl,wpAny_pure (hQ MA _ {{_,_,_,pK,hf},wL} vW (YE.1.trans nW) vU)}
 |true=>refine AB (FL ?_);refine AB (DA pK rfl rfl ?_);refine AB (CY pK 'S' λoH pJ i5=>?_);replace pJ:fR oH n f0 g1 (i+1) x:=pJ;replace i5:DK (n+1) MA oH:=i5;refine AB ?_;refine AB (CY pJ 'S' λdR pI i4=>?_);replace pI:fR dR n (FR s.heap.objs.size) g1 (i+1) x:=pI;replace i4:DK (n+1) oH dR:=i4;refine CY pI 'S' λUB pH iZ=>?_;replace pH:fR UB n (FR s.heap.objs.size) AD (i+1) x:=pH;replace iZ:DK (n+1) dR UB:=iZ;have up:=λb o hb e=>iZ.extBut b o hb (i4.extBut b o hb (i5.extBut b o hb e));exact AB (QI (wpAny_pure {_,rfl,wpAny_pure (hQ UB _ {{_,_,_,pH,.inr {_,rfl}},zU wL λo e=>up _ o aR e} (up _ _ (FG QY) vW) (iZ.1.trans (i4.1.trans (i5.1.trans (YE.1.trans nW)))) λb o b1 b2 e=>up b o b2 (vU b o b1 b2 e))}))
theorem yAC{Q:Option AH->AQ->Prop}(hh:A.handled=AK)(z:EnStL s.heap n l i)(hl:s.heap.IsList l xs)(hx:xs[i]?=AK) (hQ:∀h',(∀b o,b≠n->s.heap.get? b=AA o->h'.get? b=AA o)->Q AK { s with heap:=h' }):BE (A7 prog w) A (OV (.ref (n+1))) Q E s:=by have{f0,f1,II,he,hf}:=z.eo;have hT:s.TypeIs (.ref (n+1)) "enumerate":={_,he,rfl};refine AB (GP (C7 hT GC (DH GC hT RT ?_ (Q3 _))));show BE _ _ (YU (.ref (n+1)) 2 >>= _) _ _ _;refine AB (DA he rfl rfl ?_);refine AB (wpAny_nextOf_list_end hh z.k1 hl hx λh' e hs he'=>?_);have{o,ho,hc}:=he';exact AB (V2 {o,ho,hc} YS (wpAny_pure (hQ _ hs)))
theorem yEK {Q : Unit → AQ → Prop} (z : EnStL s.heap n l i) (h : ∀ h', EnStL h' n l i → DK (n + 1) s.heap h' → Q () { s with heap := h' }) : BE (A7 prog w) A (HC tg (.ref (n + 1)) u) Q E s := by
  have hz := h s.heap z (kY _ _);obtain ⟨f0, f1, II, e, hf⟩ := id z.eo;cases tg <;> first
    | exact wpAny_pure hz
    | (cases u <;> first
        | exact wpAny_pure hz
        | (
          refine AB (wpAny_load e ?_);dsimp only;split
          · refine AB (FL ?_)
            exact CY e 'S' fun h' dX SY => h h' {{.none, f1, II, dX, .inl rfl}, zT z.k1 SY (gD 'D')} SY
          · exact wpAny_pure hz))
theorem Tz{Q:AH->AQ->Prop}(z:EnStL s.heap n l i)(h:Q (.ref (n+1)) s):BE (A7 prog w) A (QK (.ref (n+1))) Q E s:=by have{f0,f1,II,e,hf}:=z.eo;have hT:s.TypeIs (.ref (n+1)) "enumerate":={_,e,rfl};refine UF hT SD (DH SD hT PySem.F.entry_enumerate_iter ?_ (PySem.F.args_enumerate_iter_1 _));exact wpAny_pure {_,rfl,"enumerate",_,hT,GC.lookup,h}
noncomputable abbrev Cg(h:CM)(l:AT):CM:=h.push { cls:=.type "list_iterator",data:=.fields #[.ref l,.int 0 0] }
abbrev Jq(h:CM)(l:AT):CM:=(Cg h l).push { cls:=.type "enumerate",data:=.fields #[.none,.bool AD,.ref h.objs.size,FR 0,.none,.none] }
theorem zQH(l:AT)(xs:Array AH) : Meets (GG.«enumerate.__new__» {[.type "enumerate",.ref l],[]}) (λ_ R s=>s.heap.IsList l xs/\R (.ok (.ret (.ref (Cg s.heap l).objs.size))) { s with heap:=Jq s.heap l }) :=
 .of_wp λprog w A R s h=>by
  have{hp,g,d,tk,os}:=s;have{hl,h}:=h;have Mm:=sub_enumerate;have hL:=hl
  wp_walk
  refine wpAny_stack_any λst=>wpAny_pure ?_;split
  .rename_i c _ _ _ _ _;cases(c==Value.type "enumerate")
   .wp_walk using KO hL
    exact{_,rfl,h}
   .wp_walk using KO hL
    exact{_,rfl,h}
  .wp_walk using KO hL
   exact{_,rfl,h}
theorem zSW{Q:AH->AQ->Prop}(hl:s.heap.IsList l xs) (h:∀h',EnStL h' s.heap.objs.size l 0->(∀b o,s.heap.get? b=AA o->h'.get? b=AA o)->Q (.ref (s.heap.objs.size+1)) { s with heap:=h' }) : BE (A7 prog w) A (call (.type "enumerate") [.ref l]) Q E s:=by refine callType_new PySem.F.called_enumerate 'D' (PySem.F.typeCall_enumerate_1 _) (PySem.F.newCall_enumerate_1 _) (λobj=>PySem.F.args_object_init_2 obj _) PySem.F.entry_enumerate_new (zQH l xs) {hl,?_};have z1:(Cg s.heap l).objs.size=s.heap.objs.size+1:=ES ..;have g2:(Jq s.heap l).get? (Cg s.heap l).objs.size=AA _:=AX _ rfl;have g1:(Jq s.heap l).get? s.heap.objs.size=AA _:=AG _ (AX _ rfl);rw[z1] at g2;rw[z1];exact{{_,g2,rfl},h _ {{.none,AD,.none,g2,.inl rfl},{_,g1,rfl,rfl}} λb o e=>AG _ (AG _ e)}
end
def Xi(K:AC)(a:AT):It :={λi H=>∃xs x,SqL K H a xs/\xs[i]?=AA x,λi H v H'=>∃p x,v=.ref p/\H p=AK/\H'=D4 H p (.tup [.int i,x])/\∀xs,SqL K H a xs->xs[i]?=AA x,λi H=>∃xs,SqL K H a xs/\xs.length<=i}
theorem zQI{K:AC}(a n:AT):Turn P w K tg (Xi K a) [n,n+1] (n+1) (λi h=>EnStL h n a i) where
 mem:=by simp
 obj:=λi h st c hc=>by
  have{f0,f1,II,e,_}:=st.eo;have{o0,e0,_,d0}:=st.k1;simp only[A8,CG,or_false] at hc;rcases hc with rfl|rfl
  .exact{_,e0,λv z=>by rw[d0] at z;cases z}
  .exact{_,e,λv z=>by have z':Data.fields _=hV v:=z;cases z'}
 keep:=λi h h' st k=>st.keep k
 item:=by
  intro X hP hw hK hc i AF s σ H E I hf st hg;subst hP hw hK;have{xs,x,hq,hx}:=hg;have{CK,rv,p,hz}:=I.list hq;have{u,hu,ru}:=rv.get hx;have Lh:=pAJ I hf hq;simp only[A8,CG,or_false,not_or] at Lh;refine zV4 st Lh.1 Lh.2 (show s.heap.IsList a CK.toArray from p.isList) (x:=u) (by simpa using hu) λh' t CT hp NK hk=>?_;refine{_,rfl,yEK (s:={ s with heap:=h',toks:=s.toks+1 }) CT λh2 st2 MU=>?_};have{f0,f1,II,e4,_}:=id st.eo;have JB:∀c∈[n,n+1],c<s.heap.objs.size:=λc hc=>lt2 hc (BB e4);have I1:Inv X AF σ (D4 H s.heap.objs.size (.tup [.int i,x])) { s with heap:=s.heap.push { cls:=.type "tuple",data:=.seq #[.int i t,u] } } :=
   I.laid (t':=s.toks) (λb u e=>AG _ e) (AL _) {by show 2<=sizeLine;decide,[.int i t,u],.cons {t,rfl} (.cons ru .nil),{_,AX _ rfl,rfl,rfl,0,rfl}}
  have xQ:∀c∈[n,n+1],FpOk X AF (D4 H s.heap.objs.size (.tup [.int i,x])) c:=λc hc=>{by rw[ET (CF (JB c hc))];exact(hf c hc).1,(hf c hc).2};have I2:=I1.turnedL (t':=s.toks+1) xQ λc o hc e=>by
   simp only[A8,CG,or_false,not_or] at hc;refine MU.extBut _ _ hc.2 ?_;by_cases YK:c=s.heap.objs.size
   .subst YK;rw[AX _ rfl] at e;cases e;exact hp
   .have e':s.heap.get? c=AA o:=by rw[MI _ _ _ YK] at e;exact e
    exact hk c o hc.1 hc.2 e'
  exact{.ref s.heap.objs.size,_,I2,rfl,{_,x,rfl,I.fresh,rfl,λzs hz=>by rw[I.list_inj hz hq];exact hx},st2,λc hc=>(xQ c hc).1}
 done:=by intro X hP hw hK hc i AF s σ H E I hf st hg;subst hP hw hK;have{xs,hq,hx}:=hg;have{CK,rv,p,hz}:=I.list hq;have hl:=rv.length;refine yAC (I.ok.hd hc) st (show s.heap.IsList a CK.toArray from p.isList) (by simp;lia) λh' hk=>{rfl,I.turnedL (t':=s.toks) hf λc o hc e=>?_};simp only[A8,CG,or_false,not_or] at hc;exact hk c o hc.1 e
 self:=λ_ _ _ _ _ st h=>Tz st h
section
def yEL(K:AC)(ta:TA):TI:=λσ H R=>ta σ H λvs H1=>∃a,vs=[.ref a]/\(∃xs,SqL K H1 a xs)/\R (Xi K a) H1
theorem zV5{a:D0}(hg:Gl X "enumerate")(hm:X.mg "enumerate"=AK)(ha:PA X [a] ta)(hs:AM [a] X.env=[(AD,eval a X.env)]:=by rfl):PI X tg (.Call (.Name "enumerate" p) [a] [] pos) (yEL X.K ta):=by
 intro AF s σ H R I h;refine Call_ (kP I hg hm (u:=.type "enumerate") (by decide +kernel) (FV (G6 (ha pos AF s σ H _ I h) λus s1 ⟨vs,H1,I1,r1,q1⟩=>?_) hs rfl));have{c,e,zz',q}:=q1;have{xs,XX}:=zz';subst e;cases r1 with
 |cons r rr =>
  cases rr
  (first|obtain rfl:=r.vI|obtain rfl:=r.vB|obtain rfl:=r.vS|obtain rfl:=r.vN|cases r)
  have{oG,vP,p1,lM}:=I1.list XX;refine zSW (p1.isList) λh' st k=>?_;refine Tz st ?_;exact{s1.heap.objs.size+1,[s1.heap.objs.size,s1.heap.objs.size+1],_,_,H1,rfl,I1.kept k,zQI c _,st,λb hb=>I1.fpOk (Zv hb) (I1.hok.fresh (Zv hb)),q}
end
section
variable{K:AC}{id T:String}
def Yz(K:AC):R2:=λx y H Q=>∃l b xs zs,x=.ref l/\y=.ref b/\SqL K H l xs/\SqL K H b zs/\xs.length+zs.length<=sizeLine/\∀p,H p=AK->Q (.ref p) (D4 H p (.lst (xs++zs)))
theorem iW:OpR X (HE .Add) (Yz X.K):=by
 intro AF s σ H x y v u Q I rx ry h;have{l,b,xs,zs,rfl,rfl,hH,hB,hz,q}:=h;cases rx;cases ry;have{CK,r,pl,z}:=I.list hH;have{MT,r2,pl2,z2}:=I.list hB;have{zz',n,e,e1,e2,e3}:=pl;have{oc,od,oda,ZL}:=zz';have{zz',n',e',e1',e2',e3'}:=pl2;have{oc',od',oda',Lb}:=zz';subst e1 e2 e3 e1' e2' e3';have hl:=r.length;have aN:=r2.length;refine UI {_,e,rfl} {_,e',rfl} noFill_list_add seq_list_add F.slot_list_add F.entry_list_add (F.args_list_add_2 _ _) (list_addW l b CK.toArray MT.toArray n n' AK AK ZL Lb (by rw[AZ,AZ];lia)) {e,e',?_};have ea:CK.toArray++MT.toArray=(CK++MT).toArray:=by simp
 rw[ea];exact{.ref _,_,I.lnew (r.append r2) (by rw[BC];lia),rfl,q _ I.fresh}
def Yy(K:AC):R2:=λx y H Q=>∃a b xs ys,x=.ref a/\y=.ref b/\SqT K H a xs/\SqT K H b ys/\xs.length+ys.length<=sizeLine/\(xs=[]->Q (.ref b) H)/\(ys=[]->Q (.ref a) H)/\∀p,H p=AK->Q (.ref p) (D4 H p (.tup (xs++ys)))
theorem iV:OpR X (HE .Add) (Yy X.K):=by intro AF s σ H x y v u Q I rx ry h;have{a,b,xs,ys,rfl,rfl,ha,hb,hz,q1,q2,q3}:=h;cases rx;cases ry;have{CK,r1,p1,_}:=I.tuple ha;have{MT,r2,p2,_}:=I.tuple hb;refine zZZ p1 p2 (λz=>{.ref b,H,I,rfl,q1 (r1.nil_iff.mp z)}) (λ_ z=>{.ref a,H,I,rfl,q2 (r2.nil_iff.mp z)}) (λ_ z=>?_) (by rw[<-r1.length,<-r2.length];exact hz);exact{.ref s.heap.objs.size,_,I.laid (o:=.tup (xs++ys)) (λb ob q=>AG _ q) (AL _) {by rw[BC];exact hz,_,r1.append r2,IsTupP.new _ _},rfl,q3 _ I.fresh}
theorem ZI{n:Nat}(h:n<10000):n<=sizeLine:=CQ (bM h)
def NG(x y:D):Out D:=match x,y with
 |.int i,.int j=>.ok (.int (i+j))
 |.lst xs,.lst ys=>few (xs.length+ys.length) (.ok (.lst (xs++ys)))
 |.tup xs,.tup ys=>few (xs.length+ys.length) (.ok (.tup (xs++ys)))
 |.str s,.str t=>few (s.length+t.length) (.ok (.str (s++t)))
 |_,_=>.bad
abbrev Yx(K:AC):R2:=λx y H Q=>dC (λi j=>.int (i+j)) x y H Q\/Yz K x y H Q\/Yy K x y H Q\/(∃i j,x=.str i/\y=.str j/\i.length+j.length<=sizeLine/\Q (.str (i++j)) H)
theorem yAD:OpR X (HE .Add) (Yx X.K):=nS.or (iW.or (iV.or zP7))
theorem yAE:UV K (Yx K) NG:=λv u x y F H d Q s r1 r2 hf k=>by
 unfold NG at hf;split at hf
 .cases hf;obtain rfl:=r1.vI;obtain rfl:=r2.vI;exact .inl {_,_,rfl,rfl,k _ F H (.refl s) (.int _)}
 .have{hl,hf}:=XS hf;cases hf;have{a,vs,rfl,h1,h2}:=r1.isRefL;have{b,ws,rfl,h3,h4}:=r2.isRefL;refine .inr (.inl {a,b,vs,ws,rfl,rfl,h1.imp s.rd id,h3.imp s.rd id,by rw[h2.length,h4.length];exact ZI hl,λq hq=>?_});have n:=New.laid (o:=.lst (vs++ws)) s hq;exact k _ _ _ n (.lst (.inl (.inl G9)) ((h2.append h4).le n.1.le))
 .have{hl,hf}:=XS hf;cases hf;have{a,vs,rfl,h2,h1}:=r1.tupSq;have{b,ws,rfl,h4,h3}:=r2.tupSq;refine .inr (.inr (.inl {a,b,vs,ws,rfl,rfl,h1 F H (.refl _) s,h3 F H (.refl _) s,by rw[h2.length,h4.length];exact ZI hl,λz=>?_,λz=>?_,λq hq=>?_}))
  .have:=h2.nil_iff.mp z;subst this;exact k _ F H (.refl s) r2
  .have:=h4.nil_iff.mp z;subst this;rw[C5] at k;exact k _ F H (.refl s) r1
  .have n:=New.laid (o:=.tup (vs++ws)) s hq;exact k _ _ _ n (.tup G9 ((h2.append h4).le n.1.le))
 .have{hl,hf}:=XS hf;cases hf;obtain rfl:=r1.vS;obtain rfl:=r2.vS;exact .inr (.inr (.inr {_,_,rfl,rfl,ZI hl,k _ F H (.refl s) (.str _)}))
 .cases hf
theorem Z8(ha:VE X a ga)(hb:VE X b gb):VE X (.BinOp a .Add b pos) (g2 NG ga gb):=rE yAD yAE ha hb
noncomputable def j3(x y:D):Out D:=match x,y with
 |.int i,.int j=>.ok (.int (i-j))
 |_,_=>.bad
theorem yAF:UV K (dC λi j=>.int (i-j)) j3:=λv u x y F H d Q s r1 r2 hf k=>by
 unfold j3 at hf;split at hf
 .cases hf;obtain rfl:=r1.vI;obtain rfl:=r2.vI;exact{_,_,rfl,rfl,k _ F H (.refl s) (.int _)}
 .cases hf
theorem Je(ha:VE X a ga)(hb:VE X b gb):VE X (.BinOp a .Sub b pos) (g2 j3 ga gb):=rE yDB yAF ha hb
noncomputable def guard{α:Type}(c:Prop)[Decidable c](y:Out α):Out α:=if c then y else .bad
theorem bO{α:Type}{c:Prop}[Decidable c]{y:Out α}{z:α}(h:guard c y=.ok z):c/\y=.ok z:=by
 unfold guard at h;split at h
 .exact{by assumption,h}
 .cases h
def qL(i:Int):Prop:=-(2 ^ 64)<i/\i<2 ^ 64
instance (i:Int):Decidable (qL i):=inferInstanceAs (Decidable (_/\_))
def X4(x y:D):Out D:=match x,y with
 |.int i,.int j=>guard (qL i\/qL j) (.ok (.int (i * j)))
 |_,_=>.bad
theorem yAH:UV K (rI CMul λi j=>.int (i * j)) X4:=λv u x y F H d Q s r1 r2 hf k=>by
 unfold X4 at hf;split at hf
 .have{hc,hf}:=bO hf;cases hf;obtain rfl:=r1.vI;obtain rfl:=r2.vI;exact{_,_,rfl,rfl,hc,k _ F H (.refl s) (.int _)}
 .cases hf
theorem yV(ha:VE X a ga)(hb:VE X b gb):VE X (.BinOp a .Mult b pos) (g2 X4 ga gb):=rE yDC yAH ha hb
def mS(x y:D):Out D:=match x,y with
 |.int i,.int j=>guard (0<j/\j<2 ^ 200) (.ok (.int (i / j)))
 |_,_=>.bad
def Yw(_ j:Int):Prop:=0<j/\j<2 ^ 200
theorem zV7:OpR X (HE .FloorDiv) (rI Yw λi j=>.int (i / j)):=Cd λi j _ _ _ _ _ hc q=>by refine floordiv_int (by have:=hc.1;lia) (by rw[Int.fdiv_eq_ediv_of_nonneg _ (LF hc.1)];exact q) (.inl (PyProof.noPylong_of_log2 ?_));have h1:=hc.1;have h2:=hc.2;refine AO ((Nat.log2_lt 'L').mpr (show j.natAbs<2 ^ 200 by lia)) 'D'
theorem zV8:UV K (rI Yw λi j=>.int (i / j)) mS:=λv u x y F H d Q s r1 r2 hf k=>by
 unfold mS at hf;split at hf
 .have{hc,hf}:=bO hf;cases hf;obtain rfl:=r1.vI;obtain rfl:=r2.vI;exact{_,_,rfl,rfl,hc,k _ F H (.refl s) (.int _)}
 .cases hf
theorem Pz(ha:VE X a ga)(hb:VE X b gb):VE X (.BinOp a .FloorDiv b pos) (g2 mS ga gb):=rE zV7 zV8 ha hb
def UP(x y:D):Out D:=match x,y with
 |.int i,.int j=>guard (0<j) (.ok (.int (i % j)))
 |_,_=>.bad
theorem yAI:UV K (rI (λ_ j=>0<j) λi j=>.int (i % j)) UP:=λv u x y F H d Q s r1 r2 hf k=>by
 unfold UP at hf;split at hf
 .have{hc,hf}:=bO hf;cases hf;obtain rfl:=r1.vI;obtain rfl:=r2.vI;exact{_,_,rfl,rfl,hc,k _ F H (.refl s) (.int _)}
 .cases hf
theorem kB(ha:VE X a ga)(hb:VE X b gb):VE X (.BinOp a .Mod b pos) (g2 UP ga gb):=rE yDD yAI ha hb
def bE(x y:D):Out D:=match x,y with
 |.int i,.int j=>guard (0<=j/\j<=1000000/\i.natAbs<2 ^ 64) (.ok (.int (i ^ j.toNat)))
 |_,_=>.bad
theorem yAJ:UV K (rI Ya λi j=>.int (i ^ j.toNat)) bE:=λv u x y F H d Q s r1 r2 hf k=>by
 unfold bE at hf;split at hf
 .have{hc,hf}:=bO hf;cases hf;obtain rfl:=r1.vI;obtain rfl:=r2.vI;exact{_,_,rfl,rfl,hc,k _ F H (.refl s) (.int _)}
 .cases hf
theorem yU(ha:VE X a ga)(hb:VE X b gb):VE X (.BinOp a .Pow b pos) (g2 bE ga gb):=rE yDE yAJ ha hb
noncomputable def WD(x:D):Out D:=match x with
 |.int i=>.ok (.int (-i))
 |_=>.bad
theorem yAK:Jt K (rU λi=>.int (-i)) WD:=λv x F H d Q s r hf k=>by
 unfold WD at hf;split at hf
 .cases hf;obtain rfl:=r.vI;exact{_,rfl,k _ F H (.refl s) (.int _)}
 .cases hf
theorem sP(ha:VE X a ga):VE X (.UnaryOp .USub a pos) (g1 WD ga):=yKF yDF yAK ha
def iE(x y:D):Out D:=match x,y with
 |.lst xs,.int k=>guard (-(2 ^ 63)<=k/\k<2 ^ 63/\xs.length * k.toNat<10000) (.ok (.lst (BI k.toNat xs).flatten))
 |_,_=>.bad
theorem Yv{es:List D0}{gs:List G}{YG:jS}(ha:VA X es gs)(hb:VE X b gb):FE X (.BinOp (.List es YG) .Mult b pos) (g2 iE (J1 gs) gb):=(yZ yDR (mY ha) hb).imp λσ H Q h=>by
 have{τ,F,E,d,E',S,hg,k}:=h;have{p,ea,hg}:=pA3 hg;have{q,eb,hg}:=pA3 hg;have{z,ef,hg}:=pA3 hg;cases hg;have{p0,ea0,eq}:=pA3 ea;have{hl,eq}:=XS eq;cases eq;refine{τ,F,E,p0.1,p0.2,S,ea0,λvs F1 H1 s1 S1 r1=>{by rw[r1.length];exact ZI hl,λl sF=>?_}};have n:=New.laid (o:=.lst vs) S1.sub sF;have S2:=S1.new n;refine{τ,_,p0.2,q.1,q.2,S2,eb,λu F3 H3 s3 S3 r3=>?_};unfold iE at ef;split at ef
 .rename_i xs kk e1 e2;have{zz',ef}:=bO ef;have{g1,g2,g3}:=zz';cases ef;cases e1;rw[e2] at r3;obtain rfl:=r3.vI;have hv:=r1.length;have rl:=s3.le.rd (.inl G9);have hH:H3 l=AA (.lst vs):=by
   rcases rl with z|⟨o,z⟩
   .exact S3.sub _ _ z
   .have:=s3.le l _ (G9);rcases this with y|⟨y,_⟩|⟨_,_,_,y,_⟩
    .rw[z] at y;cases y
    .exact y.elim
    .cases y
  refine{l,kk,vs,rfl,rfl,hH,g1,g2,by rw[hv];exact ZI g3,λq' hq=>?_};have n2:=pA6 (H':=D4 H3 q' (.lst (BI kk.toNat vs).flatten)) S3.sub (Gr.new hq);have st:=((s1.trans (n.stp)).trans s3).trans (n2.stp);exact k q' _ _ st (S3.new n2) (pAG S3.sub hq) (((s1.trans (n.stp)).trans s3).dom q' hq) {_,G9,((r1.le n.1.le).le s3.le).rep kk.toNat} (S3.fresh hq)
 .cases ef
theorem Reps.atI(r:Reps K F vs ds)(h:_L.atI ds i=AA d):∃v,_L.atI vs i=AA v/\Rep K F v d:=by
 unfold _L.atI at h ⊢;rw[r.length];cases q:XU ds.length i with
 |none=>rw[q] at h;cases h
 |some j=>rw[q] at h;have{v,h1,h2}:=r.get (h);exact{v,h1,h2}
def E7(x y:D):Out D:=match x,y with
 |.lst ds,.int i=>match _L.atI ds i with
  |some d=>.ok d
  |none=>.bad
 |.tup ds,.int i=>match _L.atI ds i with
  |some d=>.ok d
  |none=>.bad
 |.str z,.int i=>few z.length (match _L.atI z.cps.toList i with
  |some c=>.ok (.str {#[c]})
  |none=>.bad)
 |x,y=>match iK x y with
  |some (AA d)=>.ok d
  |_=>.bad
def zS:R2:=λx y H Q=>∃a v,x=.ref a/\iH H a y (AA v)/\Q v H
theorem Rt(hu:X.A.units+64<GZ):IxR X zS:=by intro JO PF AF s σ H x y v u Q I rx ry h hs;have{a,w,rfl,g,q}:=h;cases rx;refine jM (zNV I g) PySem.F.slot_dict_getitem.lookup (zRQ 'L' I g ry λw' s3 I3 KJ=>{w,H,I3,KJ,q}) hs
theorem yER:UV K (λx y H Q=>Zr K x y H Q\/zS x y H Q) E7:=λv u x y F H d Q s r1 r2 hf k=>by
 have Oq:(match iK x y with|some (AA d)=>Out.ok d|_=>.bad)=.ok d->zS v u H Q:=λhh=>by
  split at hh
  .rename_i d' eo;cases hh;have{a,ov,rfl,g,ro}:=pAI s r1 r2 eo;have{w,rfl,KJ}:=ro.some_of;exact{a,w,rfl,g,k _ F H (.refl s) KJ}
  .cases hh
 unfold E7 at hf;split at hf
 .split at hf
  .rename_i d' e;cases hf;have{a,vs,rfl,h1,h2}:=r1.isRefL;have{w,h3,h4}:=h2.atI e;obtain rfl:=r2.vI;exact .inl (.inl {a,vs,_,w,rfl,rfl,h1.imp s.rd id,h3,k _ F H (.refl s) h4})
  .cases hf
 .split at hf
  .rename_i d' e;cases hf;have{a,vs,rfl,h2,h1}:=r1.tupSq;have{w,h3,h4}:=h2.atI e;obtain rfl:=r2.vI;exact .inl (.inr (.inl {a,vs,_,w,rfl,rfl,h1 F H (.refl _) s,h3,k _ F H (.refl s) h4}))
  .cases hf
 .have{hl,hf}:=XS hf;split at hf
  .rename_i c e;cases hf;obtain rfl:=r1.vS;obtain rfl:=r2.vI;exact .inl (.inr (.inr {_,_,c,rfl,rfl,ZI hl,e,k _ F H (.refl s) (.str _)}))
  .cases hf
 .exact .inr (Oq hf)
theorem ML(hu:X.A.units+64<GZ)(ha:VE X a ga)(hb:VE X b gb)(hs:Si b:=by intro _ _;rfl):VE X (.Subscript a b pos) (g2 E7 ga gb):=(Dr (nV.or (Rt hu)) ha hb hs).imp λ_ _ _ h=>yT yER h
noncomputable def XO{α:Type}(xs:List α)(lo hi:Option Int):List α:=(xs.drop (HT.sIx xs.length 0 lo)).take (HT.sIx xs.length xs.length hi-HT.sIx xs.length 0 lo)
theorem Reps.cut(r:Reps K F vs ds)(lo hi:Option Int):Reps K F (bG vs lo hi) (XO ds lo hi):=by unfold bG XO;rw[r.length];exact(r.drop _).take _
def yKK(K:AC):V->Option Int->Option Int->Hp->VK->Prop:=λx lo hi H Q=>∃a xs,x=.ref a/\SqT K H a xs/\(bG xs lo hi=xs->Q (.ref a) H)/\∀p,H p=AK->Q (.ref p) (D4 H p (.tup (bG xs lo hi)))
theorem iT:SlR X (yKK X.K):=by
 intro AF s σ H x v vl vu lo hi sl Q I rx hs pl pu h;have{a,xs,rfl,hx,q1,q2}:=h;by_cases hw:HT.sIx xs.length 0 lo=0/\HT.sIx xs.length xs.length hi=xs.length
 .cases rx;have{CK,r,ht,hz}:=I.tuple hx;have EU:CK.toArray.size=xs.length:=by rw[AZ];exact r.length.symm
  refine{"tuple",_,EA.lookup,ht.typeIs,?_};exact zE2 ht hs pl pu (by rw[EU];exact hw) {.ref a,H,I,rfl,q1 (zR6 hw)}
 .exact yDL AF s σ H (.ref a) v vl vu lo hi sl Q I rx hs pl pu {a,xs,rfl,hx,hw,q2}
def Jd:Option G->Ev->Out (Option Int×Ev)
 |none,E=>.ok (AK,E)
 |some g,E=>(g E).bind λp=>match p.1 with|.int i=>.ok (AA i,p.2)|_=>.bad
def tPt(K:AC)(H₀:Hp)(g:Option G):TO:=λσ H Q=>∃τ F E o E',Sim K H₀ τ F H σ E/\Jd g E=.ok (o,E')/\∀F' H',Stp (D6 σ E) F H F' H' (D6 σ E')->Sim K H₀ τ F' H' σ E'->Q o H'
theorem PO.imp{oe:Option D0}{t t':TO}(h:PO X oe t)(hi:∀σ H Q,t' σ H Q->t σ H Q):PO X oe t':=λAF s σ H Q I q=>h AF s σ H Q I (hi σ H Q q)
abbrev VO(X:Cx)(oe:Option D0)(g:Option G):Prop:=PO X oe (tPt X.K X.H₀ g)
theorem Fq:VO X AK AK:=iU.imp λσ H Q h=>by have{τ,F,E,o,E',S,hg,k}:=h;cases hg;exact k F H .refl S
theorem tR(h:VE X e ge):VO X (AA e) (AA ge):=(zZG h).imp λσ H Q h=>by
 have{τ,F,E,o,E',S,hg,k}:=h;have{p,ea,hg}:=pA3 hg;refine{τ,F,E,p.1,p.2,S,ea,λv F1 H1 s1 S1 r1=>?_};split at hg
 .rename_i i ei;cases hg;rw[ei] at r1;obtain rfl:=r1.vI;exact{i,rfl,k F1 H1 s1 S1}
 .cases hg
def Xh(x:D)(lo hi:Option Int):Out D:=match x with
 |.tup ds=>.ok (.tup (XO ds lo hi))
 |.lst ds=>.ok (.lst (XO ds lo hi))
 |_=>.bad
def Z9(g:G)(lo hi:Option G):G:=λE=>(g E).bind λp=>(Jd lo p.2).bind λq=>(Jd hi q.2).bind λr=>(Xh p.1 q.1 r.1).bind λd=>.ok (d,r.2)
theorem zR{lo hi:Option D0}(he:VE X e ge)(hl:VO X lo gl)(hh:VO X hi gh):VE X (.Subscript e (.Slice lo hi AK p2) pos) (Z9 ge gl gh):=(zUX (iT.or zZI) he hl hh).imp λσ H Q h=>by
 have{τ,F,E,d,E',S,hg,k}:=h;have{p,e1,hg}:=pA3 hg;have{q,e2,hg}:=pA3 hg;have{r,e3,hg}:=pA3 hg;have{z,e4,hg}:=pA3 hg;cases hg;refine{τ,F,E,p.1,p.2,S,e1,λv F1 H1 s1 S1 r1=>{τ,F1,p.2,q.1,q.2,S1,e2,λF2 H2 s2 S2=>{τ,F2,q.2,r.1,r.2,S2,e3,λF3 H3 s3 S3=>?_}}};have vR:=(r1.le s2.le).le s3.le;have st:=(s1.trans s2).trans s3;unfold Xh at e4;split at e4
 .rename_i ds ed;cases e4;rw[ed] at vR;have{a,vs,rfl,h2,h1}:=vR.tupSq;refine .inl {a,vs,rfl,h1 F3 H3 (.refl _) S3.sub,λz=>k _ F3 H3 st S3 ?_,λq' hq=>?_}
  .have:XO ds q.1 r.1=ds:=by have h5:=h2.cut q.1 r.1;rw[z] at h5;have h6:=h5.length;have h7:=h2.length;have h8:(XO ds q.1 r.1).Sublist ds:=(Q5 _ _).trans (List.drop_sublist _ _);exact h8.eq_of_length 'L'
   rw[this];exact vR
  .have n:=New.laid (o:=.tup (bG vs q.1 r.1)) S3.sub hq;exact k _ _ _ (st.trans n.stp) (S3.new n) (.tup G9 ((h2.cut q.1 r.1).le n.1.le))
 .rename_i ds ed;cases e4;rw[ed] at vR;have{a,vs,rfl,h1,h2}:=vR.isRefL;refine .inr {a,vs,rfl,h1.imp S3.sub.rd id,λq' hq=>?_};have n:=New.laid (o:=.lst (bG vs q.1 r.1)) S3.sub hq;exact k _ _ _ (st.trans n.stp) (S3.new n) (.lst (.inl (.inl G9)) ((h2.cut q.1 r.1).le n.1.le))
 .cases e4
def gN(f:List D->Out D)(gs:List G):G:=λE=>(N8 gs E).bind λp=>(f p.1).bind λd=>.ok (d,p.2)
def mR(K:AC)(r:List V->Hp->VK->Prop)(f:List D->Out D):Prop:=∀vs xs F H d Q,Sub F H->Reps K F vs xs->f xs=.ok d->(∀z F' H',New F H F' H'->Rep K F' z d->Q z H')->r vs H Q
def sO(K:AC)(r:List V->Hp->VK->Prop)(f:List D->Out D):Prop:=∀vs xs F H d Q,Sub F H->Reps K F vs xs->f xs=.ok d->(∀a F' H',New F H F' H'->F' a=AK->H a=AK->OwnAt K F' H' a d->Q (.ref a) H')->r vs H Q
theorem Yu{r:List V->Hp->VK->Prop}(hs:mR K r f)(h:tV K H₀ (gN f gs) σ H Q):Cb r (gF K H₀ gs) σ H Q:=by have{τ,F,E,d,E',S,hg,k}:=h;have{p,e1,hg}:=pA3 hg;have{z,e2,hg}:=pA3 hg;cases hg;exact{τ,F,E,p.1,p.2,S,e1,λvs F1 H1 s1 S1 r1=>hs vs p.1 F1 H1 d Q S1.sub r1 e2 λz F2 H2 n r2=>k z F2 H2 (s1.trans n.stp) (S1.new n) r2}
theorem Yt{r:List V->Hp->VK->Prop}(hs:sO K r f)(h:tF K H₀ (gN f gs) σ H Q):Cb r (gF K H₀ gs) σ H Q:=by have{τ,F,E,d,E',S,hg,k}:=h;have{p,e1,hg}:=pA3 hg;have{z,e2,hg}:=pA3 hg;cases hg;exact{τ,F,E,p.1,p.2,S,e1,λvs F1 H1 s1 S1 r1=>hs vs p.1 F1 H1 d Q S1.sub r1 e2 λa F2 H2 n h1 h2 h3=>k a F2 H2 (s1.trans n.stp) (S1.new n) h1 (s1.dom a h2) h3 (S1.fresh h2)}
theorem Jc{r:List V->Hp->VK->Prop}(hc:CallR X (.builtin id) r)(hs:mR X.K r f)(hm:X.mg x=AK)(hv:GN x=AA (.builtin id))(ha:VA X (e::es) gs)(hg:Gl X x:=by rfl)(hn:x≠"__name__":=by decide)(RK:(x==("__debug__":CD))=AD:=by decide) (he:AM (e::es) X.env=(AD,eval e X.env)::AM es X.env:=by rfl) (JQ:(DC pos (AM es X.env)).any (·.1)=AD:=by rfl):VE X (.Call (.Name x p) (e::es) [] pos) (gN f gs):=(uC hc hg hm hv ha hn RK he JQ).imp λ_ _ _ h=>Yu hs h
theorem yHR{r:List V->Hp->VK->Prop}(hc:CallR X (.builtin id) r)(hs:sO X.K r f)(hm:X.mg x=AK)(hv:GN x=AA (.builtin id))(ha:VA X (e::es) gs)(hg:Gl X x:=by rfl)(hn:x≠"__name__":=by decide)(RK:(x==("__debug__":CD))=AD:=by decide) (he:AM (e::es) X.env=(AD,eval e X.env)::AM es X.env:=by rfl) (JQ:(DC pos (AM es X.env)).any (·.1)=AD:=by rfl):FE X (.Call (.Name x p) (e::es) [] pos) (gN f gs):=(uC hc hg hm hv ha hn RK he JQ).imp λ_ _ _ h=>Yt hs h
theorem yKL{r:List V->Hp->VK->Prop}(hc:CallR X (.type T) r)(hs:mR X.K r f)(hm:X.mg x=AK)(hv:GN x=AA (.type T))(ha:VA X (e::es) gs)(hg:Gl X x:=by rfl)(hn:x≠"__name__":=by decide)(RK:(x==("__debug__":CD))=AD:=by decide) (he:AM (e::es) X.env=(AD,eval e X.env)::AM es X.env:=by rfl) (JQ:(DC pos (AM es X.env)).any (·.1)=AD:=by rfl):VE X (.Call (.Name x p) (e::es) [] pos) (gN f gs):=(uH hc hg hm hv ha hn RK he JQ).imp λ_ _ _ h=>Yu hs h
theorem yKM{r:List V->Hp->VK->Prop}(hc:CallR X (.type T) r)(hs:sO X.K r f)(hm:X.mg x=AK)(hv:GN x=AA (.type T))(ha:VA X (e::es) gs)(hg:Gl X x:=by rfl)(hn:x≠"__name__":=by decide)(RK:(x==("__debug__":CD))=AD:=by decide) (he:AM (e::es) X.env=(AD,eval e X.env)::AM es X.env:=by rfl) (JQ:(DC pos (AM es X.env)).any (·.1)=AD:=by rfl):FE X (.Call (.Name x p) (e::es) [] pos) (gN f gs):=(uH hc hg hm hv ha hn RK he JQ).imp λ_ _ _ h=>Yt hs h
end
def Jk(a b:Int):Bool:=decide (a<=b)
def ZE(ns:List Int):List Int:=ns.mergeSort Jk
theorem Au(ns:List Int):(ZE ns).Perm ns:=K5 _ _
theorem To(ns:List Int):(ZE ns).Pairwise (·<=·):=by
 have:=JV (le:=Jk) (λa b c h1 h2=>decide_eq_true (LD (of_decide_eq_true h1) (of_decide_eq_true h2)))
  (λa b=>by unfold Jk;rcases Int.le_total a b with h|h<;>simp[h]) ns
 exact this.imp λh=>of_decide_eq_true h
theorem Gf(p:ms.Perm ns)(h:ms.Pairwise (·<=·)):ms=ZE ns :=IT (λa b _ _ h1 h2=>Int.le_antisymm (of_decide_eq_true h1) (of_decide_eq_true h2)) (h.imp λh=>decide_eq_true h) ((To ns).imp λh=>decide_eq_true h) (p.trans (Au ns).symm)
def bR(a b:Int×Int):Bool:=!U9 b a
def Z7(ps:List (Int×Int)):List (Int×Int):=ps.mergeSort bR
theorem zQ:bR a b=AN↔a.1<b.1\/(a.1=b.1/\a.2<=b.2):=by unfold bR U9;simp only[MJ,decide_eq_false_iff_not];lia
theorem uF(ps:List (Int×Int)):(Z7 ps).Perm ps:=K5 _ _
theorem Tn(ps:List (Int×Int)):(Z7 ps).Pairwise (λa b=>bR a b=AN) :=JV (λa b c h1 h2=>by rw[zQ] at *;lia) (λa b=>by
  have:bR a b=AN\/bR b a=AN:=by rw[zQ,zQ];lia
  simpa using this) ps
theorem zWB(p:ms.Perm ns)(h:ms.Pairwise (λa b=>bR a b=AN)):ms=Z7 ns :=IT (λa b _ _ h1 h2=>by rw[zQ] at h1 h2;exact ZY 'L' 'L') h (Tn ns) (p.trans (uF ns).symm)
def M4(p:Int×Int):D:=.tup [.int p.1,.int p.2]
noncomputable def kU:List D->Option (List (Int×Int))
 |[]=>AA []
 |.tup [.int a,.int b]::ds=>(kU ds).map ((a,b)::·)
 |_::_=>AK
theorem zQJ:∀{ds:List D} {ps:List (Int×Int)},kU ds=AA ps->ds=ps.map M4:=by
 intro ds;induction ds with
 |nil=>intro ps h;rw[kU] at h;cases h;rfl
 |cons d ds ih =>
  intro ps h;unfold kU at h;split at h
  .rename_i e;cases e
  .rename_i a b r e;cases e;have{q,h1,h2}:=BN.mp h;subst h2;rw[ih h1];rfl
  .cases h
theorem Az:∀ps:List (Int×Int),kU (ps.map M4)=AA ps
 |[]=>rfl
 |p::ps=>by show(kU (ps.map M4)).map (λr=>(p.1,p.2)::r)=_;rw[Az ps];rfl
section
variable{K:AC}
theorem Reps.perm(pm:zs.Perm ys):∀{ds:List D},Reps K F ys ds->∃es,es.Perm ds/\Reps K F zs es:=by
 induction pm with
 |nil=>intro ds r;cases r;exact{[],GF _,.nil}
 |cons a _ ih =>
  intro ds r;cases r with
  |cons h t=>have{qs,q,r'}:=ih t;exact{_::qs,q.cons _,.cons h r'}
 |swap a b l =>
  intro ds r;cases r with
  |cons h t =>
   cases t with
   |cons h' t'=>exact{_::_::_,H9 _ _ _,.cons h' (.cons h t')}
 |trans _ _ bU ih2=>intro ds r;have{qs,q,r'}:=ih2 r;have{us,q',vT}:=bU r';exact{us,q'.trans q,vT}
theorem zWC{α β:Type}{f:α->β}:∀{l1 l2:List β} (p:l1.Perm l2) (ns:List α),l2=ns.map f->∃ms:List α,l1=ms.map f/\ms.Perm ns:=by
 intro l1 l2 p;induction p with
 |nil=>intro ns e;cases ns with|nil=>exact{[],rfl,GF _}|cons _ _=>cases e
 |cons a _ ih =>
  intro ns e;cases ns with
  |nil=>cases e
  |cons n ns=>injection e with e1 e2;have{ms,h1,h2}:=ih ns e2;exact{n::ms,by rw[AV,e1,h1],h2.cons n}
 |swap a b l =>
  intro ns e;match ns,e with
  |c::d::ns,e=>injection e with e1 e2;injection e2 with e2 e3;exact{d::c::ns,by rw[AV,AV,e1,e2,e3],H9 _ _ _}
 |trans _ _ bU ih2=>intro ns e;have{ms,h1,h2}:=ih2 ns e;have{ks,h3,h4}:=bU ms h1;exact{ks,h3,h4.trans h2}
theorem Reps.prs(s:Sub F H):∀{ps:List (Int×Int)} {ys:List V},Reps K F ys (ps.map M4)->Prs H ys ps:=by
 intro ps;induction ps with
 |nil=>intro ys r;cases r;exact .nil
 |cons p ps ih =>
  intro ys r;cases r with
  |cons h r =>
  refine .cons ?_ (ih r);have h:Rep K F _ (.tup [.int p.1,.int p.2]):=h;generalize hk:[D.int p.1,.int p.2]=kk at h;cases h with
  |tup hb rb =>
   subst hk;cases rb with
   |cons h1 rb =>
    cases rb with
    |cons h2 rb=>cases rb;cases h1;cases h2;exact{_,rfl,s _ _ hb}
  |@tupK a xs hb nb =>
   cases xs with
   |nil=>cases hk
   |cons x xs=>cases hk
theorem yAN(s:Sub F H)(hp:Prs H ys ps):Prs H ys qs->ps=qs:=by
 induction hp generalizing qs with
 |nil=>intro h;cases h;rfl
 |cons r t1 ih =>
  intro h;cases h with
  |cons r2 t2=>have{a,e1,h1}:=r;have{b,e2,h2}:=r2;rw[e1] at e2;cases e2;rw[h1] at h2;simp only[WN,HO.tup.injEq,Z1,V.int.injEq,and_true] at h2;rw[ih t2,ZY h2.1 h2.2]
def bI:List D->Out D
 |[.lst ds]=>match RE ds with
  |some ns=>.ok (.lst ((ZE ns).map D.int))
  |none=>match kU ds with
   |some ps=>.ok (.lst ((Z7 ps).map M4))
   |none=>.bad
 |_=>.bad
abbrev yAO(K:AC):List V->Hp->VK->Prop:=λxs H Q=>(∃(l:AT) (ns:List Int),xs=[.ref l]/\SqL K H l (ns.map V.int)/\∀(ms:List Int) (q:AT),ms.Perm ns->ms.Pairwise (·<=·)->H q=AK->Q (.ref q) (D4 H q (.lst (ms.map V.int)))) \/ (∃(l:AT) (ys:List V) (ps:List (Int×Int)),xs=[.ref l]/\SqL K H l ys/\Prs H ys ps/\∀(zs:List V) (qs:List (Int×Int)) (q:AT),zs.Perm ys->Prs H zs qs->qs.Perm ps->(qs.Pairwise λa b=>U9 b a=AD)->H q=AK->Q (.ref q) (D4 H q (.lst zs)))
theorem zS0:sO K (yAO K) bI:=λvs xs F H d Q s r hf k=>by
 unfold bI at hf;split at hf
 .rename_i ds;cases r with
  |cons r rr =>
   cases rr;have{l,ys,rfl,h1,h2}:=r.isRefL;split at hf
   .rename_i ns en;cases hf;have:=qR en;subst this;have:=h2.vint;subst this;refine .inl {l,ns,rfl,h1.imp s.rd id,λms q pm pw hq=>?_};rw[Gf pm pw];have n:=pA6 (H':=D4 H q (.lst ((ZE ns).map V.int))) s (Gr.new hq);exact k q F _ n (pAG s hq) hq {_,G9,Reps.ints _}
   .split at hf
    .rename_i ps ep;cases hf;have:=zQJ ep;subst this;refine .inr {l,ys,ps,rfl,h1.imp s.rd id,h2.prs s,λzs qs q pz jB pq pw hq=>?_};have{es,pe,re}:=Reps.perm pz h2;have{UA,rfl,pq'}:=zWC pe ps rfl;have:=yAN s (re.prs s) jB;subst this;have:UA=Z7 ps:=zWB pq (pw.imp λh=>by unfold bR;rw[h];rfl);subst this;have n:=pA6 (H':=D4 H q (.lst zs)) s (Gr.new hq);exact k q F _ n (pAG s hq) hq {_,G9,re}
    .cases hf
 .cases hf
theorem Ge(hm:X.mg "sorted"=AK)(ha:VA X (e::es) gs)(hg:Gl X "sorted":=by rfl)(he:AM (e::es) X.env=(AD,eval e X.env)::AM es X.env:=by rfl)(JQ:(DC pos (AM es X.env)).any (·.1)=AD:=by rfl) : FE X (.Call (.Name "sorted" p) (e::es) [] pos) (gN bI gs):=yHR (T9.or zJ4) zS0 hm (by decide +kernel) ha hg 'D' 'D' he JQ
theorem zQK:CallR X (.builtin "len") (λxs H Q=>∃a kvs,xs=[V.ref a]/\Rd H a (.dT kvs)/\Q (.int kvs.length) H):=by intro AF s σ H xs us Q I r h;have{a,kvs,rfl,ha,q}:=h;have{u,rfl,ru}:=X7 r;cases ru;have{es,ep,KJ,e1,e2,_}:=qF (ha.ok I.hok);have:=kO;refine zZX KJ (by rw[GB] at e2;lia) λt tk=>{.int kvs.length,H,I.tok tk,{t,by rw[e1]},q}
theorem YD:CallR X (.builtin "len") (λxs H Q=>∃a kvs,xs=[V.ref a]/\Rd H a (.dK kvs)/\Q (.int kvs.length) H):=by intro AF s σ H xs us Q I r h;have{a,kvs,rfl,ha,q}:=h;have{u,rfl,ru}:=X7 r;cases ru;exact yG9 I ha λt s' I'=>{.int kvs.length,H,I',{t,rfl},q}
def QR:List D->Out D
 |[.lst ds]=>.ok (.int ds.length)
 |[.tup ds]=>.ok (.int ds.length)
 |[.str z]=>few z.length (.ok (.int z.length))
 |[.dk kvs]=>.ok (.int kvs.length)
 |[.dt kvs]=>.ok (.int kvs.length)
 |_=>.bad
abbrev yHS(K:AC):List V->Hp->VK->Prop:=λxs H Q=>(∃p ys,xs=[.ref p]/\(SqL K H p ys\/SqT K H p ys)/\Q (.int ys.length) H)\/(∃z,xs=[.str z]/\z.length<=sizeLine/\Q (.int z.length) H) \/ (∃a kvs,xs=[V.ref a]/\Rd H a (.dK kvs)/\Q (.int kvs.length) H)\/(∃a kvs,xs=[V.ref a]/\Rd H a (.dT kvs)/\Q (.int kvs.length) H)
theorem yEU:mR K (yHS K) QR:=λvs xs F H d Q s r hf k=>by
 unfold QR at hf;split at hf
 .cases hf;cases r with
  |cons r rr=>cases rr;have{l,ys,rfl,h1,h2}:=r.isRefL;exact .inl {l,ys,rfl,.inl (h1.imp s.rd id),by rw[h2.length];exact k _ F H (.refl s) (.int _)}
 .cases hf;cases r with
  |cons r rr=>cases rr;have{l,ys,rfl,h2,h1}:=r.tupSq;exact .inl {l,ys,rfl,.inr (h1 F H (.refl _) s),by rw[h2.length];exact k _ F H (.refl s) (.int _)}
 .have{hl,hf}:=XS hf;cases hf;cases r with
  |cons r rr=>cases rr;obtain rfl:=r.vS;exact .inr (.inl {_,rfl,ZI hl,k _ F H (.refl s) (.int _)})
 .cases hf;cases r with
  |cons r rr =>
   cases rr;cases r with
   |dk h1 h2=>exact .inr (.inr (.inl {_,_,rfl,s.rd h1,by rw[h2.length];exact k _ F H (.refl s) (.int _)}))
 .cases hf;cases r with
  |cons r rr =>
   cases rr;cases r with
   |dt h1 h2=>exact .inr (.inr (.inr {_,_,rfl,s.rd h1,by rw[h2.length];exact k _ F H (.refl s) (.int _)}))
 .cases hf
theorem j9(hm:X.mg "len"=AK)(ha:VA X (e::es) gs)(hg:Gl X "len":=by rfl)(he:AM (e::es) X.env=(AD,eval e X.env)::AM es X.env:=by rfl)(JQ:(DC pos (AM es X.env)).any (·.1)=AD:=by rfl) : VE X (.Call (.Name "len" p) (e::es) [] pos) (gN QR gs):=Jc (VF.or (VD.or (YD.or zQK))) yEU hm (by decide +kernel) ha hg 'D' 'D' he JQ
def Py:List V->Hp->VK->Prop:=λxs H Q=>∃(d:AT) (kvs:List (Key×V)),xs=[.ref d]/\Rd H d (.dK kvs)/\∀q,H q=AK->Q (.ref q) (D4 H q (.lst (kvs.map λkv=>kV kv.1)))
theorem Ur:∀(ks:List Key) (us:List AH),us.length=ks.length->(∀(i:Nat) v,us[i]?=AA v->∃k,ks[i]?=AA k/\RelV (kV k) v)->Vals (ks.map kV) us
 |[],[],_,_=>.nil
 |k::ks,u::us,hl,h=>by
  have{n,e1,e2}:=h 0 u rfl;have e3:k=n:=by simpa using e1
  subst e3;exact .cons e2 (Ur ks us (by simpa using hl) λi v hv=>h (i+1) v (by simpa using hv))
 |[],_::_,hl,_=>by simp at hl
 |_::_,[],hl,_=>by simp at hl
theorem zQL(hc:X.calm=AN):CallR X (.type "list") Py:=by
 intro AF s σ H xs us Q I r h;have{d,kvs,rfl,hd,q}:=h;have{u,rfl,ru}:=X7 r;cases ru;have{z,lo,vs,NJ,dd}:=iM I.hok hd;have{ep,da}:=dd.dictAt;have sF:=NJ.length;refine PySem.W.kdl_call (PySem.W.kdl_dict lo) (I.ok.hd hc) da 'L' λh' tk acc c' hk hS hI=>?_;have{hz,hi}:=hI;have rv:Vals (kvs.map λkv=>kV kv.1) acc.toList:=by
  have:=Ur (kvs.map (·.1)) acc.toList (by simp;lia) λi v hv=>by
   have{k,xx,e1,e2}:=hi i v (by rw[<-C2];exact hv);refine{k,by rw[NJ.keys,AU,e1];rfl,?_};rw[Wc] at e2;rcases dB e2 with⟨j,t,z1,z2⟩|⟨y,t,z1,z2⟩
   .rw[z1,z2];exact{t,rfl}
   .rw[z1,z2];exact{t,rfl}
  rw[DY] at this;exact this
 refine{.ref s.heap.objs.size,_,I.laid (o:=.lst (kvs.map λkv=>kV kv.1)) hk (AL _) {?_,acc.toList,c',rv,by simpa using hS},rfl,q _ I.fresh};rw[AJ];exact z
def j2:Key->D
 |.inl i=>.int i
 |.inr x=>.str x
theorem Sf(k:Key):Rep K F (kV k) (j2 k):=by
 cases k with
 |inl i=>exact .int i
 |inr x=>exact .str x
theorem RepK.keys:∀{vs:List (Key×V)} {ds:List (Key×D)},RepK K F vs ds->Reps K F (vs.map λkv=>kV kv.1) (ds.map λkv=>j2 kv.1)
 |_,_,.nil=>.nil
 |_,_,.cons (k:=k) _ r=>.cons (Sf k) (RepK.keys r)
def j8:List D->Out D
 |[.lst ds]=>.ok (.lst ds)
 |[.tup ds]=>.ok (.lst ds)
 |[.dk kvs]=>.ok (.lst (kvs.map λkv=>j2 kv.1))
 |_=>.bad
abbrev yEV(K:AC):List V->Hp->VK->Prop:=λxs H Q=>(∃p ys,xs=[.ref p]/\(SqL K H p ys\/SqT K H p ys)/\∀l,H l=AK->Q (.ref l) (D4 H l (.lst ys)))\/Py xs H Q
theorem yAP:sO K (yEV K) j8:=λvs xs F H d Q s r hf k=>by
 unfold j8 at hf;split at hf
 .cases hf;cases r with
  |cons r rr=>cases rr;have{l,ys,rfl,h1,h2}:=r.isRefL;exact .inl {l,ys,rfl,.inl (h1.imp s.rd id),λq hq=>k q F _ (pA6 s (Gr.new hq)) (pAG s hq) hq {_,G9,h2}}
 .cases hf;cases r with
  |cons r rr=>cases rr;have{l,ys,rfl,h2,h1}:=r.tupSq;exact .inl {l,ys,rfl,.inr (h1 F H (.refl _) s),λq hq=>k q F _ (pA6 s (Gr.new hq)) (pAG s hq) hq {_,G9,h2}}
 .cases hf;cases r with
  |cons r rr =>
   cases rr;cases r with
   |dk h1 h2=>exact .inr {_,_,rfl,s.rd h1,λq hq=>k q F _ (pA6 s (Gr.new hq)) (pAG s hq) hq {_,G9,h2.keys}}
 .cases hf
theorem zH(hc:X.calm=AN)(hm:X.mg "list"=AK)(ha:VA X (e::es) gs)(hg:Gl X "list":=by rfl)(he:AM (e::es) X.env=(AD,eval e X.env)::AM es X.env:=by rfl)(JQ:(DC pos (AM es X.env)).any (·.1)=AD:=by rfl) : FE X (.Call (.Name "list" p) (e::es) [] pos) (gN j8 gs):=yKM (VC.or (zQL hc)) yAP hm (by decide +kernel) ha hg 'D' 'D' he JQ
noncomputable def XN:List D->Out D
 |[.lst ds]=>.ok (.tup ds)
 |[.tup ds]=>.ok (.tup ds)
 |_=>.bad
theorem yEW:mR K (λxs H Q=>∃p ys,xs=[.ref p]/\((SqL K H p ys/\∀l,H l=AK->Q (.ref l) (D4 H l (.tup ys)))\/(SqT K H p ys/\Q (.ref p) H))) XN:=λvs xs F H d Q s r hf k=>by
 unfold XN at hf;split at hf
 .cases hf;cases r with
  |cons r rr=>cases rr;have{l,ys,rfl,h1,h2}:=r.isRefL;refine{l,ys,rfl,.inl {h1.imp s.rd id,λq hq=>?_}};have n:=New.laid (o:=.tup ys) s hq;exact k _ _ _ n (.tup G9 (h2.le n.1.le))
 .cases hf;cases r with
  |cons r rr=>cases rr;have{l,ys,rfl,h2,h1}:=r.tupSq;exact{l,ys,rfl,.inr {h1 F H (.refl _) s,k _ F H (.refl s) r}}
 .cases hf
theorem cY(hm:X.mg "tuple"=AK)(ha:VA X (e::es) gs)(hg:Gl X "tuple":=by rfl)(he:AM (e::es) X.env=(AD,eval e X.env)::AM es X.env:=by rfl)(JQ:(DC pos (AM es X.env)).any (·.1)=AD:=by rfl) : VE X (.Call (.Name "tuple" p) (e::es) [] pos) (gN XN gs):=yKL zJR yEW hm (by decide +kernel) ha hg 'D' 'D' he JQ
noncomputable def j7:List D->Option (List Bool)
 |[]=>AA []
 |.bl b::ds=>(j7 ds).map (b::·)
 |_::_=>AK
theorem zWD:∀{ds:List D} {bs:List Bool},j7 ds=AA bs->ds=bs.map D.bl:=by
 intro ds;induction ds with
 |nil=>intro bs h;rw[j7] at h;cases h;rfl
 |cons d ds ih =>
  intro bs h;cases d with
  |bl b=>rw[j7] at h;have{r,h1,h2}:=BN.mp h;subst h2;rw[ih h1];rfl
  |_=>simp[j7] at h
def rB:List D->Out D
 |[.lst ds]=>match j7 ds with
  |some bs=>.ok (.bl (bs.all id))
  |none=>.bad
 |_=>.bad
theorem yEX:mR K (Xq K) rB:=λvs xs F H d Q s r hf k=>by
 unfold rB at hf;split at hf
 .split at hf
  .rename_i bs eb;cases hf;have:=zWD eb;subst this;cases r with
   |cons r rr=>cases rr;have{l,ys,rfl,h1,h2}:=r.isRefL;have:=h2.vbl;subst this;exact{l,bs,rfl,h1.imp s.rd id,k _ F H (.refl s) (.bl _)}
  .cases hf
 .cases hf
theorem yHT(hc:X.calm=AN)(hm:X.mg "all"=AK)(ha:VA X (e::es) gs)(hg:Gl X "all":=by rfl)(he:AM (e::es) X.env=(AD,eval e X.env)::AM es X.env:=by rfl)(JQ:(DC pos (AM es X.env)).any (·.1)=AD:=by rfl) : VE X (.Call (.Name "all" p) (e::es) [] pos) (gN rB gs):=Jc (zVH hc) yEX hm (by decide +kernel) ha hg 'D' 'D' he JQ
noncomputable def iJ:List D->Out D
 |[.int i,.int j]=>.ok (.int (if j<i then j else i))
 |_=>.bad
theorem yAQ:mR K (λxs H Q=>∃i j,xs=[.int i,.int j]/\Q (.int (if j<i then j else i)) H) iJ:=λvs xs F H d Q s r hf k=>by
 unfold iJ at hf;split at hf
 .cases hf;cases r with
  |cons r rr=>cases rr with
   |cons r' rr=>cases rr;obtain rfl:=r.vI;(first|obtain rfl:=r'.vI|obtain rfl:=r'.vB|obtain rfl:=r'.vS|obtain rfl:=r'.vN|cases r');exact{_,_,rfl,k _ F H (.refl s) (.int _)}
 .cases hf
theorem Px(hc:X.calm=AN)(hm:X.mg "min"=AK)(ha:VA X (e::es) gs)(hg:Gl X "min":=by rfl)(he:AM (e::es) X.env=(AD,eval e X.env)::AM es X.env:=by rfl)(JQ:(DC pos (AM es X.env)).any (·.1)=AD:=by rfl) : VE X (.Call (.Name "min" p) (e::es) [] pos) (gN iJ gs):=Jc (zRH hc) yAQ hm (by decide +kernel) ha hg 'D' 'D' he JQ
end
section
variable{K:AC}
theorem Sim.setO{ad:AT}(S:Sim K H₀ τ F H σ E)(e:E[i]?=AA (.own t d))(ea:σ[i]?=AA (AA (.ref ad)))(h:OwnAt K F (D4 H ad o) ad d') : Sim K H₀ τ F (D4 H ad o) σ (E.set i (.own t d'))/\Stp (D6 σ E) F H F (D4 H ad o) (D6 σ (E.set i (.own t d'))):=by
 have{a',a1,a2,a3,a4,a5}:=S.own i t d e;rw[ea] at a1;cases a1;have hi:=(AR.mp e).1;have ow:D6 σ E ad:={i,t,d,e,ea};have II:∀(j:Nat) t' x,(E.set i (.own t d'))[j]?=AA (.own t' x)->(j=i/\t'=t/\x=d')\/(j≠i/\E[j]?=AA (.own t' x)):=λj t' x z=>by
  by_cases hj:i=j
  .subst hj;rw[BF hi] at z;cases z;exact .inl {rfl,rfl,rfl}
  .rw[A6 hj] at z;exact .inr {FI hj,z}
 have Ma:∀(j:Nat) t' x,(E.set i (.own t d'))[j]?=AA (.own t' x)->∃oA x',E[j]?=AA (.own oA x'):=λj t' x z=>by
  rcases II j t' x z with⟨rfl,_,_⟩|⟨_,z⟩
  .exact{_,_,e}
  .exact{_,_,z}
 refine{{λb u z=>?_,by rw[BY];exact S.len,λj x z=>?_,λj t' x z=>?_,λj l t1 t2 x y b z1 z2=>?_},{λb u z _ n ho=>?_,λb z=>?_,.refl _,λb u z=>.inl (by rw[z];exact nofun),λb ⟨j,t',x,z1,z2⟩=>?_}}
 .have:b≠ad:=λy=>by rw[y,a2] at z;cases z
  rw[ET this];exact S.sub b u z
 .by_cases hj:i=j
  .subst hj;rw[BF hi] at z;cases z
  .rw[A6 hj] at z;exact S.val j x z
 .rcases II j t' x z with⟨rfl,rfl,rfl⟩|⟨hj,z⟩
  .exact{ad,ea,a2,h,a4,a5}
  .have{c,c1,c2,c3,c4}:=S.own j t' x z;have hc:c≠ad:=λy=>hj (S.inj j i t' t x d ad z e (by rw[c1,y]) ea);exact{c,c1,c2,c3.mono (.refl _) (ET hc),c4}
 .have{_,_,w1}:=Ma j _ _ z1;have{_,_,w2}:=Ma l _ _ z2;exact S.inj j l _ _ _ _ b w1 w2
 .rw[ET (λy=>ho (by rw[y];exact ow))];exact z
 .by_cases hb:b=ad
  .rw[hb,G9] at z;cases z
  .rw[ET hb] at z;exact z
 .have{oA,x',w}:=Ma j t' x z1;exact .inl {j,oA,x',w,z2}
def uM(K:AC)(r:V->List V->Hp->VK->Prop)(f:List D->List D->Out (D×List D)):Prop:=∀(F H:Hp) (l:AT) vs ds args xs d UD Q,Sub F H->H l=AA (.lst vs)->Reps K F vs ds->Reps K F args xs->f ds xs=.ok (d,UD) ->(∀y n8,Rep K F y d->Reps K F n8 UD->Q y (D4 H l (.lst n8)))->r (.ref l) args H Q
def O7(i:Nat)(f:List D->List D->Out (D×List D))(gs:List G):G:=λE=>match E[i]? with
 |some (.own _ (.lst _))=>(N8 gs E).bind λp=>match p.2[i]? with
  |some (.own t (.lst ds))=>(f ds p.1).bind λq=>.ok (q.1,p.2.set i (.own t (.lst q.2)))
  |_=>.bad
 |_=>.bad
theorem yP{r:V->List V->Hp->VK->Prop}(hs:uM K r f)(h:tV K H₀ (O7 i f gs) σ H Q) : ∃v,σ[i]?=AA (AA v)/\Bx K "list" v H/\gF K H₀ gs σ H λxs H2=>r v xs H2 Q:=by
 have{τ,F,E,d,E',S,hg,k}:=h;unfold O7 at hg;split at hg
 .rename_i t0 l0 e0;have{p,e1,hg}:=pA3 hg;split at hg
  .rename_i t ds e2;have{q,e3,hg}:=pA3 hg;cases hg;have{ad,a1,a2,zz',_}:=S.own i _ _ e0;have{vs0,a3,_}:=zz';refine{_,a1,.inl {rfl,vs0,SqL.of a3},τ,F,E,p.1,p.2,S,e1,λargs F1 H1 s1 S1 r1=>?_};have{ad',b1,b2,zz',_}:=S1.own i _ _ e2;have{vs,b3,b4}:=zz';rw[a1] at b1;cases b1;refine hs F1 H1 ad vs ds args p.1 q.1 q.2 Q S1.sub b3 b4 r1 e3 λy n8 ry rvs=>?_;have{S2,s2}:=S1.setO (d':=.lst q.2) e2 a1 {n8,G9,rvs};exact k y F1 _ (s1.trans s2) S2 ry
  .cases hg
 .cases hg
def T7(ds xs:List D):Out (D×List D):=match xs with
 |[d]=>few ds.length (.ok (.non,ds++[d]))
 |_=>.bad
theorem zS2:uM K Fm T7:=λF H l vs ds args xs d UD Q s h r ra hf k=>by
 unfold T7 at hf;split at hf
 .have{hl,hf}:=XS hf;cases hf;cases ra with
  |cons r1 rr=>cases rr;exact{l,vs,_,rfl,rfl,h,by rw[r.length];exact bM hl,k _ _ .non (r.append (.cons r1 .nil))}
 .cases hf
noncomputable def fP(ds xs:List D):Out (D×List D):=match xs with
 |[]=>match ds[ds.length-1]? with
  |some d=>.ok (d,ds.dropLast)
  |none=>.bad
 |_=>.bad
theorem Reps.dropLast(r:Reps K F vs ds):Reps K F vs.dropLast ds.dropLast:=by rw[ZA,ZA,r.length];exact r.take _
theorem yEZ:uM K Xu fP:=λF H l vs ds args xs d UD Q s h r ra hf k=>by
 unfold fP at hf;split at hf
 .split at hf
  .rename_i d' e;cases hf;cases ra;have{v,h1,h2}:=r.get e;exact{l,vs,v,rfl,rfl,h,by rw[r.length];exact h1,k _ _ h2 r.dropLast}
  .cases hf
 .cases hf
def kL(ds xs:List D):Out (D×List D):=match xs with
 |[.int i]=>guard (0<=i/\i<ds.length/\ds.length<10000) (match ds[i.toNat]? with
  |some d=>.ok (d,ds.eraseIdx i.toNat)
  |none=>.bad)
 |_=>.bad
theorem zWF:uM K Qy kL:=λF H l vs ds args xs d UD Q s h r ra hf k=>by
 unfold kL at hf;split at hf
 .rename_i i;have{zz',hf}:=bO hf;have{g1,g2,g3}:=zz';split at hf
  .rename_i d' e;cases hf;cases ra with
   |cons r1 rr=>cases rr;obtain rfl:=r1.vI;have{v,h1,h2}:=r.get e;exact{l,vs,i,i.toNat,v,rfl,rfl,h,by omega,by omega,by rw[r.length];exact WJ g1 g2,h1,k _ _ h2 (r.eraseIdx _)}
  .cases hf
 .cases hf
theorem uB(i:Nat)(ha:VA X [e] gs)(hN:X.N[i]?=AA xn:=by rfl)(hv:ZK X.env.scope xn:=by first|exact BM rfl|exact DW (BM rfl)|exact DW (DW rfl))(hd:(xn==("__debug__":CD))=AD:=by decide)(LU:(xn==("__classdict__":CD))=AD:=by decide) (NW:J0 (.Name xn q) "append" X.env (eval (.Name xn q) X.env)=eval (.Name xn q) X.env:=by rfl) (YI:((DC GA (AM [e] X.env)).all (λx=>!x.1)&&(YY GA (QN [] X.env)).all (λx=>x.1.isSome) && decide ([e].length+([]:List MH).length+(if([]:List MH).isEmpty then 0 else 1)<30))=AN:=by rfl) (NU:(LW.endLine==GA.line)=AN:=by rfl) (hs:AM [e] X.env=(AD,eval e X.env)::AM [] X.env:=by rfl) (OU:(DC GA (AM [] X.env)).any (·.1)=AD:=by rfl) : VE X (.Call (.Attribute (.Name xn q) "append" LW) [e] [] GA) (O7 i T7 gs) :=(sU FU LY LX Aq (gA hN hv hd LU) ha NW YI NU hs OU).imp λσ H Q h=>yP zS2 h
theorem yAR(i:Nat)(ha:VA X [e] gs)(hN:X.N[i]?=AA xn:=by rfl)(hv:ZK X.env.scope xn:=by first|exact BM rfl|exact DW (BM rfl)|exact DW (DW rfl))(hd:(xn==("__debug__":CD))=AD:=by decide)(LU:(xn==("__classdict__":CD))=AD:=by decide) (NW:J0 (.Name xn q) "pop" X.env (eval (.Name xn q) X.env)=eval (.Name xn q) X.env:=by rfl) (YI:((DC GA (AM [e] X.env)).all (λx=>!x.1)&&(YY GA (QN [] X.env)).all (λx=>x.1.isSome) && decide ([e].length+([]:List MH).length+(if([]:List MH).isEmpty then 0 else 1)<30))=AN:=by rfl) (NU:(LW.endLine==GA.line)=AN:=by rfl) (hs:AM [e] X.env=(AD,eval e X.env)::AM [] X.env:=by rfl) (OU:(DC GA (AM [] X.env)).any (·.1)=AD:=by rfl) : VE X (.Call (.Attribute (.Name xn q) "pop" LW) [e] [] GA) (O7 i kL gs) :=(sU FU WM WL zU0 (gA hN hv hd LU) ha NW YI NU hs OU).imp λσ H Q h=>yP zWF h
theorem yHU(i:Nat)(hN:X.N[i]?=AA xn:=by rfl)(hv:ZK X.env.scope xn:=by first|exact BM rfl|exact DW (BM rfl)|exact DW (DW rfl))(hd:(xn==("__debug__":CD))=AD:=by decide)(LU:(xn==("__classdict__":CD))=AD:=by decide) (NW:J0 (.Name xn q) "pop" X.env (eval (.Name xn q) X.env)=eval (.Name xn q) X.env:=by rfl) (NU:(LW.endLine==GA.line)=AN:=by rfl) : VE X (.Call (.Attribute (.Name xn q) "pop" LW) [] [] GA) (O7 i fP []) :=(yDO FU WM WL yDQ (gA hN hv hd LU) NW NU).imp λσ H Q h=>by have{v,h1,h2,τ,F,E,ds,E',S,hg,k}:=yP yEZ h;cases hg;exact{v,h1,h2,k [] F H .refl S .nil}
theorem RepK.put(k:Key)(r:RepK K F vs ds)(h:Rep K F v d):RepK K F (RB vs k v) (O4 ds k d):=by
 have any:∀{vs:List (Key×V)} {ds:List (Key×D)},RepK K F vs ds->(vs.any λkv=>decide (kv.1=k))=(ds.any λkv=>decide (kv.1=k)):=by
  intro vs ds r;induction vs generalizing ds with
  |nil=>cases r;rfl
  |cons x xs ih=>cases r with|cons h r=>rw[FT,FT,ih r]
 have mp:∀{vs:List (Key×V)} {ds:List (Key×D)},RepK K F vs ds->RepK K F (vs.map λkv=>if kv.1=k then(kv.1,v) else kv) (ds.map λkv=>if kv.1=k then(kv.1,d) else kv):=by
  intro vs ds r;induction vs generalizing ds with
  |nil=>cases r;exact .nil
  |cons x xs ih =>
   cases r with
   |@cons k' v' d' _ _ h' r =>
    rw[AV,AV];by_cases e:k'=k
    .simp only[e,if_true];exact .cons h (ih r)
    .simp only[e,if_false];exact .cons h' (ih r)
 have ap:∀{vs:List (Key×V)} {ds:List (Key×D)},RepK K F vs ds->RepK K F (vs++[(k,v)]) (ds++[(k,d)]):=by
  intro vs ds r;induction vs generalizing ds with
  |nil=>cases r;exact .cons h .nil
  |cons x xs ih=>cases r with|cons h' r=>exact .cons h' (ih r)
 unfold RB O4;rw[any r];split
 .exact mp r
 .exact ap r
theorem RepT.put(k:List Int)(r:RepT K F vs ds)(h:Rep K F v d):RepT K F (RB vs (k.map CS) v) (O4 ds k d):=by
 have dec:∀k':List Int,decide (k'.map (CS:Int->Key)=k.map CS)=decide (k'=k):=λk'=>by
  by_cases e:k'=k
  .simp[e]
  .have e':¬k'.map (CS:Int->Key)=k.map CS:=λz=>e (zV z);simp[e,e']
 have any:∀{vs:List (List Key×V)} {ds:List (List Int×D)},RepT K F vs ds->(vs.any λkv=>decide (kv.1=k.map CS))=(ds.any λkv=>decide (kv.1=k)):=by
  intro vs ds r;induction vs generalizing ds with
  |nil=>cases r;rfl
  |cons x xs ih=>cases r with|@cons k' _ _ _ _ h r=>rw[FT,FT,ih r];rw[dec k']
 have mp:∀{vs:List (List Key×V)} {ds:List (List Int×D)},RepT K F vs ds->RepT K F (vs.map λkv=>if kv.1=k.map CS then(kv.1,v) else kv) (ds.map λkv=>if kv.1=k then(kv.1,d) else kv):=by
  intro vs ds r;induction vs generalizing ds with
  |nil=>cases r;exact .nil
  |cons x xs ih =>
   cases r with
   |@cons k' v' d' _ _ h' r =>
    rw[AV,AV];by_cases e:k'=k
    .simp only[e,if_true];exact .cons h (ih r)
    .have e':¬k'.map (CS:Int->Key)=k.map CS:=λz=>e (zV z);simp only[e,e',if_false];exact .cons h' (ih r)
 have ap:∀{vs:List (List Key×V)} {ds:List (List Int×D)},RepT K F vs ds->RepT K F (vs++[(k.map CS,v)]) (ds++[(k,d)]):=by
  intro vs ds r;induction vs generalizing ds with
  |nil=>cases r;exact .cons h .nil
  |cons x xs ih=>cases r with|cons h' r=>exact .cons h' (ih r)
 unfold RB O4;rw[any r];split
 .exact mp r
 .exact ap r
def jZ(x k v:D):Out D:=match x,k with
 |.lst ds,.int i=>match XU ds.length i with
  |some j=>.ok (.lst (ds.set j v))
  |none=>.bad
 |.dk kvs,k=>match iL k with
  |some k=>few kvs.length (.ok (.dk (O4 kvs k v)))
  |none=>.bad
 |.dt kvs,.tup ks=>match RE ks with
  |some ns=>few kvs.length (.ok (.dt (O4 kvs ns v)))
  |none=>.bad
 |_,_=>.bad
def QV(i:Nat)(gk gv:G):GS:=λE=>match E[i]? with
 |some (.own _ _)=>(gv E).bind λv=>(gk v.2).bind λk=>match k.2[i]? with
  |some (.own t d)=>(jZ d k.1 v.1).bind λd'=>.ok (.nx (k.2.set i (.own t d')))
  |_=>.bad
 |_=>.bad
theorem bQ(i:Nat)(hu:X.A.units+64<GZ)(hk:VE X kx gk)(Mg:VE X JO gv) (hN:X.N[i]?=AA xn:=by rfl) (hv:ZK X.env.scope xn:=by first|exact BM rfl|exact DW (BM rfl)|exact DW (DW rfl)) (hd:(xn==("__debug__":CD))=AD:=by decide) (LU:(xn==("__classdict__":CD))=AD:=by decide) (hs:HW JO (AA (.Subscript (.Name xn q) kx VN)) spos.line X.env=pure AD:=by rfl) (lO:aU [.Subscript (.Name xn q) kx VN] JO spos.line X.env=pure AD:=by rfl) (hw:aV [.Subscript (.Name xn q) kx VN] JO X.env=pure AK:=by rfl) (h1:(HM [.Subscript (.Name xn q) kx VN] X.env).map (·.2)=[N2 (.Subscript (.Name xn q) kx VN) X.env]:=by rfl) (ha:∀v,N2 (.Subscript (.Name xn q) kx VN) X.env v=(do
   let ov <-K8 [v] (eval (.Name xn q) X.env)
   let iv <-K8 [v,ov] (eval kx X.env)
   MC VN
   K8 [v,ov,iv] (setItem ov iv v)
   release [v,ov,iv] []):=by intro _;rfl):VS X (.Assign [.Subscript (.Name xn q) kx VN] JO spos) (QV i gk gv):=λAF s σ H D' I h=>by
 have{τ,F,E,r,S,hg,k}:=h;unfold QV at hg;split at hg
 .rename_i t0 d0 e0;have{v,e1,hg}:=pA3 hg;have{ky,e2,hg}:=pA3 hg;split at hg
  .rename_i t d e3;have{d',e4,hg}:=pA3 hg;cases hg;have{ad,a1,_}:=S.own i _ _ e0;have pn:=gA (pos:=q) hN hv hd LU;have fin:∀{F2 H2:Hp} {o:HO},Stp (D6 σ E) F H F2 H2 (D6 σ ky.2)->Sim X.K X.H₀ τ F2 H2 σ ky.2->OwnAt X.K F2 (D4 H2 ad o) ad d'->D'.nx σ (D4 H2 ad o):=λ{F2 H2 o} s2 S2 ow=>by have{S3,s3}:=S2.setO (o:=o) (d':=d') e3 a1 ow;exact k σ F2 _ (s2.trans s3) S3
   have own:∀{F2 H2:Hp},Sim X.K X.H₀ τ F2 H2 σ ky.2->OwnAt X.K F2 H2 ad d:=λ{F2 H2} S2=>by have{ad',b1,_,b3,_}:=S2.own i t d e3;rw[a1] at b1;cases b1;exact b3
   cases d with
   |lst ds =>
    refine Es Mg (yC9 pn hk zUZ ha) lO hw h1 AF s σ H D' I ?_;refine{τ,F,E,v.1,v.2,S,e1,λvv F1 H1 s1 S1 r1=>{_,a1,τ,F1,v.2,ky.1,ky.2,S1,e2,λkk F2 H2 s2 S2 r2=>?_}};have{vs,o1,o2}:=own S2;generalize hy:ky.1=y at e4 r2;cases y with
    |int ii =>
     have e4:(match XU ds.length ii with|some j=>Out.ok (D.lst (ds.set j v.1))|none=>.bad)=.ok d':=e4;obtain rfl:=r2.vI;split at e4
     .rename_i j ej;cases e4;exact{ad,vs,ii,j,rfl,rfl,o1,by rw[o2.length];exact ej,fin (s1.trans s2) S2 {_,G9,o2.set j (r1.le s2.le)}}
     .cases e4
    |_=>cases e4
   |dk kvs =>
    refine Fk 'O' pn hk Mg hs AF s σ H D' I ?_;refine{τ,F,E,v.1,v.2,S,e1,λvv F1 H1 s1 S1 r1=>{_,a1,τ,F1,v.2,ky.1,ky.2,S1,e2,λkk F2 H2 s2 S2 r2=>?_}};have{vs,o1,o2}:=own S2;have e4:(match iL ky.1 with|some k=>few kvs.length (Out.ok (D.dk (O4 kvs k v.1)))|none=>.bad)=.ok d':=e4;split at e4
    .rename_i k' ek;have{hl,e4}:=XS e4;cases e4;have pO:kk=kV k':=by
      generalize hy:ky.1=y at ek r2;cases y<;>first|cases ek|skip
      .obtain rfl:=r2.vI;rfl
      .obtain rfl:=r2.vS;rfl
     subst pO;exact{ad,_,rfl,DPut.kk o1 (by rw[o2.length];exact bM hl),fin (s1.trans s2) S2 {_,G9,o2.put k' (r1.le s2.le)}}
    .cases e4
   |dt kvs =>
    refine Fk 'O' pn hk Mg hs AF s σ H D' I ?_;refine{τ,F,E,v.1,v.2,S,e1,λvv F1 H1 s1 S1 r1=>{_,a1,τ,F1,v.2,ky.1,ky.2,S1,e2,λkk F2 H2 s2 S2 r2=>?_}};have{vs,o1,o2}:=own S2;generalize hy:ky.1=y at e4 r2;cases y with
    |tup ks =>
     have e4:(match RE ks with|some ns=>few kvs.length (Out.ok (D.dt (O4 kvs ns v.1)))|none=>.bad)=.ok d':=e4;split at e4
     .rename_i ns ek;have{hl,e4}:=XS e4;cases e4;have:=qR ek;subst this;generalize sG:ns.map D.int=kk2 at r2;cases r2 with
      |tup hb rb=>subst sG;have:=rb.vint;subst this;refine{ad,_,rfl,DPut.t (k:=ns.map CS) o1 ?_ (by rw[o2.length];exact bM hl),fin (s1.trans s2) S2 {_,G9,o2.put ns (r1.le s2.le)}};rw[DY];exact S2.sub _ _ hb
      |@tupK a xs hb nb =>
       cases xs with
       |nil=>exact absurd rfl nb
       |cons x xs =>
        cases ns with
        |nil=>cases sG
        |cons n ns=>cases sG
     .cases e4
    |_=>cases e4
   |_=>cases e4
  .cases hg
 .cases hg
end
section
variable{K:AC}
noncomputable def By:D->String
 |.non=>"NoneType"
 |.bl _=>"bool"
 |.int _=>"int"
 |.str _=>"str"
 |.tup _=>"tuple"
 |.lst _=>"list"
 |.dk _=>"dict"
 |.dt _=>"dict"
def isB(t c:String):Bool:=t==c||(t=="bool"&&c=="int")
def pV(c:String)(g:G):G:=λE=>(g E).bind λp=>.ok (.bl (isB (By p.1) c),p.2)
theorem zWG{Ex:AH->AQ->Prop}{Q:AH->AQ->Prop}(I:Inv X AF σ H s){ad:AT}(h:SqL X.K H ad vs) (e:BR X.K (.type "list") cv=AA bb) (hq:∀tk,Q (.bool bb) { s with toks:=tk }):BE (A7 X.prog X.w) A (call (.builtin "isinstance") [.ref ad,cv]) Q Ex s:=by have{CK,r,pl,z}:=I.list h;have{o,h1,h2,_}:=pl.isList;exact DD PQ I.kIn {o,h1,h2} e (λz=>nomatch z) hq
theorem Uq{Ex:AH->AQ->Prop}{Q:AH->AQ->Prop}(I:Inv X AF σ H s){ad:AT}(h:(∃kvs,Rd H ad (.dK kvs))\/∃kvs,Rd H ad (.dT kvs)) (e:BR X.K (.type "dict") cv=AA bb) (hq:∀tk,Q (.bool bb) { s with toks:=tk }):BE (A7 X.prog X.w) A (call (.builtin "isinstance") [.ref ad,cv]) Q Ex s:=by
 rcases h with⟨kvs,h⟩|⟨kvs,h⟩
 .have{_,_,vs,_,o,es,ep,h1,h2,_}:=(h.ok I.hok);exact DD LM I.kIn {o,h1,h2.1} e (λz=>nomatch z) hq
 .have{_,_,xs,_,o,es,ep,h1,h2,_}:=(h.ok I.hok);exact DD LM I.kIn {o,h1,h2.1} e (λz=>nomatch z) hq
structure IsC(c:String):Prop where
 k:∀(K:AC) (t:String),t∈["NoneType","bool","int","str","tuple","list","dict"]->BR K (.type t) (.type c)=AA (isB t c)
theorem yHV:IsC "int":={λK t h=>by simp only[A8,CG,or_false] at h;rcases h with rfl|rfl|rfl|rfl|rfl|rfl|rfl<;>rfl}
theorem zWH:IsC "bool":={λK t h=>by simp only[A8,CG,or_false] at h;rcases h with rfl|rfl|rfl|rfl|rfl|rfl|rfl<;>rfl}
theorem Up:IsC "tuple":={λK t h=>by simp only[A8,CG,or_false] at h;rcases h with rfl|rfl|rfl|rfl|rfl|rfl|rfl<;>rfl}
def yE0(K:AC)(c:String):List V->Hp->VK->Prop:=λxs H Q=>∃v F d,xs=[v,.ty c]/\Sub F H/\Rep K F v d/\Q (.bl (isB (By d) c)) H
theorem zQN(ic:IsC cn):CallR X (.builtin "isinstance") (yE0 X.K cn):=by
 intro AF s σ H xs us Q I r h;have{v,F,d,rfl,sb,rd,q}:=h;cases r with
 |cons r1 r2 =>
  cases r2 with
  |cons r2 r3 =>
   cases r3;cases r2;have fin:∀{bb:Bool} tk,isB (By d) cn=bb->EP X AF σ Q (.bool bb) { s with toks:=tk }:=λtk e=>by subst e;exact{.bl _,H,I.tok tk,rfl,q}
   cases d with
   |non=>obtain rfl:=rd.vN;exact Ar I r1 .non (ic.k _ _ 'S') λtk=>fin tk rfl
   |bl b=>obtain rfl:=rd.vB;exact Ar I r1 (.bl _) (ic.k _ _ 'S') λtk=>fin tk rfl
   |int i=>obtain rfl:=rd.vI;exact Ar I r1 (.int _) (ic.k _ _ 'S') λtk=>fin tk rfl
   |str i=>obtain rfl:=rd.vS;exact Ar I r1 (.str _) (ic.k _ _ 'S') λtk=>fin tk rfl
   |lst ds=>have{l,ys,rfl,h1,h2}:=rd.isRefL;cases r1;exact zWG I (h1.imp sb.rd id) (ic.k _ _ 'S') λtk=>fin tk rfl
   |tup ds=>have{l,ys,rfl,h2,h1}:=rd.tupSq;cases r1;exact zVF I (h1 F H (.refl _) sb) (ic.k _ _ 'S') λtk=>fin tk rfl
   |dk kvs =>
    cases rd with
    |dk h1 _=>cases r1;exact Uq I (.inl {_,sb.rd h1}) (ic.k _ _ 'S') λtk=>fin tk rfl
   |dt kvs =>
    cases rd with
    |dt h1 _=>cases r1;exact Uq I (.inr {_,sb.rd h1}) (ic.k _ _ 'S') λtk=>fin tk rfl
theorem Eo(ic:IsC cn)(hm:X.mg "isinstance"=AK)(hmc:X.mg cx=AK)(hvc:GN cx=AA (.type cn))(ha:VE X a ga)(hg:Gl X "isinstance":=by rfl)(hgc:Gl X cx:=by rfl)(hnc:cx≠"__name__":=by decide)(hdc:(cx==("__debug__":CD))=AD:=by decide) (lO:AM [.Name cx cp] X.env=(AD,eval (.Name cx cp) X.env)::AM [] X.env:=by rfl) (he:AM (a::[.Name cx cp]) X.env=(AD,eval a X.env)::AM [.Name cx cp] X.env:=by rfl) (JQ:(DC pos (AM [.Name cx cp] X.env)).any (·.1)=AD:=by rfl) : VE X (.Call (.Name "isinstance" p) [a,.Name cx cp] [] pos) (pV cn ga) :=(uC (zQN ic) hg hm (by decide +kernel) (SK ha (SK (Ss (v:=.ty cn) hgc hmc hvc rfl hnc hdc) HK lO) he) 'D' 'D' he JQ).imp λσ H Q h=>by have{τ,F,E,d,E',S,hg,k}:=h;have{q,e1,hg}:=pA3 hg;cases hg;exact{τ,F,E,q.1,q.2,S,e1,λv F1 H1 s1 S1 r1=>{v,F1,q.1,rfl,S1.sub,r1,k _ F1 H1 s1 S1 (.bl _)}}
theorem zP:FE X (.Dict [] [] pos) (gC (.dk [])):=dF.imp λσ H Q h q hq=>by have{τ,F,E,d,E',S,hg,k}:=h;cases hg;have n:=pA6 (H':=D4 H q (.dK [])) S.sub (Gr.new hq);exact k q F _ n.stp (S.new n) (pAG S.sub hq) hq {_,G9,.nil} (S.fresh hq)
theorem Se:FE X (.Dict [] [] pos) (gC (.dt [])):=dE.imp λσ H Q h q hq=>by have{τ,F,E,d,E',S,hg,k}:=h;cases hg;have n:=pA6 (H':=D4 H q (.dT [])) S.sub (Gr.new hq);exact k q F _ n.stp (S.new n) (pAG S.sub hq) hq {_,G9,.nil} (S.fresh hq)
def En(gk gv:G):G:=λE=>(gk E).bind λp=>(gv p.2).bind λq=>match iL p.1 with
 |some k=>.ok (.dk [(k,q.1)],q.2)
 |none=>.bad
theorem Ze(ek:iL y=AA k')(r2:Rep K F kk y):kk=kV k':=by
 cases y<;>first|cases ek|skip
 .obtain rfl:=r2.vI;rfl
 .obtain rfl:=r2.vS;rfl
theorem yAS(hk:VE X kx gk)(hv:VE X vx gv):FE X (.Dict [AA kx] [vx] pos) (En gk gv):=(zZO (zU3 hk hv zZN) rfl rfl 'S' (by show 1<=15;decide)).imp λσ H Q h q hq=>by
 have{τ,F,E,d,E',S,hg,k}:=h;have{p,e1,hg}:=pA3 hg;have{r,e2,hg}:=pA3 hg;split at hg
 .rename_i k' ek;cases hg;have n:=pA6 (H':=D4 H q (.dK [])) S.sub (Gr.new hq);have S0:=S.new n;have keep:∀{Ea Eb:Ev} {Fa Ha Fb Hb:Hp},Stp (D6 σ Ea) Fa Ha Fb Hb (D6 σ Eb)->Fa q=AK->¬D6 σ Ea q->Ha q=AA (.dK [])->Fb q=AK/\¬D6 σ Eb q/\Hb q=AA (.dK []):=by
   intro Ea Eb Fa Ha Fb Hb st a1 a2 a3;refine{?_,λz=>(st.own q z).elim a2 λz=>by (rw[a3] at z;cases z),st.keep q _ a3 trivial a1 a2};cases z:Fb q with
   |none=>rfl
   |some u =>
    rcases st.new q u z with z|z|z
    .exact absurd a1 z
    .exact absurd trivial (z _ a3)
    .exact absurd z a2
  refine{τ,F,E,p.1,p.2,S0,e1,λkk F1 H1 s1 S1 r1=>{τ,F1,p.2,r.1,r.2,S1,e2,λvv F2 H2 s2 S2 r2=>?_}};have{f1,m1,h1}:=keep s1 (pAG S.sub hq) (S.fresh hq) G9;have{f2,m2,h2}:=keep s2 f1 m1 h1;have:=Ze ek r1;subst this;refine{h2,[(k',vv)],rfl,by show 1<=15;decide,?_};have st:Stp (D6 σ E) F H F2 (D4 H2 q (.dK [(k',vv)])) (D6 σ r.2):=by
   have bS:=((n.stp).trans s1).trans s2;refine{λa u e hw nf ho=>?_,λa e=>?_,bS.le,bS.new,bS.own}
   .rw[ET (U6 e hq)];exact bS.keep a u e hw nf ho
   .by_cases ha:a=q
    .rw[ha];exact hq
    .rw[ET ha] at e;exact bS.dom a e
  exact k q F2 _ st (S2.off f2 m2) f2 hq {_,G9,.cons r2 .nil} m2
 .cases hg
def cO(gd gk gx:G):G:=λE=>(gd E).bind λp=>(gk p.2).bind λq=>(gx q.2).bind λr=>match iK p.1 q.1 with
 |some o=>.ok (o.getD r.1,r.2)
 |none=>.bad
theorem Zd(hu:X.A.units+64<GZ)(ho:VE X o gd)(hk:VE X kx gk)(hx:VE X dx gx)(m:M2 X o "get" LW kx dx GA:=by exact{rfl,rfl,rfl,rfl}):VE X (.Call (.Attribute o "get" LW) [kx,dx] [] GA) (cO gd gk gx):=(zU4 'L' ho hk hx m).imp λσ H Q h=>by
 have{τ,F,E,d,E',S,hg,k}:=h;have{p,e1,hg}:=pA3 hg;have{q,e2,hg}:=pA3 hg;have{r,e3,hg}:=pA3 hg;split at hg
 .rename_i od eo;cases hg;refine{τ,F,E,p.1,p.2,S,e1,λv F1 H1 s1 S1 r1=>?_};have isd:∃ad,v=.ref ad/\Jx H1 ad:=by
   generalize hy:p.1=y at eo r1;cases y with
   |dk kvs=>cases r1 with|dk h1 _=>exact{_,rfl,.inl {_,S1.sub.rd h1}}
   |dt kvs=>cases r1 with|dt h1 _=>exact{_,rfl,.inr {_,S1.sub.rd h1}}
   |_=>cases eo
  have{ad,rfl,hd}:=isd;refine{ad,rfl,hd,τ,F1,p.2,q.1,q.2,S1,e2,λkk F2 H2 s2 S2 r2=>{τ,F2,q.2,r.1,r.2,S2,e3,λz F3 H3 s3 S3 r3=>?_}};have{a',ov,ea,g,ro}:=pAI S3.sub ((r1.le s2.le).le s3.le) (r2.le s3.le) eo;cases ea;refine{ov,g,k _ F3 H3 ((s1.trans s2).trans s3) S3 ?_};cases od with
  |none=>have:=ro.none_of;subst this;exact r3
  |some d0=>have{w,rfl,KJ}:=ro.some_of;exact KJ
 .cases hg
def Xg:D->Out Bool
 |.non=>.ok AD
 |.bl b=>.ok b
 |.int i=>.ok (i != 0)
 |.lst ds=>.ok (!ds.isEmpty)
 |.tup ds=>.ok (!ds.isEmpty)
 |.str z=>few z.length (.ok ((z.length:Int) != 0))
 |_=>.bad
def Z5(g:G):Ev->Out (Bool×Ev):=λE=>(g E).bind λp=>(Xg p.1).bind λb=>.ok (b,p.2)
theorem Reps.isEmpty(r:Reps K F vs ds):vs.isEmpty=ds.isEmpty:=by (cases r)<;>rfl
theorem uA(ha:VE X a ga)(he:∀SQ,V5 a X.env SQ=(do let v <-SQ;MC a.pos;K8 [v] (truthy v)):=by intro _;rfl):VT X a (Z5 ga):=(zUT ha he).imp λσ H Q h=>by
 have{τ,F,E,d,E',S,hg,k}:=h;have{p,e1,hg}:=pA3 hg;have{b,e2,hg}:=pA3 hg;cases hg;refine{τ,F,E,p.1,p.2,S,e1,λv F1 H1 s1 S1 r1=>{d,?_,k F1 H1 s1 S1}};generalize hy:p.1=y at e2 r1;cases y with
 |non=>obtain rfl:=r1.vN;cases e2;rfl
 |bl b=>obtain rfl:=r1.vB;cases e2;rfl
 |int i=>obtain rfl:=r1.vI;cases e2;rfl
 |str z=>obtain rfl:=r1.vS;have{hl,e2}:=XS e2;cases e2;exact{ZI hl,rfl}
 |lst ds=>cases e2;have{l,ys,rfl,h1,h2}:=r1.isRefL;exact .inl {ys,h1.imp S1.sub.rd id,by rw[h2.isEmpty]}
 |tup ds=>cases e2;have{l,ys,rfl,h2,h1}:=r1.tupSq;exact .inr (.inl {ys,h1 F1 H1 (.refl _) S1.sub,by rw[h2.isEmpty]})
 |_=>cases e2
noncomputable def T4(lo:Int)(n:Nat):List D:=(C4 n).map λi:Nat=>D.int (lo+(i:Int))
theorem Uo(lo:Int)(n:Nat):Walks K (rQ lo n) F (T4 lo n):=λi F1 H1 l s=>by
 have hl:(T4 lo n).length=n:=by simp[T4]
 refine{λhi=>by rw[hl] at hi;exact hi,λhi=>by rw[hl] at hi;rw[hi];exact AL _,λx H' d e ⟨e1,y⟩=>?_};subst e1 y;unfold T4 at e;rw[AU] at e;cases q:(C4 n)[i]? with
 |none=>rw[q] at e;cases e
 |some j =>
  rw[q] at e;have:j=i:=by have{h1,h2}:=AR.mp q;rw[List.getElem_range] at h2;exact h2.symm
  subst this;cases e;exact{F1,.refl s,.int _}
def mU(i:Int):Prop:=-1000000<=i/\i<=1000000
instance (i:Int):Decidable (mU i):=inferInstanceAs (Decidable (_/\_))
def cS(g:G):GI:=λE=>(g E).bind λp=>match p.1 with|.int j=>guard (mU j) (.ok (T4 0 j.toNat,p.2))|_=>.bad
def sS(g g':G):GI:=λE=>(g E).bind λp=>(g' p.2).bind λq=>match p.1,q.1 with|.int i,.int j=>guard (mU i/\mU j) (.ok (T4 i (j-i).toNat,q.2))|_,_=>.bad
theorem Ap(hm:X.mg "range"=AK)(ha:VE X a ga)(hg:Gl X "range":=by rfl)(hs:AM [a] X.env=[(AD,eval a X.env)]:=by rfl)(XW:AM [a] X.env=(AD,eval a X.env)::AM [] X.env:=by rfl):VI X tg (.Call (.Name "range" p) [a] [] pos) (cS ga):=(Vk hg hm (SK ha HK XW) hs).imp λσ H Q h=>by
 have{τ,F,E,ds,E',S,hg,k}:=h;have{q,e1,hg}:=pA3 hg;refine{τ,F,E,q.1,q.2,S,e1,λv F1 H1 s1 S1 r1=>?_};split at hg
 .rename_i j ej;have{zz',hg}:=bO hg;have{g1,g2}:=zz';cases hg;rw[ej] at r1;obtain rfl:=r1.vI;exact{j,rfl,by lia,by lia,k _ F1 H1 s1 S1 (Uo 0 _)}
 .cases hg
theorem zS8(hm:X.mg "range"=AK)(ha:VE X a ga)(hb:VE X b gb)(hg:Gl X "range":=by rfl)(hs:AM [a,b] X.env=[(AD,eval a X.env),(AD,eval b X.env)]:=by rfl)(MU:AM [b] X.env=[(AD,eval b X.env)]:=by rfl) (XW:AM [a,b] X.env=(AD,eval a X.env)::AM [b] X.env:=by rfl) (lO:AM [b] X.env=(AD,eval b X.env)::AM [] X.env:=by rfl):VI X tg (.Call (.Name "range" p) [a,b] [] pos) (sS ga gb):=(zRF hg hm (SK ha (SK hb HK lO) XW) hs MU).imp λσ H Q h=>by
 have{τ,F,E,ds,E',S,hg,k}:=h;have{q,e1,hg}:=pA3 hg;have{r,e2,hg}:=pA3 hg;refine{τ,F,E,q.1,q.2,S,e1,λv F1 H1 s1 S1 r1=>{τ,F1,q.2,r.1,r.2,S1,e2,λu F2 H2 s2 S2 r2=>?_}};split at hg
 .rename_i i j ei ej;obtain⟨⟨⟨g1,g2⟩,g3,g4⟩,hg⟩:=bO hg;cases hg;rw[ei] at r1;rw[ej] at r2;obtain rfl:=r1.vI;obtain rfl:=r2.vI;exact{i,j,rfl,{by lia,by lia,by lia,by lia},k _ F2 H2 (s1.trans s2) S2 (Uo i _)}
 .cases hg
noncomputable def j6(ds:List D):List D:=ds.zipIdx.map λp=>.tup [.int (p.2:Int),p.1]
theorem zWI{i:Nat}(e:(j6 ds)[i]?=AA d):∃d0,ds[i]?=AA d0/\d=.tup [.int (i:Int),d0]:=by
 unfold j6 at e;rw[AU,List.getElem?_zipIdx] at e;cases q:ds[i]? with
 |none=>rw[q] at e;cases e
 |some d0=>rw[q] at e;cases e;exact{d0,rfl,by simp}
def Em(g:G):GI:=λE=>(g E).bind λp=>match p.1 with
 |.lst ds=>.ok (j6 ds,p.2)
 |_=>.bad
theorem zWJ(hm:X.mg "enumerate"=AK)(ha:VE X a ga)(hg:Gl X "enumerate":=by rfl)(hs:AM [a] X.env=[(AD,eval a X.env)]:=by rfl)(XW:AM [a] X.env=(AD,eval a X.env)::AM [] X.env:=by rfl):VI X tg (.Call (.Name "enumerate" p) [a] [] pos) (Em ga):=λAF s σ H R I h=>by
 have{τ,F,E,ds,E',S,xP,k}:=h;have{q,e1,xP}:=pA3 xP;have hl:∀l0:List D,(j6 l0).length=l0.length:=λl0=>by simp[j6]
 split at xP
 .rename_i l0 ed;cases xP;refine zV5 hg hm (SK ha HK XW) hs AF s σ H R I {τ,F,E,q.1,q.2,S,e1,λv F1 H1 s1 S1 r1=>?_};rw[ed] at r1;have{l,ys,rfl,h1,h2}:=r1.isRefL;refine{l,rfl,{ys,h1.imp S1.sub.rd id},k _ F1 H1 s1 S1 λi F2 H2 l2 s2=>?_};have sq:=h1.imp (λh=>s2.rd (l2.rd h)) id;refine{λhi=>?_,λhi=>{ys,sq,by rw[h2.length,hi,hl];exact AL _},λx H' d e ⟨pp,xx,ex,hp,eH,y⟩=>?_}
  .have hv:i<ys.length:=by rw[h2.length];rw[hl] at hi;exact hi
   exact{ys,ys[i],sq,by simp[hv]}
  .subst ex eH;have{d0,z1,z2}:=zWI e;subst z2;have{w,w1,w2}:=h2.get z1;rw[y ys sq] at w1;cases w1;have n:=New.laid (o:=.tup [.int i,xx]) s2 hp;exact{_,n,.tup G9 (.cons (.int _) (.cons ((w2.le l2).le n.1.le) .nil))}
 .cases xP
def iD(ds es:List D):List D:=(ds.zip es).map λp=>.tup [p.1,p.2]
theorem yAT{i:Nat}(e:(iD ds es)[i]?=AA d):∃d0 d1,ds[i]?=AA d0/\es[i]?=AA d1/\d=.tup [d0,d1]:=by
 unfold iD at e;rw[AU] at e;cases q:(ds.zip es)[i]? with
 |none=>rw[q] at e;cases e
 |some z=>rw[q] at e;cases e;have{h1,h2}:=GW.mp q;exact{_,_,h1,h2,rfl}
def bD(g g':G):GI:=λE=>(g E).bind λp=>(g' p.2).bind λq=>match p.1,q.1 with
 |.tup ds,.tup es=>.ok (iD ds es,q.2)
 |_,_=>.bad
theorem zG(hm:X.mg "zip"=AK)(ha:VE X a ga)(hb:VE X b gb)(hg:Gl X "zip":=by rfl)(hs:AM [a,b] X.env=[(AD,eval a X.env),(AD,eval b X.env)]:=by rfl)(MU:AM [b] X.env=[(AD,eval b X.env)]:=by rfl) (XW:AM [a,b] X.env=(AD,eval a X.env)::AM [b] X.env:=by rfl) (lO:AM [b] X.env=(AD,eval b X.env)::AM [] X.env:=by rfl):VI X tg (.Call (.Name "zip" p) [a,b] [] pos) (bD ga gb):=(yD2 hg hm (SK ha (SK hb HK lO) XW) hs MU).imp λσ H Q h=>by
 have{τ,F,E,ds,E',S,hg,k}:=h;have{q,e1,hg}:=pA3 hg;have{r,e2,hg}:=pA3 hg;refine{τ,F,E,q.1,q.2,S,e1,λv F1 H1 s1 S1 r1=>{τ,F1,q.2,r.1,r.2,S1,e2,λu F2 H2 s2 S2 r2=>?_}};split at hg
 .rename_i l0 es0 ei ej;cases hg;rw[ei] at r1;rw[ej] at r2;have{l,ys,rfl,h2,h1}:=(r1.le s2.le).tupSq;have{m,zs,rfl,h4,h3}:=r2.tupSq;refine{l,m,rfl,{ys,h1 F2 H2 (.refl _) S2.sub},{zs,h3 F2 H2 (.refl _) S2.sub},k _ F2 H2 (s1.trans s2) S2 λi F3 H3 l3 s3=>?_};have sq:=h1 F3 H3 l3 s3;have Ko:=h3 F3 H3 l3 s3;have hl:(iD l0 es0).length=min l0.length es0.length:=by simp[iD]
  refine{λhi=>?_,λhi=>{ys,zs,sq,Ko,?_},λx H' d e ⟨pp,xx,yy,ex,hp,eH,y1,y2⟩=>?_}
  .rw[hl] at hi;have hv:i<ys.length:=by rw[h2.length];lia
   have hw:i<zs.length:=by rw[h4.length];lia
   exact{ys,zs,ys[i],zs[i],sq,Ko,by simp[hv],by simp[hw]}
  .rw[hl] at hi;rw[h2.length,h4.length];lia
  .subst ex eH;have{d0,d1,z1,z2,z3}:=yAT e;subst z3;have{w,w1,w2}:=h2.get z1;have{w',w1',w2'}:=h4.get z2;rw[y1 ys sq] at w1;cases w1;rw[y2 zs Ko] at w1';cases w1';have n:=New.laid (o:=.tup [xx,yy]) s3 hp;exact{_,n,.tup G9 (.cons ((w2.le l3).le n.1.le) (.cons ((w2'.le l3).le n.1.le) .nil))}
 .cases hg
def Jp(g:G):G:=λE=>(g E).bind λp=>match p.1 with|.int j=>guard (0<=j/\j<=1000) (.ok (.lst (T4 0 j.toNat),p.2))|_=>.bad
theorem zOA(hc:X.calm=AN)(hm:X.mg "range"=AK)(xD:X.mg "list"=AK)(ha:VE X a ga)(hg:Gl X "range":=by rfl)(Nl:Gl X "list":=by rfl) (XW:AM [a] X.env=(AD,eval a X.env)::AM [] X.env:=by rfl) (xA:(DC rpos (AM [] X.env)).any (·.1)=AD:=by rfl) (he:AM [.Call (.Name "range" rp) [a] [] rpos] X.env=(AD,eval (.Call (.Name "range" rp) [a] [] rpos) X.env)::AM [] X.env:=by rfl) (JQ:(DC pos (AM [] X.env)).any (·.1)=AD:=by rfl) : FE X (.Call (.Name "list" p) [.Call (.Name "range" rp) [a] [] rpos] [] pos) (Jp ga) :=(uH (zJZ hc) Nl xD (by decide +kernel) (SK (uH zVC hg hm (by decide +kernel) (SK ha HK XW) 'D' 'D' XW xA) HK he) 'D' 'D' he JQ).imp λσ H Q h=>by
  have{τ,F,E,d,E',S,hg,k}:=h;have{q,e1,hg}:=pA3 hg;refine{τ,F,E,q.1,q.2,S,e1,λv F1 H1 s1 S1 r1=>?_};split at hg
  .rename_i j ej;have{zz',hg}:=bO hg;have{g1,g2}:=zz';cases hg;rw[ej] at r1;obtain rfl:=r1.vI;refine{j,rfl,λpp hp=>{pp,j.toNat,rfl,by rw[G9,cI g1],by lia,λl hl=>?_}};have n:=pA6 (H':=D4 (D4 H1 pp (.rng 0 j)) l (.lst ((C4 j.toNat).map λi:Nat=>V.int i))) S1.sub ((Gr.new hp).trans (Gr.new hl));have eI:=(Gr.new hp).dom l hl;refine k l F1 _ (s1.trans n.stp) (S1.new n) (pAG S1.sub eI) (s1.dom l eI) {_,G9,?_} (S1.fresh eI);have:T4 0 j.toNat=((C4 j.toNat).map λi:Nat=>(i:Int)).map D.int:=by unfold T4;rw[DY];congr 1;funext i;simp
   rw[this,show((C4 j.toNat).map λi:Nat=>V.int i)=((C4 j.toNat).map λi:Nat=>(i:Int)).map V.int by rw[DY];rfl];exact Reps.ints _
  .cases hg
end
section
variable{K:AC}
def D.kids:D->Bool
 |.lst ds=>pA9 ds
 |.dk kvs=>pA9 (kvs.map (·.2))
 |.dt kvs=>pA9 (kvs.map (·.2))
 |_=>AD
def Jb(is:List Nat)(g:G):G:=λE=>(g (N6 is E)).bind λp=>if p.1.kids=AN then .ok (p.1,E) else .bad
theorem RepK.flat2(ht:∀a vs,F a=AA (.tup vs)->F2 a=AA (.tup vs))(r:RepK K F vs ds):pA9 (ds.map (·.2))=AN->RepK K F2 vs ds:=(pAB ht).2.2.1 r
theorem RepT.flat2(ht:∀a vs,F a=AA (.tup vs)->F2 a=AA (.tup vs))(r:RepT K F vs ds):pA9 (ds.map (·.2))=AN->RepT K F2 vs ds:=(pAB ht).2.2.2 r
theorem yHW(is:List Nat)(h:FE X e g):FE X e (Jb is g):=by
 intro AF s σ H Q I zz';have{τ,F,E,d,E',S,hg,k}:=zz';have{p,eg,hg}:=pA3 hg;split at hg
 .rename_i hl;cases hg;have{S1,no}:=S.lend is;refine G6 (h AF s σ H (λv H'=>∃ad F' W3,v=.ref ad/\Stp (λ_=>False) (X5 σ E is F H) H F' H' W3/\Sub F' H'/\F' ad=AK/\H ad=AK/\OwnAt X.K F' H' ad p.1) I {τ,_,_,p.1,p.2,S1,eg,λad F' H' st S' n1 n2 ow _=>{ad,F',_,rfl,st.toF no,S'.sub,n1,n2,ow}}) λu s' q0=>?_;have{v,H',I',rv,ad,F',W3,ev,st,sb,n1,n2,ow}:=q0;subst ev;have{t1,t2,t3,h1,_}:=S.back is st sb;have ht:∀a vs,F' a=AA (.tup vs)->WQ σ E is F' a=AA (.tup vs):=λa vs e=>h1 a _ e λo w ho=>{λz=>by subst z;exact ho,λz=>HO.noConfusion z};have nl:¬Lent σ E is ad:=λz=>by have{_,zz',_}:=S.owned z.ow;have{o,ho,_}:=zz';rw[n2] at ho;cases ho
  have hh:bF σ E is H H' ad=H' ad:=by unfold bF;rw[if_neg nl]
  refine{.ref ad,_,I'.thaw t1,rv,k ad _ _ t2 t3 (by unfold WQ;rw[if_neg nl];exact n1) n2 ?_ (S.fresh n2)};generalize hy:p.1=y at ow hl;cases y with
  |lst ds=>have{vs,q,r}:=ow;exact{vs,hh.trans q,Reps.flat2 ht r hl}
  |dk ds=>have{vs,q,r}:=ow;exact{vs,hh.trans q,RepK.flat2 ht r hl}
  |dt ds=>have{vs,q,r}:=ow;exact{vs,hh.trans q,RepT.flat2 ht r hl}
  |_=>exact ow.elim
 .cases hg
def pZ(m:Mr)(gf:G)(gs:List G):G:=λE=>(gf E).bind λf=>(N8 gs f.2).bind λp=>(m (.own AN f.1::p.1.map Sl.val)).bind λq=>.ok (q.2.1,p.2)
theorem zWL(hn:gs.length+1=np)(h:tV K H₀ (pZ m gf gs) σ H Q):sV (NI K np m) [] E0 (sW (tF K H₀ gf) (gF K H₀ gs)) σ H Q:=by
 have{τ,F,E,d,E',S,hg,k}:=h;have{f,e0,hg}:=pA3 hg;have{p,e1,hg}:=pA3 hg;have{q,e2,hg}:=pA3 hg;cases hg;refine{τ,F,E,f.1,f.2,S,e0,λad F0 H0 s0 S0 n1 n2 ow no=>{τ,F0,f.2,p.1,p.2,S0,e1,λvs F1 H1 s1 S1 r1=>?_}};have{o,ho,hw}:=ow.ho;have k1:=s1.keep ad o ho hw n1 no;have f1:=s1.nF n1 ho hw no;have RZ:=ow.mono s1.le (k1.trans ho.symm);have no1:=λz=>(s1.own ad z).elim no λz=>by (rw[ho] at z;cases z)
 simp only[C5];refine{by rw[BA,r1.length,k4 e1,hn],ad,F1,_,q.1,q.2.1,q.2.2,pAF S1.sub r1 f1 RZ,Ie,e2,λv F2 H2 s2 S2 rr=>?_};have s2:=s2;have gR:∀b,D6 σ p.2 b->b≠ad:=λb z y=>no1 (by rw[<-y];exact z);have Sm:Sim K H₀ τ F2 H2 σ p.2:=by
  refine{S2.sub,S1.len,λj d' z=>?_,λj t' d' z=>?_,S1.inj}
  .have{v,h1,h2}:=S1.val j d' z;exact{v,h1,h2.le s2.le}
  .have{c,c1,c2,c3,c4}:=S1.own j t' d' z;have{oc,jC,hwc}:=c3.ho;have xY:=gR c {j,t',d',z,c1};exact{c,c1,s2.nF c2 jC hwc λy=>xY (lA y),c3.mono s2.le ((s2.keep c oc jC hwc c2 λy=>xY (lA y)).trans jC.symm),c4}
 have lG:=s0.trans s1;have st:Stp (D6 σ E) F H F2 H2 (D6 σ p.2):=by
  refine{λb u z Mf n hb=>?_,λb z=>lG.dom b (s2.dom b z),lG.le.trans s2.le,λb u z=>?_,lG.own}
  .have hb1:=lG.keep b u z Mf n hb;exact s2.keep b u hb1 Mf (lG.nF n z Mf hb) λy=>by rw[lA y,n2] at z;cases z
  .rcases s2.new b u z with y|y|y
   .cases w:F1 b with
    |none=>exact absurd w y
    |some u'=>exact lG.new b u' w
   .exact lG.nw y
   .rw[lA y];exact .inr (.inl (.none n2))
 cases hb:q.1 with
 |false=>rw[hb] at rr;exact k v F2 H2 st Sm rr
 |true =>
  rw[hb] at rr;have{c,rfl,h1,h2,h3,h4}:=rr;have{o',gQ,_}:=h2.ho;have nc:∀b,D6 σ p.2 b->b≠c:=λb z y=>by subst y;exact S1.fresh h3 z
  refine k _ (D4 F2 c o') H2 {st.keep,st.dom,st.le.trans (.of_gr (Gr.new h1)),λb u z=>?_,st.own} {λb u z=>?_,Sm.len,λj d' z=>?_,λj t' d' z=>?_,Sm.inj} (h2.rep h1 gQ)
  .by_cases hb:b=c
   .subst hb;exact .inr (.inl (.none (lG.dom b h3)))
   .rw[ET hb] at z;exact st.new b u z
  .by_cases hb:b=c
   .subst hb;rw[G9] at z;rw[gQ];exact z
   .rw[ET hb] at z;exact Sm.sub b u z
  .have{v,y1,y2}:=Sm.val j d' z;exact{v,y1,y2.le (.of_gr (Gr.new h1))}
  .have{b,y1,y2,y3,y4}:=Sm.own j t' d' z;exact{b,y1,by rw[ET (nc b {j,t',d',z,y1})];exact y2,y3.mono (.of_gr (Gr.new h1)) rfl,y4}
theorem yAV(C:MR X.prog X.w X.K X.mg X.base x k np m)(hr:Room k X.A)(hf:FE X e gf)(ha:VA X es gs)(hn:gs.length+1=np:=by rfl)(hg:Gl X x:=by rfl)(RK:(x==("__debug__":CD))=AD:=by decide) (he:AM (e::es) X.env=(AD,eval e X.env)::AM es X.env:=by rfl) (JQ:(DC pos (AM es X.env)).any (·.1)=AD:=by rfl):VE X (.Call (.Name x p) (e::es) [] pos) (pZ m gf gs):=by have{f,fd,ps,Fn,hm,hk,hb}:=C;exact(tZ Fn hr hg hm hk hb .nil zA (SK hf ha he) RK he JQ).imp λ_ _ _ h=>zWL hn h
theorem zOB(n:CompNm X scope xo cl own CN js)(hc:X.calm=AN)(hi:VI X tg iter gi) (hg:∀C s H fp,VG (NP X scope xo cl (own++CN) C s H fp) tg t) (ht:∀C s H fp,uX (NP X scope xo cl (own++CN) C s H fp) OE tt) (he:∀C s H fp,VE (NP X scope xo cl (own++CN) C s H fp) QY ge) (hN:X.N.Nodup) (hx:X.N[i]?=AA x) (hl:X.env.scope.names.lookup x=AA .local) (oM:HW (.ListComp QY [{tg,iter,OE,0}] scope pos) (AA (.Name x OS)) spos.line X.env=pure AN) (JB:t.ltn own.length=AN:=by rfl) (hj:js.Nodup:=by decide) (hs:∀x,DJ iter X.env x=pure x:=by intro _;rfl):VS X (.Assign [.Name x OS] (.ListComp QY [{tg,iter,OE,0}] scope pos) spos) (I0 (.nm i) (RC gi own.length js t tt ge)) :=λAF s σ H D' I h=>by refine Wj (g:=λH=>tG X.K H t) (tt:=λH=>tT X.K H tt) (te:=λH=>tV X.K H ge) n hc hi hg ht he hN hx hl oM hs AF s σ H D' I ?_;refine Rw JB hj (pA7 ?_);have{τ,F,E,r,S,hg,k}:=h;have{p,e1,hg}:=pA3 hg;have{E1,e2,hg}:=pA3 hg;cases hg;rw[WY] at e2;cases e2;refine{τ,F,E,p.1,p.2,S,e1,λv F1 H1 s1 S1 r1=>?_};have{S2,h2}:=S1.put r1;exact k _ F1 H1 (s1.weak h2) S2
theorem Fun.cal{st:FM}(Fn:Fun K x x st f fd)(h:FnOk P w K mg base LJ k f fd ps (NI K np m))(hm:mg x=AA (.ref f))(hb:Binds K fd ps []):MR P w K mg base x k np m:={f,fd,ps,h,hm,Fn.kp,hb}
end
theorem Bp{α:Type}{Pr:α->Prop}:∀p∈([]:List α),Pr p:=λp hp=>nomatch hp
theorem gH{α:Type}{Pr:α->Prop}{a:α}(h:Pr a):∀p∈[a],Pr p:=λp hp=>by rw[A1.mp hp];exact h
theorem Jr{α:Type}{Pr:α->Prop}{a:α}{l:List α}(h:Pr a)(t:∀p∈l,Pr p):∀p∈a::l,Pr p:=λp hp=>by
 rcases A8.mp hp with rfl|hp
 .exact h
 .exact t p hp
theorem Cj{α:Type}{Pr:α->Prop}{a b:α}(h1:Pr a)(h2:Pr b):∀p∈[a,b],Pr p:=Jr h1 (gH h2)
theorem Ci{α:Type}{Pr:α->Prop}{a b c:α}(h1:Pr a)(h2:Pr b)(h3:Pr c):∀p∈[a,b,c],Pr p:=Jr h1 (Cj h2 h3)
theorem Js{α:Type}{Pr:α->Prop}{a b c d:α}(h1:Pr a)(h2:Pr b)(h3:Pr c)(h4:Pr d):∀p∈[a,b,c,d],Pr p:=Jr h1 (Ci h2 h3 h4)
section
theorem yKN(hc:VT X c t)(ha:FE X a ga)(hb:FE X b gb):FE X (.IfExp c a b pos) (uW t ga gb):=(Tx hc ha hb).imp λσ H Q q=>by
 have{τ,F,E,d,E',S,hg,k}:=q;have{p,ea,hg}:=pA3 hg;refine{τ,F,E,p.1,p.2,S,ea,λF1 H1 st1 S1=>?_};by_cases hp:p.1=AN
 .rw[if_pos hp] at hg ⊢;exact{τ,F1,p.2,d,E',S1,hg,λad F2 H2 st2 S2 n1 n2 ow no=>k ad F2 H2 (st1.trans st2) S2 n1 (st1.dom ad n2) ow no}
 .rw[if_neg hp] at hg ⊢;exact{τ,F1,p.2,d,E',S1,hg,λad F2 H2 st2 S2 n1 n2 ow no=>k ad F2 H2 (st1.trans st2) S2 n1 (st1.dom ad n2) ow no}
end
section
variable{K:AC}
theorem pAK(s:Sub F H)(h:F a=AA u)(hd:sR u):New F H (D4 F a (.frz o u)) (D4 H a (.frz o u)):=by
 have hh:=s a u h;refine{{λb v e _ n _=>?_,λb e=>?_,λb v e=>?_,λb v e=>?_,λ_ z=>z.elim},λb v e=>?_}
 .rw[ET (λz=>by rw[z,h] at n;cases n)];exact e
 .by_cases hb:b=a
  .rw[hb,G9] at e;cases e
  .rw[ET hb] at e;exact e
 .by_cases hb:b=a
  .subst hb;rw[h] at e;cases e;exact .inr (.inl {hd,o,G9})
  .exact .inl (by rw[ET hb];exact e)
 .by_cases hb:b=a
  .subst hb;exact .inl (by rw[h];exact nofun)
  .rw[ET hb] at e;exact .inl (by rw[e];exact nofun)
 .by_cases hb:b=a
  .subst hb;rw[G9] at e ⊢;exact e
  .rw[ET hb] at e ⊢;exact s b v e
theorem New.tup(s:Sub F H)(h:H p=AA (.tup vs)):∃F',New F H F' H/\F' p=AA (.tup vs):=by
 cases hf:F p with
 |some u=>have:=s p u hf;rw[h] at this;cases this;exact{F,.refl s,hf}
 |none =>
  refine{D4 F p (.tup vs),{{λ_ _ e _ _ _=>e,λ_ e=>e,.of_gr (Gr.new hf),λb v e=>?_,λ_ z=>z.elim},λb v e=>?_},G9}
  .by_cases hb:b=p
   .subst hb;refine .inr (.inl λo e' hw=>?_);rw[h] at e';cases e';exact hw
   .rw[ET hb] at e;exact .inl (by rw[e];exact nofun)
  .by_cases hb:b=p
   .subst hb;rw[G9] at e;rw[h];exact e
   .rw[ET hb] at e;exact s b v e
def uN(k:List Int):D:=.tup (k.map D.int)
theorem RepT.keysAt(r:RepT K F vs ds):vs.map (·.1)=ds.map λkv=>kv.1.map CS :=r.rec1 (T:=λvs ds=>vs.map (·.1)=ds.map λkv=>kv.1.map CS) rfl λ_ _ ih=>congrArg (_::·) ih
theorem RepK.keysAt(r:RepK K F vs ds):vs.map (·.1)=ds.map (·.1) :=r.rec1 (R:=λvs ds=>vs.map (·.1)=ds.map (·.1)) rfl λ_ _ ih=>congrArg (_::·) ih
theorem Wo(h:F a=AA (.frz o (.dK kvs)))(r:RepK K F kvs ds):Walks K (Co a o kvs) F (ds.map λkv=>j2 kv.1):=λi F1 H1 l s=>by
 have hf:F1 a=AA (.frz o (.dK kvs)):=by
  rcases l a _ h with z|⟨z,_⟩|⟨_,_,_,z,_⟩
  .exact z
  .exact z.elim
  .cases z
 have hh:=s _ _ hf;have hl:(ds.map λkv=>j2 kv.1).length=kvs.length:=by rw[AJ,r.length]
 refine{λhi=>{AO hi (CU hl),hh},λhi=>{by lia,hh},λx H' d e ⟨e1,k,ex,ek⟩=>?_};subst e1 ex;rw[r.keysAt,AU] at ek;rw[AU] at e;cases q:ds[i]? with
 |none=>rw[q] at e;cases e
 |some kv=>rw[q] at e ek;cases e;cases ek;exact{F1,.refl s,Sf _}
theorem Wn(h:F a=AA (.frz o (.dT kvs)))(r:RepT K F kvs ds):Walks K (Itk a o kvs) F (ds.map λkv=>uN kv.1):=λi F1 H1 l s=>by
 have hf:F1 a=AA (.frz o (.dT kvs)):=by
  rcases l a _ h with z|⟨z,_⟩|⟨_,_,_,z,_⟩
  .exact z
  .exact z.elim
  .cases z
 have hh:=s _ _ hf;have hl:(ds.map λkv=>uN kv.1).length=kvs.length:=by rw[AJ,r.length]
 refine{λhi=>{AO hi (CU hl),hh},λhi=>{by lia,hh},λx H' d e ⟨e1,p,k,ex,ek,ep⟩=>?_};subst e1 ex;rw[r.keysAt,AU] at ek;rw[AU] at e;cases q:ds[i]? with
 |none=>rw[q] at e;cases e
 |some kv=>rw[q] at e ek;cases e;cases ek;have{F',n,hp}:=New.tup s ep;refine{F',n,.tup hp ?_};rw[DY];exact Reps.ints kv.1
def LB(g:G):GI:=λE=>(g E).bind λp=>match p.1 with
 |.lst ds=>.ok (ds,p.2)
 |.tup ds=>.ok (ds,p.2)
 |.dk kvs=>.ok (kvs.map λkv=>j2 kv.1,p.2)
 |.dt kvs=>.ok (kvs.map λkv=>uN kv.1,p.2)
 |_=>.bad
theorem XR(h:VE X e ge):VI X tg e (LB ge):=λAF s σ H R I q=>by
 have{τ,F,E,ds,E',S,hg,k}:=q;have{p,e1,hg}:=pA3 hg;split at hg
 .rename_i UD ed;cases hg;exact zZ4 h AF s σ H R I {τ,F,E,ds,p.2,S,by unfold Zx;rw[e1];show(match p.1 with|.lst ds=>Out.ok (ds,p.2)|_=>.bad)=_;rw[ed],k}
 .rename_i UD ed;cases hg;exact yED h AF s σ H R I {τ,F,E,ds,p.2,S,by unfold Zw;rw[e1];show(match p.1 with|.tup ds=>Out.ok (ds,p.2)|_=>.bad)=_;rw[ed],k}
 .rename_i kvs ed;cases hg
  -- which of both it is shows when the JO is there
  refine G6 (h AF s σ H (λx H1=>∃F1,Stp (D6 σ E) F H F1 H1 (D6 σ p.2)/\Sim X.K X.H₀ τ F1 H1 σ p.2/\Rep X.K F1 x (.dk kvs)) I {τ,F,E,p.1,p.2,S,e1,λv F1 H1 s1 S1 r1=>{F1,s1,S1,by rw[<-ed];exact r1}}) λv s1 q0=>?_;have{x,H1,I1,r1,F1,st,S1,rr}:=q0;cases rr with
  |dk hr r =>
   rename_i a kv;cases r1;rcases hr with hr|⟨o,hr⟩
   .have ha:=S1.sub _ _ hr;have{o,ho,I2}:=I1.freezeK ha;have{es,ep,KJ,z1,z2,z3}:=nC (I1.hok a _ ha);have{o',q1,q2,q3}:=id KJ.ex;rw[ho] at q1;cases q1;have n:=pAK (o:=o) S1.sub hr trivial;refine qO KJ λh' kk ki=>?_;refine{s1.heap.objs.size,[s1.heap.objs.size],_,_,_,rfl,I2.kept kk,Av a _ o kv es ep q3 z1,ki,λb hb=>?_,k _ _ _ (st.trans n.stp) (S1.new n) (Wo G9 (r.le n.1.le))};have e:b=s1.heap.objs.size:=by simpa using hb
    subst e;exact I2.fpOk (AL _) (I2.hok.fresh (AL _))
   .have ha:=S1.sub _ _ hr;have{ho,hx}:=I1.hok a _ ha;have{es,ep,KJ,z1,z2,z3}:=nC hx;have{o',q1,q2,q3}:=id KJ.ex;rw[ho] at q1;cases q1;refine qO KJ λh' kk ki=>?_;refine{s1.heap.objs.size,[s1.heap.objs.size],_,_,_,rfl,I1.kept kk,Av a _ o kv es ep q3 z1,ki,λb hb=>?_,k _ _ _ st S1 (Wo hr r)};have e:b=s1.heap.objs.size:=by simpa using hb
    subst e;exact I1.fpOk (AL _) (I1.hok.fresh (AL _))
 .rename_i kvs ed;cases hg;refine G6 (h AF s σ H (λx H1=>∃F1,Stp (D6 σ E) F H F1 H1 (D6 σ p.2)/\Sim X.K X.H₀ τ F1 H1 σ p.2/\Rep X.K F1 x (.dt kvs)) I {τ,F,E,p.1,p.2,S,e1,λv F1 H1 s1 S1 r1=>{F1,s1,S1,by rw[<-ed];exact r1}}) λv s1 q0=>?_;have{x,H1,I1,r1,F1,st,S1,rr}:=q0;cases rr with
  |dt hr r =>
   rename_i a kv;cases r1;rcases hr with hr|⟨o,hr⟩
   .have ha:=S1.sub _ _ hr;have{o,ho,I2}:=I1.freeze ha;have{es,ep,KJ,z1,z2,z3}:=qF (I1.hok a _ ha);have{o',q1,q2,q3}:=id KJ.ex;rw[ho] at q1;cases q1;have n:=pAK (o:=o) S1.sub hr trivial;refine qO KJ λh' kk ki=>?_;refine{s1.heap.objs.size,[s1.heap.objs.size],_,_,_,rfl,I2.kept kk,Vn a _ o kv es ep q3 z1,ki,λb hb=>?_,k _ _ _ (st.trans n.stp) (S1.new n) (Wn G9 (r.le n.1.le))};have e:b=s1.heap.objs.size:=by simpa using hb
    subst e;exact I2.fpOk (AL _) (I2.hok.fresh (AL _))
   .have ha:=S1.sub _ _ hr;have{ho,hx}:=I1.hok a _ ha;have{es,ep,KJ,z1,z2,z3}:=qF hx;have{o',q1,q2,q3}:=id KJ.ex;rw[ho] at q1;cases q1;refine qO KJ λh' kk ki=>?_;refine{s1.heap.objs.size,[s1.heap.objs.size],_,_,_,rfl,I1.kept kk,Vn a _ o kv es ep q3 z1,ki,λb hb=>?_,k _ _ _ st S1 (Wn hr r)};have e:b=s1.heap.objs.size:=by simpa using hb
    subst e;exact I1.fpOk (AL _) (I1.hok.fresh (AL _))
 .cases hg
end
theorem walk_v{l:RQ}{XP:(CD->Option AH)->CM->Prop}{YP:C8->CM->Prop}{K:Params->AC}(hn:l.most=AA 63)(xS:d.params.defaults=[])(hr:Room lv Q2) (hY:∀(w:C8) (h:CM),YP w h->(K w.params).In h) (tK:∀w:C8,Tabs (K w.params) q) (hm:∀ns:List Int,ns.length<=63->∃b d',m [.val (.lst (ns.map D.int))]=.ok (b,.bl AN,d')) (F:∀(w:C8) (mg:CD->Option AH) (fa:AT) (h:CM),(K w.params).In h->h.Ns BL mg->mg d.name=AA (.ref fa) ->∃fd:CV,(∀(s:AQ) (u:AH),UN s fd {[u],[]} [("script",u)])/\∀base:CM,(K w.params).In base->base.Ns BL mg->CB (K w.params) base->FnOk l.prog w (K w.params) mg base LJ lv fa fd ["script"] (NI (K w.params) 1 m)) : g9 q W4 XP YP l.row.toRowW d [] (λf vs=>aY f vs) :=_L.walk_of hn 'D' xS hr hY tK F (λw H a ns hl _ hS=>by
  have{b,d',e}:=hm ns hl;refine{rfl,0,H,_,b,_,d',{λ_ _ z=>z,rfl,λi d0 z=>?_,λi t d0 z=>?_,λi j t u d1 d2 a' z=>?_},λi t d0 z=>?_,e,λv F' H' st S r=>?_}
  .cases i with
   |zero=>cases z;exact{_,rfl,.lst hS (Reps.ints ns)}
   |succ i=>simp at z
  .cases i with
   |zero=>cases z
   |succ i=>simp at z
  .cases i with
   |zero=>cases z
   |succ i=>simp at z
  .cases i with
   |zero=>cases z
   |succ i=>simp at z
  .cases b with
   |false=>obtain rfl:=r.vB;rfl
   |true=>have{_,_,_,ow,_}:=r;exact ow.elim) λ_ _ _ _ _ z=>z
end _L
namespace _L
open PySem
theorem fn_bad:FnOk P w K mg base LJ k f fd ps (NI K np λ_=>.bad) :={(λvs H Q E h=>by have{_,_,_,_,_,_,_,_,_,hm,_}:=h;cases hm),(λA outer s H args us vs Q E hr e b v h=>by have{_,_,_,_,_,_,_,_,_,hm,_}:=h;cases hm)}
end _L
namespace _L
open PySem PySem.Spec PyProof.Rows
section
variable{K:AC}
def pY(gk gv:G):GM:=λd E=>(gk E).bind λp=>(gv p.2).bind λq=>match d,iL p.1 with|.dk kvs,AA k=>few kvs.length (.ok (.dk (O4 kvs k q.1),q.2))|_,_=>.bad
theorem zTA{N:St->Hp->Prop}(h:Ca K H₀ acc k (pY gk gv) σ H N):Eu acc (tV K H₀ gk) (tV K H₀ gv) σ H N:=by
 have{τ,F,E,d,d',E',S,f,n,o,hg,k}:=h;have{p,e1,hg}:=pA3 hg;have{q,e2,hg}:=pA3 hg;split at hg
 .rename_i k' ek _ _;have{hz,hg}:=XS hg;cases hg;refine{τ,F,E,p.1,p.2,S,e1,λx F5 H5 s5 S5 r5=>?_};refine{τ,F5,p.2,q.1,q.2,S5,e2,λy F6 H6 s6 S6 r6=>?_};have{f6,m6,ys,h6,r2}:=yQ (s5.trans s6) f n o;exact{ys,k',h6,Ze ek r5,by rw[r2.length];exact bM hz,k σ F6 _ (Za (s5.trans s6)) (S6.off f6 m6) f6 m6 {_,G9,r2.put k' r6} λ_ _=>rfl}
 .cases hg
theorem yAW(n:CompNm X scope xo cl own CN js)(hc:X.calm=AN)(hi:VI X tg iter gi) (hg:∀C s H fp,VG (NP X scope xo cl (own++CN) C s H fp) tg t) (ht:∀C s H fp,uX (NP X scope xo cl (own++CN) C s H fp) OE tt) (hk:∀C s H fp,VE (NP X scope xo cl (own++CN) C s H fp) kx gk) (hv:∀C s H fp,VE (NP X scope xo cl (own++CN) C s H fp) vx gv) (JB:t.ltn own.length=AN:=by rfl) (hj:js.Nodup:=by decide) (hs:∀x,DJ iter X.env x=pure x:=by intro _;rfl):FE X (.DictComp kx vx [{tg,iter,OE,0}] scope pos) (mV gi own.length js (.dk []) t tt (pY gk gv)) :=(zVB (g:=λH=>tG X.K H t) (tt:=λH=>tT X.K H tt) (tk:=λH=>tV X.K H gk) (tv:=λH=>tV X.K H gv) n hc hi hg ht hk hv hs).imp λσ H Q h =>
  Rx (λJ H2 q acc ha=>tWalkC.imp (λ_ _ _ z=>zTA z) (λσ H=>Rz σ H) (λx σ H=>Ry x σ H) (q acc ha)) (Ua (d0:=.dk []) (λF H a=>{[],G9,.nil}) JB hj h)
end
theorem zQP(l:List AH)(h:TriplesOk l)(e:Q0 pos (l++[FR a,FR b,c])=AA cv):Q0 pos l=AA cv\/cv=c:=by
 fun_induction TriplesOk l with
 |case1 =>
  simp only[G0,Q0,FR] at e;split at e
  .cases e;exact .inr rfl
  .cases e
 |case2 a' t b' u x rest ih =>
  simp only[M8,Q0] at e ⊢;split at e
  .rename_i hc;rw[if_pos hc];exact .inl e
  .rename_i hc;rw[if_neg hc];exact ih h e
 |case3 l h1 h2=>exact h.elim
def LamStp(T:AT)(q:CD)(H H':Hp):Prop:=H'=H\/∃ps bT c' o,H T=AA (.tbl q ps)/\H c'=AK/\c'≠T/\H'=D4 (D4 H T (.tbl q bT)) c' (.frz o (.own c'))
section
theorem Inv.pinNew(I:Inv X AF σ H s)(hfr:o.isFreed=AD)(hd:∀v,o.data≠.cell v):Inv X ((s.heap.objs.size,o)::AF) σ H { s with heap:=s.heap.push o,toks:=t' }:=by
 have I1:Inv X AF σ H { s with heap:=s.heap.push o,toks:=t' }:=I.un (Un.kept λb u e=>AG _ e) (I.hok.kept λb u e=>AG _ e);refine{I1.ok,I1.os,I1.bare,I1.base,I1.loc,I1.cell,I1.free,I1.freeC,λp hp=>?_,I1.hok,I1.len};rcases BU.mp hp with hp|hp
 .exact I1.pin p (C1 _ hp)
 .rcases A8.mp hp with rfl|hp
  .exact{AX _ hfr,I.hok.fresh (AL _),FG I.lt,I.nofs (AL _),hd}
  .exact I1.pin p (BO _ hp)
theorem Inv.table{pos:jS}(I:Inv X AF σ H s)(hT:H T=AA (.tbl q ps))(hx:Z3 T s.heap h')(lS:s.heap.objs.size<=c')(jA:h'.CodeRec (.ref c') q)(Da:h'.get? T=AA (K3 (ps++#[FR pos.line,FR pos.col,.ref c']))) : ∃o,Inv X AF σ (D4 (D4 H T (.tbl q (ps++#[FR pos.line,FR pos.col,.ref c']))) c' (.frz o (.own c'))) { s with heap:=h',toks:=t' }/\H c'=AK/\c'≠T:=by
 have{c0,o,vs,t,e0,jC,hd,hv}:=jA;cases e0;have{e1,tr,al}:=I.hok T _ hT;have gW:=I.hok.fresh lS;have pB:c'≠T:=λz=>by rw[z] at gW;rw[gW] at hT;cases hT
 have EB:∀b u,H b=AA u->b≠T->D4 (D4 H T (.tbl q (ps++#[FR pos.line,FR pos.col,.ref c']))) c' (.frz o (.own c')) b=AA u:=λb u e hb=>by rw[ET (λz=>by rw[z,gW] at e;cases e),ET hb];exact e
 have hTT:D4 (D4 H T (.tbl q (ps++#[FR pos.line,FR pos.col,.ref c']))) c' (.frz o (.own c')) T=AA (.tbl q (ps++#[FR pos.line,FR pos.col,.ref c'])):=by rw[ET (FI pB),G9]
 have nT:∀b,H b=AK->b≠T:=λb e z=>by rw[z,hT] at e;cases e
 have wG:∀b u,s.heap.get? b=AA u->H b=AK->D4 (D4 H T (.tbl q (ps++#[FR pos.line,FR pos.col,.ref c']))) c' (.frz o (.own c')) b=AK:=λb u e n=>by rw[ET (CF (AO (BB e) lS)),ET (nT b n)];exact n
 have oD:∀b u,H b=AA u->(∀ps,u≠.tbl q ps)->b≠T:=λb u e n z=>by rw[z,hT] at e;cases e;exact n _ rfl
 refine{o,I.un {λb u e n _ _=>hx b u (nT b n) e,λb u e n _ _=>{u.slots,hx b u (nT b n) e},λb u e n _=>wG b u e n,λb u e _=>?_,λb xs e=>EB b _ e (oD b _ e λ_ z=>by cases z),λb ob u e=>EB b _ e (oD b _ e λ_ z=>by cases z),λb t bT e=>?_} (λb u e=>?_),gW,pB}
 .by_cases hb:b=T
  .subst hb;exact{_,Da}
  .exact{u,hx b u hb e}
 .by_cases hb:b=T
  .subst hb;rw[hT] at e;cases e;exact{_,hTT}
  .exact{#[],by rw[EB b _ e hb];simp}
 .by_cases hb:b=c'
  .subst hb;rw[G9] at e;cases e;exact{jC,{_,jC}}
  .by_cases Oe:b=T
   .subst Oe;rw[hTT] at e;cases e;refine{Da,by rw[EK];exact TriplesOk_snoc _ _ _ _ tr,λp cv z=>?_};rw[EK] at z;rcases zQP _ tr z with z|z
    .have{c2,o2,vs2,t2,r1,r2,r3}:=al p cv z;exact{c2,o2,vs2,t2,r1,EB c2 _ r2 (oD c2 _ r2 λ_ z=>by cases z),r3}
    .exact{c',o,vs,t,z,G9,hd,hv}
   .rw[ET hb,ET Oe] at e;refine(I.hok b u e).stay (λd v hc z=>hx d v ?_ z) (λd z=>EB d _ z (oD d _ z λ_ y=>by cases y)) (λd xs z=>EB d _ z (oD d _ z λ_ y=>by cases y)) λd ob x z=>EB d _ z (oD d _ z λ_ y=>by cases y);rcases hc with rfl|hc
    .exact Oe
    .exact oD d _ hc λ_ y=>by cases y
theorem zWM{Q:AH->AQ->Prop}{E:AH->AQ->Prop} (I:Inv X AF σ H s) (ZS:X.env.code=.ref c) (C:JS X.base c T) (tb:TB X.K T q) (hq:X.env.qual++("<lambda>":CD)=q) (xV:YX scope X.env=pure clos) (o8:defaultsOf EM X.env=([],[])) (h:∀(f c':AT) (pm R6:AH) (s':AQ) (H':Hp) (o:IZ),Inv X ((f,M6 "<lambda>" q EM body scope clos pm c' R6)::AF) σ H' s'->LamStp T q H H'->H' c'=AA (.frz o (.own c'))->s'.heap.CodeRec (.ref c') q->s.heap.objs.size<=f->Q (.ref f) s') : BE (A7 X.prog X.w) A (eval (.Lambda EM body scope pos) X.env) Q E s:=by
 refine PySem.W.kla_eval o8 ?_;rw[hq];have{ps,hT}:=I.tab T q tb;have{e1,tr,al}:=I.hok T _ hT;have hg:=I.mod.glob.keeps I.bk;have hgT:BL≠T:=λz=>by have{o,es,ep,e,hd,_}:=hg;rw[z,e1] at e;cases e;cases hd
 have Dh:s.heap.BuiltinsAt X.mg T:=by
  have{bm,ob,b1,b2,b3,b4,b5,b6}:=I.mod.bmain;have e3:=I.bk _ _ b3;refine{bm,ob,b1,b2,λz=>?_,λz=>?_,e3,b4,b5,b6}
  .have{o,es,ep,e,hd,_}:=hg;rw[z,e] at e3;cases e3;rw[hd] at b6;cases b6
  .rw[z,e1] at e3;cases e3;cases b4
 cases hf:Q0 pos ps.toList with
 |none =>
  refine PySem.W.kla_makeFunction (mg:=X.mg) xV I.ok.glob hg ZS (C.keeps I.bk) e1 tr hf hgT Dh λc' R6 h' tk hx lS JB jA Da=>?_;have{o,I1,gW,pB}:=I.table (t':=tk) hT hx lS jA Da;have I2:=I1.pinNew (t':=tk) (o:=M6 "<lambda>" q EM body scope clos ((X.mg "__name__").getD .none) c' R6) rfl λv z=>by cases z
  exact h _ c' _ R6 _ _ o I2 (.inr {_,_,c',o,hT,gW,pB,rfl}) G9 (jA.push _) (AW lS (CQ JB))
 |some cv =>
  have{c',o,vs,t,rfl,r2,r3,r4}:=al _ _ hf;refine PySem.W.kla_makeFunctionHit xV I.ok.glob hg ZS (C.keeps I.bk) e1 tr hf Dh λR6 h' tk hk NK=>?_;have I1:=I.un (t':=tk) (Un.kept hk) (I.hok.kept hk);have I2:=I1.pinNew (t':=tk) (o:=M6 "<lambda>" q EM body scope clos ((X.mg "__name__").getD .none) c' R6) rfl λv z=>by cases z
  exact h _ c' _ R6 _ _ o I2 (.inl rfl) r2 {c',o,vs,t,rfl,(I2.hok _ _ r2).1,r3,r4} NK
end
noncomputable def fV(X:Cx)(A:GD)(q:CD)(scope:JJ)(cl:List (CD×AT))(nm:List CD)(f:AT)(cd:AH)(s:AQ)(H:Hp):Cx where
 prog:=X.prog
 w:=X.w
 K:=X.K
 mg:=X.mg
 base:=X.base
 A:=A.deeper (V6 q scope s.heap.objs.size f cd cl)
 N:=nm
 s₀:=s
 H₀:=H
 env:=V6 q scope s.heap.objs.size f cd cl
 outer:=X.stack
 stack:=V6 q scope s.heap.objs.size f cd cl::X.stack
 ex:=[]
 fn:=λ_=>AD
 calm:=AN
 pn:=[]
 xe:=λ_ _=>False
structure LamNm(X:Cx)(scope:JJ)(cl:List (CD×AT))(p:CD)(CN:List CD)(js:List Nat):Prop where
 clos:YX scope X.env=pure cl
 kind:scope.kind=.function
 co:scope.isCoroutine=AD
 gen:scope.isGenerator=AD
 nocell:∀y∈scope.names,y.2≠.cell
 dom:∀y∈scope.names,y.2=.free->y.1∈CN
 nm:cl.map (·.1)=CN
 cells:∀p∈cl,X.env.cells.lookup p.1=AA p.2
 slot:CN.map AA=js.map λj=>X.N[j]?
 vis:∀x∈CN,X.env.kindOf x=AA .cell\/X.env.kindOf x=AA .free
 fr:∀x∈CN,scope.names.lookup x=AA .free
 loc:scope.names.lookup p=AA .local
section
theorem LamNm.cl_of(n:LamNm X scope cl p CN js)(h:cl.lookup x=AA c):X.env.cells.lookup x=AA c:=n.cells _ (uJ h)
theorem LamNm.has(n:LamNm X scope cl p CN js)(h:x∈CN):∃c,cl.lookup x=AA c:=Hx (by rw[n.nm];exact h)
noncomputable def jY(js:List Nat)(v:V)(σ:St):St:=AA v::js.map λj=>(σ[j]?).getD AK
theorem zTB(n:LamNm X scope cl p CN js)(I:Inv X AF σ H s)(hA:A.frames=AA X.stack)(hh:A.handled=AK) (jD:IS.Ns s.heap.objs.size (λy=>[(p,u)].reverse.lookup y)) (II:∀b o,s.heap.get? b=AA o->IS.get? b=AA o) (r:RelV v u) : Inv (fV X A q scope cl (p::CN) f cd s H) [] (jY js v σ) H { s with heap:=IS,toks:=tk }:=by
 have hl:js.length=CN.length:=by have:=congrArg MF n.slot;simpa using this.symm
 refine{{I.tab,I.ok.mod,n.kind,rfl,rfl,AL _,λx y c h1 h2=>I.ok.inj x y c (n.cl_of h1) (n.cl_of h2),λx hx=>?_,(λx c h=>nomatch h),λ_=>hh,X2 hA,.inr {rfl,rfl},(λb hb=>nomatch hb),
   I.bs,AW I.ok.bsz I.sz,(λb o e hb=>nomatch hb),(λb hb=>nomatch hb),I.stack,I.stkFree},
  rfl,I.bare,Un.kept II,{_,jD,λi x v' e1 e2 e3=>?_},λx c e=>?_,I.hok.fresh (AL _),λx c e=>I.freeC x c (n.cl_of e),(λp hp=>nomatch hp),I.hok.kept II,?_}
 .have hx:=hx;rcases hx with h|h
  .exact absurd rfl (n.nocell _ (uJ h))
  .exact n.has (n.dom _ (uJ h) rfl)
 .cases i with
  |zero=>have e1:=e1;have e2:AA (AA v)=AA (AA v'):=e2;cases e1;cases e2;exact{u,r,.inl {n.loc,by show List.lookup p [(p,u)]=AA u;rw[HH,beq_self_eq_true]}}
  |succ i =>
   have e1:CN[i]?=AA x:=e1;have e2:(js.map λj=>(σ[j]?).getD AK)[i]?=AA (AA v'):=e2;rw[AU] at e2;cases ej:js[i]? with
   |none=>rw[ej] at e2;cases e2
   |some j =>
    rw[ej] at e2;have e2:AA ((σ[j]?).getD AK)=AA (AA v'):=e2;have hj:X.N[j]?=AA x:=by have q:=congrArg (λl=>l[i]?) n.slot;simp only[AU,e1,ej,GR] at q;exact(BH q).symm
    have hv:σ[j]?=AA (AA v'):=by
     cases es:σ[j]? with
     |none=>rw[es] at e2;cases e2
     |some o=>rw[es] at e2;exact e2
    have aI:x∈CN:=BJ e1;have{m0,hn0,sF}:=I.loc;have vis:ZK X.env.scope x:=by
     rcases n.vis x aI with k|k
     .exact .inr (.inl k)
     .exact .inr (.inr k)
    have{u,r,lk}:=sF j x v' hj hv vis;refine{u,r,.inr {.inr (n.fr x aI),?_}};have{c,hc}:=n.has aI;refine{c,hc,?_};rcases lk with⟨k,_⟩|⟨_,c',XZ,z⟩
    .rcases n.vis x aI with k'|k'
     .rw[k] at k';cases k'
     .rw[k] at k';cases k'
    .rw[n.cl_of hc] at XZ;cases XZ;have{o,ho,hd}:=z;exact{o,II _ _ ho,hd}
 .have{v,o,ho,hd}:=I.cell x c (n.cl_of e);exact{v,o,II _ _ ho,hd}
 .show(jY js v σ).length=(p::CN).length;unfold jY;rw[BA,BA,AJ,hl]
theorem zWN(n:LamNm X scope cl p CN js)(I:Inv X AF σ H s)(hA:A.frames=AA X.stack)(hr:Room 1 A) (ho:s.heap.get? f=AA (M6 "<lambda>" q EM body scope cl pm c' R6)) (LU:s.heap.CodeRec (.ref c') q) (PL:OG (fD "<lambda>" q EM body scope cl pm (.ref c') R6) {[u],[]}=pure [(p,u)]) (hb:PE (fV X A q scope cl (p::CN) f (.ref c') s H) body t) (r:RelV v u) (hq:t (jY js v σ) H Q) : IE (A7 X.prog X.w) A (.call (.ref f) {[u],[]}) (λr s'=>∃u',r=.ok (.ret u')/\CE X.stack X.prog X.w H s Q u' s') s:=by refine PySem.W.kla_callFunE (by have:=hr.dp;lia) ho rfl n.co n.gen rfl LU ?_;rw[PL];refine wpAny_pure ?_;refine wpAny_newFunctionEnv n.nocell (λy hy=>by rw[A1.mp hy];exact n.loc) (λIS jD wW=>{I.nolimit.fresh _ wW,?_}) n.kind;have II:=λb o e=>wW.extBut b o (CF (BB e)) (AG _ e);have I1:=zTB (q:=q) (f:=f) (cd:=.ref c') (tk:=s.toks+1) n I hA hr.hd jD II r;refine PySem.W.kla_codeExpr (CZ (hb [] _ _ _ _ I1 hq) (λu' s' h=>?_) λe s' h=>h.elim);have{v',H',J,rv,qv}:=h;exact{u',rfl,v',H',J.os,J.bare,J.base,J.hok,rv,qv}
end
end _L
namespace _L
open PySem PySem.Spec PyProof.Rows PySem.W
theorem Paired.perm{α β:Type}{F:α->β->Prop}{us ws:List β}(p:ws.Perm us):∀{xs:List α},Paired F xs us->∃ys,ys.Perm xs/\Paired F ys ws:=by
 induction p with
 |nil=>intro xs r;cases r;exact{[],GF _,.nil}
 |cons a _ ih =>
  intro xs r;cases r with
  |cons h t=>have{ys,q,r'}:=ih t;exact{_::ys,q.cons _,.cons h r'}
 |swap a b l =>
  intro xs r;cases r with
  |cons h t =>
   cases t with
   |cons h' t'=>exact{_::_::_,H9 _ _ _,.cons h' (.cons h t')}
 |trans _ _ bU ih2=>intro xs r;have{ys,q,r'}:=ih2 r;have{zs,q2,r2}:=bU r';exact{zs,q2.trans q,r2}
theorem pAL:∀{kz:List Int},Vals ys us->Paired (λ(a:Int×V) (b:Int×AH)=>a.1=b.1/\RelV a.2 b.2) (kz.zip ys) (kz.zip us):=by
 intro kz r;induction kz generalizing ys us with
 |nil=>exact .nil
 |cons k kz ih=>cases r with
  |nil=>exact .nil
  |cons h t=>exact .cons {rfl,h} (ih t)
theorem pAM:∀{a:List (Int×V)} {b:List (Int×AH)},Paired (λ(a:Int×V) (b:Int×AH)=>a.1=b.1/\RelV a.2 b.2) a b->Vals (a.map GK) (b.map GK)/\a.map Q4=b.map Q4
 |_,_,.nil=>{.nil,rfl}
 |_,_,.cons h t=>by have{h1,h2}:=pAM t;exact{.cons h.2 h1,by rw[AV,AV,h.1,h2]}
def cR(t:Hp->TE)(js:List Nat)(σ:St):List V->List Int->Hp->(List Int->Hp->Prop)->Prop
 |[],acc,H,R=>R acc H
 |y::ys,acc,H,R=>t H (jY js y σ) H λv H'=>∃k,v=.int k/\cR t js σ ys (acc++[k]) H' R
theorem yE4{h:CM}(a:h.Ns L m)(b:h.Ns L m'):m=m':=by have{o,es,ep,e,d,_,f}:=a;have{o',aQ,lZ,e',d',_,f'}:=b;rw[e] at e';cases e';rw[d] at d';cases d';funext x;rw[<-f x,f' x]
section
structure Mine(X:Cx)(AF:List (AT×IZ))(b:AT):Prop where
 loc:b≠X.env.locals
 fs:b∉X.fs
 ab:X.s₀.heap.objs.size<=b
 bs:X.base.get? b=AK
 cel:∀x c,X.env.cells.lookup x=AA c->c≠b
 pin:∀p∈X.pn++AF,p.1≠b
theorem Inv.mine(I:Inv X AF σ H s)(h:s.heap.objs.size<=b):Mine X AF b where
 loc:=FG (AO I.lt h)
 fs:=I.nofs h
 ab:=AW I.sz h
 bs:=Z2 (AW (AW I.ok.bsz I.sz) h)
 cel:=λx c e z=>by have{v,o,ho,_}:=I.cell x c e;subst z;exact GJ _ (AO (BB ho) h)
 pin:=λp hp z=>by subst z;exact GJ _ (AO (BB (I.pin p hp).1) h)
theorem Inv.stkNo(I:Inv X AF σ H s)(m:Mine X AF b):b∉SO X.stack:=λhb=>by
 rcases A8.mp (I.stkSub b hb) with z|z
 .exact m.loc z
 .exact m.fs z
theorem Inv.unpin(I:Inv X (p::AF) σ H s):Inv X AF σ H s :={I.ok,I.os,I.bare,I.base,I.loc,I.cell,I.free,I.freeC,λq hq=>I.pin q ((BU.mp hq).elim (C1 _) λz=>BO _ (A5 _ z)),I.hok,I.len}
end
def fO(Q:VK)(ys:List V):List Int->Hp->Prop:=λkz H=>∀ps:List (Int×V),ps.Perm (kz.zip ys)->(ps.Pairwise λa b=>a.1<=b.1)->∀D,H D=AK->Q (.ref D) (D4 H D (.lst (ps.map GK)))
section
theorem zTC{P:fG->AQ->Prop}{E:AH->AQ->Prop} (I:Inv X AF σ H s) (ma:Mine X AF a) (mk:Mine X AF kS) (Dd:kS≠a) (ea:s.heap.get? a=AA (EW "list" #[] e1)) (ek:s.heap.get? kS=AA (EW "list" kA e)) (na:H a=AK) (nk:H kS=AK) (hk:IH kA.toList kz) (EU:kz.length=CK.length) (gY:CK.length<64) (rv:Vals ys CK) (hq:fO Q ys kz H) (hP:∀s',EP X AF σ Q (.ref a) s'->P (.done (.ret .none)) s') : BE (A7 X.prog X.w) A (ksk_end a AD CK.toArray e1 (.ref kS) kA) P E s:=by
 have{m,F}:=I.fr;have N:News X.base X.env.locals s.heap ((t7 X.base s.heap X.env.locals).filter (λp=>decide (p.1≠kS/\p.1≠a))++[(kS,EW "list" kA e),(a,EW "list" #[] e1)]):=λp hp=>by
  rcases BU.mp hp with hp|hp
  .exact zUQ p (DG.mp hp).1
  .rcases A8.mp hp with rfl|hp
   .exact{ek,mk.loc,mk.bs}
   .rw[A1.mp hp];exact{ea,ma.loc,ma.bs}
 refine ksk_end_ (b:=AD) F N Dd (λp hp=>(of_decide_eq_true (DG.mp hp).2).1) (λp hp=>(of_decide_eq_true (DG.mp hp).2).2) hk EU gY λh' tk out c F' N' ko=>hP _ ?_;have{ps,pp,eo,pw}:=ko;have{qs,qp,qr}:=Paired.perm pp (pAL (kz:=kz) rv);have{r1,r2}:=pAM qr;have dN:∀b ob,b≠X.env.locals->b≠kS->b≠a->s.heap.get? b=AA ob->h'.get? b=AA ob:=λb ob h1 h2 h3 eb=>by
  cases g:X.base.get? b with
  |some u=>have:=I.bk b u g;rw[eb] at this;cases this;exact F'.keep b _ g
  |none=>exact(N' (b,ob) (A5 _ (DG.mpr {zNQ h1 g eb,decide_eq_true {h2,h3}}))).1
 have hL:∃oL,h'.get? X.env.locals=AA oL:=let ⟨oL,_,_,eL,_⟩:=F'.ns;{oL,eL};have rT:∀b u,H b=AA u->b≠X.env.locals/\b≠kS/\b≠a:=λb u eb=>{λz=>(by rw[z,I.free] at eb;cases eb),λz=>(by rw[z,nk] at eb;cases eb),λz=>(by rw[z,na] at eb;cases eb)};have up:∀b u,H b=AA u->D4 H a (.lst (qs.map GK)) b=AA u:=λb u eb=>by rw[ET (rT b u eb).2.2];exact eb
 have hz:(qs.map GK).length<64:=by rw[AJ,qp.length_eq,jW,EU,rv.length];exact AS (mF _ _) gY
 refine{.ref a,D4 H a (.lst (qs.map GK)),I.step (g':=s.gens) (d':=s.drawn) (t':=tk) (ch:=[kS,a]) (λb hb=>?_) (λb ob h1 _ hc eb _=>dN b ob h1 (λz=>hc (by simp[z])) (λz=>hc (by simp[z])) eb)
  (λb ob h1 _ hc eb _=>{ob.slots,dN b ob h1 (λz=>hc (by simp[z])) (λz=>hc (by simp[z])) eb}) (λb ob hc eb n=>by rw[ET (λz=>hc (by simp[z]))];exact n) (λb ob hc eb=>?_)
  (λb xs eb=>up b _ eb) (λb ob u eb=>up b _ eb) (λb t ps eb=>{#[],by rw[up b _ eb];simp}) (λm0 xF=>by rw[yE4 xF F.ns];exact F'.ns) (λb u eb=>?_) I.bare,rfl,hq qs qp ?_ a na}
 .rcases A8.mp hb with rfl|hb
  .exact{.inr mk.ab,mk.loc,mk.cel,mk.pin}
  .rw[A1.mp hb];exact{.inr ma.ab,ma.loc,ma.cel,ma.pin}
 .by_cases h1:b=X.env.locals
  .subst h1;exact hL
  .exact{ob,dN b ob h1 (λz=>hc (by simp[z])) (λz=>hc (by simp[z])) eb}
 .by_cases hb:b=a
  .subst hb;rw[G9] at eb;cases eb;refine{by rw[GB];lia,out.toList,c,by rw[eo];exact r1,?_};have:=(N' (b,EW "list" out c) (.head _)).1;simpa using this
  .rw[ET hb] at eb;refine(I.hok b u eb).stay (λd v hc z=>?_) (λd z=>up d _ z) (λd xs z=>up d _ z) λd ob x z=>up d _ z;rcases hc with rfl|hc
   .have{h1,h2,h3}:=rT d u eb;exact dN d v h1 h2 h3 z
   .have{h1,h2,h3}:=rT d _ hc;exact dN d v h1 h2 h3 z
 .have:(qs.map Q4).Pairwise (·<=·):=by rw[r2,D3];exact pw.imp λh=>by simpa using h
  rw[D3] at this;exact this
end
section
theorem zQQ{P:fG->AQ->Prop}{E:AH->AQ->Prop}(n:LamNm X scope cl p CN js) (I:Inv X ((f,kla_obj "<lambda>" q EM body scope cl pm c' R6)::AF) σ H s) (ma:Mine X ((f,kla_obj "<lambda>" q EM body scope cl pm c' R6)::AF) a) (mk:Mine X ((f,kla_obj "<lambda>" q EM body scope cl pm c' R6)::AF) kS) (Dd:kS≠a) (ea:s.heap.get? a=AA (EW "list" #[] e1)) (ek:s.heap.get? kS=AA (EW "list" #[] 0)) (na:H a=AK) (nk:H kS=AK) (hc:H c'=AA (.frz o (.own c'))) (ho:o.data=.fields vs) (hv:vs[1]?=AA (.str q tq)) (gY:CK.length<64) (rv:Vals ys CK) (hA:A.frames=AA X.stack) (hr:Room 1 A) (PL:∀u,OG (kla_fn "<lambda>" q EM body scope cl pm (.ref c') R6) {[u],[]}=pure [(p,u)]) (hb:∀s H,PE (fV X A q scope cl (p::CN) f (.ref c') s H) body (t H)) (UX:cR t js σ ys [] H (fO Q ys)) (hP:∀s',EP X AF σ Q (.ref a) s'->P (.done (.ret .none)) s') : BE (A7 X.prog X.w) A (ksk_rest a (.ref f) AD CK.toArray e1 (.ref kS)) P E s:=by
 refine AB (FL ?_)
 first
  |rw[List.forIn_toArray]
  |(rw[<-LG];simp only[List.toList_toArray])
  |rw[<-LG]
 refine AB (ksk_fold (λi s'=>∃kA e H' acc,Inv X ((f,kla_obj "<lambda>" q EM body scope cl pm c' R6)::AF) σ H' s'/\s'.heap.get? a=AA (EW "list" #[] e1)/\s'.heap.get? kS=AA (EW "list" kA e)/\H' a=AK/\H' kS=AK /\
  IH kA.toList acc/\acc.length=i/\cR t js σ (ys.drop i) acc H' (fO Q ys)/\H' c'=AA (.frz o (.own c'))) CK 0 s
  {#[],0,H,[],I,ea,ek,na,nk,by simpa using IntsAre.nil,rfl,UX,hc} ?step ?done)
 case step =>
  intro j x s' hx zz';have{kA,e,H',acc,I',Dl,pO,sA,Cw,hk,EU,oY,XZ}:=zz';simp only[ED] at EU oY ⊢;have hj:j<CK.length:=(AR.mp hx).1;have hy:j<ys.length:=by rw[rv.length];exact hj
  have{u,hu,r}:=rv.get (BP hy);rw[hx] at hu;cases hu;rw[FN hy] at oY;have LU:s'.heap.CodeRec (.ref c') q:={c',o,vs,tq,rfl,(I'.hok _ _ XZ).1,ho,hv};have hfo:=(I'.pin _ (BO _ (.head _))).1
  have xX:BE (A7 X.prog X.w) A (call (.ref f) [x]) (λu' gK=>CE X.stack X.prog X.w H' s' (λv Dp=>∃k,v=.int k/\cR t js σ (ys.drop (j+1)) (acc++[k]) Dp (fO Q ys)) u' gK) (λ_ _=>False) s' :=
   TH (MD (zWN n I' hA hr hfo LU (PL x) (hb s' H') r oY) λr gK h=>by
    have{u',rfl,ce}:=h
    exact ce)
  refine AB (GP (CZ xX (λu' gK he=>?_) λ_ _ hF=>hF.elim));have{v,Dp,os,bare,un,hok,rv',k,rfl,Ng}:=he;obtain⟨t2,rfl⟩:∃t2,u'=.int k t2:=rv';have{hh,g,d,tk2,Lc}:=gK;obtain rfl:Lc=s'.os:=os;have I2:=I'.call (h':=hh) (g':=g) (d':=d) (t':=tk2) (ch:=[]) un hok bare (λb z=>absurd z 'S');have ek2:=un.keep kS _ pO Cw (I'.stkNo mk) 'S';have ea2:=un.keep a _ Dl sA (I'.stkNo ma) 'S';have nk2:=un.free kS _ pO Cw 'S';have na2:=un.free a _ Dl sA 'S';have gU:=un.frzs _ _ _ XZ
  have hz:kA.size<=CK.length:=by have h1:=hk.length;rw[KY] at h1;lia
  try dsimp only
  have s1:=GT hh kS (DS (·.push (.int k t2)));obtain⟨e2,Ny⟩:∃c2,(hh.update kS (DS (·.push (.int k t2)))).get? kS=AA (EW "list" (kA.push (.int k t2)) c2):={_,XH ek2 (·.push (.int k t2))};refine AB (N1 ek2 rfl ?_ (by rw[GB];lia) (AW (CU (EF ..)) (by rw[GB];lia)));have I3:=I2.turned (t':=tk2) (it:=kS) (λb ob hb eb=>(s1.2 b hb).trans eb) nk2 mk.loc (.inr mk.ab) mk.cel mk.pin;have el:(kA.push (RM k t2)).toList=kA.toList++[RM k t2]:=by simp
  exact wpAny_pure {rfl,kA.push (.int k t2),e2,Dp,acc++[k],I3,(s1.2 a Dd.symm).trans ea2,Ny,na2,nk2,by rw[el];exact ksk_snoc hk,by rw[BC,EU];rfl,Ng,gU}
 case done =>
  intro s' zz';have{kA,e,H',acc,I',Dl,pO,sA,Cw,hk,EU,oY,XZ}:=zz';rw[ED] at EU oY;rw[J6 (by rw[rv.length];exact AL _)] at oY
  try dsimp only
  refine AB (fC pO rfl ?_);refine zTC I'.unpin {ma.loc,ma.fs,ma.ab,ma.bs,ma.cel,λp hp=>ma.pin p ?_} {mk.loc,mk.fs,mk.ab,mk.bs,mk.cel,λp hp=>mk.pin p ?_} Dd Dl pO sA Cw hk EU gY rv oY hP
  all_goals exact(BU.mp hp).elim (C1 _) λz=>BO _ (A5 _ z)
end
section
theorem zTD(n:LamNm X scope cl p CN js) (I:Inv X ((f,kla_obj "<lambda>" q EM body scope cl pm c' R6)::AF) σ H s) (hc:H c'=AA (.frz o (.own c'))) (ho:o.data=.fields vs) (hv:vs[1]?=AA (.str q tq)) (hl:SqL X.K H l ys) (gY:ys.length<64) (hr:Room 3 X.A) (PL:∀u,OG (kla_fn "<lambda>" q EM body scope cl pm (.ref c') R6) {[u],[]}=pure [(p,u)]) (hb:∀s H,PE (fV X X.A.in1.in1 q scope cl (p::CN) f (.ref c') s H) body (t H)) (UX:cR t js σ ys [] H (fO Q ys)) : BE (A7 X.prog X.w) X.A (call (.builtin "sorted") [.ref l] [(IW "key",.ref f)]) (EP X AF σ Q) X.xe s:=by
 have{CK,rv,pl,z}:=I.list hl;have EU:=rv.length;refine call_function_entry_kw kind_sorted plain_sorted entry_sorted (ksk_s1 _ _) ?_;refine AB (m:=checkCount "sorted" 1 1 _) (wpAny_pure ?_);refine AB (collect_list pl.isList ?_ (by rw[GB];lia));refine AB (R8 ?_ (by rw[GB];lia));have NK:((s.heap.push (EW "list" #[] 0)).update s.heap.objs.size (DS (·++CK.toArray))).objs.size=s.heap.objs.size+1:=by rw[M9,YQ]
 have lQ:(((s.heap.push (EW "list" #[] 0)).update s.heap.objs.size (DS (·++CK.toArray))).push (EW "list" CK.toArray 0)).get? (s.heap.objs.size+1)=AA (EW "list" CK.toArray 0):=by rw[<-NK];exact AX _ rfl
 have keep:∀b o,s.heap.get? b=AA o->(((s.heap.push (EW "list" #[] 0)).update s.heap.objs.size (DS (·++CK.toArray))).push (EW "list" CK.toArray 0)).get? b=AA o:=λb o q=>by have JB:b<s.heap.objs.size:=BB q;rw[MI _ _ _ (by rw[NK];exact CF (J9 JB)),O3 _ _ _ _ (CF JB),MI _ _ _ (CF JB)];exact q
 have MU:(((s.heap.push (EW "list" #[] 0)).update s.heap.objs.size (DS (·++CK.toArray))).push (EW "list" CK.toArray 0)).objs.size=s.heap.objs.size+2:=by rw[YQ,NK]
 show BE _ _ _ _ _ { s with heap:=((s.heap.push (EW "list" #[] 0)).update s.heap.objs.size (DS (·++CK.toArray))).push (EW "list" CK.toArray 0) };rw[NK];generalize hg0:((s.heap.push (EW "list" #[] 0)).update s.heap.objs.size (DS (·++CK.toArray))).push (EW "list" CK.toArray 0)=g0 at lQ keep MU;refine AB (C9 (wpAny_call_entry_kw slot_list_sort {_,lQ,rfl} entry_list_sort ?body (ksk_l1 _ _)))
 case body =>
  show BE (A7 X.prog X.w) X.A.in1.in1 (GG.«list.sort» {[.ref (s.heap.objs.size+1)],[(IW "key",.ref f)]}) _ _ _;rw[ksk_t1];have s1:=GT g0 (s.heap.objs.size+1) (DS λ_=>(#[]:Array AH));obtain⟨e1,sE⟩:∃e1,(g0.update (s.heap.objs.size+1) (DS λ_=>(#[]:Array AH))).get? (s.heap.objs.size+1)=AA (EW "list" #[] e1):={_,XH lQ λ_=>#[]};refine AB (fC lQ rfl ?_);refine AB (N1 lQ rfl ?_ (by rw[AZ,GB];lia) (BQ _));refine AB (WK sE rfl ?_);refine AB (MX ?_ (by show CK.length<=_;rw[GB];lia));refine AB (R8 ?_ (BQ _));refine C9 ?_;have hg1:(g0.update (s.heap.objs.size+1) (DS λ_=>(#[]:Array AH))).objs.size=s.heap.objs.size+2:=by rw[M9,MU]
  have lI:∀b o,s.heap.get? b=AA o->(((g0.update (s.heap.objs.size+1) (DS λ_=>(#[]:Array AH))).push (EW "tuple" CK.toArray 0)).push (EW "list" #[] 0)).get? b=AA o:=λb o e =>
   AG _ (AG _ ((s1.2 b (CF (J9 (BB e)))).trans (keep b o e)))
  have Ni:((g0.update (s.heap.objs.size+1) (DS λ_=>(#[]:Array AH))).push (EW "tuple" CK.toArray 0)).objs.size=s.heap.objs.size+3:=by rw[YQ,hg1]
  have I2 :=
   I.un (t':=s.toks) (Un.kept lI) (I.hok.kept lI)
  refine zQQ n I2 (I.mine (HQ _)) (I.mine (by rw[Ni];exact A3 _ 3)) (by rw[Ni];intro z;have:s.heap.objs.size+3=s.heap.objs.size+1:=z;lia)
   (AG _ (AG _ sE)) (AX _ rfl) (I.hok.fresh (HQ _)) (I.hok.fresh (by rw[Ni];exact A3 _ 3)) hc ho hv (by rw[<-EU];exact gY) rv I.ok.frames hr.in1.in1 PL hb UX λs' h=>{_,rfl,?_}
  exact wpAny_pure {_,rfl,h}
end
theorem LamStp.rd(st:LamStp T q H H')(h:H a=AA u)(hu:∀ps,u≠.tbl q ps):H' a=AA u:=by
 rcases st with rfl|⟨ps,bT,c',o,hT,hc,pB,rfl⟩
 .exact h
 .rw[ET (λz=>by rw[z,hc] at h;cases h),ET (λz=>by rw[z,hT] at h;cases h;exact hu _ rfl)];exact h
theorem LamStp.sq{K:Frag}(st:LamStp T q H H')(h:SqL K H l ys):SqL K H' l ys :=h.imp (λz=>z.imp (λz=>st.rd z λ_ y=>by cases y) (λq0=>by have{o,z}:=q0;exact{o,st.rd z λ_ y=>by cases y})) id
def Pw(K:Frag)(T:AT)(q:CD)(tl:TE)(t:Hp->TE)(js:List Nat):TE:=λσ H Q=>tl σ H λx H1=>∃l ys,x=.ref l/\SqL K H1 l ys/\ys.length<64/\∀H2,LamStp T q H1 H2->cR t js σ ys [] H2 (fO Q ys)
section
theorem Tl(hm:X.mg "sorted"=AK)(hl:PE X l tl)(n:LamNm X scope cl p CN js)(hr:Room 3 X.A)(ZS:X.env.code=.ref c)(C:CodeHd X.base c T)(tb:TB X.K T q)(hq:X.env.qual++("<lambda>":CD)=q)(o8:defaultsOf EM X.env=([],[])) (PL:∀pm c' R6 u,OG (kla_fn "<lambda>" q EM body scope cl pm (.ref c') R6) {[u],[]}=pure [(p,u)]) (hb:∀f c' s H,PE (fV X X.A.in1.in1 q scope cl (p::CN) f (.ref c') s H) body (t H)) (hg:Gl X "sorted":=by rfl) (he:DC pos (AM [l] X.env)=(AD,eval l X.env)::DC pos (AM [] X.env):=by rfl) (JQ:(DC pos (AM [l] X.env)).any (·.1)=AD:=by rfl) (bV:AM [l] X.env=(AD,eval l X.env)::AM [] X.env:=by rfl) : PE X (.Call (.Name "sorted" p1) [l] [{AA "key",.Lambda EM body scope YG,RH}] pos) (Pw X.K T q tl t js):=by
 intro AF s σ H Q I h;refine ID (kP I hg hm rfl ?_);refine callWith_kw (G6 (SK hl HK bV pos AF s σ H (λvs H1=>∃l ys,vs=[.ref l]/\SqL X.K H1 l ys/\ys.length<64/\∀H2,LamStp T q H1 H2->cR t js σ ys [] H2 (fO Q ys)) I ?_) λus s1 h1=>?_) he JQ rfl rfl
 .have h':=h;show tl σ H λx H1=>∃l ys,[x]=[.ref l]/\SqL X.K H1 l ys/\ys.length<64/\∀H2,LamStp T q H1 H2->cR t js σ ys [] H2 (fO Q ys);have ee:(λx H1=>∃l ys,[x]=[V.ref l]/\SqL X.K H1 l ys/\ys.length<64/\∀H2,LamStp T q H1 H2->cR t js σ ys [] H2 (fO Q ys))=λx H1=>∃l ys,x=V.ref l/\SqL X.K H1 l ys/\ys.length<64/\∀H2,LamStp T q H1 H2->cR t js σ ys [] H2 (fO Q ys):=by funext x H1;simp only[Z1,and_true]
  rw[ee];exact h'
 .have{vs,H1,I1,r,l',ys,rfl,hs,gY,hk}:=h1;have{u,rfl,ru}:=X7 r;cases ru;refine wpAny_evalAll_cons (AB (zWM I1 ZS C tb hq n.clos o8 λf c' pm R6 s2 H2 o I2 st hc LU NK=>AB (IP (wpAny_pure (wpAny_evalAll_nil ?_)))));have{c2,o2,vs2,tq,e2,g2,d2,v2}:=LU;cases e2;have:=(I2.hok _ _ hc).1;rw[g2] at this;cases this;exact zTD n I2 hc d2 v2 (st.sq hs) gY hr (PL pm c' R6) (hb f c') (hk H2 st)
end
end _L
namespace _L
open PySem PySem.Spec PyProof.Rows
def yE5(ge:G)(ds:List D)(y:D):Out Int:=(ge (.val y::ds.map .val)).bind λr=>match r.1 with|.int k=>.ok k|_=>.bad
def iC(ge:G)(ds:List D):List D->Out (List Int)
 |[]=>.ok []
 |y::ys=>(yE5 ge ds y).bind λk=>(iC ge ds ys).bind λks=>.ok (k::ks)
noncomputable def shareJ:List Nat->Ev->Ev
 |[],E=>E
 |j::js,E=>shareJ js (match E[j]? with|some (.own _ d)=>E.set j (.val d)|_=>E)
noncomputable def valsJ(E:Ev):List Nat->Option (List D)
 |[]=>AA []
 |j::js=>match E[j]? with
  |some (.val d)=>(valsJ E js).map (d::·)
  |_=>AK
def cL(kz:List Int)(ys:List D)(qs:List (Int×D)):Prop:=qs.Perm (kz.zip ys)/\qs.Pairwise λa b=>a.1<=b.1
section
variable{K:AC}
theorem LamStp.new(s:Sub F H)(st:LamStp T q H H'):∃F',New F H F' H':=by
 rcases st with rfl|⟨ps,bT,c',o,hT,hc,pB,rfl⟩
 .exact{F,.refl s}
 .have hFc:F c'=AK:=by
   cases e:F c' with
   |none=>rfl
   |some u=>rw[s _ _ e] at hc;cases hc
  have ot:∀a,a≠T->a≠c'->D4 (D4 H T (.tbl q bT)) c' (.frz o (.own c')) a=H a:=λa h1 h2=>by rw[ET h2,ET h1]
  have tt:D4 (D4 H T (.tbl q bT)) c' (.frz o (.own c')) T=AA (.tbl q bT):=by rw[ET (FI pB),G9]
  refine{λa=>if a=T then(F T).map λ_=>.tbl q bT else F a,{λa u e hw _ _=>?_,λa e=>?_,λa u e=>?_,λa u e=>?_,λ_ z=>z.elim},λa u e=>?_}
  .rw[ot a (λz=>by rw[z,hT] at e;cases e;exact hw) (λz=>by rw[z,hc] at e;cases e)];exact e
  .by_cases h1:a=T
   .rw[h1,tt] at e;cases e
   .by_cases h2:a=c'
    .rw[h2];exact hc
    .rw[ot a h1 h2] at e;exact e
  .by_cases h1:a=T
   .subst h1;have:=s _ _ e;rw[hT] at this;cases this;exact .inr (.inr {q,ps,bT,rfl,by rw[if_pos rfl,e];rfl})
   .exact .inl (by rw[if_neg h1];exact e)
  .by_cases h1:a=T
   .subst h1;rw[if_pos rfl] at e;cases e1:F a with
    |none=>rw[e1] at e;cases e
    |some v=>exact .inl nofun
   .rw[if_neg h1] at e;exact .inl (by rw[e];exact nofun)
  .dsimp only at e;by_cases h1:a=T
   .subst h1;rw[if_pos rfl] at e;cases e1:F a with
    |none=>rw[e1] at e;cases e
    |some v=>rw[e1] at e;cases e;exact tt
   .rw[if_neg h1] at e;rw[ot a h1 (λz=>by rw[z,hFc] at e;cases e)];exact s a u e
theorem Sim.shareJ:∀(js:List Nat) {F:Hp} {E:Ev},Sim K H₀ τ F H σ E->∃F',Stp (D6 σ E) F H F' H (D6 σ (_L.shareJ js E))/\Sim K H₀ τ F' H σ (_L.shareJ js E)
 |[],F,E,S=>{F,.refl,S}
 |j::js,F,E,S=>by
  unfold _L.shareJ;split
  .rename_i t d e;have{a,F1,_,st,S1,_}:=S.share e;have{F2,st2,S2}:=Sim.shareJ js S1;exact{F2,st.trans st2,S2}
  .exact Sim.shareJ js S
theorem Sim.valsJ(S:Sim K H₀ τ F H σ E):∀{js:List Nat} {ds:List D},_L.valsJ E js=AA ds->∃ws,(js.map λj=>(σ[j]?).getD AK)=ws.map AA/\Reps K F ws ds
 |[],_,e=>by cases e;exact{[],rfl,.nil}
 |j::js,ds,e=>by
  unfold _L.valsJ at e;split at e
  .rename_i d ej;cases e2:_L.valsJ E js with
   |none=>rw[e2] at e;cases e
   |some UD=>rw[e2] at e;cases e;have{ws,h1,h2}:=S.valsJ e2;have{v,hv,hr}:=S.val j d ej;exact{v::ws,by rw[AV,h1,hv];rfl,.cons hr h2}
  .cases e
theorem yE6(hv:_L.valsJ E js=AA ds){R:List Int->Hp->Prop}:∀{ys:List D} {vs:List V} {acc kz:List Int} {F H:Hp},Sim K H₀ τ F H σ E->Reps K F vs ys->iC ge ds ys=.ok kz ->(∀F' H',New F H F' H'->R (acc++kz) H')->cR (λH=>tV K H ge) js σ vs acc H R:= by
 intro ys;induction ys with
 |nil=>intro vs acc kz F H S r e k;cases r;cases e;have:=k F H (.refl S.sub);rw[C5] at this;exact this
 |cons y ys ih =>
  intro vs acc kz F H S r e k;cases r with
  |@cons v _ n8 _ ry rys =>
  have{k1,e1,e}:=pA3 e;have{ks,e2,e}:=pA3 e;cases e;have{rr,e3,e1}:=pA3 e1;have{ws,hws,rws}:=S.valsJ hv;have pA:jY js v σ=(v::ws).map AA:=by unfold jY;rw[hws];rfl
  show tV K H ge (jY js v σ) H _;rw[pA];refine{0,F,(y::ds).map Sl.val,rr.1,rr.2,Sim.args S.sub (.cons ry rws),e3,λv2 F2 H2 st S2 r2=>?_};split at e1
  .rename_i kk ek;cases e1;rw[ek] at r2;obtain rfl:=r2.vI;have n:New F H F2 H2:={{λa o q1 q2 q3 _=>st.keep a o q1 q2 q3 (yR a),st.dom,st.le,λa o z=>(st.new a o z).imp_right λz=>z.imp_right λz=>(yR a z).elim,λ_ z=>z.elim},S2.sub};exact{_,rfl,ih (S.new n) (rys.le n.1.le) e2 λF' H' n'=>by rw[CP];exact k F' H' (n.trans n')}
  .cases e1
theorem yKO:∀{kz:List Int},Reps K F vs ys->Paired (λ(b:Int×D) (a:Int×V)=>a.1=b.1/\Rep K F a.2 b.2) (kz.zip ys) (kz.zip vs):=by
 intro kz r;induction kz generalizing vs ys with
 |nil=>exact .nil
 |cons k kz ih=>cases r with
  |nil=>exact .nil
  |cons h t=>exact .cons {rfl,h} (ih t)
theorem Zc:∀{a:List (Int×D)} {b:List (Int×V)},Paired (λ(b:Int×D) (a:Int×V)=>a.1=b.1/\Rep K F a.2 b.2) a b->Reps K F (b.map GK) (a.map GK)/\a.map Q4=b.map Q4
 |_,_,.nil=>{.nil,rfl}
 |_,_,.cons h t=>by have{h1,h2}:=Zc t;exact{.cons h.2 h1,by rw[AV,AV,h.1,h2]}
theorem Tk (h:∃τ F E ys E1 ds kz,Sim K H₀ τ F H σ E/\gl E=.ok (.lst ys,E1)/\ys.length<64/\_L.valsJ (_L.shareJ js E1) js=AA ds/\iC ge ds ys=.ok kz /\ ∀qs,cL kz ys qs->∀a F' H',Stp (D6 σ E) F H F' H' (D6 σ (_L.shareJ js E1))->Sim K H₀ τ F' H' σ (_L.shareJ js E1)->F' a=AK->H a=AK->OwnAt K F' H' a (.lst (qs.map GK))->¬D6 σ (_L.shareJ js E1) a->Q (.ref a) H') : Pw K T q (tV K H₀ gl) (λH=>tV K H ge) js σ H Q:=by
 have{τ,F,E,ys,E1,ds,kz,S,e1,gY,hv,hk,k}:=h;refine{τ,F,E,_,_,S,e1,λv F1 H1 st1 S1 r1=>?_};cases r1 with
 |@lst l vs _ sq rs =>
 refine{l,vs,rfl,sq.imp S1.sub.rd id,by rw[rs.length];exact gY,λH2 ls=>?_};have{F2,n2}:=ls.new S1.sub;have{F3,KS,S3}:=(S1.new n2).shareJ js;have rs3:=(rs.le n2.1.le).le KS.le;refine yE6 hv S3 rs3 hk λF4 H4 n4 ps pp pw D hD=>?_;rw[G0] at pp;have rs4:=rs3.le n4.1.le;have{qs,qp,qr}:=Paired.perm pp (yKO rs4);have{r5,r6}:=Zc qr;have hF:F4 D=AK:=by
  cases e:F4 D with
  |none=>rfl
  |some u=>rw[n4.2 _ _ e] at hD;cases hD
 have n5:New F4 H4 F4 (D4 H4 D (.lst (ps.map GK))):=pA6 n4.2 (Gr.new hD);have S4:=S3.new n4;have st:=(((st1.trans n2.stp).trans KS).trans n4.stp).trans n5.stp;refine k qs {qp,?_} D F4 _ st (S4.new n5) hF ?_ {_,G9,r5} (S4.fresh hD)
 .have:(qs.map Q4).Pairwise (·<=·):=by rw[r6,D3];exact pw
  rw[D3] at this;exact this
 .exact(((st1.trans n2.stp).trans KS).trans n4.stp:Stp (D6 σ E) F H F4 H4 _).dom D hD
end
section
variable{K:AC}
theorem yE8(k:FlOk K H₀ τ (D6 σ E) F H D' r)(s1:Stp (D6 σ E) F H F1 H1 (D6 σ E1))(S1:Sim K H₀ τ F1 H1 σ E1)(w1:Walks K J F1 ds)(hg:UR t g ds E1=.ok r) : ∃W:Nat->Nat->St->Hp->Prop,(∃m,W 0 m σ H1)/\∀i m σ H,W i m σ H ->(J.stop i H/\D'.nx σ H)\/(J.go i H/\∃N:St->Hp->Prop,(∀σ' H',N σ' H'->∃m',m'<m/\W (i+1) m' σ' H')/\∀x H',J.yld i H x H'->tG K H₀ t x σ H' λσ2 H2=>tS K H₀ g { D' with nx:=N,ct:=N,bk:=D'.nx } σ2 H2):=by
 refine{λi m σ2 H2=>m=ds.length-i/\i<=ds.length/\∃F2 E2,Sim K H₀ τ F2 H2 σ2 E2/\Stp (D6 σ E) F H F2 H2 (D6 σ2 E2)/\Le F1 F2/\UR t g (ds.drop i) E2=.ok r,{_,rfl,BQ _,F1,E1,S1,s1,.refl _,by rw[OP];exact hg},?_};intro i m σ2 H2 zz';have{rfl,De,F2,E2,S2,s2,l2,h2}:=zz';have{w2,w3,w4}:=w1 i F2 H2 l2 S2.sub;by_cases hi:i<ds.length
 .obtain⟨d,hd⟩:∃d,ds[i]?=AA d:={ds[i],by simp[hi]};have xR:ds.drop i=d::ds.drop (i+1):=by
   rw[FN hi];have:ds[i]=d:=by rw[BP hi] at hd;exact BH hd
   rw[this]
  rw[xR,UR] at h2;have{E3,e3,h2}:=pA3 h2;have{q,e4,h2}:=pA3 h2;refine .inr {w2 hi,λσ5 H5=>∃F5 E5,Sim K H₀ τ F5 H5 σ5 E5/\Stp (D6 σ E) F H F5 H5 (D6 σ5 E5)/\Le F1 F5/\UR t g (ds.drop (i+1)) E5=.ok r,λσ5 H5 ⟨F5,E5,a1,a2,a3,a4⟩=>{_,by omega,rfl,hi,F5,E5,a1,a2,a3,a4},λx H' y=>?_};have{F3,n3,r3}:=w4 x H' d hd y;refine{τ,F3,E2,d,E3,S2.new n3,r3,e3,λσ4 S4 h4 _=>{τ,F3,E3,q,S4,e4,?_}};have s4:=(s2.trans n3.stp).weak h4;have l3:=l2.trans n3.1.le;cases q with
  |nx E5=>exact λσ5 F5 H5 s5 S5=>{F5,E5,S5,s4.trans s5,l3.trans s5.le,h2}
  |ct E5=>exact λσ5 F5 H5 s5 S5=>{F5,E5,S5,s4.trans s5,l3.trans s5.le,h2}
  |bk E5=>cases h2;exact λσ5 F5 H5 s5 S5=>k σ5 F5 H5 (s4.trans s5) S5
  |rt b d E5=>cases h2;exact λσ5 v F5 H5 s5 S5 q=>k σ5 v F5 H5 (s4.trans s5) S5 (q.pre s4)
 .have hi:i=ds.length:=by omega
  rw[J6 'O',UR] at h2;cases h2;exact .inl {w3 hi,k σ2 F2 H2 s2 S2}
end
def pX(gl:G)(js:List Nat)(ge:G):Ev->Out ((List D×List Int)×Ev):=λE=>(gl E).bind λp=>match p.1,valsJ (shareJ js p.2) js with
 |.lst ys,AA ds=>if ys.length<64 then(iC ge ds ys).bind λkz=>.ok ((ys,kz),shareJ js p.2) else .bad
 |_,_=>.bad
theorem Um(h:pX gl js ge E=.ok ((ys,kz),E2)) : ∃E1 ds,gl E=.ok (.lst ys,E1)/\ys.length<64/\valsJ (shareJ js E1) js=AA ds/\iC ge ds ys=.ok kz/\E2=shareJ js E1:=by
 have{p,e,h}:=pA3 h;have{d,E1}:=p;cases hv:valsJ (shareJ js E1) js with
 |none=>rw[hv] at h;cases d<;>cases h
 |some ds =>
  rw[hv] at h;cases d with
  |lst ys' =>
   dsimp only at h;by_cases hl:ys'.length<64
   .rw[if_pos hl] at h;have{kz',e3,h}:=pA3 h;cases h;exact{E1,ds,e,hl,hv,e3,rfl}
   .rw[if_neg hl] at h;cases h
  |_=>cases h
noncomputable def hush:List Nat->Ev->Ev
 |[],E=>E
 |k::ks,E=>hush ks (match E[k]? with|some (.val _)=>E.set k .no|_=>E)
theorem Sim.hush{K:AC}:∀(ks:List Nat) {E:Ev},Sim K H₀ τ F H σ E->Sim K H₀ τ F H σ (_L.hush ks E)/\∀a,D6 σ (_L.hush ks E) a->D6 σ E a
 |[],_,S=>{S,λ_ h=>h}
 |k::ks,E,S=>by
  rw[_L.hush];split
  .rename_i d e;have hk:=(AR.mp e).1;have II:∀(j:Nat) s,(E.set k .no)[j]?=AA s->s≠.no->E[j]?=AA s:=λj s q n=>by
    by_cases hj:k=j
    .subst hj;rw[BF hk] at q;exact absurd (BH q).symm n
    .rw[A6 hj] at q;exact q
   have S1:Sim K H₀ τ F H σ (E.set k .no):={S.sub,by rw[BY];exact S.len,λj d q=>S.val j d (II j _ q (λz=>by cases z)),λj t d q=>S.own j t d (II j _ q (λz=>by cases z)),
    λi j t u d d' a q1 q2=>S.inj i j t u d d' a (II i _ q1 (λz=>by cases z)) (II j _ q2 (λz=>by cases z))}
   have{S2,h2}:=Sim.hush ks S1;refine{S2,λa h=>?_};have{j,t,d,q1,q2}:=h2 a h;exact{j,t,d,II j _ q1 (λz=>by cases z),q2}
  .exact Sim.hush ks S
open Classical in
def zF(gl:G)(js:List Nat)(ge:G):G:=λE=>(pX gl js ge E).bind λp=>if h:∃zs,∀qs,cL p.1.2 p.1.1 qs->qs.map GK=zs then .ok (.lst h.choose,p.2) else .bad
open Classical in
def yO(gl:G)(js:List Nat)(ge:G)(t:Tg)(g:GS)(ks:List Nat):GS:=λE=>(pX gl js ge E).bind λp=>if h:∃E1,∀qs,cL p.1.2 p.1.1 qs->∃E2,UR t g (qs.map GK) p.2=.ok (.nx E2)/\hush ks E2=E1 then .ok (.nx h.choose) else .bad
section
structure LamOk(X:Cx)(scope:JJ)(cl:List (CD×AT))(x:CD)(CN:List CD)(js:List Nat)(q:CD)(EM:OM)(body:D0)(c T:AT):Prop where
 nm:LamNm X scope cl x CN js
 room:Room 3 X.A
 code:X.env.code=.ref c
 hd:JS X.base c T
 tb:TB X.K T q
 qual:∃n:CD,X.env.qual=n/\n++("<lambda>":CD)=q
 dflt:defaultsOf EM X.env=([],[])
 bind:∀pm c' R6 u,OG (fD "<lambda>" q EM body scope cl pm (.ref c') R6) {[u],[]}=pure [(x,u)]
theorem LamOk.qu(n:LamOk X scope cl x CN js q EM body c T):X.env.qual++("<lambda>":CD)=q:=by have{m,h1,h2}:=n.qual;rw[h1];exact h2
theorem yAX(hm:X.mg "sorted"=AK)(hl:VE X l gl)(n:LamOk X scope cl x CN js q EM body c T)(hb:∀f c' s H,VE (fV X X.A.in1.in1 q scope cl (x::CN) f (.ref c') s H) body ge)(hg:Gl X "sorted":=by rfl) (he:DC pos (AM [l] X.env)=(AD,eval l X.env)::DC pos (AM [] X.env):=by rfl) (JQ:(DC pos (AM [l] X.env)).any (·.1)=AD:=by rfl) (bV:AM [l] X.env=(AD,eval l X.env)::AM [] X.env:=by rfl) : FE X (.Call (.Name "sorted" p1) [l] [{AA "key",.Lambda EM body scope YG,RH}] pos) (zF gl js ge) :=(Tl hm hl n.nm n.room n.code n.hd n.tb n.qu n.dflt n.bind hb hg he JQ bV).imp λσ H Q h=>by
  have{τ,F,E,d,E',S,hg,k}:=h;obtain⟨⟨⟨ys,kz⟩,E2⟩,e1,hg⟩:=pA3 hg;have{E1,ds,a1,a2,a3,a4,rfl}:=Um e1;split at hg
  .rename_i h;cases hg;exact Tk {τ,F,E,ys,E1,ds,kz,S,a1,a2,a3,a4,λqs hq a F' H' st S' n1 n2 ow no=>k a F' H' st S' n1 n2 (by rw[<-h.choose_spec qs hq];exact ow) no}
  .cases hg
theorem yAY(hp:V8 (A7 X.prog X.w) X.A X.env X.xe)(hc:X.calm=AN)(hm:X.mg "sorted"=AK)(hl:VE X l gl)(n:LamOk X scope cl x CN js q EM body c T) (hb:∀f c' s H,VE (fV X X.A.in1.in1 q scope cl (x::CN) f (.ref c') s H) body ge) (hgt:VG X tg t) (hbd:aH X bd g) (hg:Gl X "sorted":=by rfl) (he:DC pos (AM [l] X.env)=(AD,eval l X.env)::DC pos (AM [] X.env):=by rfl) (JQ:(DC pos (AM [l] X.env)).any (·.1)=AD:=by rfl) (bV:AM [l] X.env=(AD,eval l X.env)::AM [] X.env:=by rfl) (hs:∀x,DJ (.Call (.Name "sorted" p1) [l] [{AA "key",.Lambda EM body scope YG,RH}] pos) X.env x=pure x:=by intro _;rfl) : VS X (.For tg (.Call (.Name "sorted" p1) [l] [{AA "key",.Lambda EM body scope YG,RH}] pos) bd [] spos) (yO gl js ge t g ks) :=(qA hp hc (So (Tl hm hl n.nm n.room n.code n.hd n.tb n.qu n.dflt n.bind hb hg he JQ bV)) hgt hbd hs).imp λD' σ H h=>by
  have{τ,F,E,r,S,hg,k}:=h;obtain⟨⟨⟨ys,kz⟩,E2⟩,e1,hg⟩:=pA3 hg;have{E1,ds,a1,a2,a3,a4,rfl}:=Um e1;split at hg
  .rename_i hr;cases hg;refine Tk {τ,F,E,ys,E1,ds,kz,S,a1,a2,a3,a4,λqs hq a F' H' st S' n1 n2 ow no=>?_};have{vs,ha,rv}:=ow;have gr:Gr F' (D4 F' a (.lst vs)):=Gr.new n1;have S2:Sim X.K X.H₀ τ (D4 F' a (.lst vs)) H' σ (shareJ js E1):=by
    refine{λb u e=>?_,S'.len,λi d e=>?_,λi t d e=>?_,S'.inj}
    .by_cases hb:b=a
     .subst hb;rw[G9] at e;rw[ha];exact e
     .rw[ET hb] at e;exact S'.sub b u e
    .have{v,h1,h2}:=S'.val i d e;exact{v,h1,h2.le (.of_gr gr)}
    .have{b,h1,h2,h3,h4}:=S'.own i t d e;refine{b,h1,?_,h3.mono (.of_gr gr) rfl,h4};rw[ET (λz=>no {i,t,d,e,by rw[<-z];exact h1})];exact h2
   have st2:Stp (D6 σ E) F H (D4 F' a (.lst vs)) H' (D6 σ (shareJ js E1)):={st.keep,st.dom,st.le.trans (.of_gr gr),λb u e=>by
    by_cases hb:b=a
    .subst hb;exact .inr (.inl (.none n2))
    .rw[ET hb] at e;exact st.new b u e,st.own}
   have{E',jE,hh}:=hr.choose_spec qs hq;rw[<-hh] at k;have k':FlOk X.K X.H₀ τ (D6 σ E) F H D' (.nx E'):=λσ' F' H' st S=>k σ' F' H' (st.weak (S.hush ks).2) (S.hush ks).1;exact{a,rfl,{vs,.inl (.inl ha)},yE8 k' st2 S2 (Wg (.inl (.inl G9)) (rv.le (.of_gr gr))) jE}
  .cases hg
end
theorem Tj{α:Type}:∀l:List α,(C4 l.length).filterMap (λi=>l[i]?)=l
 |[]=>rfl
 |a::l=>by rw[BA,List.range_succ_eq_map,FH];simp only[List.getElem?_cons_zero,P2];congr 1;exact Tj l
theorem zKP(CK:List AH):b7 CK.toArray AK AK (AA (-1))=CK.reverse.toArray:=by
 have h:=picked_rev CK.length;unfold b7;have e:sliceRange (HD AK AK (AA (-1)) CK.toArray.size).1 (HD AK AK (AA (-1)) CK.toArray.size).2.1 (HD AK AK (AA (-1)) CK.toArray.size).2.2=(C4 CK.length).map λk=>CK.length-1-k:=by rw[<-h];simp[HD,Builtin.Str.strSliceIndices]
 rw[e];congr 1;rw[P2];have g:∀ks:List Nat,(∀k∈ks,k<CK.length)->ks.filterMap ((λi=>CK.toArray[i]?)∘λk=>CK.length-1-k)=ks.filterMap λi=>CK.reverse[i]?:=by
  intro ks;induction ks with
  |nil=>intro _;rfl
  |cons k ks ih =>
   intro hk;have e:((λi=>CK.toArray[i]?)∘λk=>CK.length-1-k) k=CK.reverse[k]?:=by show CK.toArray[CK.length-1-k]?=CK.reverse[k]?;rw[List.getElem?_reverse (hk k (.head _)),List.getElem?_toArray]
   rw[FH,FH,e,ih λk ZR=>hk k (.tail _ ZR)]
 refine(g _ λk hk=>GL.mp hk).trans ?_;have:=Tj CK.reverse;rw[O2] at this;exact this
section
variable{e st:D0}
def yHX(K:AC)(te ts:TE):TE:=λσ H Q=>te σ H λx H1=>ts σ H1 λy H2=>y=.int (-1)/\∃a xs,x=.ref a/\SqL K H2 a xs/\∀p,H2 p=AK->Q (.ref p) (D4 H2 p (.lst xs.reverse))
theorem yAZ(he:PE X e te)(hs:PE X st ts):PE X (.Subscript e (.Slice AK AK (AA st) p2) pos) (yHX X.K te ts):=by intro AF s σ H Q I h;refine Subscript_ (G6 (he AF s σ H _ I h) λv s1 ⟨x,H1,I1,r1,q1⟩=>?_);refine wpAny_Slice ?_;rw[aX];refine wpAny_pure (wpAny_pure ?_);rw[evalPart_some];refine G6 (hs AF s1 σ H1 _ I1 q1) λu s3 q0=>?_;have{y,H3,I3,r3,q3}:=q0;have{rfl,a,xs,rfl,hx,q}:=q3;have{t,rfl}:=r3;cases r1;have I4:Inv X AF σ H3 { s3 with heap:=s3.heap.push { cls:=.type "slice",data:=.fields #[.none,.none,.int (-1) t] } }:=I3.kept λb ob q=>AG _ q;have{CK,r,ht,hz}:=I4.list hx;have EU:=r.length;refine jM ht.isList.typeIs UH.lookup ?_ (by with_unfolding_all rfl);refine aT ht.isList (TX ..) .none .none (.int (-1) t) 'S' ?_ (by rw[AZ]<;>lia);rw[zKP];refine{.ref (s3.heap.push { cls:=.type "slice",data:=.fields #[.none,.none,.int (-1) t] }).objs.size,_,I4.laid (λb ob q=>AG _ q) (AL _) ?_,rfl,q _ (I4.hok.fresh (AL _))};refine{by rw[O2];exact hz,CK.reverse,0,?_,AX _ rfl};exact Vals.reverse r
end
def Ib(ge gs:G):G:=λE=>(ge E).bind λp=>(gs p.2).bind λq=>match p.1 with
 |.lst xs=>if q.1 matches .int (-1) then .ok (.lst xs.reverse,q.2) else .bad
 |_=>.bad
section
variable{e st:D0}
theorem yHZ(he:VE X e ge)(hs:VE X st gs):FE X (.Subscript e (.Slice AK AK (AA st) p2) pos) (Ib ge gs):=(yAZ he hs).imp λσ H Q h=>by
 have{τ,F,E,d,E',S,hg,k}:=h;have{p,e1,hg}:=pA3 hg;have{q,e2,hg}:=pA3 hg;refine{τ,F,E,p.1,p.2,S,e1,λv F1 H1 st1 S1 r1=>{τ,F1,p.2,q.1,q.2,S1,e2,λu F2 H2 st2 S2 r2=>?_}};have{pd,pE}:=p;have{qd,qE}:=q;cases pd with
 |lst xs =>
  dsimp only at hg r2 r1;split at hg
  .cases hg;obtain rfl:=r2.vI;cases r1 with
   |@lst a vs _ sq rs =>
   refine{rfl,a,vs,rfl,(sq.imp (λz=>st2.le.rd z) id).imp S2.sub.rd id,λD hD=>?_};have n5:New F2 H2 F2 (D4 H2 D (.lst vs.reverse)):=pA6 S2.sub (Gr.new hD);have hF:F2 D=AK:=by
    cases e:F2 D with
    |none=>rfl
    |some u=>rw[S2.sub _ _ e] at hD;cases hD
   exact k D F2 _ ((st1.trans st2).trans n5.stp) (S2.new n5) hF ((st1.trans st2).dom D hD) {_,G9,(rs.le st2.le).reverse} (S2.fresh hD)
  .cases hg
 |_=>cases hg
end
theorem Zb(hr:Room 3 X.A) (h:(fV X X.A.in1.in1 q scope cl nm f cd s H).A.units+64<GZ->VE (fV X X.A.in1.in1 q scope cl nm f cd s H) e g):VE (fV X X.A.in1.in1 q scope cl nm f cd s H) e g :=h (hr.in1.in1.deeper _).units
section
variable{K:AC}
theorem tabIn_of(a:BS K BL x=AA (AA (.ref f)))(l:K.lookup f=AA {oc,od,.func fd,sl})(hc:fd.code=.ref c)(m:K.lookup c=AA {oc',od',.fields vs,Cs})(hv:vs[11]?=AA (.ref T)):EN K x=AA (c,T):=by unfold EN;rw[a];simp only[l,hc,m,hv]
theorem zWQ(a:BS K BL x=AA AK):EN K x=AK:=by unfold EN;rw[a]
inductive TabE(K:AC)(q:BZ)(x:CD):Option AT->Prop
 |no:BS K BL x=AA AK->TabE K q x AK
 |tab {c T:AT} {d:DefRec}:EN K x=AA (c,T)->K.lookup T=AK->(recsOf q).find? (λe=>e.name==x)=AA d->TabE K q x (AA T)
theorem Tabs.of{ts:List (CD×Option AT)}(h:∀p∈ts,TabE K q p.1 p.2)(hn:ts.map (·.1)=iR)(ap:ts.Pairwise λa b=>a.2=AK\/a.2≠b.2):Tabs K q:=by
 have g:∀{x:CD} {t:Option AT},TabE K q x t->∀c T,EN K x=AA (c,T)->t=AA T/\K.lookup T=AK/\∃d,(recsOf q).find? (λe=>e.name==x)=AA d:=λ{x t} h c T e=>by
  cases h with
  |no z=>rw[zWQ z] at e;cases e
  |tab z1 z2 z3=>rw[z1] at e;cases e;exact{rfl,z2,_,z3}
 have all:∀x∈iR,∃t,(x,t)∈ts:=λx hx=>by rw[<-hn] at hx;have{p,hp,rfl}:=CJ.mp hx;exact{_,hp}
 refine{λx hx c T e=>let ⟨t,z⟩:=all x hx;(g (h _ z) c T e).2.2,λx hx c T e=>let ⟨t,z⟩:=all x hx;(g (h _ z) c T e).2.1,λx hx y hy c c' T e e'=>?_};have{t,z}:=all x hx;have{u,z'}:=all y hy;have a:=(g (h _ z) c T e).1;have b:=(g (h _ z') c' T e').1;subst a b;clear g all hn hx hy h e e';induction ts with
 |nil=>cases z
 |cons p r ih =>
  have{a1,a2}:=JK.mp ap;rcases A8.mp z with e|z1<;>rcases A8.mp z' with e'|z2
  .rw[<-e] at e';cases e';rfl
  .subst e;rcases a1 _ z2 with w|w
   .cases w
   .exact absurd rfl w
  .subst e';rcases a1 _ z1 with w|w
   .cases w
   .exact absurd rfl w
  .exact ih a2 z1 z2
theorem tabs5{t1 t2 t3 t4 t5:Option AT}(h1:TabE K q "holders" t1)(h2:TabE K q "_law_table" t2)(h3:TabE K q "_law_back" t3)(h4:TabE K q "_law_kept_right" t4)(h5:TabE K q "law" t5) (ap:[t1,t2,t3,t4,t5].Pairwise λa b=>a=AK\/a≠b):Tabs K q :=Tabs.of (ts:=[("holders",t1),("_law_table",t2),("_law_back",t3),("_law_kept_right",t4),("law",t5)]) (λp hp=>by
  simp only[A8,CG,or_false] at hp;rcases hp with rfl|rfl|rfl|rfl|rfl
  .exact h1
  .exact h2
  .exact h3
  .exact h4
  .exact h5) rfl (D3 (R:=λa b=>a=AK\/a≠b) |>.mp ap)
end
end _L
namespace HT
open PySem PySem.Spec PyProof.Rows
end HT
namespace _L
open PySem PySem.Spec PyProof.Rows
end _L
namespace HT
open PySem PySem.Spec PyProof.Rows
section
open PySem.SeqAt
open PySem.AutoSeq1 (wpAny_loadPart')
open PySem.MeetsSeq PySem.MeetsSeq2 PySem.MeetsSeq3
end
end HT
namespace _L
open PySem PySem.Spec PyProof.Rows
noncomputable def Xf:JT->CD
 |.str x=>x
 |.int i=>(toString i:String)
 |.bool b=>if b then "True" else "False"
 |.none=>"None"
 |d=>d.shown
def strD:List D->Out D
 |[d]=>match d.py with
  |some p=>if p.showable=AN/\p.depth<=50/\(Xf p).length<10000 then .ok (.str (Xf p)) else .bad
  |none=>.bad
 |_=>.bad
structure ExK(K:AC)(C:AT)(bm:List AH)(ZM:String):Prop where
 ex:KC K C bm ZM=AN
 ga:K4 K (.ref C) "__getattribute__"=AA (AA (.builtin "BaseException.__getattribute__"))
 gb:K4 K (.ref C) "__getattr__"=AA AK
 ha:K4 K (.ref C) "__class__"=AA (AA (.builtin "object.__class__"))
 hn:ZW K (.builtin "object.__class__") "__get__"=AA (AA (.builtin "getset_descriptor.__get__"))
 ht:cE K (.builtin "object.__class__")=AA AN
 hm:UJ K C (.type "object")=AA AN
 hb:UJ K C (.type "BaseException")=AA AN
def XAt(x C:AT)(h:CM):Prop:=∃o,h.get? x=AA o/\o.cls=.ref C
section
variable{K:AC}{E:AH->AQ->Prop}
open PySem.W Builtin Builtin.ObjectAttr Builtin.Getset_descriptor in
theorem XAt.type(I:XAt x C h):Looks M h (typeOf (.ref x)) (.ref C):=by have{o,e,c}:=I;exact c▸(Looks.ld e).andThen .now
open PySem.W Builtin Builtin.ObjectAttr Builtin.Getset_descriptor in
theorem ExK.find(Z:ExK K C bm ZM)(X:K.In h):Looks M h (find (.ref x) (.ref C) "__class__") (.bind (.builtin "getset_descriptor.__get__") (.builtin "object.__class__")) :=(looks_findIn X Z.ha).andThen ((looks_specialIn X Z.hn).andThen ((show Looks M h (dataDescriptor? (AA (.builtin "object.__class__")) (AA (.builtin "getset_descriptor.__get__"))) (AA (.builtin "getset_descriptor.__get__",.builtin "object.__class__")) from(looks_takesIn X Z.ht).andThen .now).andThen (Looks.tag .now)))
open PySem.W Builtin Builtin.ObjectAttr Builtin.Getset_descriptor in
theorem ExK.get(Z:ExK K C bm ZM)(X:K.In s.heap)(I:XAt x C s.heap){R:Y1->AQ->Prop}(q:R (.ok (.ret (.ref C))) s):IE (A7 prog w) A (.call (.builtin "getset_descriptor.__get__") {[.builtin "object.__class__",.ref x,tp],[]}) R s:=by
 have{hh,g,dr,t,os}:=s;have L0:=I.type (M:=A7 prog w);have L1:=looks_mroIn (M:=A7 prog w) X Z.hm;refine jO KF.slot_gs.plain KF.entry_gs (KF.slot_gs.check _ _ _ _ _ _ _ _ KF.type_class (KF.args_gs _ _ _) ?_);unfold GG.«getset_descriptor.__get__» descrGet;rw[dga_obj];refine AB (wpAny_pure ?_);unfold descrGetter descrCheckInstance descrNameAndClass isInstance;simp only[KF.owner_class]
 repeat lk
 refine{Code.quiet_builtin _ (by decide +kernel),codeAny_builtin KF.entry_class ?_}
 repeat lk
 exact q
open PySem.W Builtin Builtin.ObjectAttr Builtin.Getset_descriptor in
theorem ExK.cls(Z:ExK K C bm ZM)(X:K.In s.heap)(I:XAt x C s.heap){Q:Option AH->AQ->Prop}(q:Q (AA (.ref C)) { s with toks:=s.toks+1 }):BE (A7 prog w) A (getAttr? (.ref x) "__class__") Q E s:=by
 have{hh,g,d,t,os}:=s;have L0:=I.type (M:=A7 prog w);have L1:=looks_findIn (M:=A7 prog w) X Z.ga;have L2:=Z.find (M:=A7 prog w) (x:=x) X;have L3:=looks_findIn (M:=A7 prog w) X Z.gb;have L4:=looks_mroIn (M:=A7 prog w) X Z.hb;have hk:builtinKind "BaseException.__getattribute__"=AA .slot:=by decide +kernel
 have oO:splitId "BaseException.__getattribute__"=AA ("BaseException","__getattribute__"):=by decide +kernel
 have ha:=λn=>F.args_bexc_ga (.ref x) n;have SX:(O0 "BaseException.__getattribute__"==O0 "object.__getattribute__")=AD:=by decide +kernel
 refine AB (wpAny_mkText (AB (GP (C9 (AB (L0.at (AB (L1.at ?_))))))));show BE _ _ (if(onTheHeap (GU C)&&O0 "BaseException.__getattribute__"==O0 "object.__getattribute__")=AN then _ else getAttrByItsOwn _ _ _ _ _ _) _ _ _;rw[SX,U0,if_neg CH];refine AB (L3.at (AB (GP (C9 ?_))));show BE _ _ (bindSpecial _ _ >>= _) _ _ _;rw[F.excAttr_ValueError.ga.bind];refine AB (wpAny_pure (TH (jO F.excAttr_ValueError.ga.plain F.entry_bexc_ga ?_)));simp only[checkBuiltinCall,hk,oO]
 repeat lk
 refine wpAny_run (h:=AK) (Z.get (s:={hh,g,d,t+1,os}) X I ?_);exact wpAny_pure (wpAny_pure (handed_on rfl (wpAny_pure q)))
open PySem.W Builtin Builtin.ObjectAttr Builtin.Getset_descriptor in
theorem ExK.kit(Z:ExK K C bm ZM):KitX K (.ref x) (.ref C) (XAt x C) where
 ty:=λ_ _ _ I=>I.type
 it:=λ_ _ X _=>by
  have z:=Z.ex;unfold excIn at z;split at z
  .rename_i ho;intro A' Q' E' s' k q;exact AB (wpAny_loadPart (k _ _ (X _ _ ho)) (wpAny_pure q))
  .cases z
 ne:=λh tp dd CK n sl X htp=>by
  refine Q9.mpr λq=>?_;obtain rfl:C=tp:=Value.ref.inj (beq_iff_eq.mp q);have z:=Z.ex;unfold excIn at z;split at z
  .rename_i ho;have e:=congrArg Obj.cls (BH ((X _ _ ho).symm.trans htp));exact absurd (Value.type.inj e) 'D'
  .cases z
 ca:=λX I k=>Z.cls X I k
end
structure Fly(P:BZ)(w:C8)(C:AT)(outer:List V9)(H:Hp)(s:AQ)(a:AT)(H1:Hp)(h1:CM)(fr:List AT)(a0:AH)(s':AQ):Prop where
 os:s'.os=s.os
 bare:NO s'.gens
 un:Un (SO outer) [] H H1 s.heap h1
 hok:HOk P w H1 h1
 frs_:∀b∈fr,H1 b=AK/\(b∈SO outer\/s.heap.objs.size<=b)/\∃o,h1.get? b=AA o/\∀vs,o.data≠.fields vs
 new:h1.get? a=AK
 fl:Heap.FlyingW (RP h1 fr) outer a (.ref C) a0 s'.heap
 up:h1.UpToSlots s'.heap
def TU(P:BZ)(w:C8)(C:AT):CXT:=λouter H s E e s'=>∃a H1 h1 fr a0,e=.ref a/\Fly P w C outer H s a H1 h1 fr a0 s'/\E (.ref C) AK H1
section
theorem Fly.kept(F:Fly P w C outer H s a H1 h1 fr a0 s')(st:(RP h1 fr).StaysIn h2)(up:h1.UpToSlots h2):Un (SO outer) [] H H1 s.heap h2/\HOk P w H1 h2:=by
 have any:∀b o,h1.get? b=AA o->(b∉fr->h2.get? b=AA o)/\∃o',h2.get? b=AA o'/\(b∈fr->∃sl,o'={ o with slots:=sl }):=λb o e=>by
  refine{λn=>st b o (OH _ e n),?_};by_cases hb:b∈fr
  .have{_,_,o',e',d}:=F.frs_ b hb;rw[e] at e';cases e';have{sl,q}:=up b o e d;exact{_,q,λ_=>{sl,rfl}}
  .exact{o,st b o (OH _ e hb),λz=>absurd z hb}
 have II:∀b o,s.heap.get? b=AA o->b∉SO outer->b∉fr:=λb o e n z=>by
  rcases(F.frs_ b z).2.1 with q|q
  .exact n q
  .exact absurd (BB e) (QO.mpr q)
 refine{{λb o e n hb hx=>(any b o (F.un.keep b o e n hb hx)).1 (II b o e hb),λb o e n hb hx=>?_,F.un.free,λb o e hx=>?_,F.un.tups,F.un.frzs,F.un.tbls},λb u e=>?_}
 .have{sl,q}:=F.un.slot b o e n hb hx;by_cases hf:b∈fr
  .have{o',q1,q2}:=(any b _ q).2;have{Cs,rfl}:=q2 hf;exact{Cs,q1}
  .exact{sl,(any b _ q).1 hf}
 .have{o',q}:=F.un.there b o e hx;have{o2,q2,_}:=(any b o' q).2;exact{o2,q2}
 .refine(F.hok b u e).stay (λc v hc q=>(any c v q).1 λz=>?_) (λ_ q=>q) (λ_ _ q=>q) λ_ _ _ q=>q;have n:=(F.frs_ c z).1;rcases hc with rfl|hc
  .rw[n] at e;cases e
  .rw[n] at hc;cases hc
end
section
variable{K:AC}
theorem zQR(I:Inv (SJ (TU P w C) P w K mg base N qual scope f cd A outer s₀ H₀ E) AF σ H s)(hx:Heap.MadeExcOf s.heap h' a (.ref C) vs) (q:E (.ref C) AK H):(SJ (TU P w C) P w K mg base N qual scope f cd A outer s₀ H₀ E).xe (.ref a) { s with heap:=h' }:=by
 have XY:∀env∈(SJ (TU P w C) P w K mg base N qual scope f cd A outer s₀ H₀ E).stack,∀b,env.frame=AA b->b∈SO (SJ (TU P w C) P w K mg base N qual scope f cd A outer s₀ H₀ E).stack:=λenv he b hb=>HR.mpr {env,he,hb};refine wpAny_leaves_madeW I.ok.frames rfl (λb o e=>Y2 _ e) (PySem.W.funFrames_hide I.stack XY) hx λh2 t fl _ _ up=>?_;refine{a,H,s.heap,_,.ref t,rfl,{I.os,I.bare,I.base,I.hok,λb hb=>{I.stkFree b hb,?_,(I.stack.mem hb).2},hx.new,fl,(Heap.UpToSlots.of_keeps hx.keeps).trans up},q};rcases A8.mp (I.stkSub b hb) with e|e
 .exact .inr (CU e.symm)
 .exact .inl e
theorem yA0(X:K.In h)(Z:KC K C bm ZM=AN):∃tl N nm q bs hd sn sub ab col dd k0 k1 k2 k3 k5 mN,h.get? C=AA (excClassObj nm q C N bs tl hd sn sub ab col dd k0 k1 k2 k3 k5 ZM)/\h.Ns N mN/\mN "__init__"=AK/\OwnTail h bm tl:=by
 unfold KC at Z;split at Z
 .rename_i dd cd sl ho;split at Z
  .rename_i C' tl k0 k1 k2 k3 n k5 em es;simp only[EY,beq_iff_eq,MJ] at Z;obtain⟨⟨⟨⟨⟨e1,e2⟩,e3⟩,e4⟩,e5⟩,e6⟩:=Z;cases cd;cases sl;subst e1 e2 em e3 es;exact{tl,_,_,_,_,_,_,_,_,_,dd,k0,k1,k2,k3,k5,_,X _ _ ho,.of_isNs (PySem.W.isNs_of_in X e5),PySem.W.nsMap_none_of_in X e5 e6,PySem.W.tail_of_in X e4}
  .cases Z
 .cases Z
theorem zWR(FB:ExcBaseFacts B ZM ini bm)(Z:KC K C bm ZM=AN)(hm:mg x=AA (.ref C))(hh:A.handled=AK) (ha:PA (SJ (TU P w C) P w K mg base N qual scope f cd A outer s₀ H₀ E) (e::es) ta) (hg:Gl (SJ (TU P w C) P w K mg base N qual scope f cd A outer s₀ H₀ E) x:=by rfl) (hd:(x==("__debug__":CD))=AD:=by decide) (he:AM (e::es) (GY qual scope s₀.heap.objs.size f cd)=(AD,eval e (GY qual scope s₀.heap.objs.size f cd))::AM es (GY qual scope s₀.heap.objs.size f cd):=by rfl) (JQ:(DC GA (AM es (GY qual scope s₀.heap.objs.size f cd))).any (·.1)=AD:=by rfl) : PS (SJ (TU P w C) P w K mg base N qual scope f cd A outer s₀ H₀ E) (.Raise (AA (.Call (.Name x np) (e::es) [] GA)) AK pos) (λD σ H=>ta σ H λvs H1=>vs.length<=sizeLine/\E (.ref C) AK H1):=by
 intro AF s σ H D I h;have{tl,Nn,nm,q,bs,hdct,sn,sub,ab,col,dd,k0,k1,k2,k3,k5,mN,hC,hN,hni,TL}:=yA0 (K:=K) (h:=base) I.ok.mod.kin Z;refine wpAny_Raise_call_subT (C:=C) (nm:=nm) (q:=q) (N:=Nn) (bs:=bs) (bm:=tl) (hdct:=hdct) (sn:=sn) (sub:=sub) (ab:=ab) (col:=col) (dd:=dd) (k0:=k0) (k1:=k1) (k2:=k2) (k3:=k3) (k5:=k5) FB (mN:=mN) (TL.hasType FB.hasBase) hh ?_ hni (qH I hg hm {rfl,?_} hd)
 .show(DC GA (AM (e::es) (GY qual scope s₀.heap.objs.size f cd))).any (·.1)=AD;rw[he];exact JQ
 .have h:=ha GA AF s σ H _ I h;show BE _ _ (evalArgs (.ref C) AN (DC GA (AM (e::es) (GY qual scope s₀.heap.objs.size f cd))) []) _ _ _;have h:BE (A7 P w) _ (spliced (DC GA (AM (e::es) (GY qual scope s₀.heap.objs.size f cd)))) _ _ s:=h;rw[he] at h ⊢;refine OJ (CZ h (λus s2 q=>?_) λ_ _ y=>y);have{vs,H1,I1,r,z,q}:=q;exact{rfl,by rw[<-r.length];exact z,I1.bk _ _ hC,hN.keeps I1.bk,TL.keeps I1.bk,λh' a m=>zQR I1 m q}
end
section
theorem Inv.frame(I:Inv X AF σ H s)(hs:DK X.env.locals s.heap h')(hn:h'.Ns X.env.locals m')(hl:σ'.length=σ.length) (hv:∀(i:Nat) (x:CD) (v:V),X.N[i]?=AA x->σ'[i]?=AA (AA v)->ZK X.env.scope x->∃u,RelV v u/\Yf X.env h' m' x u):Inv X AF σ' H { s with heap:=h',toks:=t }:=by
 have{m,zz',_}:=id I.loc;have{oL,es,ep,lQ,r}:=zz';have ne:∀b o,X.s₀.heap.get? b=AA o->b≠X.env.locals:=λb o e=>CF (AO (BB e) I.ok.above);refine{I.ok,I.os,I.bare,{λb o e n hb hx=>(hs.2 b (ne b o e)).trans (I.base.keep b o e n hb hx),λb o e n hb hx=>?_,I.base.free,λb o e hx=>?_,I.base.tups,I.base.frzs,I.base.tbls},{m',hn,hv},λy c e=>?_,I.free,I.freeC,λp hp=>?_,λb u e=>?_,hl.trans I.len}
 .have{sl,e1}:=I.base.slot b o e n hb hx;exact{sl,(hs.2 b (ne b o e)).trans e1}
 .have{o',e1}:=I.base.there b o e hx;exact{o',(hs.2 b (ne b o e)).trans e1}
 .have{v,z}:=I.cell y c e;exact{v,z.sameBut hs (I.cne y c e)}
 .have{e,n,ne,nf,d}:=I.pin p hp;exact{(hs.2 p.1 ne).trans e,n,ne,nf,d}
 .refine(I.hok b u e).stay (λc v hc q=>(hs.2 c ?_).trans q) (λ_ q=>q) (λ_ _ q=>q) λ_ _ _ q=>q;rintro rfl;rcases hc with rfl|hc
  .rw[I.free] at e;cases e
  .rw[I.free] at hc;cases hc
theorem zTF{E:AH->AQ->Prop}{Q:Unit->AQ->Prop}(I:Inv X AF σ H s)(hN:X.N.Nodup)(hi:X.N[i]?=AA x)(hk:X.env.scope.names.lookup x=AA .local)(hv:σ[i]?=AA (AA v)) (h:∀s',Inv X AF (σ.set i AK) H s'->Q () s'):BE M A (unbindName X.env x) Q E s:=by
 have{m,hn,hl}:=id I.loc;have{u,_,q}:=hl i x v hi hv (.inl hk);rcases q with⟨_,hm⟩|⟨q,_⟩
 .refine wpAny_unbindName_local hk hn hm (by rw[I.ok.kind];rfl) λh' z xC hs=>h _ (I.frame hs xC (BY ..) λj y w e1 e2 e3=>?_);have hj:i≠j:=λe=>by subst e;rw[BF (AR.mp hv).1] at e2;cases e2
  rw[A6 hj] at e2;have{u',r',q}:=hl j y w e1 e2 e3;have hy:y≠x:=λe=>hj (Ak hN hi (e▸e1));refine{u',r',?_};rcases q with⟨k,e⟩|⟨k,c,e,z'⟩
  .exact .inl {k,(if_neg hy).trans e}
  .exact .inr {k,c,e,z'.sameBut hs (I.cne y c e)}
 .have q:X.env.scope.names.lookup x=AA .cell\/X.env.scope.names.lookup x=AA .free:=q;rw[hk] at q;rcases q with q|q<;>cases q
noncomputable def Cx.hot(X:Cx)(a:AT):Cx:={ X with A:=X.A.mark (AA (.ref a)),calm:=AD,xe:=λ_ _=>False }
theorem Inv.heat(I:Inv X AF σ H s)(a:AT):Inv (X.hot a) AF σ H s :={{I.ok.tab,I.ok.mod,I.ok.kind,I.ok.glob,I.ok.blt,I.ok.above,I.ok.inj,I.ok.has,I.ok.cab,(λz=>by cases z),I.ok.frames,I.ok.stk,I.ok.exf,I.ok.bs,I.ok.bsz,I.ok.noex,I.ok.exfs,I.ok.funs,I.ok.frf},I.os,I.bare,I.base,I.loc,I.cell,I.free,I.freeC,I.pin,I.hok,I.len}
theorem pAN(ok:X.Ok)(I:Inv (X.hot a) AF σ H s):Inv X AF σ H s:={ok,I.os,I.bare,I.base,I.loc,I.cell,I.free,I.freeC,I.pin,I.hok,I.len}
end
def Jh(A:GD):GD:={ A with handled:=AK }
def Ch(P:BZ)(w:C8)(K:AC)(mg:CD->Option AH)(base:CM)(N:List CD)(qual:CD)(scope:JJ)(f:AT)(cd:AH)(A:GD)(outer:List V9)(s:AQ)(H:Hp):Cx :={ SJ LJ P w K mg base N qual scope f cd A outer s H E0 with calm:=AD,xe:=λ_ _=>False }
section
variable{K:AC}
theorem yKP{st:FM}(F:Fun K x qual st f fd)(S:FnScope N ps (J2 st)) (hr:Room (k+1) (Jh A)) (e0:Env0 P w K mg base A outer s H) (hb:UN s fd {us,[]} (ps.zip us)) (hl:vs.length=ps.length) (r:Vals vs us) (K0:∀G3,∃t,PSs (Ch P w K mg base N qual (J2 st) f G3 A outer s H) (WG st) t/\t { nx:=λ_ H'=>Q .non H',rt:=Q } (start N vs) H) : IE (A7 P w) A (.call (.ref f) {us,[]}) (CR LJ outer P w H s Q E0) s:=by
 have{oc,od,kV,TC,pm,an,G3,ct,ZL,rfl,lk,LU}:=F.ex;have KX:=e0.mod.kin.keeps λb o e=>(e0.bs b o e).1;have Lv:=e0.mod.nolimit.keeps λb o e=>(e0.bs b o e).1;refine g8 (A:=A) hr.depth (KX _ _ lk) rfl S.co S.gen rfl (Y4 KX LU) (hb _ _ _ _ ?_);refine YO S.kind (λy hy=>?_) λenv he s1 x=>?_
 .rcases S.par y.1 (JF hy).1 with q|q
  .exact .inl q
  .exact .inr {q,M1 _ _ _ (.inl q)}
 subst he;refine{Lv.keeps x.toInCall.keep,codeAny_func ?_};have{t,ht,hq}:=K0 G3;have e1:Env0 P w K mg base (Jh A) outer s H:={e0.tab,e0.frames,e0.mod,e0.bs,e0.bsz,e0.funs,e0.frf,e0.hok,e0.bare};have I:=Vf (CX:=LJ) (E:=E0) (f:=f) (cd:=G3) S hr.hd e1 hl r x;have I:Inv (Ch P w K mg base N qual (J2 st) f G3 A outer s H) [] (start N vs) H s1 :=
  {{I.ok.tab,I.ok.mod,I.ok.kind,I.ok.glob,I.ok.blt,I.ok.above,I.ok.inj,I.ok.has,I.ok.cab,(λz=>by cases z),I.ok.frames,I.ok.stk,I.ok.exf,I.ok.bs,I.ok.bsz,I.ok.noex,I.ok.exfs,I.ok.funs,I.ok.frf},I.os,I.bare,I.base,I.loc,I.cell,I.free,I.freeC,I.pin,I.hok,I.len}
 refine CZ (ht [] s1 (start N vs) H _ I hq) (λfl s' hs=>?_) λe s' hs=>hs.elim;cases fl with
 |ret u=>have{v,σ',H',J,rv,q}:=hs;exact{v,H',J.os,J.bare,J.base,J.hok,rv,q}
 |next=>have{σ',H',J,q}:=hs;exact{.non,H',J.os,J.bare,J.base,J.hok,rfl,q}
 |brk=>have{_,_,_,q}:=hs;exact q.elim
 |cont=>have{_,_,_,q}:=hs;exact q.elim
end
def Zp(a:AT)(b:Bool):TE:=λσ H Q=>σ[0]?=AA (AA (.ref a))/\Q (.bl b) H
def rM(a:AT)(bs:List Bool):TA:=λσ H Q=>σ[0]?=AA (AA (.ref a))/\Q (bs.map V.bl) H
section
theorem cQ(hX:∀AF σ H s,Inv X AF σ H s->XAt a C s.heap)(Z:ExK X.K C bm ZM)(hm:X.mg "isinstance"=AK)(hc:PE X ce (tC cv))(hv:∀u,RelV cv u->u=uc)(he:BR X.K (.ref C) uc=AA b) (hN:X.N[0]?=AA n:=by rfl) (hl:ZK X.env.scope n:=by first|exact BM rfl|exact DW (BM rfl)) (hg:Gl X "isinstance":=by rfl) (hd:(n==("__debug__":CD))=AD:=by decide) (LU:(n==("__classdict__":CD))=AD:=by decide) (h1:AM [.Name n p1,ce] X.env=(AD,eval (.Name n p1) X.env)::AM [ce] X.env:=by rfl) (h2:AM [ce] X.env=(AD,eval ce X.env)::AM [] X.env:=by rfl) (JQ:(DC pos (AM [ce] X.env)).any (·.1)=AD:=by rfl) : PE X (.Call (.Name "isinstance" p) [.Name n p1,ce] [] pos) (Zp a b):=by
 have hc:CallR X (.builtin "isinstance") (λxs H Q=>xs=[.ref a,cv]/\Q (.bl b) H)/\PE X ce (tC cv):={λAF s σ H xs us Q I r h=>by
  have{rfl,q}:=h;cases r with
  |cons r1 r2 =>
   cases r2 with
   |cons r2 r3=>cases r3;cases r1;obtain rfl:=hv _ r2;exact DD Z.kit I.kIn (hX _ _ _ _ I) he (λz=>nomatch z) λtk=>{.bl b,H,I.tok tk,rfl,q},hc}
 refine(uC hc.1 hg hm Boot.isinstance (SK (gA hN hl hd LU) (SK hc.2 HK h2) h1) 'D' 'D' h1 JQ).imp λσ H Q h=>?_;exact{_,h.1,rfl,h.2}
theorem Ee:PA X [] (rM a []):=λpos AF s σ H Q I h=>HK pos AF s σ H Q I h.2
theorem cP(h:PE X e (Zp a b))(r:PA X es (rM a bs))(hs:AM (e::es) X.env=(AD,eval e X.env)::AM es X.env:=by rfl):PA X (e::es) (rM a (b::bs)) :=λpos AF s σ H Q I q=>SK h r hs pos AF s σ H Q I {q.1,q.1,q.2}
end
def yFA(a:AT)(l1 l2 l3:List Bool):TS:=mI (j5 (rK (rM a l1)) (bL 1)) (mI (j5 (k8 Iu (bH 1) (rK (rM a l2))) (bL 1)) (Ye (k8 Iu (bH 1) (rK (rM a l3)))))
def KU(P:BZ)(w:C8)(K:AC)(mg:CD->Option AH)(base:CM)(f C:AT)(bs:List Bool):Prop :=∀(A:GD) (outer:List V9) (s:AQ) (H:Hp) (a:AT) (Q:VK),Room 2 (Jh A)->Env0 P w K mg base A outer s H->XAt a C s.heap->H a=AK->a∉SO outer ->(∀p H',Gr H H'->H p=AK->H' p=AA (.lst (bs.map V.bl))->Q (.ref p) H')->IE (A7 P w) A (.call (.ref f) {[.ref a],[]}) (CR LJ outer P w H s Q E0) s
section
variable{K:AC}{st:FM}
theorem zWS(Fn:Fun K x x st f fd)(S:FnScope [n,kn] [n] (J2 st))(hb:Binds K fd [n] [])(hz:l1.length+l2.length+l3.length<=100) (K0:∀G3 A outer s H a,(∀AF σ H' s',Inv (Ch P w K mg base [n,kn] x (J2 st) f G3 A outer s H) AF σ H' s'->XAt a C s'.heap)->PSs (Ch P w K mg base [n,kn] x (J2 st) f G3 A outer s H) (WG st) (yFA a l1 l2 l3)) : KU P w K mg base f C (l1++l2++l3):=λA outer s H a Q hr e0 ha hn ho k=>by
 have{o,sE,ZP}:=ha;refine yKP (k:=1) (vs:=[.ref a]) (us:=[.ref a]) Fn S hr e0 ?_ rfl (.cons rfl .nil) λG3=>{_,K0 G3 A outer s H a λAF σ H' s' I=>{o,I.base.keep a o sE hn ho (by exact CG),ZP},?_}
 .exact hb s [.ref a] (e0.mod.kin.keeps λb o e=>(e0.bs b o e).1) rfl
 .have z:∀n,n<=100->n<=sizeLine:=λn h=>AW h 'D';refine{rfl,by rw[AJ];exact z _ 'L',λp1 h1=>{_,rfl,rfl,by rw[AJ];exact z _ 'L',λp2 h2=>?_}};have n21:=U6 (G9) h2;refine{p1,p2,_,_,rfl,rfl,by rw[ET n21];exact G9,G9,by rw[AJ,AJ];exact z _ 'L',λp3 h3=>?_};refine{_,rfl,rfl,by rw[AJ];exact z _ 'L',λp4 h4=>?_};have n43:=U6 (G9 (a:=p3)) h4;refine{p3,p4,_,_,rfl,rfl,by rw[ET n43];exact G9,G9,by simp only[AJ,BC];exact z _ 'L',λp5 h5=>?_};refine k p5 _ ((((Gr.new h1).trans (Gr.new h2)).trans (Gr.new h3)).trans ((Gr.new h4).trans (Gr.new h5))) ?_ ?_
  .exact Gr.dom ((((Gr.new h1).trans (Gr.new h2)).trans (Gr.new h3)).trans (Gr.new h4)) _ h5
  .rw[G9,EH,EH]
end
theorem ObjOk.there(x:ObjOk P w H h a o):∃ob,h.get? a=AA ob:=by
 cases o with
 |lst xs=>have{_,_,_,_,e}:=x;exact{_,e}
 |tup xs=>have{_,_,_,o,e,_}:=x;exact{_,e}
 |dK kvs=>have{_,_,_,_,o,es,ep,e,_}:=x;exact{_,e}
 |dT kvs=>have{_,_,_,_,o,es,ep,e,_}:=x;exact{_,e}
 |set S n=>have{ob,es,ep,t,e,c}:=x;exact{_,e}
 |ins C dx fs=>have{_,_,_,e,_}:=x;exact{_,e}
 |own y=>exact x
 |xd fs=>have{mA,zz',r}:=x;have{od,es,ep,e,c}:=zz';exact{_,e}
 |rng lo hi=>have{t,u,v,e}:=x;exact{_,e}
 |frz ob u=>exact{_,x.1}
 |tbl q ps=>exact{_,x.1}
 |met f y=>exact{_,x}
 |ext φ=>exact x.2.1
section
theorem zWT{D:Ends}(I:Inv X AF σ H s)(F:Fly X.prog X.w C X.stack H s a H1 h1 fr a0 s') (KK:KU X.prog X.w X.K X.mg X.base f C bs) (hr:Room 2 X.A) (hkf:X.mg kf=AA (.ref f)) (hkk:EO X.K (.ref f)=AN) (hW:X.mg W=AA (.ref WA)) (hx:N3 X.K (.ref C) (.ref WA)=AA AN) (hN:X.N.Nodup) (hi:X.N[ie]?=AA n) (hj:X.N[ik]?=AA kn) (LS:ie≠ik) (XY:X.env.scope.names.lookup n=AA .local) (S7:X.env.scope.names.lookup kn=AA .local) (stk:X.stack=X.env::X.outer) (hf:X.env.frame=AA X.env.locals) (q:∀p H',Gr H1 H'->H1 p=AK->H' p=AA (.lst (bs.map V.bl))->D.nx ((σ.set ik (AA (.ref p))).set ie AK) H') (No:Gl X W:=by rfl) (Nm:Gl X kf:=by rfl) (Oc:(W==("__debug__":CD))=AD:=by decide) (Ob:(kf==("__debug__":CD))=AD:=by decide) (Nz:(n==("__debug__":CD))=AD:=by decide) (Df:(n==("__classdict__":CD))=AD:=by decide) (he:AM [.Name n p1] X.env=(AD,eval (.Name n p1) X.env)::AM [] X.env:=by rfl) (oM:HW (.Call (.Name kf p2) [.Name n p1] [] RH) (AA (.Name kn p3)) eE.line X.env=pure AD:=by rfl) : BE (A7 X.prog X.w) X.A (noteFrame (.ref a) X.env) (λ_ PC=>BE (A7 X.prog X.w) X.A (setFlight (.ref a) AK) (λ_ VP =>
   BE (A7 X.prog X.w) X.A (handleBy (.ref a) X.env [.ExceptHandler (AA (.Name W np)) (AA n) [.Assign [.Name kn p3] (.Call (.Name kf p2) [.Name n p1] [] RH) eE] p4]) (SP X AF D) X.xe VP) X.xe PC) X.xe s':=by
 have wK:=λh5 st up=>by have{un,hok}:=F.kept st up;exact I.call' (s':={ s' with heap:=h5 }) (ch:=[]) F.os un hok F.bare λb z=>absurd z 'S'
 have na:H1 a=AK:=by
  cases z:H1 a with
  |none=>rfl
  |some u=>have{o,e}:=(F.hok a u z).there;rw[F.new] at e;cases e
 have aL:a∉SO X.stack:=λz=>by have{_,o,e,_}:=I.stack.mem z;have{o',e'}:=F.un.there a o e 'S';rw[F.new] at e';cases e'
 have aL':a≠X.env.locals:=λz=>aL (by rw[stk,z];unfold SO;rw[FH,hf];exact A2);refine wpAny_looks_onW (by rw[I.ok.frames,stk]) hf (stk▸F.fl) λh4 Nx up4=>?_;refine wpAny_landsW Nx λh5 Ol Cp=>?_;have Cp:=(F.up.trans up4).trans Cp;have I5:=wK h5 Ol.1 Cp;refine wpAny_handleBy_cons (codeAny_handlers_test (qH (I5.heat a) No hW ?_ Oc)) (by intro z;cases z);refine(PySem.W.exm_one I5.kIn (XAt.type Ol.there) hx).here ?_;refine codeAny_handlers_suite_as ?_;refine lands_againW Ol λh6 fl6 up6=>?_;have I6:=wK h6 fl6.1 (Cp.trans up6);have{oa,vs,ea,ca,da,_}:=fl6.first;refine Hc (v:=.ref a) I6 hN hi (.inl XY) rfl (λs7 I7 hs7=>?_) (.inr XY);have{c,sb,hc}:=hs7;have ea7:s7.heap.get? a=AA oa:=by
  refine(sb.2 a λz=>?_).trans ea;rcases hc with hc|hc
  .exact aL' (z.trans hc)
  .have{v,o,e,d}:=I6.cell n c hc;have e:h6.get? c=AA o:=e;rw[<-z,ea] at e;cases e;rw[da] at d;cases d
 have I7:Inv (X.hot a) ((a,oa)::AF) _ H1 s7:=(I7.heat a).pins_of λp hp=>by
  rcases A8.mp hp with rfl|hp
  .exact{ea7,na,aL',λz=>aL (by rw[stk];unfold SO;rw[FH,hf];exact A5 _ z),λv d=>by rw[da] at d;cases d}
  .exact I7.pin p (BO _ hp)
 have Nj:ie < σ.length:=by rw[I.len];exact(AR.mp hi).1
 have gR:n≠kn:=λe=>LS (Ak hN hi (e▸hj));have vM:BE (A7 X.prog X.w) (X.hot a).A (execs [.Assign [.Name kn p3] (.Call (.Name kf p2) [.Name n p1] [] RH) eE] X.env) (λfl s8=>fl=.next/\∃p H',Gr H1 H'/\H1 p=AK/\H' p=AA (.lst (bs.map V.bl))/\Inv (X.hot a) ((a,oa)::AF) ((σ.set ie (AA (.ref a))).set ik (AA (.ref p))) H' s8) (λ_ _=>False) s7:=by
  refine K2 (CZ (Q:=λfl s8=>fl=.next/\∃p H',Gr H1 H'/\H1 p=AK/\H' p=AA (.lst (bs.map V.bl))/\Inv (X.hot a) ((a,oa)::AF) ((σ.set ie (AA (.ref a))).set ik (AA (.ref p))) H' s8) ?_ (λfl s8 z=>?_) λ_ _ z=>z)
  .refine UG (ID (qH (X:=X.hot a) I7 Nm hkf ?_ Ob)) oM;refine OX (h₀:=X.base) I7.ok.mod.kin hkk (G6 (SK (gA (X:=X.hot a) hi (.inl XY) Nz Df) HK he RH _ s7 _ H1 (λvs H2=>vs=[.ref a]/\H2=H1) I7 {_,BF Nj,rfl,rfl}) λus s8 z=>?_) he rfl;have{vs,H2,I8,r8,rfl,rfl}:=z;cases r8 with
   |cons r8 r9 =>
    cases r8;cases r9;refine{I8.kIn,TH (MD (KK (X.hot a).A X.stack s8 H2 a (λv H'=>∃p,v=.ref p/\Gr H2 H'/\H2 p=AK/\H' p=AA (.lst (bs.map V.bl))) {rfl,hr.dp,hr.un,hr.gd} I8.env0 ?_ na aL λp H' g1 g2 g3=>{p,rfl,g1,g2,g3}) λr s9 hq=>?_)}
    .exact{oa,(I8.pin (a,oa) (BO _ A2)).1,ca}
    .cases r with
     |error e=>exact hq.elim
     |ok fl =>
      cases fl with
      |ret u=>have{v,H3,I9,rv,p,rfl,g1,g2,g3}:=I8.after hq;cases rv;exact Aj (X:=X.hot a) (v:=.ref p) I9 hN hj (.inl S7) rfl (λKx yM=>{rfl,p,H3,g1,g2,g3,yM}) (.inr S7)
      |next=>exact hq.elim
      |brk=>exact hq.elim
      |cont=>exact hq.elim
  .have{rfl,z}:=z;exact IN {rfl,z}
 refine CZ vM (λfl s8 z=>?_) λ_ _ z=>z.elim;have{rfl,p,H',g,hp,hl,I8}:=z;have I8:=(pAN I.ok I8).pins_of (pins':=AF) λp hp=>I8.pin p (BO _ (A5 _ hp));refine AB (wpAny_bindName (Aj I8 hN hi (.inl XY) (v:=.non) rfl (λs9 I9=>?_) (.inr XY)));refine N0 (zTF I9 hN hi XY (v:=.non) (by rw[BF (by rw[BY,BY];exact Nj)]) λKx yM=>?_);refine{(σ.set ik (AA (.ref p))).set ie AK,H',yM.weak (by simp only[BY]) λi v e=>?_,q p H' g hp hl};by_cases h1:ie=i
 .subst h1;rw[BF (by rw[BY];exact Nj)] at e;cases e
 .rw[A6 h1] at e;rw[A6 h1,A6 h1];by_cases h2:ik=i
  .subst h2;have eM:ik < σ.length:=by rw[I.len];exact(AR.mp hj).1
   rw[BF eM] at e;rw[BF (by rw[BY];exact eM)];exact e
  .rw[A6 h2] at e;rw[A6 h2,A6 h1];exact e
end
abbrev GX:=Ev->Out Ev
def tX(K:AC)(H₀:Hp)(W:Hp->Prop)(g:GX):TS:=λ_ σ H=>∃τ F E E',Sim K H₀ τ F H σ E/\g E=.ok E'/\∀F' H',Stp (D6 σ E) F H F' H' (λ_=>False)->Sub F' H'->W H'
def Xe(gs:List G):GX:=λE=>(N8 gs E).bind λp=>few p.1.length (.ok p.2)
def Bo(t:Ev->Out (Bool×Ev))(g:GX):GX:=λE=>(t E).bind λp=>if p.1=AN then g p.2 else .bad
section
variable{K:AC}
theorem zTH{rest:List FM}(FB:ExcBaseFacts B ZM ini bm)(Z:KC K C bm ZM=AN)(hm:mg x=AA (.ref C))(hh:A.handled=AK) (ha:VA (SJ (TU P w C) P w K mg base N qual scope f cd A outer s₀ H₀ E) (e::es) gs) (hg:Gl (SJ (TU P w C) P w K mg base N qual scope f cd A outer s₀ H₀ E) x:=by rfl) (hd:(x==("__debug__":CD))=AD:=by decide) (he:AM (e::es) (GY qual scope s₀.heap.objs.size f cd)=(AD,eval e (GY qual scope s₀.heap.objs.size f cd))::AM es (GY qual scope s₀.heap.objs.size f cd):=by rfl) (JQ:(DC GA (AM es (GY qual scope s₀.heap.objs.size f cd))).any (·.1)=AD:=by rfl) : PSs (SJ (TU P w C) P w K mg base N qual scope f cd A outer s₀ H₀ E) (.Raise (AA (.Call (.Name x np) (e::es) [] GA)) AK pos::rest) (tX K H₀ (λH'=>E (.ref C) AK H') (Xe gs)) :=(aC (zWR FB Z hm hh ha hg hd he JQ) As).imp λD σ H h=>by have{τ,F,E1,E2,S,hg,k}:=h;have{p,e1,hg}:=pA3 hg;have{hl,hg}:=XS hg;exact{τ,F,E1,p.1,p.2,S,e1,λvs F1 H1 s1 S1 r1=>{by rw[r1.length];exact CQ (bM hl),k F1 H1 (s1.weak λ_ z=>z.elim) S1.sub}}
end
section
variable{W:Hp->Prop}
theorem yFB{a rest:List FM}(hc:VT X c t)(ha:PSs X a (tX X.K X.H₀ W gx)):PSs X (.If c a [] pos::rest) (tX X.K X.H₀ W (Bo t gx)) :=(aC (Dv hc ha U7) As).imp λD σ H h=>by
  have{τ,F,E1,E2,S,hg,k}:=h;have{p,e1,hg}:=pA3 hg;refine{τ,F,E1,p.1,p.2,S,e1,λF1 H1 s1 S1=>?_};by_cases hp:p.1=AN
  .rw[if_pos hp] at hg ⊢;exact{τ,F1,p.2,E2,S1,hg,λF2 H2 s2 b=>k F2 H2 (s1.trans s2) b}
  .rw[if_neg hp] at hg;cases hg
end
theorem Sim.pad{K:AC}(N:List CD)(s:Sub F H)(r:Reps K F vs ds):Sim K H₀ τ F H (start N vs) (ds.map Sl.val++BI (N.length-ds.length) .no):=by
 have lv:=r.length;have S:=Sim.args (H₀:=H₀) (τ:=τ) s r;have ZT:∀i x,(ds.map Sl.val++BI (N.length-ds.length) Sl.no)[i]?=AA x->x≠.no->i<ds.length/\(ds.map Sl.val)[i]?=AA x:=λi x q n=>by
  by_cases hi:i<ds.length
  .rw[CA (by rw[AJ];exact hi)] at q;exact{hi,q}
  .rw[BX (by rw[AJ];exact E4 hi),DZ] at q;split at q
   .cases q;exact absurd rfl n
   .cases q
 have no:∀(i:Nat) t d,(ds.map Sl.val++BI (N.length-ds.length) Sl.no)[i]?≠AA (.own t d):=λi t d q=>by
  have:=(ZT i _ q λz=>by cases z).2;rw[AU] at this;cases z:ds[i]? with
  |none=>rw[z] at this;cases this
  |some x=>rw[z] at this;cases this
 refine{s,?_,λi d q=>?_,λi t d q=>absurd q (no i t d),λi j t u d e a q=>absurd q (no i t d)}
 .unfold start;rw[BC,BC,C3,C3,AJ,AJ,lv]
 .have{hi,q}:=ZT i _ q λz=>by cases z
  unfold start;rw[CA (by rw[AJ,lv];exact hi)];exact S.val i d q
def rN(K:AC)(C:AT)(np:Nat)(mx:List D->Out Ev):Sp:=λvs H _ E=>vs.length=np/\∃F ds z,Sub F H/\Reps K F vs ds/\mx ds=.ok z/\∀F' H',New F H F' H'->E (.ref C) AK H'
noncomputable def Bn(n:Nat)(g:GX):List D->Out Ev:=λds=>g (ds.map Sl.val++BI (n-ds.length) .no)
def nP(P:BZ)(w:C8)(K:AC)(mg:CD->Option AH)(base:CM)(C:AT)(x:CD)(k np:Nat)(mx:List D->Out Ev):Prop :=∃(f:AT) (fd:CV) (ps:List CD),FnOk P w K mg base (TU P w C) k f fd ps (rN K C np mx)/\mg x=AA (.ref f)/\EO K (.ref f)=AN/\Binds K fd ps []
section
variable{K:AC}
theorem Ip{st:FM}(Fn:Fun K x qual st f fd)(S:FnScope N ps (J2 st)) (K0:∀(G3:AH) (A:GD) (outer:List V9) (s:AQ) (H:Hp) (E:XK),Room k (A.deeper (GY qual (J2 st) s.heap.objs.size f G3))->A.handled=AK ->PSs (SJ (TU P w C) P w K mg base N qual (J2 st) f G3 A outer s H E) (WG st) (tX K H (λH'=>E (.ref C) AK H') gx)):FnOk P w K mg base (TU P w C) (k+1) f fd ps (rN K C ps.length (Bn N.length gx)):=by
 have{oc,od,kV,TC,pm,an,G3,ct,ZL,rfl,lk,LU}:=Fn.ex;refine Ds lk LU S (λvs H Q E h=>h.1) λA outer s H vs Q E hr bW=>{_,K0 G3 A outer s H E hr hr.hd,?_};have{hl,F,ds,z,sb,r,hm,q}:=bW;have S:=Sim.pad (H₀:=H) (τ:=f) N sb r;refine{f,F,_,z,S,hm,λF' H' st Kv=>q F' H' {{λa o e1 e2 e3 _=>st.keep a o e1 e2 e3 λz=>?_,st.dom,st.le,λa o e=>?_,λ_ z=>z.elim},Kv}}
 .have{i,t,d,e,_}:=z;by_cases hi:i<ds.length
  .rw[CA (by rw[AJ];exact hi),AU,BP hi] at e;cases e
  .rw[BX (by rw[AJ];exact E4 hi),DZ] at e;split at e<;>cases e
 .rcases st.new a o e with z|z|⟨i,t,d,e,_⟩
  .exact .inl z
  .exact .inr (.inl z)
  .by_cases hi:i<ds.length
   .rw[CA (by rw[AJ];exact hi),AU,BP hi] at e;cases e
   .rw[BX (by rw[AJ];exact E4 hi),DZ] at e;split at e<;>cases e
theorem pAO{st:FM}(Fn:Fun K x x st f fd)(h:FnOk P w K mg base (TU P w C) k f fd ps (rN K C np mx))(hm:mg x=AA (.ref f))(hb:Binds K fd ps []):nP P w K mg base C x k np mx:={f,fd,ps,h,hm,Fn.kp,hb}
end
def nO(g:GS)(gs:List G)(mx:List D->Out Ev)(ik ie:Nat)(bs:List Bool):GS:=λE=>match g E with
 |.ok r=>.ok r
 |_=>(N8 gs E).bind λp=>(mx p.1).bind λ_=>.ok (.nx ((p.2.set ik (.val (.lst (bs.map D.bl)))).set ie .no))
theorem Sim.lose{K:AC}(S:Sim K H₀ τ F H σ E):Sim K H₀ τ F H (σ.set i u) (E.set i .no)/\∀a,D6 (σ.set i u) (E.set i .no) a->D6 σ E a:=by
 have II:∀(j:Nat) x,(E.set i Sl.no)[j]?=AA x->x≠.no->E[j]?=AA x/\(σ.set i u)[j]?=σ[j]?:=λj x q n=>by
  by_cases hj:i=j
  .subst hj;by_cases hi:i<E.length
   .rw[BF hi] at q;cases q;exact absurd rfl n
   .rw[OD (by rw[BY];exact E4 hi)] at q;cases q
  .rw[A6 hj] at q;exact{q,A6 hj}
 have ow:∀{j:Nat} {t d},(E.set i Sl.no)[j]?=AA (.own t d)->E[j]?=AA (.own t d)/\(σ.set i u)[j]?=σ[j]?:=λ{j t d} q=>II j _ q λz=>by cases z
 refine{{S.sub,by rw[BY,BY];exact S.len,λj d q=>?_,λj t d q=>?_,λj k t1 t2 d1 d2 a q1 q2 z1 z2=>?_},λa ⟨j,t,d,q1,q2⟩=>?_}
 .have{q1,q2}:=II j _ q λz=>by cases z
  rw[q2];exact S.val j d q1
 .rw[(ow q).2];exact S.own j t d (ow q).1
 .rw[(ow q1).2] at z1;rw[(ow q2).2] at z2;exact S.inj j k _ _ _ _ a (ow q1).1 (ow q2).1 z1 z2
 .rw[(ow q1).2] at q2;exact{j,t,d,(ow q1).1,q2}
theorem Rn{K:AC}:∀(bs:List Bool),Reps K F (bs.map V.bl) (bs.map D.bl)
 |[]=>.nil
 |b::bs=>.cons (.bl b) (Rn bs)
section
theorem yFC (hb:VS X (.Assign [.Name tn p5] (.Call (.Name x p6) (e::es) [] GA) LW) g) (CL:nP X.prog X.w X.K X.mg X.base C x k np mx) (hr:Room k X.A) (ha:VA X (e::es) gs) (KK:KU X.prog X.w X.K X.mg X.base fk C bs) (oQ:Room 2 X.A) (hkf:X.mg kf=AA (.ref fk)) (hkk:EO X.K (.ref fk)=AN) (hW:X.mg W=AA (.ref WA)) (hx:N3 X.K (.ref C) (.ref WA)=AA AN) (hN:X.N.Nodup) (hi:X.N[ie]?=AA n) (hj:X.N[ik]?=AA kn) (LS:ie≠ik) (XY:X.env.scope.names.lookup n=AA .local) (S7:X.env.scope.names.lookup kn=AA .local) (stk:X.stack=X.env::X.outer:=by rfl) (hf:X.env.frame=AA X.env.locals:=by rfl) (hxe:X.xe=λ_ _=>False:=by rfl) (sH:gs.length=np:=by rfl) (No:Gl X W:=by rfl) (Nm:Gl X kf:=by rfl) (hgx:Gl X x:=by rfl) (Oc:(W==("__debug__":CD))=AD:=by decide) (Ob:(kf==("__debug__":CD))=AD:=by decide) (hdx:(x==("__debug__":CD))=AD:=by decide) (Nz:(n==("__debug__":CD))=AD:=by decide) (Df:(n==("__classdict__":CD))=AD:=by decide) (he:AM [.Name n p1] X.env=(AD,eval (.Name n p1) X.env)::AM [] X.env:=by rfl) (oM:HW (.Call (.Name kf p2) [.Name n p1] [] RH) (AA (.Name kn p3)) eE.line X.env=pure AD:=by rfl) (Ny:AM (e::es) X.env=(AD,eval e X.env)::AM es X.env:=by rfl) (JQ:(DC GA (AM es X.env)).any (·.1)=AD:=by rfl) (hsx:HW (.Call (.Name x p6) (e::es) [] GA) (AA (.Name tn p5)) LW.line X.env=pure AD:=by rfl) : VS X (.Try [.Assign [.Name tn p5] (.Call (.Name x p6) (e::es) [] GA) LW] [.ExceptHandler (AA (.Name W nw)) (AA n) [.Assign [.Name kn p3] (.Call (.Name kf p2) [.Name n p1] [] RH) eE] p4] [] [] pos) (nO g gs mx ik ie bs):=by
 intro AF s σ H D' I h;have{τ,F,E,r,S,hg,q}:=h;refine wpAny_Try_except ?_;unfold nO at hg;split at hg
 .rename_i r' eg;cases hg;refine K2 (CZ (hb AF s σ H D' I {τ,F,E,r,S,eg,q}) (λfl s1 z=>?_) λe s1 z=>?_)
  .cases fl with
   |next=>exact IN (IN z)
   |brk=>exact z
   |cont=>exact z
   |ret u=>exact z
  .rw[hxe] at z;exact z.elim
 .have{p,e1,hg}:=pA3 hg;have{z,e2,hg}:=pA3 hg;cases hg;have{f,fd,ps,Fn,hm,hk,hbn}:=CL;refine K2 (UG (ID (qH I hgx hm ?_ hdx)) hsx);refine OX I.ok.mod.kin hk (CZ (ha GA AF s σ H (λvs H1=>∃F1,Stp (D6 σ E) F H F1 H1 (D6 σ p.2)/\Sim X.K X.H₀ τ F1 H1 σ p.2/\Reps X.K F1 vs p.1) I {τ,F,E,p.1,p.2,S,e1,λvs F1 H1 s1 S1 r1=>{F1,s1,S1,r1}}) (λus s1 z0=>?_) λ_ _ z=>by rw[hxe] at z;exact z.elim) Ny JQ;have{vs,H1,I1,r1,F1,s1',S1,rp}:=z0;refine{I1.kIn,?_};have hl:us.length=ps.length:=by rw[<-r1.length];exact Fn.len vs H1 (λ_ _=>False) (λcls _ H2=>cls=.ref C/\∃F2,New F1 H1 F2 H2) {by rw[rp.length,k4 e1];exact sH,F1,p.1,z,S1.sub,rp,e2,λF2 H2 n=>{rfl,F2,n}}
  refine TH (MD (Fn.run X.A X.stack s1 H1 {us,[]} us vs (λ_ _=>False) (λcls _ H2=>cls=.ref C/\∃F2,New F1 H1 F2 H2) hr I1.env0 ?_ r1 {by rw[rp.length,k4 e1];exact sH,F1,p.1,z,S1.sub,rp,e2,λF2 H2 n=>{rfl,F2,n}}) λrr s2 hq=>?_)
  .have:=hbn s1 us I1.kIn (by rw[C5];exact hl);rw[C5] at this;exact this
  .cases rr with
   |ok fl =>
    cases fl with
    |ret u=>have{_,_,_,_,_,_,_,z}:=hq;exact z.elim
    |next=>exact hq.elim
    |brk=>exact hq.elim
    |cont=>exact hq.elim
   |error ee=>have{a,H2,h1,fr,a0,rfl,Fy,_,F2,n2}:=hq;refine zWT I1 Fy KK oQ hkf hkk hW hx hN hi hj LS XY S7 stk hf (λpp H3 gr hp hl3=>?_) No Nm Oc Ob Nz Df he oM;have n3:=n2.trans (New.gro n2.2 gr);have rr:Rep X.K (gro F2 H2 H3) (.ref pp) (.lst (bs.map D.bl)):=.lst (.inl (.inl (by rw[Aa hp];exact hl3))) (Rn bs);have{S4,w4}:=(S1.new n3).put rr;have{S5,w5}:=S4.lose;exact q _ _ _ (((s1'.trans n3.stp).weak w4).weak w5) S5
end
end _L
namespace _L
open PySem
structure TryS(P:BZ)(w:C8)(K:AC)(mg:CD->Option AH)(base:CM)(C WA fk:AT)(bs:List Bool):Prop where
 KK:KU P w K mg base fk C bs
 hkf:mg "_law_kinds"=AA (.ref fk)
 hkk:EO K (.ref fk)=AN
 hW:mg "WayError"=AA (.ref WA)
 hx:N3 K (.ref C) (.ref WA)=AA AN
end _L
namespace _L
open PySem PySem.Spec PyProof.Rows
end _L
namespace _L
open PySem
theorem HG{α β:Type}{x:Out α}{a:α}{f:α->Out β}{r:Out β}(h:x=.ok a)(h2:f a=r):x.bind f=r:=by rw[h];exact h2
theorem G7(h:g E=.ok (.nx E1))(h2:g' E1=r):FX g g' E=r:=by unfold FX;rw[h];exact h2
theorem tD(h:g E=.ok (.rt b d E1)):FX g g' E=.ok (.rt b d E1):=by unfold FX;rw[h];rfl
theorem ZC(h:t E=.ok (AN,E1))(h2:g E1=r):NH t g g' E=r:=by unfold NH;rw[h];exact h2
theorem TN(h:t E=.ok (AD,E1))(h2:g' E1=r):NH t g g' E=r:=by unfold NH;rw[h];exact h2
theorem Ah(P:Nat->Ev->Prop):∀{ds:List D} {E:Ev} (o:Nat),P o E ->(∀i d E,ds[i]?=AA d->P (o+i) E->∃E1,WY t d E=.ok E1/\∃E2,g E1=.ok (.nx E2)/\P (o+(i+1)) E2)->∃E',UR t g ds E=.ok (.nx E')/\P (o+ds.length) E'
 |[],E,o,h0,_=>{E,rfl,h0}
 |d::ds,E,o,h0,hs=>by
  have{E1,e1,E2,e2,p2}:=hs 0 d E rfl h0;have{E',e',p'}:=Ah P (o+1) p2 λi d' E3 hd hp=>by have:=hs (i+1) d' E3 (by simpa using hd) (by rw[show o+(i+1)=o+1+i by lia];exact hp);rw[show o+(i+1+1)=o+1+(i+1) by lia] at this;exact this
  refine{E',?_,?_}
  .unfold UR;rw[e1];simp only[Out.bind];rw[e2];exact e'
  .rw[BA,show o+(ds.length+1)=o+1+ds.length by lia];exact p'
theorem bN(P:Nat->Ev->Prop)(hi:gi E=.ok (ds,E1))(h0:P 0 E1) (hs:∀i d E,ds[i]?=AA d->P i E->∃E1,WY t d E=.ok E1/\∃E2,g E1=.ok (.nx E2)/\P (i+1) E2):∃E',OQ gi t g E=.ok (.nx E')/\P ds.length E':=by have{E',e,p}:=Ah P 0 h0 (λi d E hd hp=>by rw[ED] at hp ⊢;exact hs i d E hd hp);refine{E',?_,by simpa using p};unfold OQ;rw[hi];exact e
theorem tB(P:Nat->Ev->Prop)(Q:Ev->Prop) (hs:∀n E,P n E->(∃E1,t E=.ok (AD,E1)/\Q E1)\/(∃E1 E2 m,t E=.ok (AN,E1)/\g E1=.ok (.nx E2)/\m<n/\P m E2)) : ∀(fuel n:Nat) (E:Ev),n<fuel->P n E->∃E',XV t g fuel E=.ok (.nx E')/\Q E'
 |0,n,E,hn,_=>by lia
 |fuel+1,n,E,hn,h=>by
  rcases hs n E h with⟨E1,e1,q⟩|⟨E1,E2,m,e1,e2,hm,p⟩
  .refine{E1,?_,q};unfold XV;rw[e1];rfl
  .have{E',e',q}:=tB P Q hs fuel m E2 (AO hm (IK hn)) p;refine{E',?_,q};unfold XV;rw[e1];simp only[Out.bind,if_true];rw[e2];exact e'
theorem XQ{n:Nat}{α:Type}{x:Out α}(h:n<10000):few n x=x:=if_pos h
theorem yFD(f:D->List D)(M:Nat)(P:Ev->Prop):∀{ds acc:List D} {E:Ev},P E->acc.length+ds.length * M<10000->(∀d∈ds,(f d).length<=M) ->(∀d∈ds,∀(acc:List D) (E:Ev),acc.length+M<10000->P E->∃E1,WY t d E=.ok E1/\∃b E2,tt E1=.ok (b,E2)/\((b=AN/\∃E3,gm (.lst acc) E2=.ok (.lst (acc++f d),E3)/\P E3)\/(b=AD/\f d=[]/\P E2))) ->∃E',ZD t tt gm ds (.lst acc) E=.ok (.lst (acc++ds.flatMap f),E')/\P E':= by
 intro ds;induction ds with
 |nil=>intro acc E h0 _ _ _;exact{E,by simp[ZD],h0}
 |cons d ds ih =>
  intro acc E h0 hl hM hs;rw[BA,Nat.succ_mul] at hl;have{E1,e1,b,E2,e2,h}:=hs d A2 acc E 'L' h0;have hd:=hM d A2;rcases h with⟨rfl,E3,e3,p⟩|⟨rfl,ef,p⟩
  .have{E',e',p'}:=ih (acc:=acc++f d) p (by rw[BC];lia) (λd hd=>hM d (A5 _ hd)) λd hd=>hs d (A5 _ hd);refine{E',?_,p'};unfold ZD;rw[e1];simp only[Out.bind];rw[e2];simp only[if_true];rw[e3];simp only;rw[e',EC,CP]
  .have{E',e',p'}:=ih (acc:=acc) p 'L' (λd hd=>hM d (A5 _ hd)) λd hd=>hs d (A5 _ hd);refine{E',?_,p'};unfold ZD;rw[e1];simp only[Out.bind];rw[e2];simp only[if_false,P3];rw[e',EC,ef,G0]
theorem yA4{ge:G}{acc:List D}{E E':Ev}{x:D}(h:ge E=.ok (x,E'))(hl:acc.length<10000):Dt ge (.lst acc) E=.ok (.lst (acc++[x]),E'):=HG h (XQ hl)
theorem zWU(f:D->List D)(M:Nat)(P:Ev->Prop)(hi:gi E=.ok (ds,E1))(h0:P (WP k js E1))(hl:ds.length * M<10000)(hM:∀d∈ds,(f d).length<=M) (hs:∀d∈ds,∀(acc:List D) (E:Ev),acc.length+M<10000->P E->∃E1,WY t d E=.ok E1/\∃b E2,tt E1=.ok (b,E2)/\((b=AN/\∃E3,gm (.lst acc) E2=.ok (.lst (acc++f d),E3)/\P E3)\/(b=AD/\f d=[]/\P E2))) (hb:∀Ec,P Ec->WZ E1 Ec k js=E1):mV gi k js (.lst []) t tt gm E=.ok (.lst (ds.flatMap f),E1):=by have{E',e',p'}:=yFD f M P (acc:=[]) h0 (by simpa using hl) hM hs;unfold mV;rw[hi];simp only[Out.bind];rw[e'];simp only[G0];rw[hb _ p']
theorem kT(f:D->List D)(P:Ev->Prop)(hi:gi E=.ok (ds,E1))(h0:P (WP k js E1))(hl:ds.length<10000) (hs:∀d∈ds,∀E,P E->∃E1,WY t d E=.ok E1/\∃b E2,tt E1=.ok (b,E2)/\((b=AN/\∃x E3,ge E2=.ok (x,E3)/\f d=[x]/\P E3)\/(b=AD/\f d=[]/\P E2))) (hb:∀Ec,P Ec->WZ E1 Ec k js=E1):RC gi k js t tt ge E=.ok (.lst (ds.flatMap f),E1):=by
 by_cases hP:∀d∈ds,∃E,P E
 .refine zWU f 1 P hi h0 'L' (λd hd=>?_) (λd hd acc E eQ hE=>?_) hb
  .have{E,hE}:=hP d hd;obtain⟨_,_,_,_,_,⟨_,x,_,_,ef,_⟩|⟨_,ef,_⟩⟩:=hs d hd E hE
   .rw[ef];exact AL _
   .rw[ef];exact BQ _
  .obtain⟨E1,e1,b,E2,e2,⟨hb,x,E3,e3,ef,p⟩|h⟩:=hs d hd E hE
   .exact{E1,e1,b,E2,e2,.inl {hb,E3,by rw[ef];exact yA4 e3 (AS (A3 _ _) eQ),p}}
   .exact{E1,e1,b,E2,e2,.inr h}
 .exact absurd (λd hd=>{_,h0}) hP
def Pl(n:Nat)(d:D):Prop:=∃p,d.py=AA p/\p.depth<=n/\p.canLay0=AN
def Pls(n:Nat)(ds:List D):Prop:=∃ps,pAH ds=AA ps/\SE ps<=n/\GV ps=AN
theorem Pl.int(n:Nat)(i:Int):Pl n (.int i):={_,rfl,BQ _,rfl}
theorem Pls.nil(n:Nat):Pls n []:={_,rfl,BQ _,rfl}
theorem Pls.cons(h:Pl n d)(t:Pls n ds):Pls n (d::ds):=by have{p,e,a,b}:=h;have{ps,e2,a2,b2}:=t;exact{p::ps,by simp[pAH,e,e2],by simp only[SE];lia,by simp[GV,b,b2]}
theorem Pls.tup(t:Pls n ds):Pl (n+1) (.tup ds):=by have{ps,e2,a2,b2}:=t;exact{.tuple ps,by simp[D.py,e2],by simp only[IQ];lia,b2}
theorem Pls.lst{n:Nat}{ds:List D}(t:Pls n ds):Pl (n+1) (.lst ds):=by have{ps,e2,a2,b2}:=t;exact{.list ps,by simp[D.py,e2],by simp only[IQ];lia,b2}
theorem Pls.of{α:Type}{f:α->D}:∀{xs:List α},(∀x∈xs,Pl n (f x))->Pls n (xs.map f)
 |[],_=>.nil n
 |x::xs,h=>.cons (h x A2) (Pls.of λy hy=>h y (A5 _ hy))
theorem Pls.ints(n:Nat)(ns:List Int):Pls n (ns.map D.int):=Pls.of λ_ _=>.int _ _
theorem zWV(h:Pl 60 d):aF d d=.ok (.bl AN):=by have{p,e,a,b}:=h;unfold aF;simp only[e];rw[if_pos (AW (mF _ _) a),SeqAt.eqv_refl p b]
theorem yA5(a b:Int):aF (.int a) (.int b)=.ok (.bl (decide (a=b))):=by simp only[aF,D.py,IQ,EJ];by_cases h:a=b<;>simp[h]
theorem qK(a b:Int):L9 (.int a) (.int b)=.ok (.bl (decide (a≠b))):=by simp only[L9,D.py,IQ,EJ];by_cases h:a=b<;>simp[h]
theorem zWW(a:Int):L9 (.int a) .non=.ok (.bl AN):=by simp[L9,D.py,IQ,EJ]
theorem Rm(h:Pls n ds):L9 (.lst ds) (.lst [])=.ok (.bl (!ds.isEmpty)):=by
 have{ps,e2,a2,b2}:=h;have e0:pAH []=AA []:=by simp[pAH]
 unfold L9;simp only[D.py,e2,e0,Option.map];rw[if_pos (by simp only[IQ,SE];lia),EJ];cases ds with
 |nil=>rw[e0] at e2;cases e2;rfl
 |cons d ds =>
  cases ps with
  |nil=>simp only[pAH] at e2;split at e2<;>simp at e2
  |cons p ps=>rfl
theorem Gd:∀ns:List Int,pAH (ns.map D.int)=AA (ns.map ZX)
 |[]=>by simp[pAH]
 |n::ns=>by simp[pAH,D.py,Gd ns]
theorem Rl(x:Int)(ns:List Int):QA (.int x) (.lst (ns.map D.int))=.ok (.bl (decide (x∈ns))):=by simp only[QA,Gd,D.py];rw[if_pos (show IQ (.int x)<=60 from BQ _),Gq]
theorem tQ(x:Int)(ns:List Int):QA (.int x) (.tup (ns.map D.int))=.ok (.bl (decide (x∈ns))):=by simp only[QA,Gd,D.py];rw[if_pos (show IQ (.int x)<=60 from BQ _),Gq]
theorem zQS(ns:List Int):bI [.lst (ns.map D.int)]=.ok (.lst ((ZE ns).map D.int)):=by simp[bI,uG]
theorem Wm(ps:List (Int×Int)):bI [.lst (ps.map M4)]=.ok (.lst ((Z7 ps).map M4)):=by
 cases ps with
 |nil=>simp[bI,RE,ZE,Z7]
 |cons p ps=>have:=Az (p::ps);simp only[bI];rw[this,show RE ((p::ps).map M4)=AK from rfl]
theorem sZ(h0:0<=i)(h:xs[i.toNat]?=AA x):atI xs i=AA x:=by have:=Sj h;rwa [show(i.toNat:Int)=i by lia] at this
theorem Ed{n:Nat}{i:Int}(h0:0<=i)(h:i<n):XU n i=AA i.toNat:=by unfold XU;rw[if_pos h0,if_pos h]
section
variable{κ:Type}[DecidableEq κ]
theorem zKR(kvs:List (κ×D))(k:κ)(v:D):NA (O4 kvs k v) k=AA v:=by
 unfold O4;split
 .rename_i h;unfold NA;induction kvs with
  |nil=>simp at h
  |cons kv kvs ih =>
   by_cases e:kv.1=k
   .simp[e]
   .simp only[FT,e,Bool.false_or] at h;have:=ih h;simpa[e] using this
 .rename_i h;unfold NA;rw[fK];have:(kvs.find? λkv=>decide (kv.1=k))=AK:=by rw[List.find?_eq_none];intro x hx z;exact h (HI.mpr {x,hx,z})
  rw[this];simp
theorem zOC(kvs:List (κ×D))(v:D)(hk:k'≠k):NA (O4 kvs k v) k'=NA kvs k':=by
 unfold O4;split
 .rename_i hh;clear hh;unfold NA;induction kvs with
  |nil=>rfl
  |cons kv kvs ih =>
   rw[AV];by_cases e:kv.1=k
   .rw[if_pos e,FK,FK];have:¬kv.1=k':=λz=>hk (z.symm.trans e);simp only[this,decide_false];exact ih
   .rw[if_neg e,FK,FK];by_cases e2:kv.1=k'
    .simp[e2]
    .simp only[e2,decide_false];exact ih
 .unfold NA;rw[fK];have:(List.find? (λkv:κ×D=>decide (kv.1=k')) [(k,v)])=AK:=by simp[FI hk]
  rw[this];simp
theorem Gc(kvs:List (κ×D))(k:κ)(v:D):(O4 kvs k v).length<=kvs.length+1:=by
 unfold O4;split
 .simp
 .simp
end
theorem PX(h1:N8 gs E=.ok (ds,E'))(h2:m (ds.map Sl.val)=.ok (b,d,d')):KB m gs E=.ok (d,E'):=HG h1 (HG h2 rfl)
theorem zWX:N8 [] E=.ok ([],E):=rfl
theorem RF(h1:g E=.ok (d,E1))(h2:N8 gs E1=.ok (ds,E2)):N8 (g::gs) E=.ok (d::ds,E2):=HG h1 (HG h2 rfl)
theorem KR(h1:g E=.ok (d,E1)):N8 [g] E=.ok ([d],E1):=RF h1 zWX
theorem P8(h1:N8 gs E=.ok (ds,E'))(h2:f ds=.ok d):gN f gs E=.ok (d,E'):=HG h1 (HG h2 rfl)
theorem sY{gs:List G}{E E':Ev}{ds:List D}(h1:N8 gs E=.ok (ds,E'))(h2:ds.length<10000):T8 gs E=.ok (.tup ds,E'):=HG h1 (XQ h2)
theorem kK{gs:List G}{E E':Ev}{ds:List D}(h1:N8 gs E=.ok (ds,E'))(h2:ds.length<10000):J1 gs E=.ok (.lst ds,E'):=HG h1 (XQ h2)
theorem RD(h:g E=.ok (d,E')):NB g E=.ok (.rt AD d E'):=HG h rfl
theorem Rk(h:g E=.ok (d,E')):yS g E=.ok (.rt AN d E'):=HG h rfl
theorem N9(h:g E=.ok (d,E'))(h2:WY t d E'=.ok E2):I0 t g E=.ok (.nx E2):=HG h (HG h2 rfl)
theorem X9(h:g E=.ok (d,E')):RX i g E=.ok (.nx (E'.set i (.own AD d))):=HG h rfl
theorem qJ(h:g E=.ok (d,E')):X6 g E=.ok (.nx E'):=HG h rfl
theorem FW(h1:ga E=.ok (x,E1))(h2:gb E1=.ok (y,E2))(h3:f x y=.ok d):g2 f ga gb E=.ok (d,E2):=HG h1 (HG h2 (HG h3 rfl))
theorem N7(h:g E=.ok (.bl b,E')):gB g E=.ok (b,E'):=HG h rfl
theorem mO(h:g E=.ok (d,E'))(h2:Xg d=.ok b):Z5 g E=.ok (b,E'):=HG h (HG h2 rfl)
theorem Fg(h:t E=.ok (b,E')):iO t E=.ok (!b,E'):=HG h rfl
theorem Yr(h:t E=.ok (AD,E'))(h2:u E'=r):rD t u E=r:=HG h h2
theorem mT(h:t E=.ok (AN,E'))(h2:u E'=r):bK t u E=r:=HG h h2
theorem zE(h:t E=.ok (AD,E')):bK t u E=.ok (AD,E'):=HG h rfl
theorem ZG(h:g (N6 is E)=.ok (d,E'))(h2:cW is E d=AN):OY is g E=.ok (d,E):=HG h (if_pos h2)
theorem yA6(h:g (N6 is E)=.ok (d,E'))(h2:d.kids=AN):Jb is g E=.ok (d,E):=HG h (if_pos h2)
theorem WT(h:g (N6 is E)=.ok (d,E')):QT is g E=.ok (d,E):=HG h rfl
theorem P7(h:gb (sl++BI (n-sl.length) .no)=.ok (.rt b d E'))(h2:fin sl E' b d=r):O5 n gb sl=r:=HG h h2
theorem zO(h:g E=.ok (d,E')):pV c g E=.ok (.bl (isB (By d) c),E'):=HG h rfl
theorem Ff(h:g E=.ok (.int j,E'))(h2:mU j):cS g E=.ok (T4 0 j.toNat,E'):=HG h (if_pos h2)
theorem yA7(h:g E=.ok (.int i,E1))(h1:g' E1=.ok (.int j,E'))(h2:mU i/\mU j):sS g g' E=.ok (T4 i (j-i).toNat,E'):=HG h (HG h1 (if_pos h2))
theorem nB(h:g E=.ok (.lst ds,E')):LB g E=.ok (ds,E'):=HG h rfl
theorem tP(h:g E=.ok (.tup ds,E')):LB g E=.ok (ds,E'):=HG h rfl
theorem bP(h0:E[i]?=AA (.own t2 d0))(h1:gv E=.ok (v,E1))(h2:gk E1=.ok (k,E2))(h3:E2[i]?=AA (.own t d))(h4:jZ d k v=.ok d'):QV i gk gv E=.ok (.nx (E2.set i (.own t d'))):=by unfold QV;rw[h0];simp only;rw[h1];simp only[Out.bind];rw[h2];simp only[h3];rw[h4]
theorem Ti(h0:E[i]?=AA (.own t2 d0))(h1:N8 gs E=.ok (ds,E1))(h2:E1[i]?=AA (.own t d))(h3:m (.own AN d::ds.map Sl.val)=.ok (b,x,d')):LH m i gs E=.ok (x,E1.set i (.own t d')):=by unfold LH;rw[h0];simp only;rw[h1];simp only[Out.bind,h2];rw[h3]
theorem kR(h0:E[i]?=AA (.own t2 (.lst xs0)))(h1:N8 gs E=.ok (ds,E1))(h2:E1[i]?=AA (.own t (.lst xs)))(h3:f xs ds=.ok (x,UD)):O7 i f gs E=.ok (x,E1.set i (.own t (.lst UD))):=by unfold O7;rw[h0];simp only;rw[h1];simp only[Out.bind,h2];rw[h3]
theorem zWY(h0:gf E=.ok (d,E1))(h1:N8 gs E1=.ok (ds,E2))(h3:m (.own AN d::ds.map Sl.val)=.ok (b,x,d')):pZ m gf gs E=.ok (x,E2):=HG h0 (HG h1 (HG h3 rfl))
theorem zWZ(h1:N8 gs E=.ok (ds,E'))(h2:m (ds.map Sl.val)=.ok (AN,d,d')):qC m gs E=.ok (d,E'):=HG h1 (HG h2 rfl)
theorem Pu(h1:gd E=.ok (a,E1))(h2:gk E1=.ok (k,E2))(h3:gx E2=.ok (x,E3))(h4:iK a k=AA o):cO gd gk gx E=.ok (o.getD x,E3):=HG h1 (HG h2 (HG h3 (by simp only[h4])))
theorem yH1(h:ga E=.ok (.bl AN,E1))(h2:gb E1=r):Ij ga gb E=r:=HG h h2
theorem yFF(h:ga E=.ok (.bl b,E1)):Ii ga E=.ok (.bl (!b),E1):=HG h rfl
theorem Jg(h:ds.length=n):QR [.lst ds]=.ok (.int n):=by subst h;rfl
theorem yH2(h:ds.length=n):QR [.tup ds]=.ok (.int n):=by subst h;rfl
theorem Yq{a b c:List D}(h:a.length+b.length<10000)(e:a++b=c):NG (.lst a) (.lst b)=.ok (.lst c):=by subst e;exact XQ h
theorem Pt{d:D}(h:o=AA d):(match o with|some d=>Out.ok d|none=>.bad)=.ok d:=by subst h;rfl
theorem uL(h:atI ds i=AA d):E7 (.lst ds) (.int i)=.ok d:=Pt h
theorem yKQ(h:atI ds i=AA d):E7 (.tup ds) (.int i)=.ok d:=Pt h
theorem Rj{d:D}(h:o=AA (AA d)):(match o with|some (AA d)=>Out.ok d|_=>.bad)=.ok d:=by subst h;rfl
theorem Io(h:NA kvs (.inl i)=AA d):E7 (.dk kvs) (.int i)=.ok d:=Rj (congrArg AA h)
theorem Jf(h:XU ds.length i=AA j):jZ (.lst ds) (.int i) v=.ok (.lst (ds.set j v)):=by show(match XU ds.length i with|some j=>Out.ok (D.lst (ds.set j v))|none=>.bad)=_;rw[h]
theorem Yp{kvs:List (Key×D)}{i:Int}{v:D}(h:kvs.length<10000):jZ (.dk kvs) (.int i) v=.ok (.dk (O4 kvs (.inl i) v)):=XQ h
theorem Vy(x:Int)(ns:List Int):QU (.int x) (.tup (ns.map D.int))=.ok (.bl (decide (x∉ns))):=by rw[QU,tQ];simp[Out.bind]
theorem zQT(x:Int)(ns:List Int):QU (.int x) (.lst (ns.map D.int))=.ok (.bl (decide (x∉ns))):=by rw[QU,Rl];simp[Out.bind]
theorem Wl(p:Int->Bool)(h:∀x,f (.int x)=if p x=AN then[g x] else[]):∀l:List Int,(l.map D.int).flatMap f=(l.filter p).map g
 |[]=>rfl
 |x::l=>by
  rw[AV,EC,Wl p h l,h x,KL];by_cases e:p x=AN
  .rw[if_pos e,if_pos e];rfl
  .rw[if_neg e,if_neg e];rfl
end _L
namespace _L
open PySem PySem.Spec PyProof.Rows
section
def Ps(tl:TE):TI:=λσ H R=>tl σ H λx H1=>∃a o kvs,x=.ref a/\H1 a=AA (.frz o (.dK kvs))/\R (Co a o kvs) H1
theorem zW0(hl:PE X l tl):PI X tg l (Ps tl):=by
 intro AF s σ H R I h;refine G6 (hl AF s σ H _ I h) λv s1 q0=>?_;have{x,H1,I1,r1,a,o,kvs,e,ha,q}:=q0;subst e;cases r1;have{ho,hx}:=I1.hok a _ ha;have{es,ep,KJ,e1,e2,e3}:=nC hx;have{o',q1,q2,q3}:=id KJ.ex;rw[ho] at q1;cases q1;refine qO KJ λh' k ki=>?_;refine{s1.heap.objs.size,[s1.heap.objs.size],_,_,_,rfl,I1.kept k,Av a _ o kvs es ep q3 e1,ki,λb hb=>?_,q};have e:b=s1.heap.objs.size:=by simpa using hb
 subst e;exact I1.fpOk (AL _) (I1.hok.fresh (AL _))
end
section
variable{K:AC}{ow RZ M:AT->Prop}
theorem Stp.fr(h:∀a,¬ow a)(x:Stp ow F H F1 H1 RZ):Stp M F H F1 H1 M :={λa o e w n _=>x.keep a o e w n (h a),x.dom,x.le,λa o e=>(x.new a o e).imp_right λz=>z.imp_right λq=>(h a q).elim,λ_ q=>.inl q}
theorem Fe(e:D4 H a o b=AK):H b=AK:=by
 by_cases z:b=a
 .rw[z,G9] at e;cases e
 .rw[ET z] at e;exact e
theorem Stp.mine(h:M a):Stp M F H F (D4 H a o) M :={λb u e _ _ n=>by rw[ET (λz:b=a=>n (by rw[z];exact h))];exact e,λb e=>Fe e,.refl _,λb u e=>.inl (by rw[e];exact nofun),λ_ q=>.inl q}
theorem pAP{M':AT->Prop}(h:H p=AK)(hM:∀b,M' b->M b\/b=p):Stp M F H F (D4 H p o) M' :={λb u e _ _ _=>by rw[ET (U6 e h)];exact e,λb e=>Fe e,.refl _,λb u e=>.inl (by rw[e];exact nofun),λb q=>(hM b q).imp id λz:b=p=>by rw[z];exact h}
theorem yFJ(s:Sub F H)(hl:E.length=σ.length)(hv:∀(i:Nat) d,E[i]?=AA (.val d)->∃v,σ[i]?=AA (AA v)/\Rep K F v d)(ho:∀(i:Nat) t d,E[i]?≠AA (.own t d)):Sim K H₀ τ F H σ E :={s,hl,hv,λi t d e=>absurd e (ho i t d),λi j t u d d' a e=>absurd e (ho i t d)}
def k9:Option D->Sl
 |none=>.no
 |some d=>.val d
def iS(net A4:D)(x2 x3 x4 x5:Option D):Ev:=[.val net,.val A4,k9 x2,k9 x3,k9 x4,k9 x5,.no]
theorem Yo:∀(i:Nat) t d,(iS net A4 x2 x3 x4 x5)[i]?≠AA (.own t d)
 |0,_,_=>λh=>by cases h
 |1,_,_=>λh=>by cases h
 |2,_,_=>λh=>by cases x2<;>cases h
 |3,_,_=>λh=>by cases x3<;>cases h
 |4,_,_=>λh=>by cases x4<;>cases h
 |5,_,_=>λh=>by cases x5<;>cases h
 |6,_,_=>λh=>by cases h
 |_+7,_,_=>λh=>by cases h
theorem pW(a:AT):¬D6 σ (iS net A4 x2 x3 x4 x5) a:=(λq0=>by have{i,t,d,e,_}:=q0;exact Yo i t d e)
def OptR(K:AC)(F:Hp)(u:Option V)(x:Option D):Prop:=∀d,x=AA d->∃v,u=AA v/\Rep K F v d
theorem OptR.none:OptR K F u AK:=λ_ h=>by cases h
theorem OptR.some(h:Rep K F v d):OptR K F (AA v) (AA d):=λ_ e=>by cases e;exact{_,rfl,h}
theorem OptR.sl(h:OptR K F u x)(e:k9 x=.val d):∃v,u=.some v/\Rep K F v d:=by
 cases x with
 |none=>cases e
 |some y=>cases e;exact h _ rfl
theorem zD(s:Sub F H)(hn:Rep K F vn net)(hg:Rep K F vg A4)(h2:OptR K F u2 x2)(h3:OptR K F u3 x3)(h4:OptR K F u4 x4)(h5:OptR K F u5 x5) : Sim K H₀ τ F H [AA vn,AA vg,u2,u3,u4,u5,u6] (iS net A4 x2 x3 x4 x5):=by
 refine yFJ s rfl (λi d e=>?_) Yo;have op:∀{u:Option V} {x:Option D},OptR K F u x->AA (k9 x)=AA (.val d)->∃v,AA u=AA (AA v)/\Rep K F v d:=λh e=>by have{v,rfl,r}:=h.sl (BH e);exact{v,rfl,r}
 match i,e with
 |0,e=>cases e;exact{_,rfl,hn}
 |1,e=>cases e;exact{_,rfl,hg}
 |2,e=>exact op h2 e
 |3,e=>exact op h3 e
 |4,e=>exact op h4 e
 |5,e=>exact op h5 e
 |6,e=>cases e
 |_+7,e=>cases e
noncomputable def VB(ρ:Int->AT)(l:List Int):List (Key×V):=l.map λp=>(CS p,V.ref (ρ p))
structure Rws(F H:Hp)(a:AT)(ρ:Int->AT)(l:List Int)(g:Int->List Int):Prop where
 at':∀p∈l,H (ρ p)=AA (.lst ((g p).map V.int))/\F (ρ p)=AK/\ρ p≠a
 inj:∀p∈l,∀q∈l,ρ p=ρ q->p=q
theorem Th:∀{l:List Int},p∈l->QS (VB ρ l) (CS p:Key)=AA (.ref (ρ p))
 |x::l,h=>by
  unfold QS VB;rw[AV,FK];by_cases e:x=p
  .subst e;simp
  .have:decide ((CS x:Key)=CS p)=AD:=decide_eq_false λz=>e (IF z);simp only[this];exact Th ((A8.mp h).resolve_left (FI e))
theorem zW1(h:p∉l):RB (VB ρ l) (CS p:Key) (.ref r)=VB (λq=>if q=p then r else ρ q) (l++[p]):=by
 unfold RB;rw[if_neg]
 .unfold VB;rw[EH];congr 1
  .exact JA λq hq=>by have:q≠p:=λz=>h (z▸hq);simp only[this,if_false]
  .simp
 .unfold VB;simp only[Q8,HI,OI,decide_eq_true_eq,not_exists,not_and];exact λq hq z=>h (IF z▸hq)
structure Tb(K:AC)(net A4:D)(vn vg:V)(ow:AT->Prop)(Fs Hs F H:Hp)(M:AT->Prop):Prop where
 sub:Sub F H
 n:Rep K F vn net
 g:Rep K F vg A4
 st:Stp ow Fs Hs F H M
variable{IC:AT->Prop}
theorem Tb.to(T:Tb K net A4 vn vg IC Fs Hs F H M){M':AT->Prop}(s:Stp M F H F1 H1 M')(sb:Sub F1 H1):Tb K net A4 vn vg IC Fs Hs F1 H1 M' :={sb,T.n.le s.le,T.g.le s.le,T.st.trans s}
theorem Tb.step(T:Tb K net A4 vn vg IC Fs Hs F H M)(h:∀a,¬ow a)(s:Stp ow F H F1 H1 RZ)(sb:Sub F1 H1):Tb K net A4 vn vg IC Fs Hs F1 H1 M:=T.to (s.fr h) sb
theorem Rws.step(R:Rws F H a ρ l g)(h:∀a,¬ow a)(s:Stp ow F H F1 H1 RZ):Rws F1 H1 a ρ l g :={λp hp=>let ⟨x,y,z⟩:=R.at' p hp;{s.keep _ _ x trivial y (h _),s.nF y x trivial (h _),z},R.inj}
theorem Sub.off(s:Sub F H)(h:F a=AK):Sub F (D4 H a o):=λb u e=>by rw[ET (U6 e h)];exact s b u e
theorem Sub.both(s:Sub F H):Sub (D4 F a o) (D4 H a o):=λb u e=>by
 by_cases z:b=a
 .rw[z,G9] at e ⊢;exact e
 .rw[ET z] at e ⊢;exact s b u e
def Xd(K:AC)(H₀:Hp)(m:Mr):TS:=Bw (tI K H₀ (LB (KB m [AY 0,AY 1,gC .non]))) (bL 3) (Zf (bH 2) (bH 3) (rK Bv))
def tabIn(K:AC)(H₀:Hp):TS:=Bw (Ps (bH 2)) (bL 3) (Yd (tT K H₀ (gB (g2 QU (AY 3) (AY 5)))) (Zk (Zq K "list" Fm (k8 zS (bH 2) (bH 3)) (sW (bH 4) Bv))) Zl)
def Im(K:AC)(H₀:Hp)(m:Mr):TS:=Bw (Qq (bH 2)) (bL 4) (mI (j5 (tV K H₀ (KB m [AY 0,AY 1,AY 4])) (bL 5)) (tabIn K H₀))
structure TabC(m:Mr)(E:Ev)(net A4:D)(L:List Int)(left:Int->List Int):Prop where
 env:E=[.val net,.val A4,.own AD (.dk []),.no,.no,.no,.no]
 all:∃b d',m [.val net,.val A4,.val .non]=.ok (b,.lst (L.map D.int),d')
 nd:L.Nodup
 len:L.length<=1000
 each:∀c∈L,∃b d',m [.val net,.val A4,.val (.int c)]=.ok (b,.lst ((left c).map D.int),d')
noncomputable def kG(L:List Int)(left:Int->List Int):D:=.dk (L.map λp=>(CS p,.lst ((L.filter λc=>decide (p∉left c)).map D.int)))
open Classical in
def nL(m:Mr):GS:=λE=>if h:∃q:(D×D)×List Int×(Int->List Int),TabC m E q.1.1 q.1.2 q.2.1 q.2.2 then .ok (.nx (iS h.choose.1.1 h.choose.1.2 (AA (kG h.choose.2.1 h.choose.2.2)) AK AK AK)) else .bad
theorem tab_of(h:nL m E=.ok r):∃net A4 L left,TabC m E net A4 L left/\r=.nx (iS net A4 (AA (kG L left)) AK AK AK):=by
 unfold nL at h;split at h
 .rename_i e;cases h;exact{_,_,_,_,e.choose_spec,rfl}
 .cases h
theorem Tf{a b:List Int}(h:a.map D.int=b.map D.int):a=b:=by have:=congrArg RE h;rw[uG,uG] at this;exact BH this
theorem yBB(h:TabC m E net A4 L left):nL m E=.ok (.nx (iS net A4 (AA (kG L left)) AK AK AK)):=by
 have e:∃q:(D×D)×List Int×(Int->List Int),TabC m E q.1.1 q.1.2 q.2.1 q.2.2:={((net,A4),L,left),h};unfold nL;rw[dif_pos e];have z:=e.choose_spec;generalize e.choose=q at z;have{zz',L',lH}:=q;have{n',g'}:=zz';have ee:=h.env.symm.trans z.env;injection ee with e1 ee;injection ee with e2 ee;injection e1 with e1;injection e2 with e2;subst e1 e2;have{b,d,x}:=h.all;have{b',d',y}:=z.all;rw[x] at y;have eL:=Tf (by injection y with y;injection y with _ y;injection y with y;injection y);subst eL;have:kG L lH=kG L left:=by unfold kG;congr 1;refine JA λp hp=>?_;congr 3;refine fL λc hc=>?_;have{b,d,x}:=h.each c hc;have{b',d',y}:=z.each c hc;rw[x] at y;have:left c=lH c:=Tf (by injection y with y;injection y with _ y;injection y with y;injection y);rw[this]
 rw[this]
theorem Uz{g:Int->List Int}:∀{l:List Int},(∀p∈l,F (ρ p)=AA (.lst ((g p).map V.int)))->RepK K F (VB ρ l) (l.map λp=>(CS p,.lst ((g p).map D.int)))
 |[],_=>.nil
 |p::l,h=>.cons (.lst (.inl (.inl (h p A2))) (Reps.ints _)) (Uz λq hq=>h q (A5 _ hq))
end
theorem Le.frz(l:Le F F')(h:F a=AA (.frz o u)):F' a=AA (.frz o u):=by
 rcases l a _ h with z|⟨z,_⟩|⟨_,_,_,z,_⟩
 .exact z
 .exact z.elim
 .cases z
theorem yH5{p:Prop}[Decidable p]{A B:Prop}(h:¬p)(b:B):if p then A else B:=by rw[if_neg h];exact b
theorem yH6{p:Prop}[Decidable p]{A B:Prop}(h:p)(b:A):if p then A else B:=by rw[if_pos h];exact b
theorem uV(h:n+64<GZ):n+1<GZ:=by omega
theorem An{L:List Int}(h:i<L.length)(q:Int):q∈L.take (i+1)↔q∈L.take i\/q=L[i]:=by rw[BK h,BU,A1]
theorem Gb{L:List Int}(nd:L.Nodup)(h:i<L.length):L[i]∉L.take i:=λz=>by have:(L.take (i+1)).Nodup:=nd.sublist (Q5 _ _);rw[BK h,FZ] at this;exact this.2.2 _ z _ (A1.mpr rfl) rfl
theorem Pq(h:i<L.length)(e:((VB ρ L).map (·.1))[i]?=AA k):k=.inl L[i]:=by unfold VB at e;rw[DY,AU,BP h] at e;exact(BH e).symm
theorem tO:(VB ρ L).length=L.length:=AJ ..
theorem Rws.congr(R:Rws F H a ρ l g)(h:∀p∈l,g p=g' p):Rws F H a ρ l g':={λp hp=>by rw[<-h p hp];exact R.at' p hp,R.inj}
theorem Rws.app(R:Rws F H a ρ l g)(hp:p∈l)(h1:g' p=g p++[c])(h2:∀q∈l,q≠p->g' q=g q) : Rws F (D4 H (ρ p) (.lst ((g p).map V.int++[.int c]))) a ρ l g':={λq hq=>by
 have{x,y,z}:=R.at' q hq;refine{?_,y,z};by_cases e:q=p
 .subst e;rw[G9,h1,EH];rfl
 .rw[ET (λw=>e (R.inj q hq p hp w)),x,h2 q hq e],R.inj}
theorem Iz{J:It}{g:TG}{tb:TS}{D':Ends}(I:Nat->St->Hp->Prop)(h0:I 0 σ H)(hg:∀i σ H,i<n->I i σ H->J.go i H)(hd:∀σ H,I n σ H->J.stop n H/\D'.nx σ H) (hs:∀i σ H x H',i<n->I i σ H->J.yld i H x H'->g x σ H' λσ2 H2=>tb { D' with nx:=I (i+1),ct:=I (i+1),bk:=D'.nx } σ2 H2) : ∃W:Nat->Nat->St->Hp->Prop,(∃m,W 0 m σ H)/\∀i m σ H,W i m σ H ->(J.stop i H/\D'.nx σ H)\/(J.go i H/\∃N:St->Hp->Prop,(∀σ' H',N σ' H'->∃m',m'<m/\W (i+1) m' σ' H')/\∀x H',J.yld i H x H'->g x σ H' λσ2 H2=>tb { D' with nx:=N,ct:=N,bk:=D'.nx } σ2 H2):=by
 refine{λi m σ H=>m=n-i/\i<=n/\I i σ H,{n,rfl,BQ _,h0},λi m σ H h=>?_};have hm:=h.1;have hi:=h.2.1;have hI:=h.2.2;by_cases e:i<n
 .exact .inr {hg i σ H e hI,I (i+1),λσ' H' h=>{n-(i+1),by omega,rfl,e,h},λx H' y=>hs i σ H x H' e hI y}
 .have e:i=n:=by omega
  rw[e] at hI ⊢;exact .inl (hd σ H hI)
section
variable{K:AC}{IC:AT->Prop}{L xs:List Int}
structure Tm(K:AC)(net A4:D)(vn vg:V)(IC:AT->Prop)(Fs Hs:Hp)(a:AT)(o:IZ)(ρ:Int->AT)(L:List Int)(g:Int->List Int)(F H:Hp):Prop where
 tb:Tb K net A4 vn vg IC Fs Hs F H (λb=>∃p∈L,b=ρ p)
 fr:F a=AA (.frz o (.dK (VB ρ L)))
 rw:Rws F H a ρ L g
theorem Tm.congr(T:Tm K net A4 vn vg IC Fs Hs a o ρ L g F H)(h:∀p∈L,g p=g' p):Tm K net A4 vn vg IC Fs Hs a o ρ L g' F H:={T.tb,T.fr,T.rw.congr h}
theorem Tm.step{ow RZ:AT->Prop}(T:Tm K net A4 vn vg IC Fs Hs a o ρ L g F H)(h:∀a,¬ow a)(s:Stp ow F H F1 H1 RZ)(sb:Sub F1 H1):Tm K net A4 vn vg IC Fs Hs a o ρ L g F1 H1:={T.tb.step h s sb,s.le.frz T.fr,T.rw.step h s}
theorem Tm.app(T:Tm K net A4 vn vg IC Fs Hs a o ρ L g F H)(hp:p∈L)(h1:g' p=g p++[c])(h2:∀q∈L,q≠p->g' q=g q):Tm K net A4 vn vg IC Fs Hs a o ρ L g' F (D4 H (ρ p) (.lst ((g p).map V.int++[.int c]))) :={T.tb.to (Stp.mine {p,hp,rfl}) (T.tb.sub.off (T.rw.at' p hp).2.1),T.fr,T.rw.app hp h1 h2}
def InI(K:AC)(net A4:D)(vn vg:V)(IC:AT->Prop)(Fs Hs:Hp)(a:AT)(o:IZ)(ρ:Int->AT)(L:List Int)(g:Nat->Int->List Int)(w4 w5 w6:Option V)(xs:Option (V×List Int))(i:Nat)(σ:St)(H:Hp):Prop :=∃F u3 u4 u5,σ=[AA vn,AA vg,AA (.ref a),u3,u4,u5,w6]/\Tm K net A4 vn vg IC Fs Hs a o ρ L (g i) F H/\∀v ys,xs=AA (v,ys)->Rep K F v (.lst (ys.map D.int))/\u4=w4/\u5=w5
theorem zQU(T:Tm K net A4 vn vg IC Fs Hs a o ρ L g F H)(nd:L.Nodup)(hl:∀p∈L,(g p).length<9000)(rv:Rep K F v (.lst (xs.map D.int))) (k:∀F' H' u3,Tm K net A4 vn vg IC Fs Hs a o ρ L (λp=>g p++if p∉xs then[c] else[]) F' H'->D'.nx [AA vn,AA vg,AA (.ref a),u3,AA (.int c),AA v,u6] H') : tabIn K H₀ D' [AA vn,AA vg,AA (.ref a),u3,AA (.int c),AA v,u6] H:=by
 refine{_,rfl,a,o,VB ρ L,rfl,T.tb.sub _ _ T.fr,Iz (n:=L.length) (InI K net A4 vn vg IC Fs Hs a o ρ L (λi p=>g p++if p∈L.take i/\p∉xs then[c] else[]) (AA (.int c)) (AA v) u6 (AA (v,xs))) {F,u3,_,_,rfl,T.congr λp _=>by simp,λ_ _ e=>by cases e;exact{rv,rfl,rfl}} (λi σ H hi h=>?_) (λσ H h=>?_) λi σ H x H2 JB h y=>?_}
 .have{F,_,_,_,_,T,_}:=h;exact{by rw[tO];exact hi,T.tb.sub _ _ T.fr}
 .have{F,u3,u4,u5,rfl,T,hv}:=h;have{_,rfl,rfl}:=hv v xs rfl;refine{{by rw[tO];exact AL _,T.tb.sub _ _ T.fr},k F H u3 (T.congr λp hp=>?_)};dsimp only;rw[DE];simp only[hp,true_and]
 .have{F,u3,u4,u5,rfl,T,hv}:=h;have{rv,rfl,rfl}:=hv v xs rfl;have{rfl,kk,rfl,ek}:=y;obtain rfl:=Pq JB ek;obtain⟨p,hp⟩:∃p,p=L[i]:={_,rfl};have eF:p∈L:=by rw[hp];exact FQ JB
  have Mt:p∉L.take i:=by rw[hp];exact Gb nd JB
  have tm:∀q,q∈L.take (i+1)↔q∈L.take i\/q=p:=by rw[hp];exact An JB
  have tn:=λq e=>(tm q).trans {λz=>z.resolve_right e,.inl};rw[<-hp];refine{a,F,iS net A4 AK (AA (.int p)) AK (AA (.lst (xs.map D.int))),decide (p∉xs),_,zD T.tb.sub T.tb.n T.tb.g .none (.some (.int p)) .none (.some rv),N7 (FW rfl rfl (zQT p xs)),λF3 H3 s3 S3=>?_};have T3:=T.step pW s3 S3.sub;have rv3:=rv.le s3.le;by_cases hx:p∈xs
  .refine yH5 (by simp[hx]) {F3,AA (.int p),_,_,rfl,T3.congr λq hq=>?_,λ_ _ e=>by cases e;exact{rv3,rfl,rfl}};by_cases e:q=p
   .subst e;simp[hx]
   .simp only[tn q e]
  .have{h1,h2,h3}:=T3.rw.at' p eF;refine yH6 (by simp[hx]) {_,rfl,_,rfl,a,.ref (ρ p),rfl,.inl {VB ρ L,.inl p,.inr {o,S3.sub _ _ T3.fr},rfl,(Th eF).symm},.inl {rfl,_,SqL.of h1},_,rfl,ρ p,_,.int c,rfl,rfl,h1,bM ?_,F3,AA (.int p),_,_,rfl,?_,λ_ _ e=>by cases e;exact{rv3,rfl,rfl}}
   .have:=hl p eF;rw[AJ,BC];split
    .simp only[EQ];omega
    .simp only[JG];omega
   .refine T3.app eF ?_ λq hq e=>?_
    .dsimp only;rw[if_pos {(tm p).mpr (.inr rfl),hx},if_neg (λz=>Mt z.1),C5]
    .simp only[tn q e]
theorem zTO{left:Int->List Int}(T:Tb K net A4 vn vg IC Fs Hs F H (λb=>b=a\/∃p∈L,b=ρ p))(nd:L.Nodup)(EU:L.length<=1000)(fa:F a=AK)(ha:H a=AA (.dK (VB ρ L)))(R:Rws F H a ρ L (λ_=>[])) (each:∀c∈L,∃b d',m [.val net,.val A4,.val (.int c)]=.ok (b,.lst ((left c).map D.int),d')) (k:∀F' H' u3 u4 u5 o,Tm K net A4 vn vg IC Fs Hs a o ρ L (λp=>L.filter λc=>decide (p∉left c)) F' H'->D'.nx [AA vn,AA vg,AA (.ref a),u3,u4,u5,u6] H') : Im K H₀ m D' [AA vn,AA vg,AA (.ref a),u3,u4,u5,u6] H:=by
 refine{_,rfl,a,VB ρ L,rfl,ha,λo=>?_};have T1:Tm K net A4 vn vg IC Fs Hs a o ρ L (λ_=>[]) (D4 F a (.frz o (.dK (VB ρ L)))) (D4 H a (.frz o (.dK (VB ρ L)))):=by
  refine{T.to {λb u e _ _ n=>?_,λb e=>Fe e,.of_gr (Gr.new fa),λb u e=>?_,λb q=>.inl (.inr q)} T.sub.both,G9,{λp hp=>?_,R.inj}}
  .rw[ET (λz=>n (.inl z))];exact e
  .by_cases z:b=a
   .exact .inr (.inr (.inl z))
   .rw[ET z] at e;exact .inl (by rw[e];exact nofun)
  .have z:=(R.at' p hp).2.2;rw[ET z,ET z];exact R.at' p hp
 refine Iz (n:=L.length) (InI K net A4 vn vg IC Fs Hs a o ρ L (λi p=>(L.take i).filter λc=>decide (p∉left c)) AK AK u6 AK) {_,u3,u4,u5,rfl,T1.congr λp _=>by simp,λ_ _ e=>by cases e} (λi σ H hi h=>?_) (λσ H h=>?_) λi σ H x H2 JB h y=>?_
 .have{F,_,_,_,_,T,_}:=h;exact{by rw[tO];exact hi,T.tb.sub _ _ T.fr}
 .have{F,u3,u4,u5,rfl,T,_}:=h;exact{{by rw[tO];exact AL _,T.tb.sub _ _ T.fr},k F H u3 u4 u5 o (T.congr λp hp=>by dsimp only;rw[DE])}
 .have{F,u3,u4,u5,rfl,T,_}:=h;have{rfl,kk,rfl,ek}:=y;obtain rfl:=Pq JB ek;obtain⟨c,hc⟩:∃c,c=L[i]:={_,rfl};have{b,d',hm}:=each c (by rw[hc];exact FQ JB);rw[<-hc];refine{a,F,iS net A4 AK AK (AA (.int c)) AK,.lst ((left c).map D.int),_,zD T.tb.sub T.tb.n T.tb.g .none .none (.some (.int c)) .none,PX rfl hm,λv F3 H3 s3 S3 r3=>?_};refine zQU (T.step pW s3 S3.sub) nd (λp _=>?_) r3 λF5 H5 Kj T5=>{F5,Kj,_,_,rfl,T5.congr λp hp=>?_,λ_ _ e=>by cases e}
  .have:=FO (λc=>decide (p∉left c)) (L.take i);rw[EI] at this;dsimp only;omega
  .dsimp only;rw[BK JB,P1,<-hc];congr 1;by_cases e:p∈left c
   .simp[e]
   .simp[e]
theorem nK{α:Type}{l:List α}{n:Nat}(h:n+1=l.length):∃a t,l=a::t/\n=t.length:=by
 cases l with
 |nil=>simp at h
 |cons a t=>exact{a,t,rfl,F8 h}
theorem yH7{α:Type}{l:List α}(h:7=l.length):∃a b c d e f g,l=[a,b,c,d,e,f,g]:=by have{a,t0,e0,h0}:=nK h;have{b,t1,e1,h1}:=nK h0;have{c,t2,e2,h2}:=nK h1;have{d,t3,e3,h3}:=nK h2;have{e,t4,e4,h4}:=nK h3;have{f,t5,e5,h5}:=nK h4;have{g,t6,e6,h6}:=nK h5;exact{a,b,c,d,e,f,g,by rw[e0,e1,e2,e3,e4,e5,e6,HN h6.symm]}
def yKR(K:AC)(net A4:D)(vn vg:V)(ow:AT->Prop)(F H F1:Hp)(a:AT)(L:List Int)(u4 u5 u6:Option V)(i:Nat)(σ':St)(H':Hp):Prop :=∃F' u3 ρ,σ'=[AA vn,AA vg,AA (.ref a),u3,u4,u5,u6]/\Tb K net A4 vn vg ow F H F' H' (λb=>b=a\/∃p∈L.take i,b=ρ p)/\Le F1 F'/\F' a=AK/\H' a=AA (.dK (VB ρ (L.take i)))/\Rws F' H' a ρ (L.take i) (λ_=>[])
open Classical in
theorem zW2{gr:GS}(h:tS K H₀ (FX (nL m) gr) D' σ H):mI (Xd K H₀ m) (mI (Im K H₀ m) (tS K H₀ gr)) D' σ H:=by
 have{τ,F,E,r,S,hg,k}:=h;have{r1,e1,hg}:=pA3 hg;obtain⟨net,A4,L,left,⟨rfl,⟨b0,d0,MV⟩,nd,EU,each⟩,rfl⟩:=tab_of e1;have{w0,w1,w2,u3,u4,u5,u6,rfl}:=yH7 S.len;have{vn,hvn,rn}:=S.val 0 net rfl;have{vg,hvg,rg}:=S.val 1 A4 rfl;have{a,ha,fa,zz',na,_}:=S.own 2 AD (.dk []) rfl;have{kv0,gS,rk0}:=zz';cases rk0;cases hvn;cases hvg;cases ha;have rY:D6 [AA vn,AA vg,AA (.ref a),u3,u4,u5,u6] [.val net,.val A4,.own AD (.dk []),.no,.no,.no,.no] a:={2,AD,.dk [],rfl,rfl};generalize D6 [AA vn,AA vg,AA (.ref a),u3,u4,u5,u6] [.val net,.val A4,.own AD (.dk []),.no,.no,.no,.no]=ow at rY k;refine{τ,F,iS net A4 AK AK AK AK,L.map D.int,_,zD S.sub rn rg .none .none .none .none,nB (PX (ds:=[net,A4,.non]) rfl MV),λJ F1 H1 s1 S1 w1=>?_};have T0:Tb K net A4 vn vg ow F H F H (λb=>b=a):={S.sub,rn,rg,Stp.refl.weak λb h=>by rw[h];exact rY};have T1:=T0.step pW s1 S1.sub;have fa1:F1 a=AK:=s1.nF fa gS trivial (pW _);have ha1:H1 a=AA (.dK []):=s1.keep _ _ gS trivial fa (pW _);refine Iz (n:=L.length) (yKR K net A4 vn vg ow F H F1 a L u4 u5 u6) {F1,u3,λ_=>a,rfl,T1.to (Stp.refl.weak λb h=>h.elim id λ⟨p,hp,_⟩=>by simp at hp) T1.sub,.refl _,fa1,ha1,{λp hp=>by simp at hp,λp hp=>by simp at hp}} (λi σ Hj hi h=>?_) (λσ Hj h=>?_) λi σ Hj x H2 JB h y=>?_
 .have{F',_,_,_,T',l',_}:=h;exact(w1 i F' Hj l' T'.sub).1 (by rw[AJ];exact hi)
 .have{F',u3,ρ,rfl,T',l',Dk,eR,R'}:=h;refine{(w1 L.length F' Hj l' T'.sub).2.1 (by rw[AJ]),?_};rw[DE] at T' eR R';refine zTO (H₀:=H₀) (m:=m) (left:=left) T' nd EU Dk eR R' each λF5 H5 u3 u4 u5 o Pe=>?_;have T5:=Pe.tb;have hf5:=Pe.fr;have R5:=Pe.rw
  -- all is shared from now on
  have low:∀b u,(if ∃p∈L,b=ρ p then H5 b else F5 b)=AA u->H5 b=AA u:=λb u e=>by
   by_cases z:∃p∈L,b=ρ p
   .rw[if_pos z] at e;exact e
   .rw[if_neg z] at e;exact T5.sub b u e
  have hl:Le F5 (λb=>if ∃p∈L,b=ρ p then H5 b else F5 b):=λb u e=>.inl (by
   by_cases z:∃p∈L,b=ρ p
   .show(if ∃p∈L,b=ρ p then H5 b else F5 b)=_;rw[if_pos z];exact T5.sub b u e
   .show(if ∃p∈L,b=ρ p then H5 b else F5 b)=_;rw[if_neg z];exact e)
  have T6:Tb K net A4 vn vg ow F H (λb=>if ∃p∈L,b=ρ p then H5 b else F5 b) H5 (λ_=>False):=by
   refine T5.to (M':=λ_=>False) {λb u e _ _ _=>e,λb e=>e,hl,λb u e=>?_,λb z=>HP z} low;by_cases z:∃p∈L,b=ρ p
   .exact .inr (.inr z)
   .have e:(if ∃p∈L,b=ρ p then H5 b else F5 b)=_:=e;rw[if_neg z] at e;exact .inl (by rw[e];exact nofun)
  refine{τ,_,_,r,zD low T6.n T6.g (.some (.dk (.inr {o,hl.frz hf5}) (Uz λp hp=>?_))) .none .none .none,hg,k.pre (T6.st.weak λb z=>(pW b z).elim)};show(if ∃p'∈L,ρ p=ρ p' then H5 (ρ p) else F5 (ρ p))=_;rw[if_pos {p,hp,rfl}];exact(R5.at' p hp).1
 .have{F',u3,ρ,rfl,T',l',Dk,eR,R'}:=h;have{F2,n2,r2}:=(w1 i F' Hj l' T'.sub).2.2 x H2 (.int L[i]) (by rw[AU,BP JB];rfl) y;obtain⟨p,hp⟩:∃p,p=L[i]:={_,rfl};have Mt:p∉L.take i:=by rw[hp];exact Gb nd JB
  rw[<-hp] at r2;cases r2;have no:∀a:AT,¬(λ_:AT=>False) a:=λ_ z=>z;have T2:=T'.step no n2.1 n2.2;have R2:=R'.step no n2.1;have fa2:F2 a=AK:=n2.1.nF Dk eR trivial (no a);have Og:H2 a=AA (.dK (VB ρ (L.take i))):=n2.1.keep _ _ eR trivial Dk (no a);refine{BQ _,λq hq=>{_,rfl,_,rfl,a,_,rfl,DPut.kk (k:=.inl p) (by rw[ET (U6 Og hq)];exact Og) ?_,F2,AA (.int p),λz=>if z=p then q else ρ z,rfl,?_,l'.trans n2.1.le,fa2,?_,?_}}
  .rw[tO,EI];exact bM 'O'
  .have fq:F2 q=AK:=pAG n2.2 hq;refine(T2.to (M':=λb=>b=a\/∃z∈L.take (i+1),b=if z=p then q else ρ z) (pAP hq λb h=>?_) (n2.2.off fq)).to (Stp.mine (.inl rfl)) ((n2.2.off fq).off fa2);rcases h with h|⟨z,hz,h⟩
   .exact .inl (.inl h)
   .by_cases e:z=p
    .rw[if_pos e] at h;exact .inr h
    .rw[if_neg e] at h;exact .inl (.inr {z,((An JB z).mp hz).resolve_right (by rw[<-hp];exact e),h})
  .rw[G9,zW1 Mt,BK JB,<-hp]
  .have ne:∀z∈L.take i,ρ z≠q:=λz hz=>U6 (R2.at' z hz).1 hq;have qa:q≠a:=FI (U6 Og hq);have mem:∀z,z∈L.take (i+1)->z≠p->z∈L.take i:=λz hz e=>((An JB z).mp hz).resolve_right (by rw[<-hp];exact e);refine{λz hz=>?_,λz hz z' dX h=>?_}
   .by_cases e:z=p
    .simp only[e,if_true];rw[ET qa,G9];exact{rfl,pAG n2.2 hq,qa}
    .simp only[e,if_false];have{x,y,w}:=R2.at' z (mem z hz e);rw[ET w,ET (ne z (mem z hz e))];exact{x,y,w}
   .by_cases e:z=p
    .by_cases e':z'=p
     .rw[e,e']
     .simp only[e,e',if_true,if_false] at h;exact absurd h.symm (ne z' (mem z' dX e'))
    .by_cases e':z'=p
     .simp only[e,e',if_true,if_false] at h;exact absurd h (ne z (mem z hz e))
     .simp only[e,e',if_false] at h;exact R2.inj z (mem z hz e) z' (mem z' dX e') h
theorem yBE{rest:List FM}(h2:PS X s2 (Xd X.K X.H₀ m))(h3:PS X s3 (Im X.K X.H₀ m))(hr:aH X rest gr):aH X (s2::s3::rest) (FX (nL m) gr):=(aC h2 (aC h3 hr)).imp λ_ _ _ h=>zW2 h
end
section
def yH8(K:AC):List V->Hp->VK->Prop:=λxs H Q=>∃(p:AT) (ns:List Int),xs=[.ref p]/\SqL K H p (ns.map V.int)/\ns.length+1<scanBound/\∀l,H l=AK->Q (.ref l) (D4 H l (.set (λk=>(fW ns).any (·==k)) (fW ns).length))
theorem zTP(hc:X.calm=AN):CallR X (.type "set") (yH8 X.K):=by
 intro AF s σ H xs us Q I r h;have{p,ns,rfl,hp,hb,q}:=h;have{u,rfl,ru}:=X7 r;cases ru;have{CK,rv,pl,hz}:=I.list hp;have hl:CK.toArray.size=ns.length:=by have:=rv.length;simpa using this.symm
 refine call_set_list (I.ok.hd hc) pl.isList (nI rv) (by rw[hl];exact hb) λh' tk hS hk=>?_;rw[hl] at hS;exact{.ref s.heap.objs.size,_,I.laid (o:=.set (λk=>(fW ns).any (·==k)) (fW ns).length) (λb o e=>hk b o (BB e) e) (AL _) hS,rfl,q _ I.fresh}
def zN(g:G):G:=λE=>(g E).bind λp=>match p.1 with
 |.lst ds=>match RE ds with
  |some ns=>guard (ns.length<1000) (.ok (.int ((fW ns).length:Nat),p.2))
  |none=>.bad
 |_=>.bad
theorem zW3(hc:X.calm=AN)(xD:X.mg "len"=AK)(hm:X.mg "set"=AK)(ha:VE X a ga)(Nl:Gl X "len":=by rfl)(hg:Gl X "set":=by rfl) (XW:AM [a] X.env=(AD,eval a X.env)::AM [] X.env:=by rfl) (xA:(DC spos (AM [] X.env)).any (·.1)=AD:=by rfl) (he:AM [.Call (.Name "set" sp) [a] [] spos] X.env=(AD,eval (.Call (.Name "set" sp) [a] [] spos) X.env)::AM [] X.env:=by rfl) (JQ:(DC pos (AM [] X.env)).any (·.1)=AD:=by rfl) : VE X (.Call (.Name "len" p) [.Call (.Name "set" sp) [a] [] spos] [] pos) (zN ga) :=(uC zR8 Nl xD (by decide +kernel) (SK (uH (zTP hc) hg hm (by decide +kernel) (SK ha HK XW) 'D' 'D' XW xA) HK he) 'D' 'D' he JQ).imp λσ H Q h=>by
  have{τ,F,E,d,E',S,hg,k}:=h;have{q,e1,hg}:=pA3 hg;refine{τ,F,E,q.1,q.2,S,e1,λv F1 H1 s1 S1 r1=>?_};have{qd,qE}:=q;cases qd with
  |lst ds =>
   dsimp only at hg r1;split at hg
   .rename_i ns ej;have{g1,hg}:=bO hg;cases hg;have e:=qR ej;subst e;have{l,vs,rfl,h1,rs}:=r1.isRefL;have ev:=rs.vint;subst ev;refine{l,ns,rfl,h1.imp S1.sub.rd id,by unfold scanBound;lia,λb hb=>{b,_,_,rfl,G9,AS (zVK ns) 'L',?_}};have n:=pA6 (H':=D4 H1 b (.set (λk=>(fW ns).any (·==k)) (fW ns).length)) S1.sub (Gr.new hb);exact k _ F1 _ (s1.trans n.stp) (S1.new n) (.int _)
   .cases hg
  |_=>cases hg
def gJ:CD->List (CD ⊕ G)->G
 |acc,[],E=>.ok (.str acc,E)
 |acc,.inl c::r,E=>gJ (acc++c) r E
 |acc,.inr g::r,E=>(g E).bind λp=>match p.1 with
  |.int a=>guard (0<=a/\a<100) (gJ (acc++(toString a:CD)) r p.2)
  |.str z=>guard ((acc++z).length+100 * r.length<10000) (gJ (acc++z) r p.2)
  |_=>.bad
inductive JP(X:Cx):List D0->List (CD ⊕ G)->Prop
 |nil:JP X [] []
 |txt {c:CD} {j pos} {es:List D0} {ps:List (CD ⊕ G)} (h:c.length<=100) (r:JP X es ps):JP X (.Constant (.str c) j pos::es) (.inl c::ps)
 |val {e:D0} {g:G} {pos:jS} {es:List D0} {ps:List (CD ⊕ G)} (h:VE X e g) (r:JP X es ps):JP X (.FormattedValue e (-1) AK pos::es) (.inr g::ps)
theorem yFL:∀n:Nat,n<100->(toString (n:Int):CD).length<=100:=by decide +kernel
theorem yFM:∀n:Nat,n<100->n.log2<1920:=by decide +kernel
theorem yBF(h:JP X es ps):∀{acc:CD} {AF:List (AT×IZ)} {s:AQ} {σ:St} {H:Hp} {Q:VK},acc.length+100 * ps.length<10000->Inv X AF σ H s->tV X.K X.H₀ (gJ acc ps) σ H Q ->BE (A7 X.prog X.w) X.A (joinParts acc (evalEach es X.env)) (EP X AF σ Q) X.xe s:=by
 induction h with
 |nil=>intro acc AF s σ H Q hl I q;have{τ,F,E,d,E',S,hg,k}:=q;cases hg;exact joinParts_nil {.str acc,H,I.tok _,{_,rfl},k _ F H .refl S (.str _)} (ZI (by simpa using hl))
 |@txt c j pos es ps hc r ih =>
  intro acc AF s σ H Q hl I q;have jE:(acc++c).length+100 * ps.length<10000:=by rw[R9];rw[BA] at hl;lia
  exact joinParts_cons (Calls.Constant_str {ZI 'L',ih jE (I.tok _) q})
 |@val e g pos es ps h r ih =>
  intro acc AF s σ H Q hl I q;have{τ,F,E,d,E',S,hg,k}:=q;have{p,e1,hg}:=pA3 hg;refine joinParts_cons (FormattedValue_plain (CZ (h AF s σ H _ I {τ,F,E,p.1,p.2,S,e1,λv F1 H1 s1 S1 r1=>({F1,s1,S1,r1}:∃F1,Stp (D6 σ E) F H F1 H1 (D6 σ p.2)/\Sim X.K X.H₀ τ F1 H1 σ p.2/\Rep X.K F1 v p.1)}) (λu s1 z=>?_) λ_ _ z=>z));have{v,H1,I1,rv,F1,st,S1,r1}:=z;split at hg
  .rename_i n en;have{zz',hg}:=bO hg;have{g1,g2}:=zz';rw[en] at r1;obtain rfl:=r1.vI;have{t,rfl}:=rv;have ea:=cI g1;have h1:=yFL n.toNat 'L';rw[ea] at h1;refine formatField_int_small (by have:=yFM n.toNat 'L';rwa [show n.natAbs=n.toNat by lia]) {ZI ?_,ih ?_ ((I1.tok _).tok _) {τ,F1,p.2,d,E',S1,hg,λv F2 H2 s2 S2 r2=>k v F2 H2 (st.trans s2) S2 r2}}
   .rw[R9];rw[BA] at hl;lia
   .rw[R9];rw[BA] at hl;lia
  .rename_i z en;have{g1,hg}:=bO hg;rw[en] at r1;obtain rfl:=r1.vS;have{t,rfl}:=rv;exact wpAny_formatField_str {ZI 'L',ih g1 I1 {τ,F1,p.2,d,E',S1,hg,λv F2 H2 s2 S2 r2=>k v F2 H2 (st.trans s2) S2 r2}} {ZI 'L',ih g1 (I1.tok _) {τ,F1,p.2,d,E',S1,hg,λv F2 H2 s2 S2 r2=>k v F2 H2 (st.trans s2) S2 r2}} (ZI (by rw[R9] at g1;lia))
  .cases hg
theorem yFN{rest:List D0}(h:JP X (Kh::v₂::rest) ps)(hl:ps.length<=50:=by decide):VE X (.JoinedStr (Kh::v₂::rest) pos) (gJ O1 ps) :=λAF s σ H Q I q=>JoinedStr_many (yBF h (by have:O1.length=0:=rfl;lia) I q)
end
section
variable{K:AC}
theorem Yn:p9 (TU P w C) (SJ (TU P w C) P w K mg base N qual scope f cd A outer s₀ H₀ E) E:=by
 intro AF σ H s e s' I h;have{a,H1,h1,fr,a0,rfl,F,q}:=h;have XY:s₀.heap.objs.size∈SO (SJ (TU P w C) P w K mg base N qual scope f cd A outer s₀ H₀ E).stack:=HR.mpr {GY qual scope s₀.heap.objs.size f cd,A2,rfl};have{o,ho,_}:=(I.stack.mem XY).2;have JB:=BB ho;have I1:=I.call (d':=s.drawn) (t':=s.toks) F.un F.hok I.bare (λb z=>absurd z 'S');refine wpAny_leaves_onW I.ok.frames rfl F.fl λh' fl up=>?_;refine{a,H1,h1,fr,a0,rfl,{F.os.trans I.os,F.bare,I1.base,F.hok,λb hb=>?_,F.new,fl,F.up.trans up},q};have{h1,h2,h3}:=F.frs_ b hb;refine{h1,?_,h3};rcases h2 with h2|h2
 .rcases A8.mp (I.stkSub b h2) with e|e
  .exact .inr (CU e.symm)
  .exact .inl e
 .exact .inr (AW (CQ JB) h2)
def txC(K:AC)(H₀:Hp)(W:Hp->Prop)(gs:List G)(mx:List D->Out Ev):TE:=λσ H _=>∃τ F E p z,Sim K H₀ τ F H σ E/\N8 gs E=.ok p/\mx p.1=.ok z/\∀F' H',Stp (D6 σ E) F H F' H' (λ_=>False)->Sub F' H'->W H'
def Cf(gs:List G)(mx:List D->Out Ev):GX:=λE=>(N8 gs E).bind λp=>(mx p.1).bind λ_=>.ok p.2
end
section
variable{K:AC}
def txE(K:AC)(H₀:Hp)(W:Hp->Prop)(gx:GX):TE:=λσ H _=>∃τ F E E',Sim K H₀ τ F H σ E/\gx E=.ok E'/\∀F' H',Stp (D6 σ E) F H F' H' (λ_=>False)->Sub F' H'->W H'
end
theorem zW4(hp:p9 (TU X.prog X.w C) X E)(CL:nP X.prog X.w X.K X.mg X.base C x k np mx)(hr:Room k X.A)(ha:VA X (e::es) gs) (sH:gs.length=np) (hg:Gl X x) (RK:(x==("__debug__":CD))=AD) (he:AM (e::es) X.env=(AD,eval e X.env)::AM es X.env) (JQ:(DC pos (AM es X.env)).any (·.1)=AD) : PE X (.Call (.Name x p) (e::es) [] pos) (txC X.K X.H₀ (λH'=>E (.ref C) AK H') gs mx):=by have{f',fd,ps,Fn,hm,hk,hb}:=CL;refine(tZ Fn hr hg hm hk hb .nil hp ha RK he JQ).imp λσ H Q h=>?_;have{τ,F,E1,p,z,S,e1,e2,k}:=h;refine{τ,F,E1,p.1,p.2,S,e1,λvs F1 H1 s1 S1 r1=>?_};refine{by rw[C5,r1.length,k4 e1];exact sH,F1,p.1,z,S1.sub,by rw[C5];exact r1,e2,λF' H' n=>k F' H' ((s1.trans n.stp).weak λ_ z=>z.elim) n.2}
end _L
namespace _L
open PySem PySem.Spec PyProof.Rows PySem.W
end _L
namespace _L
open PySem PySem.Spec PyProof.Rows
end _L
namespace _L
open PySem PySem.Spec PyProof.Rows PySem.Builtin PySem.Builtin.Str
end _L
namespace _L
open PySem PySem.Spec PyProof.Rows
abbrev EX(X:Cx)(W:Hp->Prop)(e:D0)(gx:GX):Prop:=PE X e (txE X.K X.H₀ W gx)
section
variable{W:Hp->Prop}
theorem zW5{rest:List FM}(he:EX X W e gx):PSs X (.Return (AA e) pos::rest) (tX X.K X.H₀ W gx) :=(aC (tL he) As).imp λD σ H h=>h
theorem Ri(hp:p9 (TU X.prog X.w C) X E)(CL:nP X.prog X.w X.K X.mg X.base C x k np mx)(hr:Room k X.A)(ha:VA X (e::es) gs) (sH:gs.length=np:=by rfl) (hg:Gl X x:=by rfl) (RK:(x==("__debug__":CD))=AD:=by decide) (he:AM (e::es) X.env=(AD,eval e X.env)::AM es X.env:=by rfl) (JQ:(DC pos (AM es X.env)).any (·.1)=AD:=by rfl) : EX X (λH'=>E (.ref C) AK H') (.Call (.Name x p) (e::es) [] pos) (Cf gs mx):=(zW4 hp CL hr ha sH hg RK he JQ).imp λσ H Q h=>by have{τ,F,E1,E2,S,hg,k}:=h;have{q,e1,hg}:=pA3 hg;have{z,e2,hg}:=pA3 hg;exact{τ,F,E1,q,z,S,e1,e2,k}
end
section
variable{W:Hp->Prop}
theorem zW6{i:Nat}{rest:List FM}(he:EX X W e gx)(hN:X.N.Nodup)(hi:X.N[i]?=AA x)(hx:Loc X.env.scope x) (hs:HW e (AA (.Name x OS)) pos.line X.env=pure AD:=by rfl) (hf:X.fn x=AN\/X.env.scope.names.lookup x=AA .local:=by exact DW rfl):PSs X (.Assign [.Name x OS] e pos::rest) (tX X.K X.H₀ W gx) :=(aC (qB hN hi hx he hs hf) As).imp λD σ H h=>h
end
end _L
namespace _L
open PySem PySem.SetTable
noncomputable def uT(m:Nat)(p:Probe):Probe :=if p.more>0 then { p with j:=p.j+1,more:=p.more-1 } else { p with j:=(leap m p.i p.perturb).1,more:=runEnd m (leap m p.i p.perturb).1-(leap m p.i p.perturb).1,i:=(leap m p.i p.perturb).1,perturb:=(leap m p.i p.perturb).2 }
def pr(m:Nat)(h:Int):Nat->Probe
 |0=>{ j:=bits h % (m+1),more:=runEnd m (bits h % (m+1))-bits h % (m+1),i:=bits h % (m+1),perturb:=bits h,dummy:=AK }
 |n+1=>uT m (pr m h n)
noncomputable def lp(m:Nat)(h:Int):Nat->Nat×Nat
 |0=>(bits h % (m+1),bits h)
 |n+1=>leap m (lp m h n).1 (lp m h n).2
def rn(m i:Nat):Nat:=runEnd m i-i
theorem yH9(m i:Nat):rn m i<=9:=by unfold rn runEnd;split<;>lia
def cc(m:Nat)(h:Int):Nat->Nat
 |0=>0
 |n+1=>cc m h n+rn m (lp m h n).1+1
theorem yIA(m:Nat)(h:Int)(n:Nat):cc m h n<=10 * n:=by
 induction n with
 |zero=>exact AL _
 |succ n ih=>have:=yH9 m (lp m h n).1;unfold cc;lia
theorem Dz(e:pr m h c={i,r,i,q,AK}):∀k,k<=r->pr m h (c+k)={i+k,r-k,i,q,AK}
 |0,_=>e
 |k+1,hk=>by show uT m (pr m h (c+k))=_;rw[Dz e k 'L'];unfold uT;rw[if_pos (show r-k>0 by lia)];simp only[Probe.mk.injEq,and_true,true_and];lia
theorem Ym(m:Nat)(h:Int):∀n,pr m h (cc m h n)={(lp m h n).1,rn m (lp m h n).1,(lp m h n).1,(lp m h n).2,AK}
 |0=>rfl
 |n+1=>by show uT m (pr m h (cc m h n+rn m (lp m h n).1))=_;rw[Dz (Ym m h n) _ (AL _)];unfold uT;rw[if_neg 'S'];rfl
theorem Pp(m:Nat)(h:Int):∀n,(lp m h n).2=bits h / 32 ^ n
 |0=>by simp[lp]
 |n+1=>by show(lp m h n).2 / 32=_;rw[Pp m h n,Nat.div_div_eq_div_mul,Nat.pow_succ]
theorem yBG(h:Int):bits h<2 ^ 64:=by unfold bits;have:=HY h (show 0<2 ^ 64 by decide);have:=JL h (show(2 ^ 64:Int)≠0 by decide);lia
theorem yBH(m:Nat)(h:Int)(k:Nat):(lp m h (13+k)).2=0:=by rw[Pp];refine Nat.div_eq_of_lt (AO (yBG h) ?_);rw[Nat.pow_add];exact AW (by decide:2 ^ 64<=32 ^ 13) (Nat.le_mul_of_pos_right _ (Nat.pow_pos 'D'))
noncomputable def it(m:Nat):Nat->Nat->Nat
 |0,i=>i
 |k+1,i=>(it m k i * 5+1) % (m+1)
theorem Yl(m:Nat)(h:Int):∀k,(lp m h (13+k)).1=it m k (lp m h 13).1
 |0=>rfl
 |k+1=>by show(leap m (lp m h (13+k)).1 (lp m h (13+k)).2).1=_;unfold leap;rw[Yl m h k,yBH];rfl
theorem yIB(m:Nat)(h:Int)(n:Nat):(lp m h n).1<m+1:=by
 cases n with
 |zero=>exact Nat.mod_lt _ (RU _)
 |succ n=>exact Nat.mod_lt _ (RU _)
theorem zC(m a:Nat)(i:Nat):∀b,it m (a+b) i=it m b (it m a i)
 |0=>rfl
 |b+1=>by show(it m (a+b) i * 5+1) % (m+1)=_;rw[zC m a i b];rfl
noncomputable def rO(m:Nat):Nat->Nat->List Nat
 |0,_=>[]
 |n+1,i=>i::rO m n ((i * 5+1) % (m+1))
theorem Te(m:Nat)(i:Nat):∀k,it m (k+1) i=it m k ((i * 5+1) % (m+1))
 |0=>rfl
 |k+1=>by show(it m (k+1) i * 5+1) % (m+1)=_;rw[Te m i k];rfl
theorem Dy(m:Nat):∀(n i j:Nat),j∈rO m n i->∃k,k<n/\it m k i=j
 |0,_,_,h=>by simp[rO] at h
 |n+1,i,j,h=>by
  rcases A8.mp h with h|h
  .exact{0,by lia,h.symm}
  .have{k,hk,e}:=Dy m n _ j h;exact{k+1,by lia,by rw[Te,e]}
def Bm(m:Nat):Prop:=m=7\/m=31\/m=127\/m=511
theorem yBI(h:Bm m):(∀j,j<m+1->j∈rO m (m+1) 0)/\it m (m+1) 0=0:=by
 have KN:∀m,((C4 (m+1)).all λj=>(rO m (m+1) 0).contains j)=AN->∀j,j<m+1->j∈rO m (m+1) 0:=λm h j hj=>by have:=SH.mp h j (GL.mpr hj);exact List.contains_iff_mem.mp this
 rcases h with rfl|rfl|rfl|rfl<;>exact{KN _ (by decide +kernel),by decide +kernel}
theorem yKS(hm:Bm m)(hi:i<m+1)(hj:j<m+1):∃k,k<=m/\it m k i=j:=by
 have{ho,h0}:=yBI hm;have{a,ha,ea}:=Dy m _ _ _ (ho i hi);have{b,hb,eb}:=Dy m _ _ _ (ho j hj);by_cases hab:a<=b
 .exact{b-a,by lia,by rw[<-ea,<-zC,show a+(b-a)=b by lia,eb]}
 .exact{b+(m+1)-a,by lia,by rw[<-ea,<-zC,show a+(b+(m+1)-a)=(m+1)+b by lia,zC,h0,eb]}
theorem met(hm:Bm m)(h:Int)(hj:j<m+1):∃n,n<=13+m/\(lp m h n).1=j:=by have{k,hk,e}:=yKS hm (yIB m h 13) hj;exact{13+k,by lia,by rw[Yl,e]}
theorem Yk{p:Nat->Prop}(h:p n):∃k,k<=n/\p k/\∀i,i<k->¬p i:=by
 induction n using Nat.strongRecOn with
 |_ n ih =>
  by_cases q:∃i,i<n/\p i
  .have{i,hi,pi}:=q;have{k,hk,r}:=ih i hi pi;exact{k,by lia,r}
  .exact{n,AL _,h,λi hi pi=>q {i,hi,pi}}
theorem yIC(h:Int)(n:Nat):∃q k,k<=rn m (lp m h q).1/\n=cc m h q+k:=by
 induction n with
 |zero=>exact{0,0,BQ _,rfl}
 |succ n ih =>
  have{q,k,hk,rfl}:=ih;by_cases JB:k<rn m (lp m h q).1
  .exact{q,k+1,JB,rfl}
  .exact{q+1,0,BQ _,by show _=cc m h q+rn m (lp m h q).1+1+0;lia}
theorem yKT(h:Int)(hk:k<=rn m (lp m h q).1):(pr m h (cc m h q+k)).j=(lp m h q).1+k:=by rw[Dz (Ym m h q) k hk]
theorem yBJ(m:Nat)(h:Int):∀{a b:Nat},a<b->cc m h a<cc m h b:=λ{a b} hab=>by
 induction b with
 |zero=>lia
 |succ b ih =>
  have:cc m h b<cc m h (b+1):=by show _<cc m h b+rn m (lp m h b).1+1;lia
  by_cases e:a=b
  .subst e;exact this
  .exact C0 (ih 'L') this
theorem yK0(hm:Bm m)(h:Int){wE:Nat->Prop}(hj:j<=m)(hf:¬wE j):∃n,(n<10 * (m+14)/\¬wE (pr m h n).j/\∀i,i<n->wE (pr m h i).j)/\∃q k,q<=13+m/\k<=rn m (lp m h q).1/\n=cc m h q+k:=by
 have{q,hq,e}:=met hm h (j:=j) 'L';have hn:¬wE (pr m h (cc m h q)).j:=by have:=yKT (m:=m) h (q:=q) (BQ _);simp only[Y5] at this;rw[this,e];exact hf
 have{n,hk,p,r}:=Yk (p:=λn=>¬wE (pr m h n).j) hn;have:=yIA m h q;refine{n,{by lia,p,λi hi=>IL λz=>r i hi z},?_};have{q0,k0,h1,rfl}:=yIC (m:=m) h n;refine{q0,k0,?_,h1,rfl};by_cases z:q0<=q
 .lia
 .have:=yBJ m h (show q<q0 by lia);lia
section
variable{E:AH->AQ->Prop}
theorem yJV(h:ItemsAre (intKind prog w) ks vs):∀v∈vs,∃i t,v=.int i t:=by
 induction h with
 |nil=>intro v hv;simp at hv
 |@cons k v' ks vs h1 _ ih =>
  intro v hv;rcases A8.mp hv with rfl|hv
  .cases v with
   |int i t=>exact{i,t,rfl}
   |_=>cases h1
  .exact ih v hv
end
section
variable{E:AH->AQ->Prop}
variable{led:Bool}
theorem yID{h:CM}(ho:h.get? a=AA o)(hd:o.data=.set es ep t) : (h.update a (Obj.putSet aQ t')).get? a=AA { o with data:=.set aQ (ep+1) t' }:=by have:=KI (Obj.putSet aQ t') ho (by rw[putSet_of aQ t' hd];rfl);rw[putSet_of aQ t' hd] at this;exact this
end
end _L
namespace _L
open PySem PySem.SetTable PyProof.Rows
end _L
namespace _L
open PySem PySem.Spec PyProof.Rows
def l2(p:Int×Int):List Int:=[p.1,p.2]
theorem yBK(l:AT)(items:Array AH)(n:Nat)(b:AT)(IR:Array AH)(XW:¬(!items.isEmpty&&FJ (items.size+IR.size))=AN)(lO:items.size<=sizeLine)(MU:items.size+IR.size<=sizeLine+1) : Meets (GG.«list.extend» {[.ref l,.ref b],[]}) (λ_ R s=>s.heap.get? l=AA { cls:=.type "list",dict:=AK,data:=.seq items n,slots:=#[] }/\SI s.heap b IR/\R (.ok (.ret JE)) { s with heap:=s.heap.update l (DS λx=>x++IR),toks:=s.toks }) :=
 .of_wp λprog w A R s h=>by
  have{hp,g,d,tk,os}:=s;have{hl,hb,h}:=h;have f1:=AutoSeq1.idx_int;have f2:=TZ;have f3:=AutoSeq1.sub_list_list;have f4:=AutoSeq1.sub_tuple_list;have f5:=AutoSeq1.sub_list_tuple;have dX:(items++IR).size<=sizeLine+1:=by rw[G1];exact MU
  have{zz',hb,hc,n2,hd}:=hb;have{oc,od,oda,ZL}:=zz';subst hc;subst hd
  wp_walk using(wpAny_updateSeq hl rfl),wpAny_loadPart' hl,wpAny_loadPart' hb;exact{_,rfl,h}
section
variable{K:AC}
def Yj(K:AC):V->List V->Hp->VK->Prop:=λx vs H Q=>∃l b xs zs,x=.ref l/\vs=[.ref b]/\H l=AA (.lst xs)/\SqT K H b zs/\xs.length+zs.length<=sizeLine/\Q .non (D4 H l (.lst (xs++zs)))
theorem zQV:uZ X "list.extend" (Yj X.K):=by
 intro AF s σ H x vs v us Q I rx rv h;have{l,b,xs,zs,rfl,rfl,hH,hB,hz,q}:=h;cases rx;have{u,rfl,ru}:=rv.one;cases ru;have{z,CK,n,r,hl,e}:=I.lstM hH;have{MT,r2,tp,z2}:=I.tuple hB;have aN:=r2.length;have NK:CK.toArray.size+MT.toArray.size<=sizeLine:=by rw[AZ,AZ];lia
 have W9:¬(!CK.toArray.isEmpty&&FJ (CK.toArray.size+MT.toArray.size))=AN:=by rw[Gn NK,U0];exact CH
 refine MZ F.slot_list_extend {_,e,rfl} F.entry_list_extend (F.args_list_extend_2 _ _)
  (yBK l CK.toArray n b MT.toArray W9 (by rw[AZ];lia) (AW NK (A3 _ _))) {e,tp,?_}
 refine{.non,_,I.lset hH e 'S' (r.append r2) ?_,rfl,q};rw[BC];exact hz
def kF(ds xs:List D):Out (D×List D):=match xs with
 |[.tup zs]=>few (ds.length+zs.length) (.ok (.non,ds++zs))
 |_=>.bad
theorem yBL:uM K (Yj K) kF:=λF H l vs ds args xs d UD Q s h r ra hf k=>by
 unfold kF at hf;split at hf
 .have{hl,hf}:=XS hf;cases hf;cases ra with
  |cons r1 rr=>cases rr;have{b,ws,rfl,KJ,sq}:=r1.tupSq;exact{l,b,vs,ws,rfl,rfl,h,sq F H (.refl _) s,by rw[r.length,KJ.length];exact CQ (bM hl),k _ _ .non (r.append KJ)}
 .cases hf
theorem zTT(i:Nat)(ha:VA X [e] gs)(hN:X.N[i]?=AA xn:=by rfl)(hv:ZK X.env.scope xn:=by first|exact BM rfl|exact DW (BM rfl)|exact DW (DW rfl))(hd:(xn==("__debug__":CD))=AD:=by decide)(LU:(xn==("__classdict__":CD))=AD:=by decide) (NW:J0 (.Name xn q) "extend" X.env (eval (.Name xn q) X.env)=eval (.Name xn q) X.env:=by rfl) (YI:((DC GA (AM [e] X.env)).all (λx=>!x.1)&&(YY GA (QN [] X.env)).all (λx=>x.1.isSome) && decide ([e].length+([]:List MH).length+(if([]:List MH).isEmpty then 0 else 1)<30))=AN:=by rfl) (NU:(LW.endLine==GA.line)=AN:=by rfl) (hs:AM [e] X.env=(AD,eval e X.env)::AM [] X.env:=by rfl) (OU:(DC GA (AM [] X.env)).any (·.1)=AD:=by rfl) : VE X (.Call (.Attribute (.Name xn q) "extend" LW) [e] [] GA) (O7 i kF gs) :=(sU FU PySem.F.slot_list_extend PySem.F.type_list_extend zQV (gA hN hv hd LU) ha NW YI NU hs OU).imp λσ H Q h=>yP yBL h
end
end _L
namespace _M
open PySem _L
noncomputable def RY(i:Nat):FM:=PySem.Challenge.pw_waymusts_k33_stretches_by_the_words.main.body.getD i (.Pass {0,0,0,0})
structure Bt(mg:CD->Option AH):Prop where
 b_ValueError:mg "ValueError"=AK
 b_all:mg "all"=AK
 b_bool:mg "bool"=AK
 b_enumerate:mg "enumerate"=AK
 b_isinstance:mg "isinstance"=AK
 b_len:mg "len"=AK
 b_list:mg "list"=AK
 b_min:mg "min"=AK
 b_range:mg "range"=AK
 b_set:mg "set"=AK
 b_sorted:mg "sorted"=AK
 b_tuple:mg "tuple"=AK
 b_zip:mg "zip"=AK
abbrev Ga:FM:=RY 13
abbrev Bg:FM:=RY 15
abbrev Bj:FM:=RY 22
abbrev Hq:FM:=RY 28
abbrev Ho:FM:=RY 29
abbrev Hn:FM:=RY 30
abbrev Hm:FM:=RY 33
abbrev Hl:FM:=RY 36
abbrev Hf:FM:=RY 37
abbrev Hk:FM:=RY 16
abbrev Hu:FM:=RY 31
abbrev Hw:FM:=RY 39
abbrev Hv:FM:=RY 17
abbrev Hg:FM:=RY 32
abbrev Gx:FM:=RY 18
abbrev Hy:FM:=RY 25
abbrev Gw:FM:=RY 20
abbrev Gv:FM:=RY 35
abbrev qQ:FM:=RY 21
abbrev rA:FM:=RY 34
abbrev zM:FM:=RY 23
abbrev Ay:FM:=RY 26
abbrev He:FM:=RY 38
abbrev iI:FM:=RY 40
theorem SN{N P:List CD}{sc:JJ}(h1:sc.kind=.function:=by rfl)(h2:sc.isCoroutine=AD:=by rfl)(h3:sc.isGenerator=AD:=by rfl)(h4:N.Nodup:=by decide +kernel)(h5:N.take P.length=P:=by rfl)(h6:∀x∈P,sc.names.lookup x=AA .local\/sc.names.lookup x=AA .cell:=by decide +kernel)(h7:∀y∈sc.names,y.2≠.free:=by decide +kernel):FnScope N P sc:={h1,h2,h3,h4,h5,h6,h7}
theorem zAcn{α:Type}{P:α->Prop}{a:α}{l:List α}(h:P a)(k:∀x∈l,P x):∀x∈a::l,P x:=λ_ e=>(List.mem_cons.mp e).elim (λe=>e▸h) (k _)
theorem cn{X:Cx}{scope:JJ}{xo:Option CD}{cl:List (CD×AT)}{own CN:List CD}{js:List Nat}(h1:YX scope X.env=pure cl)(h2:scope.kind=.function:=by rfl)(ho:∀n,Q1 n scope.names cl=wC xo n cl:=by intro _;rfl)(hp:∀h,pushCells h scope.names=pC xo h:=by intro _;rfl)(h4:∀y∈scope.names,y.2=.local->scope.names.lookup y.1=AA .local:=by decide +kernel)(h5:∀y∈scope.names,y.2=.free->y.1∈CN:=by decide +kernel)(h6:cl.map (·.1)=CN:=by rfl) (h7:∀p∈cl,X.env.cells.lookup p.1=AA p.2:=by repeat first|exact Bp|exact rfl|refine zAcn ?_ ?_) (h8:CN.map AA=js.map λj=>X.N[j]?:=by rfl) (h9:∀x∈CN,X.env.kindOf x=AA .cell\/X.env.kindOf x=AA .free:=by repeat first|exact Bp|exact .inl rfl|exact .inr rfl|refine zAcn ?_ ?_) (h10:∀x∈CN,(fB scope X.env).names.lookup x=AA .cell\/(fB scope X.env).names.lookup x=AA .free:=by repeat first|exact Bp|exact .inl rfl|exact .inr rfl|refine zAcn ?_ ?_) (hd:∀y∈scope.names,y.2=.cell->xo=AA y.1:=by decide +kernel) (h11:∀x∈CN,xo≠AA x:=by decide +kernel):CompNm X scope xo cl own CN js:={h1,h2,ho,hp,h4,h5,hd,h6,h7,h8,h9,h10,h11}
theorem WV{X:Cx}{scope:JJ}{xo:Option CD}{cl:List (CD×AT)}{own CN:List CD}{C:AT}{s:AQ}{H:Hp}{fp:List AT}{x:CD}{pos:jS}(i:Nat)(hN:(own++CN).Nodup:=by decide +kernel)(hi:(own++CN)[i]?=AA x:=by rfl)(hx:_L.Loc (NP X scope xo cl (own++CN) C s H fp).env.scope x:=by exact BM rfl)(hf:(NP X scope xo cl (own++CN) C s H fp).fn x=AN\/(NP X scope xo cl (own++CN) C s H fp).env.scope.names.lookup x=AA .local:=by exact DW rfl):VG (NP X scope xo cl (own++CN) C s H fp) (.Name x pos) (.nm i):=US hN hi hx hf
theorem yBM{J:It}{n:Nat}{g:TG}{tt:TT}{te:TE}{acc:AT}{σ₀:St}{N:St->Hp->Prop}{H1:Hp}(Pv:Nat->List V->St->Hp->Prop)(h0:Pv 0 [] σ₀ (D4 H1 acc (.lst [])))(ha:∀i ys σ H,i<=n->Pv i ys σ H->H acc=AA (.lst ys)) (hs:∀i ys σ H,i<n->Pv i ys σ H->J.go i H/\∀x H',J.yld i H x H'->g x σ H' λσ2 H2=>tt σ2 H2 λb H3 =>
   if b=AN then te σ2 H3 λy H4=>H4 acc=AA (.lst ys)/\ys.length<sizeLine/\∃m',m'<n-i/\m'=n-(i+1)/\i+1<=n/\Pv (i+1) (ys++[y]) σ2 (D4 H4 acc (.lst (ys++[y])))
   else ∃m',m'<n-i/\m'=n-(i+1)/\i+1<=n/\Pv (i+1) ys σ2 H3)
  (hd:∀ys σ H,Pv n ys σ H->J.stop n H/\N σ H) (mg:∀x σ H P P',(∀σ2 H2,P σ2 H2->P' σ2 H2)->g x σ H P->g x σ H P') (mt:∀σ H P P',(∀b H2,P b H2->P' b H2)->tt σ H P->tt σ H P') (me:∀σ H P P',(∀v H2,P v H2->P' v H2)->te σ H P->te σ H P'):tWalkC J g tt (kJ acc te) σ₀ (D4 H1 acc (.lst [])) N:=by
 refine{λi m σ H=>m=n-i/\i<=n/\∃ys,Pv i ys σ H,{n,by lia,BQ _,[],h0},?_};intro i m σ H zz';have{rfl,hi,ys,p}:=zz';by_cases JB:i<n
 .have{go,st}:=hs i ys σ H JB p;refine .inr {go,λx H' y=>mg _ _ _ _ _ (λσ2 H2 q=>mt _ _ _ _ (λb H3 q=>?_) q) (st x H' y)};cases b with
  |true=>rw[if_pos rfl] at q ⊢;exact me _ _ _ _ (λv H4 ⟨q1,q2,m',a,b,c,q3⟩=>{ys,q1,q2,m',a,b,c,_,q3}) q
  |false=>rw[if_neg CH] at q ⊢;have{m',a,b,c,q3}:=q;exact{m',a,b,c,_,q3}
 .have e:i=n:=by lia
  subst e;exact .inl (hd ys σ H p)
theorem Hd{α:Type}(f:α->Bool){l:List α}{i:Nat}{x:α}(h:l[i]?=AA x):(l.take (i+1)).filter f=(l.take i).filter f++(if f x=AN then[x] else[]):=by
 have{hi,e}:=AR.mp h;rw[BK hi,P1,e];by_cases hf:f x=AN
 .simp[hf]
 .simp[hf]
theorem Td{K:AC}{H:Hp}:∀{zs:List V} {ps:List (Int×Int)} {i:Nat} {z:V},PairsAt K H zs ps->zs[i]?=AA z->∃(q:AT) (x y:Int),z=.ref q/\SqT K H q [.int x,.int y]/\ps[i]?=AA (x,y)
 |_,_,_,_,.nil,h=>by simp at h
 |_,_,0,_,.cons ⟨q,e,s⟩ t,h=>by simp at h;subst h;exact{q,_,_,e,s,rfl}
 |_,_,i+1,_,.cons _ t,h=>by simp at h;simpa using Td t h
theorem Gr.acc{H1 H':Hp}{acc:AT}{o:HO}(g:Gr H1 H')(h:H1 acc=AK):Gr H1 (D4 H' acc o):=λb u e=>by rw[ET (U6 e h)];exact g b u e
def yKU(K:AC)(H:Hp)(q:AT)(AE:Int)(ps:List (Int×Int)):Prop:=∃(t:AT) (zs:List V),SqT K H q [.int AE,.ref t]/\SqT K H t zs/\PairsAt K H zs ps
noncomputable def U3(ps:List (Int×Int))(j:Nat):List Int:=(ps.filter λp=>decide (p.1=(j:Int))).map (·.2)
def yBN(H:Hp)(L:AT)(rs:List AT)(AE:Int)(ps:List (Int×Int)):Prop:=H L=AA (.lst (rs.map V.ref))/\(rs.length:Int)=AE/\∀(j:Nat) (hj:j<rs.length),H rs[j]=AA (.lst ((U3 ps j).map V.int))
def yBO(K:AC):Sp:=λvs H Q _=>∃(q:AT) (AE:Int) (ps:List (Int×Int)),vs=[.ref q]/\yKU K H q AE ps/\ps.length<=1000/\0<=AE/\AE<=100/\(∀p∈ps,0<=p.1/\p.1<AE) /\ ∀(L:AT) (H':Hp) (rs:List AT),Gr H H'->yBN H' L rs AE ps->H L=AK->(∀r∈rs,H r=AK)->Q (.ref L) H'
section
variable{P:BZ}{w:C8}{K:AC}{mg:CD->Option AH}{base:CM}
theorem aE:FnScope ["net","many","lanes","nexts","one","other"] ["net"] (J2 Bg):={rfl,rfl,rfl,by decide +kernel,rfl,by decide +kernel,by decide +kernel}
theorem yKV:((["place"]:List CD)++([]:List CD)).Nodup:=by decide +kernel
theorem zW7{f:AT}{fd:CV}(F:Fun K "next_places" "next_places" Bg f fd)(T:Bt mg):FnOk P w K mg base LJ 1 f fd ["net"] (yBO K):=by
 refine F.ok aE (λvs H Q E h=>?_) (λG3 A outer s H vs Q E hr h=>?_)
 .have{q,AE,ps,rfl,_}:=h;rfl
 .have{q,AE,ps,rfl,zz',JQ,xF,aM,hrg,q0}:=h;have{t,zs,hq,ht,wY}:=zz';refine{_,aC (Es (pv 0) (Et rfl (uD (iQ (i:=1) aE.nd rfl (BM rfl)) (uD (iQ (i:=2) aE.nd rfl (BM rfl)) U8))))
   (aC (Wj (i:=3) (own:=["place"]) (CN:=[]) (js:=[]) (cn (xo:=AK) rfl) rfl (Vk rfl T.b_range (SK (pv 1) HK))
     (λC s H fp=>iQ (i:=0) yKV rfl (BM rfl) (DW rfl)) (λC s H fp=>ZH) (λC s H fp=>mY HK) aE.nd rfl rfl rfl)
   (aC (qA B9 rfl (Qn (pv 2)) (Et rfl (uD (iQ (i:=4) aE.nd rfl (BM rfl)) (uD (iQ (i:=5) aE.nd rfl (BM rfl)) U8)))
    (kZ (Fp (sU FU LY LX Aq (Dr ZJ (pv 3) (pv 4) (λ_ _=>rfl)) (SK (pv 5) HK)))))
   (kZ (tL (pv 3))))),?_}
  have sm:∀n:Nat,n<=1000->n<=sizeLine:=λn h=>CQ (Gy h);have hzl:zs.length=ps.length:=Paired.length wY;refine{_,rfl,q,_,rfl,hq,rfl,_,_,rfl,_,_,rfl,rfl,?_};refine{_,rfl,_,rfl,by lia,by lia,λacc eQ=>?_};refine yBM (J:=rQ 0 AE.toNat) (g:=bL 0) (tt:=Xr) (te:=rK Bv) (n:=AE.toNat) (λi ys σ H'=>∃(u:Option V) (rs:List AT),σ=[u]/\ys=rs.map V.ref/\rs.length=i/\rs.Nodup/\(∀r∈rs,H' r=AA (.lst [])/\H r=AK/\r≠acc)/\H' acc=AA (.lst ys)/\Gr H H')
   {AK,[],rfl,rfl,rfl,ER,Bp,G9,Gr.new eQ} (λi ys σ H' _ ⟨_,_,_,_,_,_,_,h,_⟩=>h) ?_ ?_ (λx σ H P P' h q=>h _ _ q) (λσ H P P' h q=>h _ _ q) (λσ H P P' h q=>{q.1,λp hp=>h _ _ (q.2 p hp)})
  .intro i ys σ H' hi zz';have{u,rs,rfl,rfl,hl,nd,i8,ha,gr}:=zz';refine{hi,?_};intro x Dp zz';have{rfl,rfl}:=zz';refine{sm 0 'D',λpt sD=>?_};have hpa:pt≠acc:=FI (U6 ha sD);have xA:H pt=AK:=by
    cases e:H pt with
    |none=>rfl
    |some o=>have:=gr _ _ e;rw[sD] at this;cases this
   have hnr:pt∉rs:=λz=>by have:=(i8 pt z).1;rw[sD] at this;cases this
   refine{Gr.new sD _ _ ha,Gy (by rw[AJ];lia),_,by lia,rfl,by lia,_,rs++[pt],rfl,by simp,by simp[hl],?_,λr W8=>?_,G9,Gr.acc (gr.trans (Gr.new sD)) eQ}
   .rw[FZ];exact{nd,D8.mpr {by simp,ER},λa eR b eP=>by rw[A1.mp eP];exact λz=>hnr (z▸eR)}
   .rcases BU.mp W8 with h|h
    .have{h1,h2,h3}:=i8 r h;exact{by rw[ET h3,ET (U6 h1 sD)];exact h1,h2,h3}
    .rw[A1.mp h];exact{by rw[ET hpa,G9],xA,hpa}
  .intro ys σ H2 zz';have{u,rs,rfl,rfl,hl,nd,i8,ha,gr}:=zz';refine{AL _,?_};refine{_,rfl,t,rfl,{_,ht.gr gr},zY9 (K:=K) (a:=t) (xs:=zs) (λi σ H3=>∃u4 u5:Option V,σ=[AA (.ref q),AA (.int AE),AA (.ref t),AA (.ref acc),u4,u5]/\H3 acc=AA (.lst (rs.map V.ref))/\(∀(j:Nat) (hj:j<rs.length),H3 rs[j]=AA (.lst ((U3 (ps.take i) j).map V.int)))/\Gr H H3)
    {AK,AK,rfl,ha,λj hj=>(i8 _ (FQ hj)).1,gr} (λi σ H3 _ ⟨_,_,_,_,_,g⟩=>ht.gr g) ?_ ?_}
   .intro i z σ H3 hi zz';have{u4,u5,rfl,Dj,sC,g3}:=zz';have{pq,x,y,rfl,NT,Mu}:=Td (wY.gr g3) hi;have{x0,x9}:=hrg _ (BJ Mu);have gO:x.toNat<rs.length:=by rw[hl];have:=x9;have:=x0;simp only at *;lia
    have aI:((x.toNat:Nat):Int)=x:=by simp only at x0;lia
    have xZ:atI (rs.map V.ref) x=AA (.ref rs[x.toNat]):=by have z:=Sj (xs:=rs.map V.ref) (j:=x.toNat) (v:=.ref rs[x.toNat]) (by rw[AU,BP gO];rfl);rw[aI] at z;exact z
    have De:=(AR.mp Mu).1;have Mn:(U3 (ps.take i) x.toNat).length<=1000:=by unfold U3;rw[AJ];have h1:=FO (λp:Int×Int=>decide (p.1=((x.toNat:Nat):Int))) (ps.take i);rw[EI] at h1;lia
    refine{pq,_,rfl,NT,rfl,_,_,rfl,_,_,rfl,rfl,?_};refine{_,rfl,_,rfl,acc,_,_,_,rfl,rfl,SqL.of Dj,xZ,.inl {rfl,_,SqL.of (sC _ gO)},_,rfl,rs[x.toNat],_,_,rfl,rfl,sC _ gO,Gy (by rw[AJ];exact Mn),_,_,rfl,?_,λj hj=>?_,?_}
    .rw[ET (FI (i8 _ (FQ gO)).2.2)];exact Dj
    .have hf:=Hd (λp:Int×Int=>decide (p.1=(j:Int))) Mu;by_cases hjx:j=x.toNat
     .subst hjx;rw[G9];unfold U3;rw[hf,if_pos (decide_eq_true (show x=((x.toNat:Nat):Int) from aI.symm))];simp
     .have gR:rs[j]≠rs[x.toNat]:=λz=>by
       rcases Nat.lt_or_gt_of_ne hjx with h|h
       .exact DM.mp nd _ _ hj gO h z
       .exact DM.mp nd _ _ gO hj h z.symm
      rw[ET gR,sC j hj];unfold U3;rw[hf,if_neg (by simp only[decide_eq_true_eq];lia),C5]
    .exact Gr.acc g3 (i8 _ (FQ gO)).2.1
   .intro σ H3 zz';have{u4,u5,rfl,Dj,sC,g3}:=zz';rw[hzl,DE] at sC;exact{_,rfl,q0 acc H3 rs g3 {Dj,by rw[hl];lia,sC} eQ λr W8=>(i8 r W8).2.1}
end
def fU(AE:Int)(ps:List (Int×Int)):D:=.lst ((C4 AE.toNat).map λj=>.lst ((U3 ps j).map D.int))
def Bl(AE:Int)(ps:List (Int×Int)):D:=.tup [.int AE,.tup (ps.map M4)]
def uU(sl:Ev)(q:Int×List (Int×Int)):Prop:=sl=[.val (Bl q.1 q.2)]/\0<=q.1/\q.1<=100/\q.2.length<=1000/\∀p∈q.2,0<=p.1/\p.1<q.1
open Classical in
def k7:Mr:=λsl=>if h:∃q,uU sl q then .ok (AD,fU h.choose.1 h.choose.2,.non) else .bad
theorem yIE{sl:Ev}{r:Bool×D×D}(h:k7 sl=.ok r):∃AE ps,uU sl (AE,ps)/\r=(AD,fU AE ps,.non):=by
 unfold k7 at h;by_cases e:∃q,uU sl q
 .rw[dif_pos e] at h;cases h;exact{_,_,e.choose_spec,rfl}
 .rw[dif_neg e] at h;cases h
theorem yIF{AE:Int}{ps:List (Int×Int)}(h:uU [.val (Bl AE ps)] (AE,ps)):k7 [.val (Bl AE ps)]=.ok (AD,fU AE ps,.non):=by have e:∃q,uU [.val (Bl AE ps)] q:={_,h};unfold k7;rw[dif_pos e];have z:=e.choose_spec.1;generalize e.choose=q at z;injection z with z _;injection z with z;injection z with z;injection z with z1 z2;injection z1 with z1;injection z2 with z2 _;injection z2 with z2;have:=congrArg kU z2;rw[Az,Az] at this;injection this with this;rw[<-z1,<-this]
theorem pAQ{K:AC}{F H:Hp}(s:Sub F H):∀{ps:List (Int×Int)} {ys:List V},Reps K F ys (ps.map M4)->PairsAt K H ys ps:=λr=>pA0 (r.prs s) λ_ _ ⟨q,e,h⟩=>{q,e,SqT.of h}
theorem zIP{P:BZ}{w:C8}{K:AC}{mg:CD->Option AH}{base:CM}{f:AT}{fd:CV}(Fn:Fun K "next_places" "next_places" Bg f fd)(T:Bt mg):FnOk P w K mg base LJ 1 f fd ["net"] (NI K 1 k7) :=FnOk.imp (zW7 Fn T) λvs H Q E h=>by
  have{hl,τ,F,sl,b,d,d',S,sh,hm,k}:=h;have{AE,ps,zz',er}:=yIE hm;have{rfl,g1,g2,g3,g4}:=zz';cases er;have{v,e1,r}:=S.val 0 _ rfl;have{v',rfl}:=List.length_eq_one_iff.mp hl;cases e1;have{q,ws,rfl,r2,sq}:=r.tupSq;cases r2 with
  |cons ra r2 =>
   cases r2 with
   |cons rb r2 =>
    cases r2;cases ra;have{t,zs,rfl,r3,sq3}:=rb.tupSq;refine{q,AE,ps,rfl,{t,zs,sq F H (.refl _) S.sub,sq3 F H (.refl _) S.sub,pAQ S.sub r3},g3,g1,g2,g4,λL H' rs gr na hL i8=>?_};have n:=New.gro (F:=F) S.sub gr;refine k _ _ _ n.stp (S.new n) ?_;have{n1,n2,n3}:=na;have hL':gro F H H' L=AA (.lst (rs.map V.ref)):=by rw[Aa hL];exact n1
    refine .lst (.inl (.inl hL')) ?_;have KN:∀(l:List AT) (o:Nat),(∀r∈l,H r=AK)->(∀(j:Nat) (hj:j<l.length),H' l[j]=AA (.lst ((U3 ps (o+j)).map V.int))) ->
      Reps K (gro F H H') (l.map V.ref) ((List.range' o l.length).map λj=>D.lst ((U3 ps j).map D.int)):=by
     intro l;induction l with
     |nil=>intro o _ _;exact .nil
     |cons a l ih =>
      intro o h1 h2;rw[AV,BA,List.range'_succ,AV];refine .cons ?_ (ih (o+1) (λr hr=>h1 r (A5 _ hr)) λj hj=>?_)
      .have:=h2 0 'S';have hA':gro F H H' a=AA (.lst ((U3 ps o).map V.int)):=by rw[Aa (h1 a A2)];simpa using this
       exact .lst (.inl (.inl hA')) (Reps.ints _)
      .have:=h2 (j+1) (by simp;lia);rw[show o+1+j=o+(j+1) by lia];simpa using this
    have:=KN rs 0 i8 (by simpa using n3);rw[show rs.length=AE.toNat by lia] at this;rw[List.range_eq_range'];exact this
def Tc:GS :=(FX (I0 (.tp [(.nm 1),(.nm 2)]) (AY 0)) (NB (T8 [(AY 1),(gN XN [(gN bI [(RC (LB (AY 2)) 2 [] (.tp [(.nm 0),(.nm 1)]) RA (T8 [(AY 1),(AY 0)]))])])])))
def t9:Mr:=O5 3 Tc
theorem SL:FnScope ["net","many","lanes"] ["net"] (J2 Ga):=SN
theorem zTU{P:BZ}{w:C8}{K:AC}{mg:CD->Option AH}{base:CM}{f:AT}{fd:CV}(Fn:Fun K "turned" "turned" Ga f fd)(T:Bt mg) :FnOk P w K mg base LJ 1 f fd ["net"] (NI K 1 t9) :=UQ Fn SL λG3 A outer s H E hr=>by
  have hu:=hr.units;unfold Tc;exact(HU (Qd (B0 0) (kM rfl (XT (US (i:=1) SL.nd rfl (BM rfl)) (XT (US (i:=2) SL.nd rfl (BM rfl)) kX))))
   (JI (O8 (cU (DN (B0 1) (DN (cY T.b_tuple (DN (pA8 (Ge T.b_sorted (DN (pA8 (fY (own:=["one","other"]) (CN:=[]) (js:=[]) (cn (xo:=AK) rfl) rfl (XR (B0 2)) (λC s H fp=>(kM rfl (XT (WV 0) (XT (WV 1) kX)))) (λC s H fp=>kW) (λC s H fp=>(cU (DN (B0 1) (DN (B0 0) EZ)))))) EZ))) EZ)) EZ))))))
def Wv:GS :=(FX (NH (gB (g2 fQ (g2 E7 (AY 0) (AY 1)) (gC .non))) Ig PB) (FX (RX 2 (J1 [(AY 1)])) (FX (XV (QT [2] (gB (g2 L9 (g2 E7 (AY 0) (g2 E7 (AY 2) (g1 WD (gC (.int 1))))) (g2 E7 (AY 2) (g1 WD (gC (.int 1))))))) (X6 (O7 2 T7 [(OY [2] (g2 E7 (AY 0) (g2 E7 (AY 2) (g1 WD (gC (.int 1))))))])) 100000) (NB (OY [2] (gN XN [(Ib (AY 2) (g1 WD (gC (.int 1))))]))))))
def qZ:Mr:=O5 3 Wv
theorem MO:FnScope ["held","place","line"] ["held","place"] (J2 Bj):=SN
theorem zKZ{P:BZ}{w:C8}{K:AC}{mg:CD->Option AH}{base:CM}{f:AT}{fd:CV}(Fn:Fun K "musts_held" "musts_held" Bj f fd)(T:Bt mg) :FnOk P w K mg base LJ 1 f fd ["held","place"] (NI K 2 qZ) :=UQ Fn MO λG3 A outer s H E hr=>by
  have hu:=hr.units;unfold Wv;exact(HU (U4 (Ei (ML hu (B0 0) (B0 1)) kD)
   (JI Qe)
   WF)
   (HU (YA (i:=2) MO.nd rfl (BM rfl) (TQ (DN (B0 1) EZ)))
   (HU (Ai 100000 B9 (fZ [2] (cT hu (ML hu (B0 0) (ML hu (B0 2) (sP IA))) (ML hu (B0 2) (sP IA))))
   (JI (qM (uB 2 (DN (ZF [2] (ML hu (B0 0) (ML hu (B0 2) (sP IA)))) EZ)))))
   (JI (O8 (ZF [2] (cY T.b_tuple (DN (pA8 (yHZ (B0 2) (sP IA))) EZ))))))))
def Hr:GX :=(Bo (gB (g2 fQ (g2 E7 (AY 0) (AY 1)) (gC .non))) (Xe [(gJ O1 [.inl "no way leads to ",.inr (AY 1)])]))
def Be:List D->Out Ev:=Bn 3 Hr
theorem zK0{P:BZ}{w:C8}{K:AC}{mg:CD->Option AH}{base:CM}{f C:AT}{fd:CV}(Fn:Fun K "musts_held" "musts_held" Bj f fd)(T:Bt mg)(hmC:mg "NotReached"=AA (.ref C))(Z:KC K C [.type "ValueError",.type "Exception",.type "BaseException",.type "object"] "ValueError.__new__"=AN) :FnOk P w K mg base (TU P w C) 1 f fd ["held","place"] (rN K C 2 Be) :=Ip Fn MO λG3 A outer s H E hr hh=>by have hu:=hr.units;unfold Hr;exact(yFB (Ei (ML hu (B0 0) (B0 1)) kD) (zTH PySem.F.excBase_ValueError Z hmC hh (DN (yFN (.txt 'D' (.val (B0 1) .nil))) EZ)))
def Wk:GS :=(FX (NH (gB (g2 YB (AY 1) (gN QR [(AY 0)]))) (NB (g2 E7 (AY 0) (AY 1))) PB) (NB (gC (.int 0))))
def qX:Mr:=O5 2 Wk
theorem zOH:FnScope ["script","k"] ["script","k"] (J2 Hq):=SN
theorem zM3{P:BZ}{w:C8}{K:AC}{mg:CD->Option AH}{base:CM}{f:AT}{fd:CV}(Fn:Fun K "_law_cell" "_law_cell" Hq f fd)(T:Bt mg) :FnOk P w K mg base LJ 1 f fd ["script","k"] (NI K 2 qX) :=UQ Fn zOH λG3 A outer s H E hr=>by
  have hu:=hr.units;unfold Wk;exact(HU (U4 (yX hu (B0 1) (j9 T.b_len (DN (B0 0) EZ)))
   (JI (O8 (ML hu (B0 0) (B0 1))))
   WF)
   (JI (O8 IA)))
def Wr:GS :=(FX (NH (gB (g2 Jo (AY 0) (g2 bE (gC (.int 10)) (gC (.int 18))))) (yS (J1 [(g2 j3 (AY 0) (g2 bE (gC (.int 10)) (gC (.int 18)))),(g2 UP (AY 0) (gC (.int 2305843009213693951))),(AY 1)])) PB) (yS (J1 [(gC (.int 0)),(g2 UP (AY 0) (gC (.int 2305843009213693951))),(AY 1)])))
def qV:Mr:=O5 2 Wr
theorem zOI:FnScope ["cell","turn"] ["cell","turn"] (J2 Ho):=SN
theorem zM4{P:BZ}{w:C8}{K:AC}{mg:CD->Option AH}{base:CM}{f:AT}{fd:CV}(Fn:Fun K "_law_well" "_law_well" Ho f fd)(T:Bt mg) :FnOk P w K mg base LJ 1 f fd ["cell","turn"] (NI K 2 qV) :=UQ Fn zOI λG3 A outer s H E hr=>by
  have hu:=hr.units;unfold Wr;exact(HU (U4 (yHQ (B0 0) (yU IA IA))
   (JI (Sa (TQ (DN (Je (B0 0) (yU IA IA)) (DN (kB (B0 0) IA) (DN (B0 1) EZ))))))
   WF)
   (JI (Sa (TQ (DN IA (DN (kB (B0 0) IA) (DN (B0 1) EZ)))))))
def Wq:GS :=(FX (NH (QT [0] (gB (g2 Jn (g2 E7 (AY 0) (gC (.int 0))) (gC (.int 0))))) (FX (I0 (.nm 2) (OY [0] (g2 UP (g2 E7 (AY 0) (gC (.int 0))) (AY 1)))) (FX (QV 0 (gC (.int 0)) (OY [0] (g2 mS (g2 E7 (AY 0) (gC (.int 0))) (AY 1)))) (NB (AY 2)))) PB) (FX (QV 0 (gC (.int 2)) (OY [0] (g2 NG (g2 E7 (AY 0) (gC (.int 2))) (gC (.int 1))))) (FX (I0 (.nm 3) (gC (.int 2305843009213693951))) (FX (I0 (.nm 4) (OY [0] (g2 UP (g2 NG (g2 E7 (AY 0) (gC (.int 1))) (g2 X4 (gC (.int 1000003)) (g2 E7 (AY 0) (gC (.int 2))))) (AY 3)))) (FX (I0 (.nm 4) (OY [0] (g2 UP (g2 NG (g2 NG (g2 X4 (AY 4) (AY 4)) (g2 X4 (gC (.int 7919)) (g2 bE (g2 E7 (AY 0) (gC (.int 2))) (gC (.int 2))))) (gC (.int 5))) (AY 3)))) (NB (g2 UP (g2 mS (g2 UP (g2 bE (AY 4) (gC (.int 3))) (AY 3)) (gC (.int 13))) (AY 1))))))))
def LR:Mr:=O5 5 Wq
theorem KE:FnScope ["bag","many","found","p","n"] ["bag","many"] (J2 Hn):=SN
theorem zM5{P:BZ}{w:C8}{K:AC}{mg:CD->Option AH}{base:CM}{f:AT}{fd:CV}(Fn:Fun K "_law_take" "_law_take" Hn f fd)(T:Bt mg) :FnOk P w K mg base LJ 1 f fd ["bag","many"] (NI K 2 LR) :=UQ Fn KE λG3 A outer s H E hr=>by
  have hu:=hr.units;unfold Wq;exact(HU (U4 (fZ [0] (yHP (ML hu (B0 0) IA) IA))
   (HU (O6 (i:=2) KE.nd rfl (BM rfl) (ZF [0] (kB (ML hu (B0 0) IA) (B0 1))))
   (HU (bQ 0 hu IA (ZF [0] (Pz (ML hu (B0 0) IA) (B0 1))))
   (JI (O8 (B0 2)))))
   WF)
   (HU (bQ 0 hu IA (ZF [0] (Z8 (ML hu (B0 0) IA) IA)))
   (HU (O6 (i:=3) KE.nd rfl (BM rfl) IA)
   (HU (O6 (i:=4) KE.nd rfl (BM rfl) (ZF [0] (kB (Z8 (ML hu (B0 0) IA) (yV IA (ML hu (B0 0) IA))) (B0 3))))
   (HU (O6 (i:=4) KE.nd rfl (BM rfl) (ZF [0] (kB (Z8 (Z8 (yV (B0 4) (B0 4)) (yV IA (yU (ML hu (B0 0) IA) IA))) IA) (B0 3))))
   (JI (O8 (kB (Pz (kB (yU (B0 4) IA) (B0 3)) IA) (B0 1)))))))))
def Wu:GS :=(FX (RX 3 (gC (.dk []))) (FX (OQ (LB (g2 E7 (AY 0) (gC (.int 1)))) (.tp [(.nm 4),(.nm 5)]) (QV 3 (AY 4) (OY [3] (g2 NG (cO (AY 3) (AY 4) (J1 [])) (J1 [(AY 5)]))))) (FX (RX 6 (uW (gB (g2 L9 (AY 1) (AY 2))) (En (AY 1) (gC (.bl AN))) (gC (.dk [])))) (FX (RX 7 (Jb [6] (gN j8 [(AY 6)]))) (FX (XV (QT [7] (gB (g2 L9 (AY 7) (J1 [])))) (OQ (LB (cO (AY 3) (O7 7 fP []) (J1 []))) (.nm 5) (NH (QT [6] (bK (gB (g2 L9 (AY 5) (AY 2))) (gB (g2 QU (AY 5) (AY 6))))) (FX (QV 6 (AY 5) (gC (.bl AN))) (X6 (O7 7 T7 [(AY 5)]))) PB)) 100000) (NB (OY [6] (gN j8 [(AY 6)]))))))))
def aD:Mr:=O5 8 Wu
theorem HJ:FnScope ["net","gate","closed","ahead","one","other","found","row"] ["net","gate","closed"] (J2 Hm):=SN
theorem zK1{P:BZ}{w:C8}{K:AC}{mg:CD->Option AH}{base:CM}{f:AT}{fd:CV}(Fn:Fun K "_law_reach" "_law_reach" Hm f fd)(T:Bt mg) :FnOk P w K mg base LJ 1 f fd ["net","gate","closed"] (NI K 3 aD) :=UQ Fn HJ λG3 A outer s H E hr=>by
  have hu:=hr.units;unfold Wu;exact(HU (YA (i:=3) HJ.nd rfl (BM rfl) zP)
   (HU (aA B9 rfl (XR (ML hu (B0 0) IA)) (kM rfl (XT (US (i:=4) HJ.nd rfl (BM rfl)) (XT (US (i:=5) HJ.nd rfl (BM rfl)) kX)))
   (JI (bQ 3 hu (B0 4) (ZF [3] (Z8 (Zd hu (B0 3) (B0 4) (pA8 (TQ EZ))) (pA8 (TQ (DN (B0 5) EZ))))))))
   (HU (YA (i:=6) HJ.nd rfl (BM rfl) (yKN (cT hu (B0 1) (B0 2)) (yAS (B0 1) iG) zP))
   (HU (YA (i:=7) HJ.nd rfl (BM rfl) (yHW [6] (zH rfl T.b_list (DN (B0 6) EZ))))
   (HU (Ai 100000 B9 (fZ [7] (cT hu (B0 7) (pA8 (TQ EZ))))
   (JI (aA B9 rfl (XR (Zd hu (B0 3) (yHU 7) (pA8 (TQ EZ)))) (US (i:=5) HJ.nd rfl (BM rfl))
   (JI (U4 (fZ [6] (VW.t (zK (cT hu (B0 5) (B0 2)) (z9 (qN hu (B0 5) (B0 6))))))
   (HU (bQ 6 hu (B0 5) iG)
   (JI (qM (uB 7 (DN (B0 5) EZ)))))
   WF)))))
   (JI (O8 (ZF [6] (pA8 (zH rfl T.b_list (DN (B0 6) EZ)))))))))))
theorem MP:FnScope ["e","kinds"] ["e"] (J2 Hl):=SN
theorem ku{P:BZ}{w:C8}{K:AC}{mg:CD->Option AH}{base:CM}{f C c0 c1 c2 c3 c4 c5 c6 c7 c8 c9:AT}{fd:CV}{ZM:String}{bm:List AH}(Fn:Fun K "_law_kinds" "_law_kinds" Hl f fd)(T:Bt mg)(hb:Binds K fd ["e"] [])(Z:ExK K C bm ZM)(m0:mg "NotReached"=AA (.ref c0))(e0:BR K (.ref C) (.ref c0)=AA AN)(m1:mg "NoPaper"=AA (.ref c1))(e1:BR K (.ref C) (.ref c1)=AA AD)(m2:mg "TooMany"=AA (.ref c2))(e2:BR K (.ref C) (.ref c2)=AA AD)(m3:mg "NoSuch"=AA (.ref c3))(e3:BR K (.ref C) (.ref c3)=AA AD)(m4:mg "NoLane"=AA (.ref c4))(e4:BR K (.ref C) (.ref c4)=AA AD)(m5:mg "NoRound"=AA (.ref c5))(e5:BR K (.ref C) (.ref c5)=AA AD)(m6:mg "NoText"=AA (.ref c6))(e6:BR K (.ref C) (.ref c6)=AA AD)(m7:mg "NoRow"=AA (.ref c7))(e7:BR K (.ref C) (.ref c7)=AA AD)(m8:mg "NoPlace"=AA (.ref c8))(e8:BR K (.ref C) (.ref c8)=AA AD)(m9:mg "NothingLeft"=AA (.ref c9))(e9:BR K (.ref C) (.ref c9)=AA AD)(e10:BR K (.ref C) (.type "ValueError")=AA AN):KU P w K mg base f C [AN,AD,AD,AD,AD,AD,AD,AD,AD,AD,AN] :=zWS (l1:=[AN,AD,AD,AD]) (l2:=[AD,AD,AD,AD]) (l3:=[AD,AD,AN]) Fn MP hb 'D' λG3 A outer s H a hX=>by exact(aC (qB (i:=1) MP.nd rfl (BM rfl) (mY (cP (cQ hX Z T.b_isinstance (gE (v:=.ref c0) rfl m0 rfl) (λ_ h=>h) e0) (cP (cQ hX Z T.b_isinstance (gE (v:=.ref c1) rfl m1 rfl) (λ_ h=>h) e1) (cP (cQ hX Z T.b_isinstance (gE (v:=.ref c2) rfl m2 rfl) (λ_ h=>h) e2) (cP (cQ hX Z T.b_isinstance (gE (v:=.ref c3) rfl m3 rfl) (λ_ h=>h) e3) Ee)))))) (aC (qB (i:=1) MP.nd rfl (BM rfl) (yZ Qx (pv 1) (mY (cP (cQ hX Z T.b_isinstance (gE (v:=.ref c4) rfl m4 rfl) (λ_ h=>h) e4) (cP (cQ hX Z T.b_isinstance (gE (v:=.ref c5) rfl m5 rfl) (λ_ h=>h) e5) (cP (cQ hX Z T.b_isinstance (gE (v:=.ref c6) rfl m6 rfl) (λ_ h=>h) e6) (cP (cQ hX Z T.b_isinstance (gE (v:=.ref c7) rfl m7 rfl) (λ_ h=>h) e7) Ee))))))) (kZ (tL (yZ Qx (pv 1) (mY (cP (cQ hX Z T.b_isinstance (gE (v:=.ref c8) rfl m8 rfl) (λ_ h=>h) e8) (cP (cQ hX Z T.b_isinstance (gE (v:=.ref c9) rfl m9 rfl) (λ_ h=>h) e9) (cP (cQ hX Z T.b_isinstance (Ss (v:=.ty "ValueError") rfl T.b_ValueError (by decide +kernel) rfl) (λ_ h=>h) e10) Ee)))))))))
def Wp:GS :=(NB (RC (cS (gC (.int 11))) 1 [0] (.nm 0) RA (Zy (g2 aF (AY 0) (AY 1)) (g2 aF (AY 0) (gC (.int 10))))))
def uI:Mr:=O5 1 Wp
theorem zOJ:FnScope ["which"] ["which"] (J2 Hf):=SN
theorem zM6{P:BZ}{w:C8}{K:AC}{mg:CD->Option AH}{base:CM}{f:AT}{fd:CV}(Fn:Fun K "_law_only" "_law_only" Hf f fd)(T:Bt mg) :FnOk P w K mg base LJ 1 f fd ["which"] (NI K 1 uI) :=UQ Fn zOJ λG3 A outer s H E hr=>by have hu:=hr.units;unfold Wp;exact(JI (O8 (pA8 (fY (own:=["k"]) (CN:=["which"]) (js:=[0]) (cn (xo:=AK) rfl) rfl (Ap T.b_range IA) (λC s H fp=>(WV 0)) (λC s H fp=>kW) (λC s H fp=>(yKG (Ic hu (B0 0) (B0 1)) (Zh (Ic hu (B0 0) IA))))))))
def Wt:GS :=(FX (I0 (.nm 3) (g2 E7 (AY 0) (gC (.int 0)))) (FX (RX 4 (g2 iE (J1 [(gC .non)]) (AY 3))) (FX (NH (gB (g2 QA (AY 1) (AY 2))) (NB (AY 4)) PB) (FX (I0 (.nm 5) (KB k7 [(AY 0)])) (FX (I0 (.nm 6) (RC (cS (AY 3)) 1 [2] (.nm 0) RA (g2 QA (AY 0) (AY 1)))) (FX (QV 4 (AY 1) (gC (.int 0))) (FX (I0 (.nm 7) (J1 [(AY 1)])) (FX (XV (Z5 (AY 7)) (FX (RX 8 (J1 [])) (FX (OQ (LB (AY 7)) (.nm 9) (OQ (LB (g2 E7 (AY 5) (AY 9))) (.nm 10) (NH (QT [4] (bK (gB (g2 fQ (g2 E7 (AY 4) (AY 10)) (gC .non))) (iO (Z5 (g2 E7 (AY 6) (AY 10)))))) (FX (QV 4 (AY 10) (OY [4] (g2 NG (g2 E7 (AY 4) (AY 9)) (gC (.int 1))))) (X6 (O7 8 T7 [(AY 10)]))) PB))) (I0 (.nm 7) (AY 8)))) 100000) (NB (AY 4))))))))))
def Bi:Mr:=O5 11 Wt
theorem FP:FnScope ["net","start","closed","many","away","nexts","shut","layer","further","place","head"] ["net","start","closed"] (J2 Hk):=SN
theorem zK2{P:BZ}{w:C8}{K:AC}{mg:CD->Option AH}{base:CM}{f:AT}{fd:CV}(Fn:Fun K "lanes_away" "lanes_away" Hk f fd)(T:Bt mg)(UE:MR P w K mg base "next_places" 1 1 k7):FnOk P w K mg base LJ 2 f fd ["net","start","closed"] (NI K 3 Bi) :=UQ Fn FP λG3 A outer s H E hr=>by
  have hu:=hr.units;unfold Wt;exact(HU (O6 (i:=3) FP.nd rfl (BM rfl) (ML hu (B0 0) IA))
   (HU (YA (i:=4) FP.nd rfl (BM rfl) (Yv (DN kD EZ) (B0 3)))
   (HU (U4 (yY hu (B0 1) (B0 2))
   (JI (O8 (B0 4)))
   WF)
   (HU (O6 (i:=5) FP.nd rfl (BM rfl) (P6 UE (hr.mono 'D') (DN (B0 0) EZ)))
   (HU (zOB (i:=6) (own:=["place"]) (CN:=["closed"]) (js:=[2]) (cn (xo:=AK) rfl) rfl (Ap T.b_range (B0 3)) (λC s H fp=>(WV 0)) (λC s H fp=>kW) (λC s H fp=>(yKJ hu (B0 0) (B0 1))) FP.nd rfl rfl rfl)
   (HU (bQ 4 hu (B0 1) IA)
   (HU (O6 (i:=7) FP.nd rfl (BM rfl) (pA8 (TQ (DN (B0 1) EZ))))
   (HU (Ai 100000 B9 (uA (B0 7))
   (HU (YA (i:=8) FP.nd rfl (BM rfl) (TQ EZ))
   (HU (aA B9 rfl (XR (B0 7)) (US (i:=9) FP.nd rfl (BM rfl))
   (JI (aA B9 rfl (XR (ML hu (B0 5) (B0 9))) (US (i:=10) FP.nd rfl (BM rfl))
   (JI (U4 (fZ [4] (VW.t (zK (Ei (ML hu (B0 4) (B0 10)) kD) (z9 (Ek (uA (ML hu (B0 6) (B0 10))))))))
   (HU (bQ 4 hu (B0 10) (ZF [4] (Z8 (ML hu (B0 4) (B0 9)) IA)))
   (JI (qM (uB 8 (DN (B0 10) EZ)))))
   WF)))))
   (JI (O6 (i:=7) FP.nd rfl (BM rfl) (B0 8))))))
   (JI (O8 (B0 4)))))))))))
def Xb:GS :=(FX (RX 2 (gN j8 [(AY 1)])) (FX (RX 3 (J1 [])) (FX (XV (QT [2] (gB (g2 L9 (AY 2) (J1 [])))) (X6 (O7 3 T7 [(O7 2 kL [(LH LR 0 [(OY [2] (gN QR [(AY 2)]))])])])) 100000) (NB (AY 3)))))
def uK:Mr:=O5 4 Xb
theorem KM:FnScope ["bag","some","left","found"] ["bag","some"] (J2 Hu):=SN
theorem zGV{P:BZ}{w:C8}{K:AC}{mg:CD->Option AH}{base:CM}{f:AT}{fd:CV}(Fn:Fun K "_law_shuffled" "_law_shuffled" Hu f fd)(T:Bt mg)(D2:MR P w K mg base "_law_take" 1 2 LR):FnOk P w K mg base LJ 2 f fd ["bag","some"] (NI K 2 uK) :=UQ Fn KM λG3 A outer s H E hr=>by
  have hu:=hr.units;unfold Xb;exact(HU (YA (i:=2) KM.nd rfl (BM rfl) (zH rfl T.b_list (DN (B0 1) EZ)))
   (HU (YA (i:=3) KM.nd rfl (BM rfl) (TQ EZ))
   (HU (Ai 100000 B9 (fZ [2] (cT hu (B0 2) (pA8 (TQ EZ))))
   (JI (qM (uB 3 (DN (yAR 2 (DN (WU 0 D2 (hr.mono 'D') (DN (ZF [2] (j9 T.b_len (DN (B0 2) EZ))) EZ)) EZ)) EZ)))))
   (JI (O8 (B0 3))))))
def Xa:GS :=(FX (I0 (.nm 3) (KB aD [(AY 0),(AY 1),(AY 2)])) (FX (RX 4 (J1 [])) (FX (OQ (LB (gN bI [(AY 3)])) (.nm 5) (NH (bK (gB (g2 L9 (AY 5) (AY 1))) (gB (g2 QA (AY 2) (KB aD [(AY 0),(AY 5),(AY 1)])))) (X6 (O7 4 T7 [(AY 5)])) PB)) (NB (OY [4] (gN XN [(AY 4)]))))))
def qW:Mr:=O5 6 Xa
theorem JN:FnScope ["net","one","other","ahead","found","place"] ["net","one","other"] (J2 Hw):=SN
theorem zH8{P:BZ}{w:C8}{K:AC}{mg:CD->Option AH}{base:CM}{f:AT}{fd:CV}(Fn:Fun K "_law_between" "_law_between" Hw f fd)(T:Bt mg)(JR:MR P w K mg base "_law_reach" 1 3 aD):FnOk P w K mg base LJ 2 f fd ["net","one","other"] (NI K 3 qW) :=UQ Fn JN λG3 A outer s H E hr=>by
  have hu:=hr.units;unfold Xa;exact(HU (O6 (i:=3) JN.nd rfl (BM rfl) (P6 JR (hr.mono 'D') (DN (B0 0) (DN (B0 1) (DN (B0 2) EZ)))))
   (HU (YA (i:=4) JN.nd rfl (BM rfl) (TQ EZ))
   (HU (aA B9 rfl (XR (pA8 (Ge T.b_sorted (DN (B0 3) EZ)))) (US (i:=5) JN.nd rfl (BM rfl))
   (JI (U4 (VW.t (zK (cT hu (B0 5) (B0 1)) (z9 (yY hu (B0 2) (P6 JR (hr.mono 'D') (DN (B0 0) (DN (B0 5) (DN (B0 1) EZ))))))))
   (JI (qM (uB 4 (DN (B0 5) EZ))))
   WF)))
   (JI (O8 (ZF [4] (cY T.b_tuple (DN (B0 4) EZ))))))))
def Wz:GS :=(FX (I0 (.nm 3) (KB Bi [(AY 0),(AY 1),(AY 2)])) (NB (gN XN [(RC (Em (AY 3)) 2 [] (.tp [(.nm 0),(.nm 1)]) (gB (g2 sQ (AY 1) (gC .non))) (AY 0))])))
def dA:Mr:=O5 4 Wz
theorem NQ:FnScope ["net","gate","closed","away"] ["net","gate","closed"] (J2 Hv):=SN
theorem zH9{P:BZ}{w:C8}{K:AC}{mg:CD->Option AH}{base:CM}{f:AT}{fd:CV}(Fn:Fun K "reached_past" "reached_past" Hv f fd)(T:Bt mg)(V0:MR P w K mg base "lanes_away" 2 3 Bi):FnOk P w K mg base LJ 3 f fd ["net","gate","closed"] (NI K 3 dA) :=UQ Fn NQ λG3 A outer s H E hr=>by
  have hu:=hr.units;unfold Wz;exact(HU (O6 (i:=3) NQ.nd rfl (BM rfl) (P6 V0 (hr.mono 'D') (DN (B0 0) (DN (B0 1) (DN (B0 2) EZ)))))
   (JI (O8 (cY T.b_tuple (DN (pA8 (fY (own:=["place","steps"]) (CN:=[]) (js:=[]) (cn (xo:=AK) rfl) rfl (zWJ T.b_enumerate (B0 3)) (λC s H fp=>(kM rfl (XT (WV 0) (XT (WV 1) kX)))) (λC s H fp=>(zX (yAB (B0 1) kD))) (λC s H fp=>(B0 0)))) EZ)))))
def Vx:GS :=(FX (I0 (.nm 2) (g2 E7 (J1 [(AY 1),(g2 NG (gC (.int 1)) (LH LR 0 [(AY 1)])),(g2 NG (gC (.int 1)) (LH LR 0 [(gN iJ [(gC (.int 7)),(AY 1)])]))]) (LH LR 0 [(gC (.int 3))]))) (FX (I0 (.nm 3) (LH LR 0 [(gC (.int 4))])) (FX (I0 (.nm 4) (g2 E7 (J1 [(gC (.int 0)),(gC (.int 1)),(LH LR 0 [(g2 NG (AY 2) (gC (.int 1)))]),(g2 NG (AY 2) (LH LR 0 [(g2 X4 (gC (.int 5)) (AY 2))])),(gC (.int 120))]) (LH LR 0 [(gC (.int 5))]))) (FX (RX 5 (gC (.dt []))) (FX (OQ (sS (gC (.int 1)) (AY 2)) (.nm 6) (NH (gB (g2 YB (AY 3) (gC (.int 3)))) (QV 5 (T8 [(g2 E7 (J1 [(LH LR 0 [(AY 6)]),(g2 j3 (g2 j3 (AY 6) (gC (.int 1))) (LH LR 0 [(gN iJ [(AY 6),(gC (.int 2))])])),(gC (.int 0))]) (AY 3)),(AY 6)]) (gC (.bl AN))) PB)) (FX (OQ (cS (AY 4)) (.nm 7) (FX (I0 (.nm 8) (LH LR 0 [(AY 2)])) (FX (I0 (.nm 9) (g2 E7 (J1 [(LH LR 0 [(AY 2)]),(g2 UP (g2 NG (g2 NG (AY 8) (gC (.int 1))) (LH LR 0 [(gC (.int 2))])) (AY 2))]) (LH LR 0 [(gC (.int 2))]))) (NH (QT [5] (bK (gB (g2 L9 (AY 8) (AY 9))) (gB (g2 YB (gN QR [(AY 5)]) (gC (.int 120)))))) (QV 5 (T8 [(AY 8),(AY 9)]) (gC (.bl AN))) PB)))) (FX (I0 (.nm 10) (LH uK 0 [(Jp (AY 2))])) (FX (I0 (.nm 11) (g2 E7 (J1 [(g2 E7 (AY 10) (gC (.int 0))),(g2 E7 (AY 10) (gC (.int 0))),(LH LR 0 [(AY 2)])]) (LH LR 0 [(gC (.int 3))]))) (NB (OY [5] (T8 [(T8 [(AY 2),(gN XN [(gN bI [(RC (LB (AY 5)) 2 [10] (.tp [(.nm 0),(.nm 1)]) RA (T8 [(g2 E7 (AY 2) (AY 0)),(g2 E7 (AY 2) (AY 1))]))])])]),(AY 11)])))))))))))
def qU:Mr:=O5 12 Vx
theorem GH:FnScope ["bag","most","many","way","more","lanes","k","turn","one","other","names","gate"] ["bag","most"] (J2 Hg):=SN
theorem zOK{P:BZ}{w:C8}{K:AC}{mg:CD->Option AH}{base:CM}{f:AT}{fd:CV}(Fn:Fun K "_law_net" "_law_net" Hg f fd)(T:Bt mg)(D2:MR P w K mg base "_law_take" 1 2 LR)(RL:MR P w K mg base "_law_shuffled" 2 2 uK):FnOk P w K mg base LJ 3 f fd ["bag","most"] (NI K 2 qU) :=UQ Fn GH λG3 A outer s H E hr=>by
  have hu:=hr.units;unfold Vx;exact(HU (O6 (i:=2) GH.nd rfl (BM rfl) (ML hu (pA8 (TQ (DN (B0 1) (DN (Z8 IA (WU 0 D2 (hr.mono 'D') (DN (B0 1) EZ))) (DN (Z8 IA (WU 0 D2 (hr.mono 'D') (DN (Px rfl T.b_min (DN IA (DN (B0 1) EZ))) EZ))) EZ))))) (WU 0 D2 (hr.mono 'D') (DN IA EZ))))
   (HU (O6 (i:=3) GH.nd rfl (BM rfl) (WU 0 D2 (hr.mono 'D') (DN IA EZ)))
   (HU (O6 (i:=4) GH.nd rfl (BM rfl) (ML hu (pA8 (TQ (DN IA (DN IA (DN (WU 0 D2 (hr.mono 'D') (DN (Z8 (B0 2) IA) EZ)) (DN (Z8 (B0 2) (WU 0 D2 (hr.mono 'D') (DN (yV IA (B0 2)) EZ))) (DN IA EZ))))))) (WU 0 D2 (hr.mono 'D') (DN IA EZ))))
   (HU (YA (i:=5) GH.nd rfl (BM rfl) Se)
   (HU (aA B9 rfl (zS8 T.b_range IA (B0 2)) (US (i:=6) GH.nd rfl (BM rfl))
   (JI (U4 (yX hu (B0 3) IA)
   (JI (bQ 5 hu (cU (DN (ML hu (pA8 (TQ (DN (WU 0 D2 (hr.mono 'D') (DN (B0 6) EZ)) (DN (Je (Je (B0 6) IA) (WU 0 D2 (hr.mono 'D') (DN (Px rfl T.b_min (DN (B0 6) (DN IA EZ))) EZ))) (DN IA EZ))))) (B0 3)) (DN (B0 6) EZ))) iG))
   WF)))
   (HU (aA B9 rfl (Ap T.b_range (B0 4)) (US (i:=7) GH.nd rfl (BM rfl))
   (HU (O6 (i:=8) GH.nd rfl (BM rfl) (WU 0 D2 (hr.mono 'D') (DN (B0 2) EZ)))
   (HU (O6 (i:=9) GH.nd rfl (BM rfl) (ML hu (pA8 (TQ (DN (WU 0 D2 (hr.mono 'D') (DN (B0 2) EZ)) (DN (kB (Z8 (Z8 (B0 8) IA) (WU 0 D2 (hr.mono 'D') (DN IA EZ))) (B0 2)) EZ)))) (WU 0 D2 (hr.mono 'D') (DN IA EZ))))
   (JI (U4 (fZ [5] (VW.t (zK (cT hu (B0 8) (B0 9)) (z9 (yX hu (j9 T.b_len (DN (B0 5) EZ)) IA)))))
   (JI (bQ 5 hu (cU (DN (B0 8) (DN (B0 9) EZ))) iG))
   WF)))))
   (HU (O6 (i:=10) GH.nd rfl (DW rfl) (WU 0 RL (hr.mono 'D') (DN (pA8 (zOA rfl T.b_range T.b_list (B0 2))) EZ)))
   (HU (O6 (i:=11) GH.nd rfl (BM rfl) (ML hu (pA8 (TQ (DN (ML hu (B0 10) IA) (DN (ML hu (B0 10) IA) (DN (WU 0 D2 (hr.mono 'D') (DN (B0 2) EZ)) EZ))))) (WU 0 D2 (hr.mono 'D') (DN IA EZ))))
   (JI (O8 (ZF [5] (cU (DN (cU (DN (B0 2) (DN (cY T.b_tuple (DN (pA8 (Ge T.b_sorted (DN (pA8 (fY (own:=["one","other"]) (CN:=["names"]) (js:=[10]) (cn (xo:=AK) rfl) rfl (XR (B0 5)) (λC s H fp=>(kM rfl (XT (WV 0) (XT (WV 1) kX)))) (λC s H fp=>kW) (λC s H fp=>(cU (DN (ML hu (B0 2) (B0 0)) (DN (ML hu (B0 2) (B0 1)) EZ)))))) EZ))) EZ)) EZ))) (DN (B0 11) EZ))))))))))))))
def Uy:GS :=(NB (KB dA [(AY 0),(AY 1),(T8 [])]))
def nG:Mr:=O5 2 Uy
theorem zTV:FnScope ["net","gate"] ["net","gate"] (J2 Gx):=SN
theorem zQW{P:BZ}{w:C8}{K:AC}{mg:CD->Option AH}{base:CM}{f:AT}{fd:CV}(Fn:Fun K "reached" "reached" Gx f fd)(T:Bt mg)(HB:MR P w K mg base "reached_past" 3 3 dA):FnOk P w K mg base LJ 4 f fd ["net","gate"] (NI K 2 nG) :=UQ Fn zTV λG3 A outer s H E hr=>by have hu:=hr.units;unfold Uy;exact(JI (O8 (P6 HB (hr.mono 'D') (DN (B0 0) (DN (B0 1) (DN (cU EZ) EZ))))))
def Xc:GS :=(FX (I0 (.nm 3) (KB dA [(AY 0),(AY 1),(T8 [(AY 2)])])) (FX (I0 (.nm 4) (KB dA [(KB t9 [(AY 0)]),(AY 2),(T8 [(AY 1)])])) (NB (gN XN [(RC (LB (AY 3)) 1 [4] (.nm 0) (gB (g2 QA (AY 0) (AY 1))) (AY 0))]))))
def nJ:Mr:=O5 5 Xc
theorem JM:FnScope ["net","one","other","onward","leading"] ["net","one","other"] (J2 Hy):=SN
theorem zFV{P:BZ}{w:C8}{K:AC}{mg:CD->Option AH}{base:CM}{f:AT}{fd:CV}(Fn:Fun K "stretch_between" "stretch_between" Hy f fd)(T:Bt mg)(HB:MR P w K mg base "reached_past" 3 3 dA)(eX:MR P w K mg base "turned" 1 1 t9):FnOk P w K mg base LJ 4 f fd ["net","one","other"] (NI K 3 nJ) :=UQ Fn JM λG3 A outer s H E hr=>by
  have hu:=hr.units;unfold Xc;exact(HU (O6 (i:=3) JM.nd rfl (BM rfl) (P6 HB (hr.mono 'D') (DN (B0 0) (DN (B0 1) (DN (cU (DN (B0 2) EZ)) EZ)))))
   (HU (O6 (i:=4) JM.nd rfl (DW rfl) (P6 HB (hr.mono 'D') (DN (P6 eX (hr.mono 'D') (DN (B0 0) EZ)) (DN (B0 2) (DN (cU (DN (B0 1) EZ)) EZ)))))
   (JI (O8 (cY T.b_tuple (DN (pA8 (fY (own:=["place"]) (CN:=["leading"]) (js:=[4]) (cn (xo:=AK) rfl) rfl (XR (B0 3)) (λC s H fp=>(WV 0)) (λC s H fp=>(zX (yY hu (B0 0) (B0 1)))) (λC s H fp=>(B0 0)))) EZ))))))
def Ux:GS :=(FX (I0 (.nm 3) (KB nG [(AY 0),(AY 1)])) (FX (NH (gB (g2 QU (AY 2) (AY 3))) Ig PB) (FX (I0 (.nm 4) (KB dA [(AY 0),(AY 1),(T8 [(AY 2)])])) (NB (gN XN [(RC (LB (AY 3)) 1 [4] (.nm 0) (gB (g2 QU (AY 0) (AY 1))) (AY 0))])))))
def nE:Mr:=O5 5 Ux
theorem P9:FnScope ["net","gate","place","all_reached","still"] ["net","gate","place"] (J2 Gw):=SN
theorem zQX{P:BZ}{w:C8}{K:AC}{mg:CD->Option AH}{base:CM}{f:AT}{fd:CV}(Fn:Fun K "cut_off" "cut_off" Gw f fd)(T:Bt mg)(QC:MR P w K mg base "reached" 4 2 nG)(HB:MR P w K mg base "reached_past" 3 3 dA):FnOk P w K mg base LJ 5 f fd ["net","gate","place"] (NI K 3 nE) :=UQ Fn P9 λG3 A outer s H E hr=>by
  have hu:=hr.units;unfold Ux;exact(HU (O6 (i:=3) P9.nd rfl (BM rfl) (P6 QC (hr.mono 'D') (DN (B0 0) (DN (B0 1) EZ))))
   (HU (U4 (qN hu (B0 2) (B0 3))
   (JI Qe)
   WF)
   (HU (O6 (i:=4) P9.nd rfl (DW rfl) (P6 HB (hr.mono 'D') (DN (B0 0) (DN (B0 1) (DN (cU (DN (B0 2) EZ)) EZ)))))
   (JI (O8 (cY T.b_tuple (DN (pA8 (fY (own:=["other"]) (CN:=["still"]) (js:=[4]) (cn (xo:=AK) rfl) rfl (XR (B0 3)) (λC s H fp=>(WV 0)) (λC s H fp=>(zX (qN hu (B0 0) (B0 1)))) (λC s H fp=>(B0 0)))) EZ)))))))
def Gu(zA5:Mr):GS :=(FX (NH (Z5 (pV "tuple" (AY 1))) (FX (NH (rD (iO (Z5 (pV "tuple" (AY 0)))) (gB (g2 L9 (gN QR [(AY 0)]) (gN QR [(AY 1)])))) (NB (gC (.bl AD))) PB) (NB (gN rB [(RC (bD (AY 0) (AY 1)) 2 [] (.tp [(.nm 0),(.nm 1)]) RA (KB zA5 [(AY 0),(AY 1)]))]))) PB) (NB (Ij (Ii (pV "bool" (AY 0))) (g2 aF (AY 0) (AY 1)))))
def zA5:Nat->Mr
 |0=>λ_=>.bad
 |n+1=>O5 2 (Gu (zA5 n))
theorem zTW:FnScope ["found","due"] ["found","due"] (J2 Gv):=SN
theorem Vw{P:BZ}{w:C8}{K:AC}{mg:CD->Option AH}{base:CM}{f:AT}{fd:CV}(Fn:Fun K "_law_is" "_law_is" Gv f fd)(T:Bt mg)(hm:mg "_law_is"=AA (.ref f))(hb:Binds K fd ["found","due"] []) :∀n:Nat,FnOk P w K mg base LJ (n+0) f fd ["found","due"] (NI K 2 (zA5 n))
 |0=>fn_bad
 |n+1=>by
  have QE:MR P w K mg base "_law_is" (n+0) 2 (zA5 n):=Fun.cal Fn (Vw Fn T hm hb  n) hm hb;have hl:n+1+0=(n+0)+1:=by lia
  rw[hl];show FnOk P w K mg base LJ ((n+0)+1) f fd ["found","due"] (NI K 2 (O5 2 (Gu (zA5 n))));exact UQ Fn zTW λG3 A outer s H E hr=>by
   have hu:=hr.units;unfold Gu;exact(HU (U4 (uA (Eo Up T.b_isinstance T.b_tuple (by decide +kernel) (B0 1)))
   (HU (U4 (VW.t (Zi (Ek (uA (Eo Up T.b_isinstance T.b_tuple (by decide +kernel) (B0 0)))) (Qf (cT hu (j9 T.b_len (DN (B0 0) EZ)) (j9 T.b_len (DN (B0 1) EZ))))))
   (JI (O8 iG))
   WF)
   (JI (O8 (yHT rfl T.b_all (DN (pA8 (fY (own:=["one","other"]) (CN:=[]) (js:=[]) (cn (xo:=AK) rfl) rfl (zG T.b_zip (B0 0) (B0 1)) (λC s H fp=>(kM rfl (XT (WV 0) (XT (WV 1) kX)))) (λC s H fp=>kW) (λC s H fp=>(P6 QE (hr.mono 'L') (DN (B0 0) (DN (B0 1) EZ)))))) EZ)))))
   WF)
   (JI (O8 (yHG (yHH (Eo zWH T.b_isinstance T.b_bool (by decide +kernel) (B0 0))) (Zh (Ic hu (B0 0) (B0 1)))))))
def Uw:GS :=(FX (I0 (.nm 2) (mV (LB (KB nG [(AY 0),(AY 1)])) 1 [0,1] (.dk []) (.nm 0) RA (pY (AY 0) (KB nE [(AY 1),(AY 2),(AY 0)])))) (FX (RX 3 (g2 iE (J1 [(gC .non)]) (g2 E7 (AY 0) (gC (.int 0))))) (FX (yO (gN j8 [(AY 2)]) [2] (g1 WD (gN QR [(g2 E7 (AY 1) (AY 0))])) (.nm 4) (OQ (LB (g2 E7 (AY 2) (AY 4))) (.nm 5) (NH (gB (g2 L9 (AY 5) (AY 4))) (QV 3 (AY 5) (AY 4)) PB)) [4,5]) (FX (QV 3 (AY 1) (AY 1)) (NB (OY [3] (gN XN [(AY 3)])))))))
def nD:Mr:=O5 6 Uw
theorem L8:FnScope ["net","gate","cuts","held","place","below"] ["net","gate"] (J2 qQ):=SN
theorem zQY{P:BZ}{w:C8}{K:AC}{mg:CD->Option AH}{base:CM}{f:AT}{fd:CV}(Fn:Fun K "holders" "holders" qQ f fd)(T:Bt mg){cc TT:AT}(LU:fd.code=.ref cc)(hC:JS base cc TT)(hT:TB K TT ("holders"++".<locals>.<lambda>"))(aS:MR P w K mg base "cut_off" 5 3 nE)(QC:MR P w K mg base "reached" 4 2 nG):FnOk P w K mg base LJ 6 f fd ["net","gate"] (NI K 2 nD) :=Du Fn L8 λG3 A outer s H E o9 hr=>by
  have hu:=hr.units;have o9:=o9.trans LU;unfold Uw;exact(HU (O6 (i:=2) L8.nd rfl (DW rfl) (pA8 (yAW (own:=["place"]) (CN:=["net","gate"]) (js:=[0,1]) (cn (xo:=AK) rfl) rfl (XR (P6 QC (hr.mono 'D') (DN (B0 0) (DN (B0 1) EZ)))) (λC s H fp=>(WV 0)) (λC s H fp=>kW) (λC s H fp=>(B0 0)) (λC s H fp=>(P6 aS (hr.mono 'D') (DN (B0 1) (DN (B0 2) (DN (B0 0) EZ))))))))
   (HU (YA (i:=3) L8.nd rfl (BM rfl) (Yv (DN kD EZ) (ML hu (B0 0) IA)))
   (HU (yAY B9 rfl T.b_sorted (pA8 (zH rfl T.b_list (DN (B0 2) EZ))) ({{rfl,rfl,rfl,rfl,by decide +kernel,by decide +kernel,rfl,(gH rfl),rfl,(gH (by first|exact BM rfl|exact DW rfl)),(gH rfl),rfl},hr.mono 'D',o9,hC,hT,{"holders"++".<locals>.",rfl,(by decide +kernel:("holders"++".<locals>.":CD)++("<lambda>":CD)=("holders"++".<locals>.<lambda>":CD))},rfl,λ_ _ _ _=>rfl}:LamOk _ _ _ "must" ["cuts"] [2] _ _ _ _ _) (λf c s H=>Zb (hr.mono 'D') λhu=>(sP (j9 T.b_len (DN (ML hu (B0 1) (B0 0)) EZ)))) (US (i:=4) L8.nd rfl (BM rfl))
   (JI (aA B9 rfl (XR (ML hu (B0 2) (B0 4))) (US (i:=5) L8.nd rfl (BM rfl))
   (JI (U4 (cT hu (B0 5) (B0 4))
   (JI (bQ 3 hu (B0 5) (B0 4)))
   WF)))))
   (HU (bQ 3 hu (B0 1) (B0 1))
   (JI (O8 (ZF [3] (cY T.b_tuple (DN (B0 3) EZ)))))))))
def Ws:GS :=(FX (RX 2 (gC (.dk []))) (FX (nL aD) (FX (RX 6 (gC (.dk []))) (FX (OQ (LB (AY 2)) (.nm 3) (QV 6 (AY 3) (gN XN [(zF (g2 E7 (AY 2) (AY 3)) [2] (gN QR [(g2 E7 (AY 1) (AY 0))]))]))) (NB (AY 6))))))
def qY:Mr:=O5 7 Ws
theorem GQ:FnScope ["net","gate","rows","place","closed","left","found"] ["net","gate"] (J2 rA):=SN
theorem zK3{P:BZ}{w:C8}{K:AC}{mg:CD->Option AH}{base:CM}{f:AT}{fd:CV}(Fn:Fun K "_law_table" "_law_table" rA f fd)(T:Bt mg){cc TT:AT}(LU:fd.code=.ref cc)(hC:JS base cc TT)(hT:TB K TT ("_law_table"++".<locals>.<lambda>"))(JR:MR P w K mg base "_law_reach" 1 3 aD):FnOk P w K mg base LJ 6 f fd ["net","gate"] (NI K 2 qY) :=Du Fn GQ λG3 A outer s H E o9 hr=>by
  have hu:=hr.units;have o9:=o9.trans LU;unfold Ws;exact(HU (YA (i:=2) GQ.nd rfl (DW rfl) zP)
   (yBE (m:=aD) (qA B9 rfl (XR (P6 JR (hr.mono 'D') (DN (B0 0) (DN (B0 1) (DN kD EZ))))) (iQ (i:=3) GQ.nd rfl (BM rfl)) (kZ (Fk (uV hu) (pv 2) (pv 3) (mY HK) rfl)))
   (qA B9 rfl (zVM (pv 2)) (iQ (i:=4) GQ.nd rfl (BM rfl)) (aC (qB (i:=5) GQ.nd rfl (BM rfl) (P6 JR (hr.mono 'D') (DN (B0 0) (DN (B0 1) (DN (B0 4) EZ))))) (kZ (qA B9 rfl (zW0 (pv 2)) (iQ (i:=3) GQ.nd rfl (BM rfl)) (kZ (Dv (qN hu (B0 3) (B0 5)) (kZ (Fp (sU FU LY LX Aq (Dr (Rt hu) (pv 2) (pv 3) (λ_ _=>rfl)) (SK (pv 4) HK)))) U7))))))
   (HU (YA (i:=6) GQ.nd rfl (BM rfl) zP)
   (HU (aA B9 rfl (XR (B0 2)) (US (i:=3) GQ.nd rfl (BM rfl))
   (JI (bQ 6 hu (B0 3) (cY T.b_tuple (DN (pA8 (yAX T.b_sorted (ML hu (B0 2) (B0 3)) ({{rfl,rfl,rfl,rfl,by decide +kernel,by decide +kernel,rfl,(gH rfl),rfl,(gH (by first|exact BM rfl|exact DW rfl)),(gH rfl),rfl},hr.mono 'D',o9,hC,hT,{"_law_table"++".<locals>.",rfl,(by decide +kernel:("_law_table"++".<locals>.":CD)++("<lambda>":CD)=("_law_table"++".<locals>.<lambda>":CD))},rfl,λ_ _ _ _=>rfl}:LamOk _ _ _ "one" ["rows"] [2] _ _ _ _ _) (λf c s H=>Zb (hr.mono 'D') λhu=>(j9 T.b_len (DN (ML hu (B0 1) (B0 0)) EZ))))) EZ)))))
   (JI (O8 (B0 6)))))))
def Rh:GS :=(NB (KB qZ [(KB nD [(AY 0),(AY 1)]),(AY 2)]))
def qI:Mr:=O5 3 Rh
theorem Rf:FnScope ["net","gate","place"] ["net","gate","place"] (J2 zM):=SN
theorem zW8{P:BZ}{w:C8}{K:AC}{mg:CD->Option AH}{base:CM}{f:AT}{fd:CV}(Fn:Fun K "musts" "musts" zM f fd)(T:Bt mg)(PN:MR P w K mg base "musts_held" 1 2 qZ)(QD:MR P w K mg base "holders" 6 2 nD):FnOk P w K mg base LJ 7 f fd ["net","gate","place"] (NI K 3 qI) :=UQ Fn Rf λG3 A outer s H E hr=>by have hu:=hr.units;unfold Rh;exact(JI (O8 (P6 PN (hr.mono 'D') (DN (P6 QD (hr.mono 'D') (DN (B0 0) (DN (B0 1) EZ))) (DN (B0 2) EZ)))))
def Gi:GX :=(Cf [(KB nD [(AY 0),(AY 1)]),(AY 2)] Be)
def Am:List D->Out Ev:=Bn 3 Gi
theorem zW9{P:BZ}{w:C8}{K:AC}{mg:CD->Option AH}{base:CM}{f C:AT}{fd:CV}(Fn:Fun K "musts" "musts" zM f fd)(T:Bt mg)(MS:nP P w K mg base C "musts_held" 1 2 Be)(PN:MR P w K mg base "musts_held" 1 2 qZ)(QD:MR P w K mg base "holders" 6 2 nD):FnOk P w K mg base (TU P w C) 7 f fd ["net","gate","place"] (rN K C 3 Am) :=Ip Fn Rf λG3 A outer s H E hr hh=>by have hu:=hr.units;unfold Gi;exact(zW5 (Ri Yn MS (hr.mono 'D') (DN (P6 QD (hr.mono 'D') (DN (B0 0) (DN (B0 1) EZ))) (DN (B0 2) EZ))))
def We:GS :=(FX (I0 (.nm 3) (KB qI [(AY 0),(AY 1),(AY 2)])) (NB (gN XN [(RC (bD (AY 3) (Z9 (AY 3) (AA (gC (.int 1))) AK)) 2 [0] (.tp [(.nm 0),(.nm 1)]) RA (KB nJ [(AY 2),(AY 0),(AY 1)]))])))
def k6:Mr:=O5 4 We
theorem LI:FnScope ["net","gate","place","line"] ["net","gate","place"] (J2 Ay):=SN
theorem zNA{P:BZ}{w:C8}{K:AC}{mg:CD->Option AH}{base:CM}{f:AT}{fd:CV}(Fn:Fun K "stretches" "stretches" Ay f fd)(T:Bt mg)(ZU:MR P w K mg base "musts" 7 3 qI)(LL:MR P w K mg base "stretch_between" 4 3 nJ):FnOk P w K mg base LJ 8 f fd ["net","gate","place"] (NI K 3 k6) :=UQ Fn LI λG3 A outer s H E hr=>by
  have hu:=hr.units;unfold We;exact(HU (O6 (i:=3) LI.nd rfl (BM rfl) (P6 ZU (hr.mono 'D') (DN (B0 0) (DN (B0 1) (DN (B0 2) EZ)))))
   (JI (O8 (cY T.b_tuple (DN (pA8 (fY (own:=["one","other"]) (CN:=["net"]) (js:=[0]) (cn (xo:=AK) rfl) rfl (zG T.b_zip (B0 3) (zR (B0 3) (tR IA) Fq)) (λC s H fp=>(kM rfl (XT (WV 0) (XT (WV 1) kX)))) (λC s H fp=>kW) (λC s H fp=>(P6 LL (hr.mono 'D') (DN (B0 2) (DN (B0 0) (DN (B0 1) EZ))))))) EZ)))))
def Hi:GX :=(Cf [(AY 0),(AY 1),(AY 2)] Am)
def Bh:List D->Out Ev:=Bn 4 Hi
theorem zNB{P:BZ}{w:C8}{K:AC}{mg:CD->Option AH}{base:CM}{f C:AT}{fd:CV}(Fn:Fun K "stretches" "stretches" Ay f fd)(T:Bt mg)(VL:nP P w K mg base C "musts" 7 3 Am)(ZU:MR P w K mg base "musts" 7 3 qI)(LL:MR P w K mg base "stretch_between" 4 3 nJ):FnOk P w K mg base (TU P w C) 8 f fd ["net","gate","place"] (rN K C 3 Bh) :=Ip Fn LI λG3 A outer s H E hr hh=>by have hu:=hr.units;unfold Hi;exact(zW6 (i:=3) (Ri Yn VL (hr.mono 'D') (DN (B0 0) (DN (B0 1) (DN (B0 2) EZ)))) LI.nd rfl (BM rfl))
def Wd:GS :=(FX (I0 (.nm 3) (gC .non)) (FX (I0 (.nm 4) (J1 [])) (FX (nO (I0 (.nm 3) (KB k6 [(AY 0),(AY 1),(AY 2)])) [(AY 0),(AY 1),(AY 2)] Bh 4 5 [AN,AD,AD,AD,AD,AD,AD,AD,AD,AD,AN]) (NB (uW (gB (g2 aF (AY 4) (J1 []))) (AY 3) (AY 4))))))
def nH:Mr:=O5 6 Wd
theorem KD:FnScope ["net","gate","place","told","kinds","e"] ["net","gate","place"] (J2 He):=SN
theorem zNC{P:BZ}{w:C8}{K:AC}{mg:CD->Option AH}{base:CM}{f:AT}{fd:CV}(Fn:Fun K "_law_told" "_law_told" He f fd)(T:Bt mg){C WA fk:AT}(ts:TryS P w K mg base C WA fk [AN,AD,AD,AD,AD,AD,AD,AD,AD,AD,AN])(NR:nP P w K mg base C "stretches" 8 3 Bh)(XA:MR P w K mg base "stretches" 8 3 k6):FnOk P w K mg base LJ 9 f fd ["net","gate","place"] (NI K 3 nH) :=UQ Fn KD λG3 A outer s H E hr=>by
  have hu:=hr.units;unfold Wd;exact(HU (O6 (i:=3) KD.nd rfl (BM rfl) kD)
   (HU (O6 (i:=4) KD.nd rfl (BM rfl) (pA8 (TQ EZ)))
   (HU (yFC (ik:=4) (ie:=5) (O6 (i:=3) KD.nd rfl (BM rfl) (P6 XA (hr.mono 'D') (DN (B0 0) (DN (B0 1) (DN (B0 2) EZ))))) NR (hr.mono 'D') (DN (B0 0) (DN (B0 1) (DN (B0 2) EZ))) ts.KK (hr.mono 'D') ts.hkf ts.hkk ts.hW ts.hx KD.nd rfl rfl 'D' rfl rfl)
   (JI (O8 (yKH (yHN hu (B0 4) (pA8 (TQ EZ))) (B0 3) (B0 4)))))))
def Yi:GS :=(FX (OQ (LB (g2 NG (J1 [(KB qX [(AY 0),(gC (.int 0))])]) (Z9 (AY 0) (AA (gC (.int 1))) (AA (gC (.int 6)))))) (.nm 1) (FX (I0 (.tp [(.nm 2),(.nm 3)]) (pZ qU (qC qV [(AY 1),(gC (.int 0))]) [(gC (.int 24))])) (FX (I0 (.nm 4) (KB qY [(AY 2),(AY 3)])) (FX (RX 5 (gC (.dt []))) (OQ (cS (g2 E7 (AY 2) (gC (.int 0)))) (.nm 6) (FX (I0 (.nm 7) (KB nH [(AY 2),(AY 3),(AY 6)])) (NH (gB (g2 QU (AY 6) (AY 4))) (NH (gB (g2 L9 (AY 7) (KB uI [(gC (.int 0))]))) (NB (gC (.bl AD))) PB) (FX (I0 (.nm 8) (g2 E7 (AY 4) (AY 6))) (FX (OQ (bD (AY 8) (Z9 (AY 8) (AA (gC (.int 1))) AK)) (.nm 9) (NH (QT [5] (gB (g2 QU (AY 9) (AY 5)))) (QV 5 (AY 9) (KB qW [(AY 2),(g2 E7 (AY 9) (gC (.int 0))),(g2 E7 (AY 9) (gC (.int 1)))])) PB)) (FX (NH (QT [5] (iO (Z5 (KB (zA5 5) [(AY 7),(gN XN [(RC (bD (AY 8) (Z9 (AY 8) (AA (gC (.int 1))) AK)) 1 [5] (.nm 0) RA (g2 E7 (AY 1) (AY 0)))])])))) (NB (gC (.bl AD))) PB) (FX (RX 10 (J1 [])) (FX (OQ (LB (AY 7)) (.nm 11) (X6 (O7 10 kF [(AY 11)]))) (NH (QT [10] (rD (gB (g2 YB (zN (AY 10)) (gN QR [(AY 10)]))) (gB (g2 L9 (RC (LB (AY 10)) 1 [8] (.nm 0) (gB (g2 QA (AY 0) (AY 1))) (AY 0)) (J1 []))))) (NB (gC (.bl AD))) PB))))))))))))) (NB (gC (.bl AN))))
def m_law:Mr:=O5 12 Yi
theorem M5:FnScope ["script","cell","net","gate","table","known","place","found","row","pair","together","some"] ["script"] (J2 iI):=SN
theorem yFU{P:BZ}{w:C8}{K:AC}{mg:CD->Option AH}{base:CM}{f:AT}{fd:CV}(Fn:Fun K "law" "law" iI f fd)(T:Bt mg)(YN:MR P w K mg base "_law_net" 3 2 qU)(V1:MR P w K mg base "_law_table" 6 2 qY)(XE:MR P w K mg base "_law_cell" 1 2 qX)(XB:MR P w K mg base "_law_well" 1 2 qV)(XC:MR P w K mg base "_law_told" 9 3 nH)(XD:MR P w K mg base "_law_only" 1 1 uI)(QE:MR P w K mg base "_law_is" 5 2 (zA5 5))(TD:MR P w K mg base "_law_between" 2 3 qW):FnOk P w K mg base LJ 10 f fd ["script"] (NI K 1 m_law) :=UQ Fn M5 λG3 A outer s H E hr=>by
  have hu:=hr.units;unfold Yi;exact(HU (aA B9 rfl (XR (Z8 (pA8 (TQ (DN (P6 XE (hr.mono 'D') (DN (B0 0) (DN IA EZ))) EZ))) (zR (B0 0) (tR IA) (tR IA)))) (US (i:=1) M5.nd rfl (BM rfl))
   (HU (Qd (yAV YN (hr.mono 'D') (yEF XB (hr.mono 'D') (DN (B0 1) (DN IA EZ))) (DN IA EZ)) (kM rfl (XT (US (i:=2) M5.nd rfl (BM rfl)) (XT (US (i:=3) M5.nd rfl (BM rfl)) kX))))
   (HU (O6 (i:=4) M5.nd rfl (BM rfl) (P6 V1 (hr.mono 'D') (DN (B0 2) (DN (B0 3) EZ))))
   (HU (YA (i:=5) M5.nd rfl (DW rfl) Se)
   (JI (aA B9 rfl (Ap T.b_range (ML hu (B0 2) IA)) (US (i:=6) M5.nd rfl (BM rfl))
   (HU (O6 (i:=7) M5.nd rfl (BM rfl) (P6 XC (hr.mono 'D') (DN (B0 2) (DN (B0 3) (DN (B0 6) EZ)))))
   (JI (U4 (qN hu (B0 6) (B0 4))
   (JI (U4 (cT hu (B0 7) (P6 XD (hr.mono 'D') (DN IA EZ)))
   (JI (O8 iG))
   WF))
   (HU (O6 (i:=8) M5.nd rfl (DW rfl) (ML hu (B0 4) (B0 6)))
   (HU (aA B9 rfl (zG T.b_zip (B0 8) (zR (B0 8) (tR IA) Fq)) (US (i:=9) M5.nd rfl (BM rfl))
   (JI (U4 (fZ [5] (qN hu (B0 9) (B0 5)))
   (JI (bQ 5 hu (B0 9) (P6 TD (hr.mono 'D') (DN (B0 2) (DN (ML hu (B0 9) IA) (DN (ML hu (B0 9) IA) EZ))))))
   WF)))
   (HU (U4 (fZ [5] (Ek (uA (P6 QE (hr.mono 'D') (DN (B0 7) (DN (cY T.b_tuple (DN (pA8 (fY (own:=["pair"]) (CN:=["known"]) (js:=[5]) (cn (xo:=AK) rfl) rfl (zG T.b_zip (B0 8) (zR (B0 8) (tR IA) Fq)) (λC s H fp=>(WV 0)) (λC s H fp=>kW) (λC s H fp=>(ML hu (B0 1) (B0 0))))) EZ)) EZ))))))
   (JI (O8 iG))
   WF)
   (HU (YA (i:=10) M5.nd rfl (BM rfl) (TQ EZ))
   (HU (aA B9 rfl (XR (B0 7)) (US (i:=11) M5.nd rfl (BM rfl))
   (JI (qM (zTT 10 (DN (B0 11) EZ)))))
   (JI (U4 (fZ [10] (VW.t (Zi (yX hu (zW3 rfl T.b_len T.b_set (B0 10)) (j9 T.b_len (DN (B0 10) EZ))) (Qf (cT hu (pA8 (fY (own:=["one"]) (CN:=["row"]) (js:=[8]) (cn (xo:=AK) rfl) rfl (XR (B0 10)) (λC s H fp=>(WV 0)) (λC s H fp=>(zX (yY hu (B0 0) (B0 1)))) (λC s H fp=>(B0 0)))) (pA8 (TQ EZ)))))))
   (JI (O8 iG))
   WF))))))))))))))))
   (JI (O8 iG)))
theorem mM{i j:Int}(h:0<j):UP (.int i) (.int j)=.ok (.int (i % j)):=if_pos h
theorem Po{i j:Int}(h:0<j/\j<2 ^ 200):mS (.int i) (.int j)=.ok (.int (i / j)):=if_pos h
theorem Iy{i j:Int}(h:qL i\/qL j):X4 (.int i) (.int j)=.ok (.int (i * j)):=if_pos h
theorem Ix{i j:Int}(h:0<=j/\j<=1000000/\i.natAbs<2 ^ 64):bE (.int i) (.int j)=.ok (.int (i ^ j.toNat)):=if_pos h
noncomputable def U2(a b c n:Int)(u2 u3 u4:Sl):Ev:=[.own AN (.lst [.int a,.int b,.int c]),.val (.int n),u2,u3,u4]
theorem Pn{a b c n:Int}{u2 u3 u4:Sl}:QT [0] (gB (g2 Jn (g2 E7 (AY 0) (gC (.int 0))) (gC (.int 0)))) (U2 a b c n u2 u3 u4)=.ok (decide (0<a),U2 a b c n u2 u3 u4) :=WT (N7 (FW (FW (x:=.lst [.int a,.int b,.int c]) (y:=.int 0) rfl rfl (d:=.int a) rfl) (y:=.int 0) rfl rfl))
theorem zXA{a b c n:Int}(ha:0<a)(hn:1<=n)(aJ:n<2 ^ 200) : LR [.own AN (.lst [.int a,.int b,.int c]),.val (.int n)]=.ok (AD,.int (a % n),.lst [.int (a / n),.int b,.int c]):=by
 have h1:0<n:=by lia
 have t:=Pn (a:=a) (b:=b) (c:=c) (n:=n) (u2:=.no) (u3:=.no) (u4:=.no);rw[decide_eq_true ha] at t;exact P7 (tD (ZC t (G7 (E1:=U2 a b c n (.val (.int (a % n))) .no .no) (N9 (ZG (FW (FW (x:=.lst [.int a,.int b,.int c]) (y:=.int 0) rfl rfl (d:=.int a) rfl) (y:=.int n) rfl (mM h1)) rfl) rfl)
  (G7 (E1:=U2 (a / n) b c n (.val (.int (a % n))) .no .no) (bP (i:=0) (E1:=U2 a b c n (.val (.int (a % n))) .no .no) (E2:=U2 a b c n (.val (.int (a % n))) .no .no) (t:=AN) (d:=.lst [.int a,.int b,.int c]) (k:=.int 0) (d':=.lst [.int (a / n),.int b,.int c]) rfl (ZG (FW (FW (x:=.lst [.int a,.int b,.int c]) (y:=.int 0) rfl rfl (d:=.int a) rfl) (y:=.int n) rfl (Po {h1,aJ})) rfl) rfl rfl rfl) (RD (d:=.int (a % n)) rfl))))) rfl
def iB(b c:Int):Int:=(b+1000003 * c) % 2305843009213693951
def iA(b c:Int):Int:=(iB b c * iB b c+7919 * c ^ 2+5) % 2305843009213693951
theorem s64{i:Int}(h0:0<=i)(h:i<2305843009213693951):qL i:={by lia,by lia}
theorem zXD{a b c n:Int}(ha:¬0<a)(hc:0<=c)(gU:c<1000000)(hn:1<=n)(aJ:n<2 ^ 200) : LR [.own AN (.lst [.int a,.int b,.int c]),.val (.int n)]=.ok (AD,.int (iA b (c+1) ^ 3 % 2305843009213693951 / 13 % n),.lst [.int a,.int b,.int (c+1)]):=by
 have h1:0<n:=by lia
 have m1:0<=iB b (c+1):=JL _ 'D';have m2:iB b (c+1)<2305843009213693951:=HY _ 'D';have m3:0<=iA b (c+1):=JL _ 'D';have m4:iA b (c+1)<2305843009213693951:=HY _ 'D';have t:=Pn (a:=a) (b:=b) (c:=c) (n:=n) (u2:=.no) (u3:=.no) (u4:=.no);rw[decide_eq_false ha] at t;have hp:(0:Int)<2305843009213693951:=by decide
 have bag:AY 0 (N6 [0] (U2 a b (c+1) n .no .no .no))=.ok (.lst [.int a,.int b,.int (c+1)],N6 [0] (U2 a b (c+1) n .no .no .no)):=rfl;have s1:QV 0 (gC (.int 2)) (OY [0] (g2 NG (g2 E7 (AY 0) (gC (.int 2))) (gC (.int 1)))) (U2 a b c n .no .no .no)=.ok (.nx (U2 a b (c+1) n .no .no .no)) :=
  bP (i:=0) (E1:=U2 a b c n .no .no .no) (E2:=U2 a b c n .no .no .no) (t:=AN) (d:=.lst [.int a,.int b,.int c]) (k:=.int 2) (d':=.lst [.int a,.int b,.int (c+1)]) rfl (ZG (FW (FW (x:=.lst [.int a,.int b,.int c]) (y:=.int 2) rfl rfl (d:=.int c) rfl) (y:=.int 1) rfl rfl) rfl) rfl rfl rfl
 have s3:I0 (.nm 4) (OY [0] (g2 UP (g2 NG (g2 E7 (AY 0) (gC (.int 1))) (g2 X4 (gC (.int 1000003)) (g2 E7 (AY 0) (gC (.int 2))))) (AY 3))) (U2 a b (c+1) n .no (.val (.int 2305843009213693951)) .no)=.ok (.nx (U2 a b (c+1) n .no (.val (.int 2305843009213693951)) (.val (.int (iB b (c+1)))))) :=
  N9 (ZG (d:=.int (iB b (c+1))) (FW (FW (FW (x:=.lst [.int a,.int b,.int (c+1)]) (y:=.int 1) rfl rfl (d:=.int b) rfl) (FW (x:=.int 1000003) rfl (FW (x:=.lst [.int a,.int b,.int (c+1)]) (y:=.int 2) rfl rfl (d:=.int (c+1)) rfl) (Iy (.inl {by decide,by decide}))) rfl) (y:=.int 2305843009213693951) rfl (mM hp)) rfl) rfl
 have s4:I0 (.nm 4) (OY [0] (g2 UP (g2 NG (g2 NG (g2 X4 (AY 4) (AY 4)) (g2 X4 (gC (.int 7919)) (g2 bE (g2 E7 (AY 0) (gC (.int 2))) (gC (.int 2))))) (gC (.int 5))) (AY 3))) (U2 a b (c+1) n .no (.val (.int 2305843009213693951)) (.val (.int (iB b (c+1)))))=.ok (.nx (U2 a b (c+1) n .no (.val (.int 2305843009213693951)) (.val (.int (iA b (c+1)))))) :=
  N9 (ZG (d:=.int (iA b (c+1))) (FW (FW (FW (FW (x:=.int (iB b (c+1))) (y:=.int (iB b (c+1))) rfl rfl (Iy (.inl (s64 m1 m2)))) (FW (x:=.int 7919) rfl (FW (FW (x:=.lst [.int a,.int b,.int (c+1)]) (y:=.int 2) rfl rfl (d:=.int (c+1)) rfl) (y:=.int 2) rfl (Ix {by decide,by decide,by lia})) (Iy (.inl {by decide,by decide}))) rfl) (y:=.int 5) rfl rfl) (y:=.int 2305843009213693951) rfl (mM hp)) rfl) rfl
 have s5:NB (g2 UP (g2 mS (g2 UP (g2 bE (AY 4) (gC (.int 3))) (AY 3)) (gC (.int 13))) (AY 1)) (U2 a b (c+1) n .no (.val (.int 2305843009213693951)) (.val (.int (iA b (c+1)))))=.ok (.rt AD (.int (iA b (c+1) ^ 3 % 2305843009213693951 / 13 % n)) (U2 a b (c+1) n .no (.val (.int 2305843009213693951)) (.val (.int (iA b (c+1)))))) :=
  RD (FW (FW (FW (FW (x:=.int (iA b (c+1))) (y:=.int 3) rfl rfl (Ix {by decide,by decide,by lia})) (y:=.int 2305843009213693951) rfl (mM hp)) (y:=.int 13) rfl (Po {by decide,by decide})) (y:=.int n) rfl (mM h1))
 exact P7 (G7 (TN t rfl) (G7 s1 (G7 (E1:=U2 a b (c+1) n .no (.val (.int 2305843009213693951)) .no) rfl (G7 s3 (G7 s4 s5))))) rfl
def Bag(k:Nat)(d:D):Prop:=∃a b c:Int,d=.lst [.int a,.int b,.int c]/\0<=c/\c<=k
theorem Bag.mono{k k':Nat}{d:D}(h:Bag k d)(l:k<=k'):Bag k' d:=by have{a,b,c,e,h0,h1}:=h;exact{a,b,c,e,h0,by lia}
theorem yBR{k:Nat}{d:D}{n:Int}(B:Bag k d)(hk:k<900000)(hn:1<=n)(aJ:n<2 ^ 200) : ∃r d',LR [.own AN d,.val (.int n)]=.ok (AD,.int r,d')/\0<=r/\r<n/\Bag (k+1) d':=by
 have{a,b,c,rfl,h0,h1}:=B;by_cases ha:0<a
 .exact{_,_,zXA ha hn aJ,JL _ 'L',HY _ 'L',_,_,_,rfl,h0,by lia}
 .exact{_,_,zXD ha h0 'L' hn aJ,JL _ 'L',HY _ 'L',_,_,_,rfl,by lia,by lia}
theorem yBS(n:Int):∃d,qV [.val (.int n),.val (.int 0)]=.ok (AN,d,.non)/\Bag 0 d:=by
 have hp:(0:Int)<2305843009213693951:=by decide
 have pw:∀E:Ev,g2 bE (gC (.int 10)) (gC (.int 18)) E=.ok (.int 1000000000000000000,E):=λE=>FW (x:=.int 10) (y:=.int 18) rfl rfl (Ix {by decide,by decide,by decide});have t:gB (g2 Jo (AY 0) (g2 bE (gC (.int 10)) (gC (.int 18)))) [.val (.int n),.val (.int 0)]=.ok (decide (1000000000000000000<=n),[.val (.int n),.val (.int 0)]):=N7 (FW (x:=.int n) rfl (pw _) rfl);by_cases h:1000000000000000000<=n
 .rw[decide_eq_true h] at t;exact{.lst [.int (n-1000000000000000000),.int (n % 2305843009213693951),.int 0],P7 (tD (ZC t (Rk (kK (RF (FW (x:=.int n) rfl (pw _) (d:=.int (n-1000000000000000000)) rfl) (RF (FW (x:=.int n) (y:=.int 2305843009213693951) rfl rfl (mM hp)) (KR (d:=.int 0) rfl))) (show 3<10000 by decide))))) rfl,_,_,_,rfl,by decide,by decide}
 .rw[decide_eq_false h] at t;exact{.lst [.int 0,.int (n % 2305843009213693951),.int 0],P7 (G7 (TN t rfl) (Rk (kK (RF (d:=.int 0) rfl (RF (FW (x:=.int n) (y:=.int 2305843009213693951) rfl rfl (mM hp)) (KR (d:=.int 0) rfl))) (show 3<10000 by decide)))) rfl,_,_,_,rfl,by decide,by decide}
def FS(AE:Int)(ps:List (Int×Int)):D:=.tup [.int AE,.tup (ps.map M4)]
def Iw(p:Int×Int):Int×Int:=(p.2,p.1)
structure Net(AE:Int)(ps:List (Int×Int)):Prop where
 m1:1<=AE
 m2:AE<=24
 len:ps.length<=120
 rg:∀p∈ps,0<=p.1/\p.1<AE/\0<=p.2/\p.2<AE/\p.1≠p.2
 pw:ps.Pairwise λa b=>U9 a b=AN
def back(ps:List (Int×Int)):List (Int×Int):=Z7 (ps.map Iw)
theorem z6(Ec:Ev)(k:Nat):∀(j:Nat) (E:Ev),cM Ec k [] j E=E
 |_,[]=>rfl
 |j,s::E=>by rw[cM,z6 Ec k (j+1) E];cases s<;>rfl
theorem Dx{E:Ev}(h:E.length=2):∃x y,E=[x,y]:=by
 match E,h with
 |[x,y],_=>exact{x,y,rfl}
theorem zT0{gi:GI}{E E1:Ev}{ps:List (Int×Int)}(hi:gi E=.ok (ps.map M4,E1))(hl:ps.length<10000) : RC gi 2 [] (.tp [.nm 0,.nm 1]) RA (T8 [AY 1,AY 0]) E=.ok (.lst ((ps.map Iw).map M4),E1):=by
 have:=kT (k:=2) (js:=[]) (t:=.tp [.nm 0,.nm 1]) (tt:=RA) (ge:=T8 [AY 1,AY 0]) (λd=>match d with|.tup [a,b]=>[.tup [b,a]]|_=>[]) (λE=>E.length=2) hi rfl (by simpa using hl) (λd hd E hE=>by have{p,_,rfl}:=CJ.mp hd;have{x,y,rfl}:=Dx hE;exact{_,rfl,AN,_,rfl,.inl {rfl,_,_,rfl,rfl,rfl}}) λEc _=>z6 Ec 2 0 E1;rw[this];congr 3;clear this hi hl;induction ps with
 |nil=>rfl
 |cons p ps ih=>simp only[AV,EC,ih];rfl
theorem yKW{ps:List (Int×Int)}(h:ps.Pairwise λa b=>U9 a b=AN):ps.Pairwise λa b=>bR a b=AN :=h.imp λ{a b} e=>by simp only[bR,U9,decide_eq_true_eq,MJ,decide_eq_false_iff_not] at *;lia
theorem zOM{a b:Int×Int}(h:bR a b=AN)(hn:a≠b):U9 a b=AN:=by have{a1,a2}:=a;have{b1,b2}:=b;simp only[bR,U9,decide_eq_true_eq,MJ,decide_eq_false_iff_not] at *;have:¬(a1=b1/\a2=b2):=(λq0=>by have{x,y}:=q0;exact hn (by rw[x,y]));lia
theorem zXE{ps:List (Int×Int)}(h:ps.Nodup):(Z7 ps).Pairwise λa b=>U9 a b=AN:=by have h2:(Z7 ps).Nodup:=(uF ps).nodup_iff.mpr h;exact((Tn ps).and h2).imp λ{a b} e=>zOM e.1 e.2
theorem zXF{gi:GI}{k:Nat}{js:List Nat}{t:Tg}{ge:G}{E E1:Ev}{ds:List D}(P:Ev->Prop)(hi:gi E=.ok (ds,E1))(h0:P (WP k js E1))(hl:ds.length<10000) (hs:∀d∈ds,∀E,P E->∃E1,WY t d E=.ok E1/\∃E3,ge E1=.ok (.bl AN,E3)/\P E3) (hb:∀Ec,P Ec->WZ E1 Ec k js=E1):RC gi k js t RA ge E=.ok (.lst (ds.map λ_=>.bl AN),E1):=by
 have:=kT (t:=t) (tt:=RA) (ge:=ge) (λ_=>[.bl AN]) P hi h0 hl (λd hd E hE=>by have{E1,e1,E3,e3,p}:=hs d hd E hE;exact{E1,e1,AN,E1,rfl,.inl {rfl,_,_,e3,rfl,p}}) hb;rw[this];congr 3;clear this hi hl hs;induction ds with
 |nil=>rfl
 |cons p ps ih=>simp only[AV,EC,ih];rfl
theorem zXG{α:Type}(ds:List α):rB [.lst (ds.map λ_=>.bl AN)]=.ok (.bl AN):=by
 have:j7 (ds.map λ_=>D.bl AN)=AA (ds.map λ_=>AN):=by
  induction ds with
  |nil=>rfl
  |cons d ds ih=>simp[j7,ih]
 simp[rB,this]
theorem yKX{α:Type}(xs:List α):XO xs (AA 1) AK=xs.drop 1:=by
 unfold XO HT.sIx;cases xs with
 |nil=>simp
 |cons x xs=>simp
def L7:Option Int->D
 |none=>.non
 |some i=>.int i
inductive Rc(ps:List (Int×Int))(cl:List Int)(g:Int):Int->Prop
 |refl:g∉cl->Rc ps cl g g
 |step {x y:Int}:Rc ps cl g x->(x,y)∈ps->y∉cl->Rc ps cl g y
def vis(aw:List (Option Int))(x:Int):Prop:=0<=x/\∃v,aw[x.toNat]?=AA (AA v)
noncomputable def XM:List (Option Int)->Nat
 |[]=>0
 |none::r=>XM r+1
 |some _::r=>XM r
theorem Ta:∀{l:List (Option Int)} {i:Nat} {v:Int},l[i]?=AA AK->XM (l.set i (AA v))+1=XM l
 |[],_,_,h=>by simp at h
 |o::l,0,v,h=>by simp at h;subst h;rfl
 |o::l,i+1,v,h=>by have:=Ta (l:=l) (i:=i) (v:=v) (by simpa using h);cases o<;>simp[XM]<;>lia
theorem zZ:∀l:List (Option Int),XM l<=l.length
 |[]=>AL _
 |none::r=>by have:=zZ r;simp[XM];lia
 |some _::r=>by have:=zZ r;simp[XM];lia
theorem nA{aw:List (Option Int)}{j v x:Int}(h0:0<=j)(h1:j.toNat<aw.length):vis (aw.set j.toNat (AA v)) x↔vis aw x\/x=j:=by
 unfold vis;by_cases e:x=j
 .subst e;simp only[or_true,iff_true];exact{h0,v,by rw[BF h1]}
 .constructor
  .intro zz';have{a,w,b}:=zz';rw[A6 'L'] at b;exact .inl {a,w,b}
  .rintro(⟨a,w,b⟩|h)
   .exact{a,w,by rw[A6 'L'];exact b}
   .exact absurd h e
theorem UT{ps:List (Int×Int)}{j:Nat}{y:Int}:y∈U3 ps j↔((j:Int),y)∈ps:=by
 unfold U3;constructor
 .intro h;have{p,hp,rfl}:=CJ.mp h;have{hp,e}:=DG.mp hp;have:=of_decide_eq_true e;rw[<-this];exact hp
 .intro h;exact CJ.mpr {_,DG.mpr {h,decide_eq_true rfl},rfl}
noncomputable def mK(AE:Int)(cl:List Int):D:=.lst ((C4 AE.toNat).map λ(j:Nat)=>.bl (decide ((j:Int)∈cl)))
def env(AE:Int)(ps:List (Int×Int))(cl:List Int)(start:Int)(aw:List (Option Int))(DQ:List Int)(u8 u9 u10:Sl):Ev :=[.val (FS AE ps),.val (.int start),.val (.tup (cl.map D.int)),.val (.int AE),.own AD (.lst (aw.map L7)),.val (fU AE ps),.val (mK AE cl),.val (.lst (DQ.map D.int)),u8,u9,u10]
abbrev WC(D5:List Int):Sl:=.own AD (.lst (D5.map D.int))
structure Rg(AE:Int)(ps:List (Int×Int)):Prop where
 m1:0<=AE
 m2:AE<=100
 len:ps.length<=1000
 rg:∀p∈ps,0<=p.1/\p.1<AE/\0<=p.2/\p.2<AE
section
variable{AE:Int}{ps:List (Int×Int)}{cl:List Int}{start:Int}
abbrev Jm:GS:=NH (QT [4] (bK (gB (g2 fQ (g2 E7 (AY 4) (AY 10)) (gC .non))) (iO (Z5 (g2 E7 (AY 6) (AY 10)))))) (FX (QV 4 (AY 10) (OY [4] (g2 NG (g2 E7 (AY 4) (AY 9)) (gC (.int 1))))) (X6 (O7 8 T7 [(AY 10)]))) PB
theorem Yh{aw:List (Option Int)}{x:Int}{o:Option Int}(h0:0<=x)(h:aw[x.toNat]?=AA o):E7 (.lst (aw.map L7)) (.int x)=.ok (L7 o):=by have:=sZ (xs:=aw.map L7) (x:=L7 o) h0 (by rw[AU,h];rfl);exact uL this
theorem yBU{x:Int}(h0:0<=x)(h:x<AE):E7 (mK AE cl) (.int x)=.ok (.bl (decide (x∈cl))):=by have:=sZ (xs:=(C4 AE.toNat).map λ(j:Nat)=>D.bl (decide ((j:Int)∈cl))) (x:=.bl (decide (x∈cl))) h0 (by rw[AU,K6 'L',GR,show((x.toNat:Nat):Int)=x by lia]);exact uL this
theorem yBV{x:Int}(h0:0<=x)(h:x<AE):E7 (fU AE ps) (.int x)=.ok (.lst ((U3 ps x.toNat).map D.int)):=by have:=sZ (xs:=(C4 AE.toNat).map λ(j:Nat)=>D.lst ((U3 ps j).map D.int)) (x:=.lst ((U3 ps x.toNat).map D.int)) h0 (by rw[AU,K6 'L',GR]);exact uL this
theorem yBW{aw:List (Option Int)}{DQ D5:List Int}{one EB v:Int}(hl:aw.length=AE.toNat)(h1:0<=one)(hv:aw[one.toNat]?=AA (AA v))(h2:0<=EB)(h3:EB<AE)(hll:D5.length<10000) : ∃eY OT,Jm (env AE ps cl start aw DQ (WC D5) (.val (.int one)) (.val (.int EB)))=.ok (.nx (env AE ps cl start eY DQ (WC OT) (.val (.int one)) (.val (.int EB)))) /\ ((aw[EB.toNat]?=AA AK/\EB∉cl/\eY=aw.set EB.toNat (AA (v+1))/\OT=D5++[EB])\/(eY=aw/\OT=D5/\(EB∉cl->vis aw EB))):=by
 obtain⟨o,ho⟩:∃o,aw[EB.toNat]?=AA o:={_,BP 'L'};have t1:∀b,(match o with|none=>AN|_=>AD)=b->gB (g2 fQ (g2 E7 (AY 4) (AY 10)) (gC .non)) (N6 [4] (env AE ps cl start aw DQ (WC D5) (.val (.int one)) (.val (.int EB))))=.ok (b,N6 [4] (env AE ps cl start aw DQ (WC D5) (.val (.int one)) (.val (.int EB)))):=λb hb =>
  N7 (FW (FW (x:=.lst (aw.map L7)) (y:=.int EB) rfl rfl (Yh h2 ho)) (y:=.non) rfl (by cases o<;>subst hb<;>rfl))
 have t2:iO (Z5 (g2 E7 (AY 6) (AY 10))) (N6 [4] (env AE ps cl start aw DQ (WC D5) (.val (.int one)) (.val (.int EB))))=.ok (!decide (EB∈cl),N6 [4] (env AE ps cl start aw DQ (WC D5) (.val (.int one)) (.val (.int EB)))) :=
  Fg (mO (FW (x:=mK AE cl) (y:=.int EB) rfl rfl (yBU h2 h3)) rfl)
 cases o with
 |some w=>refine{aw,D5,TN (WT (zE (t1 AD rfl))) rfl,.inr {rfl,rfl,λ_=>{h2,w,ho}}}
 |none =>
  by_cases hc:EB∈cl
  .rw[decide_eq_true hc] at t2;exact{aw,D5,TN (WT (mT (t1 AN rfl) t2)) rfl,.inr {rfl,rfl,λz=>absurd hc z}}
  .rw[decide_eq_false hc] at t2;refine{_,_,ZC (WT (mT (t1 AN rfl) t2)) (G7 (E1:=env AE ps cl start (aw.set EB.toNat (AA (v+1))) DQ (WC D5) (.val (.int one)) (.val (.int EB))) ?_ ?_),.inl {ho,hc,rfl,rfl}}
   .have hb:OY [4] (g2 NG (g2 E7 (AY 4) (AY 9)) (gC (.int 1))) (env AE ps cl start aw DQ (WC D5) (.val (.int one)) (.val (.int EB)))=.ok (.int (v+1),env AE ps cl start aw DQ (WC D5) (.val (.int one)) (.val (.int EB))) :=
     ZG (FW (FW (x:=.lst (aw.map L7)) (y:=.int one) rfl rfl (Yh h1 hv)) (y:=.int 1) rfl rfl) rfl
    have:=bP (i:=4) (gk:=AY 10) (t:=AD) (d:=.lst (aw.map L7)) (k:=.int EB) (d':=.lst ((aw.set EB.toNat (AA (v+1))).map L7)) rfl hb rfl rfl (by rw[Jf (Ed h2 (by rw[AJ];lia)),List.map_set];rfl);exact this
   .have:=kR (i:=8) (f:=T7) (gs:=[AY 10]) (E:=env AE ps cl start (aw.set EB.toNat (AA (v+1))) DQ (WC D5) (.val (.int one)) (.val (.int EB))) (xs:=D5.map D.int) (ds:=[.int EB]) (x:=.non) (UD:=(D5++[EB]).map D.int) rfl rfl rfl (by simp only[T7,AJ];rw[XQ hll];simp);exact qJ this
structure Bf(ps:List (Int×Int))(cl:List Int)(start:Int)(n:Nat)(OO aw:List (Option Int))(D5:List Int):Prop where
 len:aw.length=n
 mono:∀x,vis OO x->vis aw x
 new:∀x,vis aw x->vis OO x\/x∈D5
 lat:∀x∈D5,vis aw x
 rc:∀x,vis aw x->Rc ps cl start x
 cnt:XM aw+D5.length=XM OO
theorem Bf.step{OO aw:List (Option Int)}{D5:List Int}{one EB v:Int}{n:Nat}(B:Bf ps cl start n OO aw D5)(h1:vis aw one)(he:(one,EB)∈ps)(h2:0<=EB)(h3:EB.toNat<n)(h4:aw[EB.toNat]?=AA AK)(h5:EB∉cl) : Bf ps cl start n OO (aw.set EB.toNat (AA (v+1))) (D5++[EB]) where
 len:=by rw[BY];exact B.len
 mono:=λx h=>(nA h2 (by rw[B.len];exact h3)).mpr (.inl (B.mono x h))
 new:=λx h=>by
  rcases(nA h2 (by rw[B.len];exact h3)).mp h with h|rfl
  .rcases B.new x h with h|h
   .exact .inl h
   .exact .inr (C1 _ h)
  .exact .inr 'S'
 lat:=λx h=>by
  refine(nA h2 (by rw[B.len];exact h3)).mpr ?_;rcases BU.mp h with h|h
  .exact .inl (B.lat x h)
  .exact .inr (A1.mp h)
 rc:=λx h=>by
  rcases(nA h2 (by rw[B.len];exact h3)).mp h with h|rfl
  .exact B.rc x h
  .exact .step (B.rc one h1) he h5
 cnt:=by have:=Ta (v:=v+1) h4;have:=B.cnt;rw[BC,EQ];lia
abbrev Bk:GS:=OQ (LB (g2 E7 (AY 5) (AY 9))) (.nm 10) Jm
theorem zXH(R:Rg AE ps){OO TW:List (Option Int)}{DQ VU:List Int}{one:Int}{u10:Sl}(B1:Bf ps cl start AE.toNat OO TW VU)(hv:vis TW one)(ho:one<AE)(gW:XM OO<=100) : ∃aw D5 u,Bk (env AE ps cl start TW DQ (WC VU) (.val (.int one)) u10)=.ok (.nx (env AE ps cl start aw DQ (WC D5) (.val (.int one)) u))/\Bf ps cl start AE.toNat OO aw D5/\(∀x,vis TW x->vis aw x)/\∀y,(one,y)∈ps->y∉cl->vis aw y:=by
 have h0:=hv.1;have{E',e,aw,D5,u,rfl,B,mo,ex}:=bN (gi:=LB (g2 E7 (AY 5) (AY 9))) (t:=.nm 10) (g:=Jm) (E:=env AE ps cl start TW DQ (WC VU) (.val (.int one)) u10) (ds:=(U3 ps one.toNat).map D.int)
  (λi E=>∃aw D5 u,E=env AE ps cl start aw DQ (WC D5) (.val (.int one)) u/\Bf ps cl start AE.toNat OO aw D5/\(∀x,vis TW x->vis aw x)/\∀y∈(U3 ps one.toNat).take i,y∉cl->vis aw y)
  (nB (FW (x:=fU AE ps) (y:=.int one) rfl rfl (yBV h0 ho))) {TW,VU,u10,rfl,B1,λ_ h=>h,λy h=>by simp at h}
  (λi d E hd q0=>by
   have{aw,D5,u,hE,B,mo,ex}:=q0;subst hE;rw[AU] at hd;have{y,hy,rfl}:=BN.mp hd;have wT:(one,y)∈ps:=by have:=UT.mp (BJ hy);rwa [show((one.toNat:Nat):Int)=one by lia] at this
   have{_,_,y0,y1}:=R.rg _ wT;simp only at y0 y1;have{w,hw}:=(mo one hv).2;have Df:=B.cnt;have{eY,OT,e,h}:=yBW (ps:=ps) (cl:=cl) (start:=start) (DQ:=DQ) (D5:=D5) B.len h0 hw y0 y1 'L';refine{_,rfl,_,e,eY,OT,_,rfl,?_};have oK:(U3 ps one.toNat).take (i+1)=(U3 ps one.toNat).take i++[y]:=by have{hi,e}:=AR.mp hy;rw[BK hi,e]
   rcases h with⟨a,b,rfl,rfl⟩|⟨rfl,rfl,hz⟩
   .have B':=B.step (v:=w) (mo one hv) wT y0 'L' a b;refine{B',λx hx=>(nA y0 (by rw[B.len];lia)).mpr (.inl (mo x hx)),λz hz dW=>?_};rw[oK] at hz;refine(nA y0 (by rw[B.len];lia)).mpr ?_;rcases BU.mp hz with h|h
    .exact .inl (ex z h dW)
    .exact .inr (A1.mp h)
   .refine{B,mo,λz h dW=>?_};rw[oK] at h;rcases BU.mp h with h|h
    .exact ex z h dW
    .rw[A1.mp h] at dW ⊢;exact hz dW)
 refine{aw,D5,u,e,B,mo,λy hy lN=>ex y ?_ lN};rw[AJ,DE];exact UT.mpr (by rwa [show((one.toNat:Nat):Int)=one by lia])
end
section
variable{AE:Int}{ps:List (Int×Int)}{cl:List Int}{start:Int}
theorem yFW{aw:List (Option Int)}{x:Int}{n:Nat}(hl:aw.length=n)(h:vis aw x):0<=x/\x<n:=by have{a,v,b}:=h;have:=(AR.mp b).1;exact{a,by lia}
theorem zXI(R:Rg AE ps){OO:List (Option Int)}{DQ:List Int}{u9 u10:Sl}(hl:OO.length=AE.toNat)(Db:∀x,vis OO x->Rc ps cl start x)(oP:∀x∈DQ,vis OO x) : ∃aw D5 u v,OQ (LB (AY 7)) (.nm 9) Bk (env AE ps cl start OO DQ (WC []) u9 u10)=.ok (.nx (env AE ps cl start aw DQ (WC D5) u v))/\Bf ps cl start AE.toNat OO aw D5/\∀x∈DQ,∀y,(x,y)∈ps->y∉cl->vis aw y:=by
 have gW:XM OO<=100:=by have:=zZ OO;have:=R.m2;lia
 have{E',e,aw,D5,u,v,rfl,B,ex}:=bN (gi:=LB (AY 7)) (t:=.nm 9) (g:=Bk) (E:=env AE ps cl start OO DQ (WC []) u9 u10) (ds:=DQ.map D.int)
  (λi E=>∃aw D5 u v,E=env AE ps cl start aw DQ (WC D5) u v/\Bf ps cl start AE.toNat OO aw D5/\∀x∈DQ.take i,∀y,(x,y)∈ps->y∉cl->vis aw y)
  (nB rfl) {OO,[],u9,u10,rfl,{hl,λ_ h=>h,λ_ h=>.inl h,λ_ h=>by simp at h,Db,rfl},λy h=>by simp at h}
  (λi d E hd q0=>by
   have{aw,D5,u,v,hE,B,ex}:=q0;subst hE;rw[AU] at hd;have{x,hx,rfl}:=BN.mp hd;have hvx:=B.mono x (oP x (BJ hx));have JB:=yFW B.len hvx;have{eY,OT,u',e,B',mo,ex'}:=zXH R (DQ:=DQ) (u10:=v) B hvx (by have:=R.m1;lia) gW;refine{_,rfl,_,e,eY,OT,_,u',rfl,B',λz hz y hy lN=>?_};have{hi,e}:=AR.mp hx;rw[BK hi,e] at hz;rcases BU.mp hz with h|h
   .exact mo y (ex z h y hy lN)
   .rw[A1.mp h] at hy;exact ex' y hy lN)
 rw[AJ,DE] at ex;exact{aw,D5,u,v,e,B,ex}
abbrev Zm:GS:=(FX (RX 8 (J1 [])) (FX (OQ (LB (AY 7)) (.nm 9) Bk) (I0 (.nm 7) (AY 8))))
theorem zXJ(R:Rg AE ps){OO:List (Option Int)}(hl:OO.length=AE.toNat)(hv:∀x,vis OO x↔x=start)(hs:start∉cl) : ∃aw u8 u9 u10,XV (Z5 (AY 7)) Zm 100000 (env AE ps cl start OO [start] .no .no .no)=.ok (.nx (env AE ps cl start aw [] u8 u9 u10))/\aw.length=AE.toNat/\∀x,vis aw x↔Rc ps cl start x:=by
 have gW:XM OO<=100:=by have:=zZ OO;have:=R.m2;lia
 have{E',e,aw,u8,u9,u10,rfl,h1,h2}:=tB (t:=Z5 (AY 7)) (g:=Zm)
  (λn E=>∃aw DQ u8 u9 u10,E=env AE ps cl start aw DQ u8 u9 u10/\aw.length=AE.toNat/\(∀x,vis aw x->Rc ps cl start x)/\vis aw start/\(∀x∈DQ,vis aw x)/\(∀x,vis aw x->x∈DQ\/∀y,(x,y)∈ps->y∉cl->vis aw y)/\n=XM aw+(if DQ=[] then 0 else 1))
  (λE=>∃aw u8 u9 u10,E=env AE ps cl start aw [] u8 u9 u10/\aw.length=AE.toNat/\∀x,vis aw x↔Rc ps cl start x)
  (λn E hP=>by
   have{aw,DQ,u8,u9,u10,hE,hl,Db,bV,oP,hex,hn}:=hP;subst hE;cases DQ with
   |nil =>
    refine .inl {_,mO (d:=.lst []) rfl rfl,aw,u8,u9,u10,rfl,hl,λx=>{Db x,λh=>?_}};induction h with
    |refl _=>exact bV
    |step _ he hc ih =>
     rcases hex _ ih with h|h
     .simp at h
     .exact h _ he hc
   |cons r DQ =>
    have{eY,D5,u,v,e,B,ex}:=zXI R (DQ:=r::DQ) (u9:=u9) (u10:=u10) hl Db oP;refine .inr {_,env AE ps cl start eY D5 (.val (.lst (D5.map D.int))) u v,XM eY+(if D5=[] then 0 else 1),mO (d:=.lst ((r::DQ).map D.int)) rfl rfl,G7 (X9 (d:=.lst []) rfl) (G7 e (N9 (d:=.lst (D5.map D.int)) rfl rfl)),?_,eY,D5,_,_,_,rfl,B.len,B.rc,B.mono _ bV,B.lat,λx hx=>?_,rfl}
    .have:=B.cnt;rw[show(if(r::DQ:List Int)=[] then 0 else 1)=1 from if_neg 'S'] at hn;cases D5 with
     |nil=>simp at this ⊢;lia
     |cons a l=>simp at this ⊢;lia
    .rcases B.new x hx with h|h
     .refine .inr ?_;rcases hex x h with h|h
      .exact ex x h
      .exact λy hy hc=>B.mono y (h y hy hc)
     .exact .inl h) 100000 (XM OO+1) (env AE ps cl start OO [start] .no .no .no) 'L'
  {OO,[start],_,_,_,rfl,hl,λx h=>by rw[(hv x).mp h];exact .refl hs,(hv _).mpr rfl,λx h=>by rw[A1.mp h];exact(hv _).mpr rfl,λx h=>.inl (by rw[(hv x).mp h];simp),rfl}
 exact{aw,u8,u9,u10,e,h1,h2}
theorem yBX(R:Rg AE ps):k7 [.val (FS AE ps)]=.ok (AD,fU AE ps,.non):=by exact yIF {rfl,R.m1,R.m2,R.len,λp hp=>{(R.rg p hp).1,(R.rg p hp).2.1}}
theorem yBY(R:Rg AE ps){E:Ev}(h3:E[3]?=AA (.val (.int AE)))(h2:E[2]?=AA (.val (.tup (cl.map D.int))))(hb:∀Ec,WZ E Ec 1 [2]=E):RC (cS (AY 3)) 1 [2] (.nm 0) RA (g2 QA (AY 0) (AY 1)) E=.ok (mK AE cl,E):=by
 have aM:=R.m1;have aK:=R.m2;have hg:AY 3 E=.ok (.int AE,E):=by simp[AY,h3]
 have:=kT (k:=1) (js:=[2]) (t:=.nm 0) (tt:=RA) (ge:=g2 QA (AY 0) (AY 1)) (λd=>match d with|.int j=>[.bl (decide (j∈cl))]|_=>[]) (λE=>∃x,E=[x,.val (.tup (cl.map D.int))]) (Ff hg {by lia,by lia}) {.no,by simp[WP,h2]} (by simp[T4];lia) (λd hd E q0=>by have{x,hE}:=q0;subst hE;have{j,_,rfl}:=CJ.mp hd;exact{_,rfl,AN,_,rfl,.inl {rfl,_,_,FW (x:=.int (0+(j:Int))) (y:=.tup (cl.map D.int)) rfl rfl (tQ _ _),rfl,_,rfl}}) λEc _=>hb Ec;rw[this];congr 3;simp only[mK,T4];clear this;rw[List.flatMap_map];generalize C4 AE.toNat=l;induction l with
 |nil=>rfl
 |cons p ps ih=>simp only[AV,EC];rw[ih];simp
theorem yBZ(R:Rg AE ps)(h0:0<=start)(h1:start<AE):∃aw,Bi [.val (FS AE ps),.val (.int start),.val (.tup (cl.map D.int))]=.ok (AD,.lst (aw.map L7),.non)/\aw.length=AE.toNat/\∀x,vis aw x↔Rc ps cl start x:=by
 have aM:=R.m1;have aK:=R.m2;obtain⟨TW,aP⟩:∃TW:List (Option Int),TW=BI AE.toNat AK:={_,rfl};have Mp:iE (.lst [.non]) (.int AE)=.ok (.lst (TW.map L7)):=by
  have e:(BI AE.toNat [D.non]).flatten=TW.map L7:=by
   rw[aP,List.map_replicate];generalize AE.toNat=n;induction n with
   |zero=>rfl
   |succ n ih=>rw[EL,EL,G5,ih];rfl
  simp only[iE,_L.guard];rw[if_pos {by lia,by lia,by simp;lia},e]
 have Mi:∀x,¬vis TW x:=by intro x zz';have{_,v,b}:=zz';rw[aP,DZ] at b;split at b<;>simp at b
 obtain⟨E3,gX⟩:∃E3:Ev,E3=[.val (FS AE ps),.val (.int start),.val (.tup (cl.map D.int)),.val (.int AE),.own AD (.lst (TW.map L7)),.no,.no,.no,.no,.no,.no]:={_,rfl};have Cq:gB (g2 QA (AY 1) (AY 2)) E3=.ok (decide (start∈cl),E3):=by rw[gX];exact N7 (FW (x:=.int start) (y:=.tup (cl.map D.int)) rfl rfl (tQ _ _))
 have s1:∀{g:GS} {r:Out Fl},g E3=r->(FX (I0 (.nm 3) (g2 E7 (AY 0) (gC (.int 0)))) (FX (RX 4 (g2 iE (J1 [(gC .non)]) (AY 3))) g)) ([.val (FS AE ps),.val (.int start),.val (.tup (cl.map D.int))]++BI 8 .no)=r:=λh =>
  G7 (N9 (d:=.int AE) (FW (x:=FS AE ps) (y:=.int 0) rfl rfl rfl) rfl) (G7 (X9 (FW (x:=.lst [.non]) (y:=.int AE) rfl rfl Mp)) (by rw[gX] at h;exact h))
 by_cases hs:start∈cl
 .rw[decide_eq_true hs] at Cq;refine{TW,P7 (s1 (tD (b:=AD) (d:=.lst (TW.map L7)) (ZC Cq (RD (by rw[gX];rfl))))) rfl,by rw[aP];simp,λx=>{λh=>absurd h (Mi x),λh=>?_}};induction h with
  |refl h=>exact absurd hs h
  |step _ _ _ ih=>exact absurd ih (Mi _)
 .rw[decide_eq_false hs] at Cq;have Mo:∀x,vis (TW.set start.toNat (AA 0)) x↔x=start:=λx=>by rw[nA h0 (by rw[aP];simp;lia)];exact{λh=>h.resolve_left (Mi x),.inr}
  have{aw,u8,u9,u10,ew,hl,hr}:=zXJ (cl:=cl) (start:=start) R (OO:=TW.set start.toNat (AA 0)) (by rw[aP];simp) Mo hs;refine{aw,P7 (s1 (G7 (TN Cq rfl) (G7 (E1:=E3.set 5 (.val (fU AE ps))) (N9 (PX (ds:=[FS AE ps]) (by rw[gX];rfl) (yBX R)) rfl) (G7 (E1:=(E3.set 5 (.val (fU AE ps))).set 6 (.val (mK AE cl))) (N9 (yBY R (by rw[gX];rfl) (by rw[gX];rfl) (λEc=>by rw[gX];rfl)) rfl)
   (G7 (E1:=(((E3.set 5 (.val (fU AE ps))).set 6 (.val (mK AE cl))).set 4 (.own AD (.lst ((TW.set start.toNat (AA 0)).map L7))))) ?_ (G7 (E1:=env AE ps cl start (TW.set start.toNat (AA 0)) [start] .no .no .no) (N9 (d:=.lst [.int start]) (by rw[gX];rfl) (by first|rfl|(rw[gX];rfl))) (G7 ew (RD (d:=.lst (aw.map L7)) rfl)))))))) rfl,hl,hr}
  rw[gX];exact bP (i:=4) (gk:=AY 1) (gv:=gC (.int 0)) (t:=AD) (d:=.lst (TW.map L7)) (v:=.int 0) (k:=.int start) (d':=.lst ((TW.set start.toNat (AA 0)).map L7)) rfl rfl rfl rfl (by rw[Jf (Ed h0 (by rw[AJ,aP];simp;lia)),List.map_set];rfl)
end
noncomputable def fN:List (Option Int)->Nat->List Int
 |[],_=>[]
 |none::r,k=>fN r (k+1)
 |some _::r,k=>(k:Int)::fN r (k+1)
theorem O9:∀{aw:List (Option Int)} {k:Nat} {x:Int},x∈fN aw k↔(k:Int)<=x/\∃v,aw[x.toNat-k]?=AA (AA v)
 |[],k,x=>by simp[fN]
 |none::r,k,x=>by
  rw[fN,O9];constructor
  .intro zz';have{a,v,b}:=zz';refine{by lia,v,?_};rw[show x.toNat-k=(x.toNat-(k+1))+1 by lia,F7];exact b
  .intro zz';have{a,v,b}:=zz';by_cases e:x=k
   .subst e;simp at b
   .refine{by lia,v,?_};rw[show x.toNat-k=(x.toNat-(k+1))+1 by lia,F7] at b;exact b
 |some w::r,k,x=>by
  rw[fN,A8,O9];constructor
  .rintro(rfl|⟨a,v,b⟩)
   .exact{bB _,w,by simp}
   .refine{by lia,v,?_};rw[show x.toNat-k=(x.toNat-(k+1))+1 by lia,F7];exact b
  .intro zz';have{a,v,b}:=zz';by_cases e:x=k
   .exact .inl e
   .refine .inr {by lia,v,?_};rw[show x.toNat-k=(x.toNat-(k+1))+1 by lia,F7] at b;exact b
theorem Fc:∀(aw:List (Option Int)) (k:Nat),(fN aw k).Pairwise (· < ·)
 |[],_=>.nil
 |none::r,k=>Fc r (k+1)
 |some _::r,k=>JK.mpr {λx h=>by have:=(O9.mp h).1;lia,Fc r (k+1)}
noncomputable def Ja(d:D):List D:=match d with
 |.tup [_,.non]=>[]
 |.tup [i,_]=>[i]
 |_=>[]
theorem Gh:∀(aw:List (Option Int)) (k:Nat),(((aw.map L7).zipIdx k).map λp=>D.tup [.int (p.2:Int),p.1]).flatMap Ja=(fN aw k).map D.int
 |[],_=>rfl
 |none::r,k=>by simp only[AV,SF,EC,Gh r (k+1)];rfl
 |some _::r,k=>by simp only[AV,SF,EC,Gh r (k+1)];rfl
section
variable{AE:Int}{ps:List (Int×Int)}{cl:List Int}{start:Int}
theorem zY(R:Rg AE ps)(h0:0<=start)(h1:start<AE):∃xs:List Int,dA [.val (FS AE ps),.val (.int start),.val (.tup (cl.map D.int))]=.ok (AD,.tup (xs.map D.int),.non)/\xs.Pairwise (· < ·)/\∀x,x∈xs↔Rc ps cl start x:=by
 have{aw,e,hl,hr}:=yBZ (cl:=cl) R h0 h1;have aK:=R.m2;refine{fN aw 0,?_,Fc aw 0,λx=>?_}
 .have hc:=kT (gi:=Em (AY 3)) (k:=2) (js:=[]) (t:=.tp [.nm 0,.nm 1]) (tt:=gB (g2 sQ (AY 1) (gC .non))) (ge:=AY 0) (E:=[.val (FS AE ps),.val (.int start),.val (.tup (cl.map D.int)),.val (.lst (aw.map L7))]) (E1:=[.val (FS AE ps),.val (.int start),.val (.tup (cl.map D.int)),.val (.lst (aw.map L7))]) (ds:=j6 (aw.map L7)) Ja (λE=>E.length=2) rfl rfl (by simp[j6];lia) (λd hd E hE=>by
   have{zz',ho,rfl}:=CJ.mp hd;have{o,j}:=zz';have{x,y,rfl}:=Dx hE;have:∃w,L7 w=o:=by have:=List.mem_zipIdx ho;have{w,_,hw}:=CJ.mp (List.mem_of_getElem (this.2.2.symm));exact{w,hw}
   have{w,rfl}:=this;cases w with
   |none=>exact{_,rfl,AD,_,rfl,.inr {rfl,rfl,rfl}}
   |some w=>exact{_,rfl,AN,_,rfl,.inl {rfl,_,_,rfl,rfl,rfl}}) λEc _=>z6 Ec 2 0 _
  have hf:(j6 (aw.map L7)).flatMap Ja=(fN aw 0).map D.int:=Gh aw 0;rw[hf] at hc;exact P7 (G7 (N9 (PX (ds:=[FS AE ps,.int start,.tup (cl.map D.int)]) rfl e) rfl) (RD (P8 (KR hc) rfl))) rfl
 .rw[O9,<-hr];exact Iff.rfl
theorem Vv(R:Rg AE ps)(h0:0<=start)(h1:start<AE):∃xs:List Int,nG [.val (FS AE ps),.val (.int start)]=.ok (AD,.tup (xs.map D.int),.non)/\xs.Pairwise (· < ·)/\∀x,x∈xs↔Rc ps [] start x:=by have{xs,e,h}:=zY (cl:=[]) R h0 h1;exact{xs,P7 (RD (PX (ds:=[FS AE ps,.int start,.tup []]) rfl e)) rfl,h}
end
noncomputable def sc(ps:List (Int×Int))(x:Int):List Int:=(ps.filter λp=>decide (p.1=x)).map (·.2)
theorem dG{ps:List (Int×Int)}{x y:Int}:y∈sc ps x↔(x,y)∈ps:=by
 unfold sc;constructor
 .intro h;have{p,hp,rfl}:=CJ.mp h;have{hp,e}:=DG.mp hp;have:=of_decide_eq_true e;rw[<-this];exact hp
 .intro h;exact CJ.mpr {_,DG.mpr {h,decide_eq_true rfl},rfl}
theorem yFX(ps:List (Int×Int))(x:Int):(sc ps x).length<=ps.length:=by unfold sc;rw[AJ];exact FO _ _
theorem uE:∀ns:List Int,pAA (ns.map D.int)=AN
 |[]=>by simp[pAA]
 |n::ns=>by simp[pAA,D.nod,uE ns]
theorem At:∀ns:List Int,pA9 (ns.map D.int)=AN
 |[]=>by simp[pA9]
 |n::ns=>by simp[pA9,D.flat,At ns]
theorem Pm(x:Int)(c:Option Int):L9 (.int x) (L7 c)=.ok (.bl (decide (x∉c.toList))):=by
 cases c with
 |none=>rw[L7,zWW];simp
 |some c=>rw[L7,qK];simp
def gG(fs:List Int):D:=.dk (fs.map λx=>(.inl x,.bl AN))
theorem yB1(fs:List Int)(x:Int):(NA (κ:=Key) (fs.map λx=>(.inl x,.bl AN)) (.inl x)).isSome=decide (x∈fs):=by
 unfold NA;induction fs with
 |nil=>rfl
 |cons a fs ih =>
  rw[AV,FK];by_cases e:a=x
  .subst e;simp
  .have e2:¬((CS a:Key)=.inl x):=λz=>e (IF z);simp only[e2,decide_false,ih];have:¬x=a:=λz=>e z.symm;simp[this]
theorem yB2{fs:List Int}{x:Int}(h:x∉fs):O4 (κ:=Key) (fs.map λx=>(.inl x,.bl AN)) (.inl x) (.bl AN)=(fs++[x]).map λx=>(.inl x,.bl AN):=by
 unfold O4;rw[if_neg]
 .simp
 .rw[Q8];intro z;have{a,ha,e}:=HI.mp z;have:=IF (of_decide_eq_true e);exact h (this▸ha)
section
variable{AE:Int}{ps:List (Int×Int)}{BV:Option Int}{A4:Int}
def XJ(AE:Int)(ps:List (Int×Int))(BV:Option Int)(A4:Int)(u3 u4 u5 u6 u7:Sl):Ev:=[.val (FS AE ps),.val (.int A4),.val (L7 BV),u3,u4,u5,u6,u7]
def Ju(ps:List (Int×Int))(kvs:List (Key×D)):Prop:=∀x:Int,(NA kvs (.inl x)).getD (.lst [])=.lst ((sc ps x).map D.int)
theorem zXK(hl:ps.length<=1000):∃kvs u4 u5,OQ (LB (g2 E7 (AY 0) (gC (.int 1)))) (.tp [(.nm 4),(.nm 5)]) (QV 3 (AY 4) (OY [3] (g2 NG (cO (AY 3) (AY 4) (J1 [])) (J1 [(AY 5)])))) (XJ AE ps BV A4 (.own AD (.dk [])) .no .no .no .no)=.ok (.nx (XJ AE ps BV A4 (.own AD (.dk kvs)) u4 u5 .no .no))/\Ju ps kvs:=by
 have{E',e,kvs,u4,u5,rfl,hk,ht}:=bN (gi:=LB (g2 E7 (AY 0) (gC (.int 1)))) (t:=.tp [(.nm 4),(.nm 5)]) (g:=QV 3 (AY 4) (OY [3] (g2 NG (cO (AY 3) (AY 4) (J1 [])) (J1 [(AY 5)])))) (E:=XJ AE ps BV A4 (.own AD (.dk [])) .no .no .no .no) (ds:=ps.map M4)
  (λi E=>∃kvs u4 u5,E=XJ AE ps BV A4 (.own AD (.dk kvs)) u4 u5 .no .no/\kvs.length<=i/\Ju (ps.take i) kvs) (tP (FW (x:=FS AE ps) (y:=.int 1) rfl rfl rfl)) {[],_,_,rfl,AL _,λx=>rfl}
  (λi d E hd hP=>by
   have{kvs,u4,u5,hE,hk,ht}:=hP;subst hE;rw[AU] at hd;have{zz',hp,rfl}:=BN.mp hd;have{a,b}:=zz';have De:=(AR.mp hp).1;have Mn:=yFX (ps.take i) a;rw[EI] at Mn;have hf:=Hd (λp:Int×Int=>decide (p.1=a)) hp;have hg:cO (AY 3) (AY 4) (J1 []) (N6 [3] (XJ AE ps BV A4 (.own AD (.dk kvs)) (.val (.int a)) (.val (.int b)) .no .no))=.ok (.lst ((sc (ps.take i) a).map D.int),N6 [3] (XJ AE ps BV A4 (.own AD (.dk kvs)) (.val (.int a)) (.val (.int b)) .no .no)):=by have:=Pu (gd:=AY 3) (gk:=AY 4) (gx:=J1 []) (E:=N6 [3] (XJ AE ps BV A4 (.own AD (.dk kvs)) (.val (.int a)) (.val (.int b)) .no .no)) (a:=.dk kvs) (k:=.int a) (x:=.lst []) (o:=NA kvs (.inl a)) rfl rfl rfl rfl;rw[ht a] at this;exact this
   have hb:OY [3] (g2 NG (cO (AY 3) (AY 4) (J1 [])) (J1 [(AY 5)])) (XJ AE ps BV A4 (.own AD (.dk kvs)) (.val (.int a)) (.val (.int b)) .no .no)=.ok (.lst ((sc (ps.take (i+1)) a).map D.int),XJ AE ps BV A4 (.own AD (.dk kvs)) (.val (.int a)) (.val (.int b)) .no .no):=by
    refine ZG (FW hg (y:=.lst [.int b]) rfl ?_) ?_
    .refine Yq (by rw[AJ];show _+1<10000;lia) ?_;unfold sc;rw[hf,if_pos (decide_eq_true rfl)];simp
    .simp only[cW,XJ,D.flat,D.nod,uE];rfl
   refine{_,rfl,_,bP (i:=3) (t:=AD) (d:=.dk kvs) (k:=.int a) (d':=.dk (O4 kvs (.inl a) (.lst ((sc (ps.take (i+1)) a).map D.int)))) rfl hb rfl rfl (by simp only[jZ,iL];rw[XQ 'L']),O4 kvs (.inl a) (.lst ((sc (ps.take (i+1)) a).map D.int)),_,_,rfl,AW (Gc _ _ _) (EG hk (AL _)),λx=>?_};by_cases ex:x=a
   .subst ex;rw[zKR];rfl
   .rw[zOC _ _ (λz=>ex (IF z)),ht x];have hf:=Hd (λp:Int×Int=>decide (p.1=x)) hp;unfold sc;rw[hf,if_neg (by simp only[decide_eq_true_eq];exact λz=>ex z.symm),C5])
 rw[AJ,DE] at ht;exact{kvs,u4,u5,e,ht}
end
section
variable{AE:Int}{ps:List (Int×Int)}{BV:Option Int}{A4:Int}
abbrev uQ:GS:=NH (QT [6] (bK (gB (g2 L9 (AY 5) (AY 2))) (gB (g2 QU (AY 5) (AY 6))))) (FX (QV 6 (AY 5) (gC (.bl AN))) (X6 (O7 7 T7 [(AY 5)]))) PB
def P5(AE:Int)(ps:List (Int×Int))(BV:Option Int)(A4:Int)(u3 u4 u5:Sl)(fs DQ:List Int):Ev:=XJ AE ps BV A4 u3 u4 u5 (.own AD (gG fs)) (.own AD (.lst (DQ.map D.int)))
theorem zXL(x:Int)(fs:List Int):QU (.int x) (gG fs)=.ok (.bl (decide (x∉fs))):=by have:=yB1 fs x;simp only[QU,QA,gG,iK,iL,GR];simp only[Out.bind,this];simp
theorem yIG{u3 u4:Sl}{fs DQ:List Int}{y:Int}(hf:fs.length<10000)(hr:DQ.length<10000) : ∃pG OR,uQ (P5 AE ps BV A4 u3 u4 (.val (.int y)) fs DQ)=.ok (.nx (P5 AE ps BV A4 u3 u4 (.val (.int y)) pG OR)) /\ ((y∉BV.toList/\y∉fs/\pG=fs++[y]/\OR=DQ++[y])\/((y∈BV.toList\/y∈fs)/\pG=fs/\OR=DQ)):=by
 obtain⟨E0,eU⟩:∃E0,E0=N6 [6] (P5 AE ps BV A4 u3 u4 (.val (.int y)) fs DQ):={_,rfl};have t1:gB (g2 L9 (AY 5) (AY 2)) E0=.ok (decide (y∉BV.toList),E0):=by rw[eU];exact N7 (FW (x:=.int y) (y:=L7 BV) rfl rfl (Pm _ _))
 have t2:gB (g2 QU (AY 5) (AY 6)) E0=.ok (decide (y∉fs),E0):=by rw[eU];exact N7 (FW (x:=.int y) (y:=gG fs) rfl rfl (zXL _ _))
 by_cases hc:y∈BV.toList
 .rw[decide_eq_false (λz=>z hc)] at t1;exact{fs,DQ,TN (WT (by rw[<-eU];exact zE t1)) rfl,.inr {.inl hc,rfl,rfl}}
 rw[decide_eq_true hc] at t1;by_cases hm:y∈fs
 .rw[decide_eq_false (λz=>z hm)] at t2;exact{fs,DQ,TN (WT (by rw[<-eU];exact mT t1 t2)) rfl,.inr {.inr hm,rfl,rfl}}
 rw[decide_eq_true hm] at t2;refine{fs++[y],DQ++[y],ZC (WT (by rw[<-eU];exact mT t1 t2)) (G7 (E1:=P5 AE ps BV A4 u3 u4 (.val (.int y)) (fs++[y]) DQ) ?_ ?_),.inl {hc,hm,rfl,rfl}}
 .exact bP (i:=6) (gk:=AY 5) (gv:=gC (.bl AN)) (E:=P5 AE ps BV A4 u3 u4 (.val (.int y)) fs DQ) (E1:=P5 AE ps BV A4 u3 u4 (.val (.int y)) fs DQ) (E2:=P5 AE ps BV A4 u3 u4 (.val (.int y)) fs DQ) (t:=AD) (d:=gG fs) (k:=.int y) (v:=.bl AN) (d':=gG (fs++[y])) rfl rfl rfl rfl (by exact(Yp (by rw[AJ];exact hf)).trans (by rw[yB2 hm];rfl))
 .have:=kR (i:=7) (f:=T7) (gs:=[AY 5]) (E:=P5 AE ps BV A4 u3 u4 (.val (.int y)) (fs++[y]) DQ) (xs:=DQ.map D.int) (ds:=[.int y]) (x:=.non) (UD:=(DQ++[y]).map D.int) rfl rfl rfl (by
  simp only[T7,AJ];rw[XQ hr];simp)
  exact qJ this
structure Fd(ps:List (Int×Int))(cl:List Int)(A4 AE:Int)(fs DQ:List Int):Prop where
 nd:fs.Nodup
 rc:∀x∈fs,Rc ps cl A4 x
 rg:∀x∈fs,0<=x/\x<AE
 sub:∀x∈DQ,x∈fs
theorem Fd.len{cl:List Int}{fs DQ:List Int}(F:Fd ps cl A4 AE fs DQ):fs.length<=AE.toNat:=by
 have:=DB (l₂:=(C4 AE.toNat).map λ(j:Nat)=>(j:Int)) F.nd (λx hx=>by have{a,b}:=F.rg x hx;exact CJ.mpr {x.toNat,GL.mpr 'L',by lia});simpa using this
theorem yB3(R:Rg AE ps){kvs:List (Key×D)}{u4 u5:Sl}{NY VR:List Int}{r:Int}(hr:r∈NY)(F0:Fd ps BV.toList A4 AE NY VR)(i9:VR.length<=NY.length) : ∃fs DQ u,UR (.nm 5) uQ ((sc ps r).map D.int) (P5 AE ps BV A4 (.val (.dk kvs)) u4 u5 NY VR)=.ok (.nx (P5 AE ps BV A4 (.val (.dk kvs)) u4 u fs DQ))/\Fd ps BV.toList A4 AE fs DQ/\(∀x∈NY,x∈fs)/\(∀x∈VR,x∈DQ)/\(∀x∈fs,x∈NY\/x∈DQ)/\fs.length+VR.length=DQ.length+NY.length/\∀y,(r,y)∈ps->y∉BV.toList->y∈fs:=by
 have aK:=R.m2;have{E',e,fs,DQ,u,rfl,F,a,b,c,d,ex}:=Ah (t:=.nm 5) (g:=uQ) (λi E=>∃fs DQ u,E=P5 AE ps BV A4 (.val (.dk kvs)) u4 u fs DQ/\Fd ps BV.toList A4 AE fs DQ/\(∀x∈NY,x∈fs)/\(∀x∈VR,x∈DQ)/\(∀x∈fs,x∈NY\/x∈DQ)/\fs.length+VR.length=DQ.length+NY.length/\∀y∈(sc ps r).take i,y∉BV.toList->y∈fs)
  (ds:=(sc ps r).map D.int) (E:=P5 AE ps BV A4 (.val (.dk kvs)) u4 u5 NY VR) 0 {NY,VR,u5,rfl,F0,λ_ h=>h,λ_ h=>h,λ_ h=>.inl h,N4 _ _,λy h=>by simp at h}
  (λi d E hd hP=>by
   rw[ED] at hP ⊢;have{fs,DQ,u,hE,F,a,b,c,EU,ex}:=hP;subst hE;rw[AU] at hd;have{y,hy,rfl}:=BN.mp hd;have wT:(r,y)∈ps:=dG.mp (BJ hy);have{_,_,y0,y1}:=R.rg _ wT;have Nq:=F.len;have{pG,OR,e,h}:=yIG (AE:=AE) (ps:=ps) (BV:=BV) (A4:=A4) (u3:=.val (.dk kvs)) (u4:=u4) (fs:=fs) (DQ:=DQ) (y:=y) 'L' 'L';have oK:(sc ps r).take (i+1)=(sc ps r).take i++[y]:=by have{hi,e}:=AR.mp hy;rw[BK hi,e]
   refine{_,rfl,_,e,pG,OR,_,rfl,?_};rw[oK];rcases h with⟨hc,hm,rfl,rfl⟩|⟨Dc,rfl,rfl⟩
   .refine{{?_,?_,?_,?_},λx hx=>C1 _ (a x hx),λx hx=>C1 _ (b x hx),?_,by simp;lia,?_}
    .rw[FZ];exact{F.nd,D8.mpr {by simp,ER},λp hp q hq=>by rw[A1.mp hq];exact λz=>hm (z▸hp)}
    .intro x hx;rcases BU.mp hx with h|h
     .exact F.rc x h
     .rw[A1.mp h];exact .step (F.rc r (a r hr)) wT hc
    .intro x hx;rcases BU.mp hx with h|h
     .exact F.rg x h
     .rw[A1.mp h];exact{y0,y1}
    .intro x hx;rcases BU.mp hx with h|h
     .exact C1 _ (F.sub x h)
     .exact BO _ h
    .intro x hx;rcases BU.mp hx with h|h
     .rcases c x h with h|h
      .exact .inl h
      .exact .inr (C1 _ h)
     .exact .inr (BO _ h)
    .intro z hz dW;rcases BU.mp hz with h|h
     .exact C1 _ (ex z h dW)
     .exact BO _ h
   .refine{F,a,b,c,EU,λz hz dW=>?_};rcases BU.mp hz with h|h
    .exact ex z h dW
    .rw[A1.mp h] at dW ⊢;exact Dc.resolve_left dW)
 refine{fs,DQ,u,e,F,a,b,c,d,λy hy lN=>ex y ?_ lN};rw[ED,AJ,DE];exact dG.mpr hy
theorem zT1(R:Rg AE ps){kvs:List (Key×D)}(ht:Ju ps kvs){u3 u4 u5:Sl}(Mk:u3=.own AD (.dk kvs)\/u3=.val (.dk kvs)){NY:List Int}(F0:Fd ps BV.toList A4 AE NY NY)(hg:A4∈BV.toList\/A4∈NY) : ∃fs v3 v5,XV (QT [7] (gB (g2 L9 (AY 7) (J1 [])))) (OQ (LB (cO (AY 3) (O7 7 fP []) (J1 []))) (.nm 5) uQ) 100000 (P5 AE ps BV A4 u3 u4 u5 NY NY)=.ok (.nx (P5 AE ps BV A4 v3 u4 v5 fs []))/\fs.Nodup/\∀x,x∈fs↔Rc ps BV.toList A4 x:=by
 have aK:=R.m2;have{E',e,fs,Kj,u5',rfl,h1,h2}:=tB (t:=QT [7] (gB (g2 L9 (AY 7) (J1 [])))) (g:=OQ (LB (cO (AY 3) (O7 7 fP []) (J1 []))) (.nm 5) uQ)
  (λn E=>∃fs DQ u3 u5,E=P5 AE ps BV A4 u3 u4 u5 fs DQ/\(u3=.own AD (.dk kvs)\/u3=.val (.dk kvs))/\Fd ps BV.toList A4 AE fs DQ/\(A4∈BV.toList\/A4∈fs)/\(∀x∈fs,x∈DQ\/∀y,(x,y)∈ps->y∉BV.toList->y∈fs)/\DQ.length<=fs.length/\n=2 * (AE.toNat-fs.length)+DQ.length)
  (λE=>∃fs u3 u5,E=P5 AE ps BV A4 u3 u4 u5 fs []/\fs.Nodup/\∀x,x∈fs↔Rc ps BV.toList A4 x)
  (λn E hP=>by
   have{fs,DQ,u3,u5,hE,Mk,F,hg,hex,i9,hn}:=hP;subst hE;have tw:QT [7] (gB (g2 L9 (AY 7) (J1 []))) (P5 AE ps BV A4 u3 u4 u5 fs DQ)=.ok (!(DQ.map D.int).isEmpty,P5 AE ps BV A4 u3 u4 u5 fs DQ) :=
    WT (N7 (FW (x:=.lst (DQ.map D.int)) (y:=.lst []) rfl rfl (Rm (Pls.ints 0 DQ))))
   rcases Y9 DQ with rfl|⟨OR,r,hrr⟩
   .refine .inl {_,tw,fs,u3,u5,rfl,F.nd,λx=>{F.rc x,λh=>?_}};induction h with
    |refl h=>exact hg.resolve_left h
    |step _ he hc ih =>
     rcases hex _ ih with h|h
     .simp at h
     .exact h _ he hc
   .rw[List.concat_eq_append] at hrr;subst hrr;have hrf:r∈fs:=F.sub r 'S';rw[BC,EQ] at i9 hn;have F':Fd ps BV.toList A4 AE fs OR:={F.nd,F.rc,F.rg,λx hx=>F.sub x (C1 _ hx)};have{fs2,vQ,u,e,F2,a,b,c,d,ex}:=yB3 (kvs:=kvs) (u4:=u4) (u5:=u5) R hrf F' (AW (A3 _ _) i9);have Nq:=F2.len;have hfl2:=F.len;have hfl3:=DB F.nd a;have oT:O7 7 fP [] (P5 AE ps BV A4 (.val (.dk kvs)) u4 u5 fs (OR++[r]))=.ok (.int r,P5 AE ps BV A4 (.val (.dk kvs)) u4 u5 fs OR) :=
     kR (i:=7) (f:=fP) (gs:=[]) (t:=AD) (xs:=(OR++[r]).map D.int) (ds:=[]) (x:=.int r) (UD:=OR.map D.int) rfl rfl rfl (by simp[fP])
    have hgi:LB (cO (AY 3) (O7 7 fP []) (J1 [])) (P5 AE ps BV A4 u3 u4 u5 fs (OR++[r]))=.ok ((sc ps r).map D.int,P5 AE ps BV A4 (.val (.dk kvs)) u4 u5 fs OR):=by
     have h3:AY 3 (P5 AE ps BV A4 u3 u4 u5 fs (OR++[r]))=.ok (.dk kvs,P5 AE ps BV A4 (.val (.dk kvs)) u4 u5 fs (OR++[r])):=by rcases Mk with rfl|rfl<;>rfl
     have:=Pu (gx:=J1 []) (x:=.lst []) (o:=NA kvs (.inl r)) h3 oT rfl rfl;rw[ht r] at this;exact nB this
    refine .inr {_,_,2 * (AE.toNat-fs2.length)+vQ.length,?_,HG hgi e,by lia,fs2,vQ,_,u,rfl,.inr rfl,F2,hg.imp id (a _),λx hx=>?_,by lia,rfl}
    .rw[tw];simp
    .rcases c x hx with h|h
     .rcases hex x h with h|h
      .rcases BU.mp h with h|h
       .exact .inl (b x h)
       .rw[A1.mp h];exact .inr ex
      .exact .inr λy hy lN=>a y (h y hy lN)
     .exact .inl h) 100000 (2 * (AE.toNat-NY.length)+NY.length) (P5 AE ps BV A4 u3 u4 u5 NY NY) (by have:=F0.len;lia)
  {NY,NY,u3,u5,rfl,Mk,F0,hg,λx h=>.inl h,AL _,rfl}
 exact{fs,Kj,u5',e,h1,h2}
theorem Ao(R:Rg AE ps)(h0:0<=A4)(h1:A4<AE):∃fs:List Int,aD [.val (FS AE ps),.val (.int A4),.val (L7 BV)]=.ok (AD,.lst (fs.map D.int),.non)/\fs.Nodup/\∀x,x∈fs↔Rc ps BV.toList A4 x:=by
 have{kvs,u4,u5,e1,ht}:=zXK (AE:=AE) (ps:=ps) (BV:=BV) (A4:=A4) R.len;obtain⟨NY,hfs,F0,hg⟩:∃NY:List Int,(uW (gB (g2 L9 (AY 1) (AY 2))) (En (AY 1) (gC (.bl AN))) (gC (.dk []))) (XJ AE ps BV A4 (.own AD (.dk kvs)) u4 u5 .no .no)=.ok (gG NY,XJ AE ps BV A4 (.own AD (.dk kvs)) u4 u5 .no .no)/\Fd ps BV.toList A4 AE NY NY/\(A4∈BV.toList\/A4∈NY):=by
  have t:=N7 (FW (E:=XJ AE ps BV A4 (.own AD (.dk kvs)) u4 u5 .no .no) (ga:=AY 1) (gb:=AY 2) (x:=.int A4) (y:=L7 BV) rfl rfl (Pm _ _));by_cases hc:A4∈BV.toList
  .rw[decide_eq_false (λz=>z hc)] at t;exact{[],HG t rfl,{ER,λ_ h=>by simp at h,λ_ h=>by simp at h,λ_ h=>h},.inl hc}
  .rw[decide_eq_true hc] at t;exact{[A4],HG t rfl,{D8.mpr {by simp,ER},λx h=>by rw[A1.mp h];exact .refl hc,λx h=>by rw[A1.mp h];exact{h0,h1},λ_ h=>h},.inr 'S'}
 have{fs,v3,v5,e2,nd,hm}:=zT1 R ht (u5:=u5) (.inl rfl) F0 hg;have UX:∀l:List Int,(l.map λx=>((.inl x,.bl AN):Key×D)).map (λkv=>j2 kv.1)=l.map D.int:=λl=>by rw[DY];rfl
 refine{fs,P7 (G7 (X9 (d:=.dk []) rfl) (G7 e1 (G7 (X9 hfs) (G7 (E1:=P5 AE ps BV A4 (.own AD (.dk kvs)) u4 u5 NY NY) (X9 (E':=XJ AE ps BV A4 (.own AD (.dk kvs)) u4 u5 (.own AD (gG NY)) .no) (yA6 (d:=.lst (NY.map D.int)) (P8 (KR (d:=gG NY) rfl) ?_) (At _))) (G7 e2 (RD (ZG (d:=.lst (fs.map D.int)) (P8 (KR (d:=gG fs) rfl) ?_) ?_))))))) rfl,nd,hm}
 .exact congrArg (λl=>Out.ok (D.lst l)) (UX _)
 .exact congrArg (λl=>Out.ok (D.lst l)) (UX _)
 .simp only[cW,P5,XJ,D.flat,D.nod,uE];rfl
end
theorem tk{g:G}{E:Ev}{d:D}{k:Nat}{n:Int}(h0:E[0]?=AA (.own AN d))(B:Bag k d)(hk:k<900000)(hg:g E=.ok (.int n,E))(hn:1<=n)(aJ:n<2 ^ 200) : ∃r d',LH LR 0 [g] E=.ok (.int r,E.set 0 (.own AN d'))/\0<=r/\r<n/\Bag (k+1) d':=by have{r,d',e,a,b,B'}:=yBR B hk hn aJ;exact{r,d',Ti h0 (KR hg) h0 e,a,b,B'}
theorem Ul{α β:Type}(f:α->β):∀(l:List α) (i:Nat),(l.map f).eraseIdx i=(l.eraseIdx i).map f
 |[],_=>rfl
 |_::_,0=>rfl
 |a::l,i+1=>by simp[Ul f l i]
theorem Vu{α:Type}:∀{l:List α} {i:Nat} (h:i<l.length),(l[i]::l.eraseIdx i).Perm l
 |a::l,0,_=>.refl _
 |a::l,i+1,h=>by have:=Vu (l:=l) (i:=i) (by simpa using h);simp only[List.getElem_cons_succ,XI];exact(H9 _ _ _).trans (this.cons a)
theorem yB4{d:D}{k:Nat}{xs:List Int}(B:Bag k d)(hx:xs.length<=1000)(hk:k<800000) : ∃(ys:List Int) (d':D),uK [.own AN d,.val (.lst (xs.map D.int))]=.ok (AD,.lst (ys.map D.int),d')/\ys.Perm xs/\Bag (k+xs.length) d':=by
 have{E',e,ys,d',rfl,hp,B'}:=tB (t:=QT [2] (gB (g2 L9 (AY 2) (J1 [])))) (g:=X6 (O7 3 T7 [(O7 2 kL [(LH LR 0 [(OY [2] (gN QR [(AY 2)]))])])]))
  (λn E=>∃(rest FF:List Int) (d:D),E=[.own AN d,.val (.lst (xs.map D.int)),.own AD (.lst (rest.map D.int)),.own AD (.lst (FF.map D.int))]/\(FF++rest).Perm xs/\Bag (k+FF.length) d/\n=rest.length)
  (λE=>∃(FF:List Int) (d:D),E=[.own AN d,.val (.lst (xs.map D.int)),.own AD (.lst []),.own AD (.lst (FF.map D.int))]/\FF.Perm xs/\Bag (k+xs.length) d)
  (λn E hP=>by
   have{rest,FF,d,hE,hp,B,hn}:=hP;subst hE;have EU:=hp.length_eq;rw[BC] at EU;have tw:QT [2] (gB (g2 L9 (AY 2) (J1 []))) [.own AN d,.val (.lst (xs.map D.int)),.own AD (.lst (rest.map D.int)),.own AD (.lst (FF.map D.int))]=.ok (!(rest.map D.int).isEmpty,[.own AN d,.val (.lst (xs.map D.int)),.own AD (.lst (rest.map D.int)),.own AD (.lst (FF.map D.int))]) :=
    WT (N7 (FW (x:=.lst (rest.map D.int)) (y:=.lst []) rfl rfl (Rm (Pls.ints 0 rest))))
   by_cases hr:rest=[]
   .subst hr;rw[C5] at hp;exact .inl {_,tw,FF,d,rfl,hp,by rw[<-hp.length_eq];exact B}
   .have eE:0<rest.length:=List.length_pos_iff.mpr hr;have hg:OY [2] (gN QR [(AY 2)]) [.own AN d,.val (.lst (xs.map D.int)),.own AD (.lst (rest.map D.int)),.own AD (.lst (FF.map D.int))]=.ok (.int (rest.length:Int),[.own AN d,.val (.lst (xs.map D.int)),.own AD (.lst (rest.map D.int)),.own AD (.lst (FF.map D.int))]) :=
     ZG (P8 (KR (d:=.lst (rest.map D.int)) rfl) (Jg (by rw[AJ]))) rfl
    have{r,d',et,r0,r1,B'}:=tk (g:=OY [2] (gN QR [(AY 2)])) (E:=[.own AN d,.val (.lst (xs.map D.int)),.own AD (.lst (rest.map D.int)),.own AD (.lst (FF.map D.int))]) rfl B 'L' hg 'L' 'L';have i9:r.toNat<rest.length:=by lia
    have oT:O7 2 kL [(LH LR 0 [(OY [2] (gN QR [(AY 2)]))])] [.own AN d,.val (.lst (xs.map D.int)),.own AD (.lst (rest.map D.int)),.own AD (.lst (FF.map D.int))]=.ok (.int rest[r.toNat],[.own AN d',.val (.lst (xs.map D.int)),.own AD (.lst ((rest.eraseIdx r.toNat).map D.int)),.own AD (.lst (FF.map D.int))]) :=
     kR (i:=2) (f:=kL) (t:=AD) (xs:=rest.map D.int) (ds:=[.int r]) (x:=.int rest[r.toNat]) (UD:=(rest.eraseIdx r.toNat).map D.int) rfl (KR et) rfl (by simp only[kL,AJ,_L.guard];rw[if_pos {r0,r1,by lia},AU,BP i9];simp[Ul])
    refine .inr {_,_,(rest.eraseIdx r.toNat).length,?_,qJ (kR (i:=3) (f:=T7) (t:=AD) (xs:=FF.map D.int) (ds:=[.int rest[r.toNat]]) (x:=.non) (UD:=(FF++[rest[r.toNat]]).map D.int) rfl (KR oT) rfl (by simp only[T7,AJ];rw[XQ 'L'];simp)),?_,rest.eraseIdx r.toNat,FF++[rest[r.toNat]],d',rfl,?_,?_,rfl}
    .rw[tw];cases rest with
     |nil=>exact absurd rfl hr
     |cons a l=>rfl
    .rw[List.length_eraseIdx_of_lt i9];lia
    .rw[CP];exact((Vu i9).append_left FF).trans hp
    .rw[BC,EQ,<-Nat.add_assoc];exact B') 100000 xs.length [.own AN d,.val (.lst (xs.map D.int)),.own AD (.lst (xs.map D.int)),.own AD (.lst [])] (hJ (AW hx (DP _ _)))
  {xs,[],d,rfl,GF _,B,rfl}
 exact{ys,d',P7 (G7 (X9 (d:=.lst (xs.map D.int)) rfl) (G7 (X9 (d:=.lst []) rfl) (G7 e (RD (d:=.lst (ys.map D.int)) rfl)))) rfl,hp,B'}
noncomputable def U1(d:D)(D7:Int)(u2 u3 u4 u5 u6 u7 u8 u9 u10 u11:Sl):Ev:=[.own AN d,.val (.int D7),u2,u3,u4,u5,u6,u7,u8,u9,u10,u11]
theorem nN{xs:List Int}{ds:List D}{x:D}{i:Int}(h0:0<=i)(h:ds[i.toNat]?=AA x):E7 (.lst ds) (.int i)=.ok x:=by exact uL (sZ h0 h)
theorem yKY{d:D}{k:Nat}{D7:Int}(B:Bag k d)(hk:k<800000)(h1:1<=D7)(h2:D7<=24) : ∃AE d',I0 (.nm 2) (g2 E7 (J1 [(AY 1),(g2 NG (gC (.int 1)) (LH LR 0 [(AY 1)])),(g2 NG (gC (.int 1)) (LH LR 0 [(gN iJ [(gC (.int 7)),(AY 1)])]))]) (LH LR 0 [(gC (.int 3))])) (U1 d D7 .no .no .no .no .no .no .no .no .no .no)=.ok (.nx (U1 d' D7 (.val (.int AE)) .no .no .no .no .no .no .no .no .no))/\1<=AE/\AE<=D7/\Bag (k+3) d':=by
 have{a,d1,e1,a0,a1,B1}:=tk (g:=AY 1) (E:=U1 d D7 .no .no .no .no .no .no .no .no .no .no) rfl B (AO hk (DP _ _)) rfl h1 'L';have{b,d2,e2,b0,b1,B2}:=tk (g:=gN iJ [(gC (.int 7)),(AY 1)]) (E:=U1 d1 D7 .no .no .no .no .no .no .no .no .no .no) (n:=if D7<7 then D7 else 7) rfl B1 'L' rfl (by split<;>lia) (by split<;>lia);have{c,d3,e3,c0,c1,B3}:=tk (g:=gC (.int 3)) (E:=U1 d2 D7 .no .no .no .no .no .no .no .no .no .no) rfl B2 'L' rfl 'L' 'L';have hb:b<D7:=by split at b1<;>lia
 have KN:∃AE:Int,([D.int D7,.int (1+a),.int (1+b)])[c.toNat]?=AA (.int AE)/\1<=AE/\AE<=D7:=by
  have:c=0\/c=1\/c=2:=by lia
  rcases this with rfl|rfl|rfl
  .exact{D7,rfl,h1,bB _}
  .exact{1+a,rfl,by lia,by lia}
  .exact{1+b,rfl,by lia,by lia}
 have{AE,hm,m0,m1}:=KN;refine{AE,d3,N9 (FW (kK (RF (d:=.int D7) rfl (RF (FW (x:=.int 1) rfl e1 (d:=.int (1+a)) rfl) (KR (FW (x:=.int 1) rfl e2 (d:=.int (1+b)) rfl)))) (show 3<10000 by decide)) e3 (nN (xs:=[]) c0 hm)) rfl,m0,m1,B3}
theorem yKZ{d:D}{k:Nat}{D7 AE kind:Int}(B:Bag k d)(hk:k<800000)(h1:1<=AE)(h2:AE<=24) : ∃wanted d',I0 (.nm 4) (g2 E7 (J1 [(gC (.int 0)),(gC (.int 1)),(LH LR 0 [(g2 NG (AY 2) (gC (.int 1)))]),(g2 NG (AY 2) (LH LR 0 [(g2 X4 (gC (.int 5)) (AY 2))])),(gC (.int 120))]) (LH LR 0 [(gC (.int 5))])) (U1 d D7 (.val (.int AE)) (.val (.int kind)) .no .no .no .no .no .no .no .no)=.ok (.nx (U1 d' D7 (.val (.int AE)) (.val (.int kind)) (.val (.int wanted)) .no .no .no .no .no .no .no))/\0<=wanted/\wanted<=200/\Bag (k+3) d':=by
 have{a,d1,e1,a0,a1,B1}:=tk (g:=g2 NG (AY 2) (gC (.int 1))) (E:=U1 d D7 (.val (.int AE)) (.val (.int kind)) .no .no .no .no .no .no .no .no) rfl B (AO hk (DP _ _)) rfl 'L' 'L';have Na:X4 (.int 5) (.int AE)=.ok (.int (5 * AE)):=by simp only[X4,_L.guard];rw[if_pos (.inl {by decide,by decide})]
 have{b,d2,e2,b0,b1,B2}:=tk (g:=g2 X4 (gC (.int 5)) (AY 2)) (E:=U1 d1 D7 (.val (.int AE)) (.val (.int kind)) .no .no .no .no .no .no .no .no) rfl B1 'L' (FW (x:=.int 5) (y:=.int AE) rfl rfl Na) 'L' 'L';have{c,d3,e3,c0,c1,B3}:=tk (g:=gC (.int 5)) (E:=U1 d2 D7 (.val (.int AE)) (.val (.int kind)) .no .no .no .no .no .no .no .no) rfl B2 'L' rfl 'L' 'L';have KN:∃w:Int,([D.int 0,.int 1,.int a,.int (AE+b),.int 120])[c.toNat]?=AA (.int w)/\0<=w/\w<=200:=by
  have:c=0\/c=1\/c=2\/c=3\/c=4:=by lia
  rcases this with rfl|rfl|rfl|rfl|rfl
  .exact{0,rfl,by decide,by decide}
  .exact{1,rfl,by decide,by decide}
  .exact{a,rfl,a0,by lia}
  .exact{AE+b,rfl,by lia,by lia}
  .exact{120,rfl,by decide,by decide}
 have{w,hw,w0,w1}:=KN;exact{w,d3,N9 (FW (kK (RF (d:=.int 0) rfl (RF (d:=.int 1) rfl (RF e1 (RF (FW (x:=.int AE) rfl e2 (d:=.int (AE+b)) rfl) (KR (d:=.int 120) rfl))))) (show 5<10000 by decide)) e3 (nN (xs:=[]) c0 hw)) rfl,w0,w1,B3}
structure Ln(AE:Int)(kvs:List (List Int×D)):Prop where
 nd:(kvs.map (·.1)).Nodup
 rg:∀k∈kvs.map (·.1),∃a b:Int,k=[a,b]/\0<=a/\a<AE/\0<=b/\b<AE/\a≠b
theorem Uk(kvs:List (List Int×D))(k:List Int)(v:D):(O4 kvs k v).map (·.1)=if k∈kvs.map (·.1) then kvs.map (·.1) else kvs.map (·.1)++[k]:=by
 unfold O4;by_cases h:k∈kvs.map (·.1)
 .rw[if_pos h,if_pos]
  .rw[DY];refine JA λkv _=>?_;simp only[OI];split<;>rfl
  .have{kv,Nf,e}:=CJ.mp h;exact HI.mpr {kv,Nf,decide_eq_true e}
 .rw[if_neg h,if_neg]
  .simp
  .intro z;have{kv,Nf,e}:=HI.mp z;exact h (CJ.mpr {kv,Nf,of_decide_eq_true e})
theorem Ln.put{AE:Int}{kvs:List (List Int×D)}(L:Ln AE kvs){a b:Int}(h:0<=a/\a<AE/\0<=b/\b<AE/\a≠b)(v:D):Ln AE (O4 kvs [a,b] v):=by
 constructor
 .rw[Uk];split
  .exact L.nd
  .rename_i hn;rw[FZ];exact{L.nd,D8.mpr {by simp,ER},λp hp q hq=>by rw[A1.mp hq];exact λz=>hn (z▸hp)}
 .rw[Uk];split
  .exact L.rg
  .intro k hk;rcases BU.mp hk with h'|h'
   .exact L.rg k h'
   .exact{a,b,A1.mp h',h}
theorem Pk{kvs:List (List Int×D)}{a b:Int}(h:kvs.length<10000):jZ (.dt kvs) (.tup [.int a,.int b]) (.bl AN)=.ok (.dt (O4 kvs [a,b] (.bl AN))):=by exact XQ h
abbrev Zt:GS:=NH (gB (g2 YB (AY 3) (gC (.int 3)))) (QV 5 (T8 [(g2 E7 (J1 [(LH LR 0 [(AY 6)]),(g2 j3 (g2 j3 (AY 6) (gC (.int 1))) (LH LR 0 [(gN iJ [(AY 6),(gC (.int 2))])])),(gC (.int 0))]) (AY 3)),(AY 6)]) (gC (.bl AN))) PB
section
variable{D7 AE kind wanted:Int}
abbrev OZ(d:D)(D7 AE kind wanted:Int)(kvs:List (List Int×D))(u6 u7 u8 u9:Sl):Ev:=U1 d D7 (.val (.int AE)) (.val (.int kind)) (.val (.int wanted)) (.own AD (.dt kvs)) u6 u7 u8 u9 .no .no
theorem yIH{d:D}{k:Nat}(B:Bag k d)(hk:k<800000)(h1:1<=AE)(h2:AE<=24)(gS:0<=kind) : ∃(d':D) (kvs:List (List Int×D)) (u6:Sl),OQ (sS (gC (.int 1)) (AY 2)) (.nm 6) Zt (OZ d D7 AE kind wanted [] .no .no .no .no)=.ok (.nx (OZ d' D7 AE kind wanted kvs u6 .no .no .no))/\Bag (k+48) d'/\Ln AE kvs/\kvs.length<=24:=by
 have{E',e,d',kvs,u6,rfl,B',L,hl}:=bN (gi:=sS (gC (.int 1)) (AY 2)) (t:=.nm 6) (g:=Zt) (E:=OZ d D7 AE kind wanted [] .no .no .no .no)
  (λi E=>∃(d':D) (kvs:List (List Int×D)) (u6:Sl),E=OZ d' D7 AE kind wanted kvs u6 .no .no .no/\Bag (k+2 * i) d'/\Ln AE kvs/\kvs.length<=i) (yA7 (i:=1) (j:=AE) rfl rfl {{by decide,by decide},by lia,by lia}) {d,[],.no,rfl,B,{ER,λ_ h=>by simp at h},AL _}
  (λi x E hx hP=>by
   have{d,kvs,u6,hE,B,L,hl}:=hP;subst hE;have hi:=(AR.mp hx).1;simp only[T4,AJ,J5] at hi;simp only[T4] at hx;rw[AU,K6 hi] at hx;obtain rfl:=BH hx;obtain⟨p,hp⟩:∃p:Int,p=1+(i:Int):={_,rfl};show ∃E1,WY (Tg.nm 6) (.int (1+(i:Int))) (OZ d D7 AE kind wanted kvs u6 Sl.no Sl.no Sl.no)=Out.ok E1/\_;rw[<-hp];refine{_,rfl,?_};by_cases hk3:kind<3
   .have{a,d1,e1,a0,a1,B1}:=tk (g:=AY 6) (E:=OZ d D7 AE kind wanted kvs (.val (.int p)) .no .no .no) (n:=p) rfl B 'L' rfl 'L' 'L';have{b,d2,e2,b0,b1,B2}:=tk (g:=gN iJ [(AY 6),(gC (.int 2))]) (E:=OZ d1 D7 AE kind wanted kvs (.val (.int p)) .no .no .no) (n:=if 2<p then 2 else p) rfl B1 'L' rfl (by split<;>lia) (by split<;>lia);have KN:∃v:Int,([D.int a,.int (p-1-b),.int 0])[kind.toNat]?=AA (.int v)/\0<=v/\v<p:=by
     have:kind=0\/kind=1\/kind=2:=by lia
     rcases this with h|h|h
     .exact{a,by rw[h];rfl,a0,a1}
     .exact{p-1-b,by rw[h];rfl,by split at b1<;>lia,by lia}
     .exact{0,by rw[h];rfl,bB _,HX a0 a1}
    have{v,hv,v0,v1}:=KN;refine{_,ZC (N7 (FW (x:=.int kind) (y:=.int 3) rfl rfl (d:=.bl AN) (by simp only[YB];rw[decide_eq_true hk3]))) (bP (i:=5) (E1:=OZ d D7 AE kind wanted kvs (.val (.int p)) .no .no .no) (E2:=OZ d2 D7 AE kind wanted kvs (.val (.int p)) .no .no .no) (t:=AD) (d:=.dt kvs) (v:=.bl AN) rfl rfl (sY (RF (FW (kK (RF e1 (RF (FW (x:=.int (p-1)) rfl e2 (d:=.int (p-1-b)) rfl) (KR (d:=.int 0) rfl))) (show 3<10000 by decide)) (y:=.int kind) rfl (nN (xs:=[]) gS hv)) (KR (d:=.int p) rfl)) (show 2<10000 by decide)) rfl (Pk 'L')),d2,_,_,rfl,B2.mono 'L',L.put {v0,by lia,LF (HX a0 a1),by lia,ZB v1} _,AW (Gc _ _ _) (EG hl (AL _))}
   .exact{_,TN (N7 (FW (x:=.int kind) (y:=.int 3) rfl rfl (d:=.bl AD) (by simp only[YB];rw[decide_eq_false hk3]))) rfl,d,kvs,_,rfl,B.mono 'L',L,AW hl (A3 _ _)})
 simp only[T4,AJ,J5] at B' hl;exact{d',kvs,u6,e,B'.mono 'L',L,by lia}
abbrev Zs:GS:=(FX (I0 (.nm 8) (LH LR 0 [(AY 2)])) (FX (I0 (.nm 9) (g2 E7 (J1 [(LH LR 0 [(AY 2)]),(g2 UP (g2 NG (g2 NG (AY 8) (gC (.int 1))) (LH LR 0 [(gC (.int 2))])) (AY 2))]) (LH LR 0 [(gC (.int 2))]))) (NH (QT [5] (bK (gB (g2 L9 (AY 8) (AY 9))) (gB (g2 YB (gN QR [(AY 5)]) (gC (.int 120)))))) (QV 5 (T8 [(AY 8),(AY 9)]) (gC (.bl AN))) PB)))
theorem yII{d:D}{k:Nat}{u6:Sl}{kvs:List (List Int×D)}(B:Bag k d)(hk:k<800000)(h1:1<=AE)(h2:AE<=24)(hw0:0<=wanted)(hw1:wanted<=200)(L:Ln AE kvs)(hl:kvs.length<=120) : ∃(d':D) (dM:List (List Int×D)) (u7 u8 u9:Sl),OQ (cS (AY 4)) (.nm 7) Zs (OZ d D7 AE kind wanted kvs u6 .no .no .no)=.ok (.nx (OZ d' D7 AE kind wanted dM u6 u7 u8 u9))/\Bag (k+800) d'/\Ln AE dM/\dM.length<=120:=by
 have{E',e,d',dM,u7,u8,u9,rfl,B',L',jE}:=bN (gi:=cS (AY 4)) (t:=.nm 7) (g:=Zs) (E:=OZ d D7 AE kind wanted kvs u6 .no .no .no)
  (λi E=>∃(d':D) (kvs:List (List Int×D)) (u7 u8 u9:Sl),E=OZ d' D7 AE kind wanted kvs u6 u7 u8 u9/\Bag (k+4 * i) d'/\Ln AE kvs/\kvs.length<=120) (Ff (j:=wanted) rfl {by lia,by lia}) {d,kvs,.no,.no,.no,rfl,B,L,hl}
  (λi x E hx hP=>by
   have{d,kvs,u7,u8,u9,hE,B,L,hl}:=hP;subst hE;have hi:=(AR.mp hx).1;simp only[T4,AJ,J5] at hi;have{a,d1,e1,a0,a1,B1}:=tk (g:=AY 2) (E:=OZ d D7 AE kind wanted kvs u6 (.val x) u8 u9) (n:=AE) rfl B 'L' rfl (h1) 'L';have{b,d2,e2,b0,b1,B2}:=tk (g:=AY 2) (E:=OZ d1 D7 AE kind wanted kvs u6 (.val x) (.val (.int a)) u9) (n:=AE) rfl B1 'L' rfl (h1) 'L';have{c,d3,e3,c0,c1,B3}:=tk (g:=gC (.int 2)) (E:=OZ d2 D7 AE kind wanted kvs u6 (.val x) (.val (.int a)) u9) (n:=2) rfl B2 'L' rfl 'L' 'L';have{f,d4,e4,f0,f1,B4}:=tk (g:=gC (.int 2)) (E:=OZ d3 D7 AE kind wanted kvs u6 (.val x) (.val (.int a)) u9) (n:=2) rfl B3 'L' rfl 'L' 'L';have m0:0<=(a+1+c) % AE:=JL _ (Int.ne_of_gt (HX a0 a1));have m1:(a+1+c) % AE<AE:=HY _ (HX a0 a1);have Nb:UP (.int (a+1+c)) (.int AE)=.ok (.int ((a+1+c) % AE)):=by simp only[UP,_L.guard];rw[if_pos (HX a0 a1)]
   have KN:∃v:Int,([D.int b,.int ((a+1+c) % AE)])[f.toNat]?=AA (.int v)/\0<=v/\v<AE:=by
    have:f=0\/f=1:=by lia
    rcases this with h|h
    .exact{b,by rw[h];rfl,b0,b1}
    .exact{(a+1+c) % AE,by rw[h];rfl,m0,m1}
   have{v,hv,v0,v1}:=KN;refine{_,rfl,?_};have s1:I0 (.nm 8) (LH LR 0 [(AY 2)]) (OZ d D7 AE kind wanted kvs u6 (.val x) u8 u9)=.ok (.nx (OZ d1 D7 AE kind wanted kvs u6 (.val x) (.val (.int a)) u9)):=N9 e1 rfl;have s2:I0 (.nm 9) (g2 E7 (J1 [(LH LR 0 [(AY 2)]),(g2 UP (g2 NG (g2 NG (AY 8) (gC (.int 1))) (LH LR 0 [(gC (.int 2))])) (AY 2))]) (LH LR 0 [(gC (.int 2))])) (OZ d1 D7 AE kind wanted kvs u6 (.val x) (.val (.int a)) u9)=.ok (.nx (OZ d4 D7 AE kind wanted kvs u6 (.val x) (.val (.int a)) (.val (.int v)))) :=
    N9 (FW (kK (RF e2 (KR (FW (FW (x:=.int (a+1)) rfl e3 (d:=.int (a+1+c)) rfl) (y:=.int AE) rfl Nb))) (show 2<10000 by decide)) e4 (nN (xs:=[]) f0 hv)) rfl
   have t1:gB (g2 L9 (AY 8) (AY 9)) (N6 [5] (OZ d4 D7 AE kind wanted kvs u6 (.val x) (.val (.int a)) (.val (.int v))))=.ok (decide (a≠v),N6 [5] (OZ d4 D7 AE kind wanted kvs u6 (.val x) (.val (.int a)) (.val (.int v)))) :=
    N7 (FW (x:=.int a) (y:=.int v) rfl rfl (qK _ _))
   have t2:gB (g2 YB (gN QR [(AY 5)]) (gC (.int 120))) (N6 [5] (OZ d4 D7 AE kind wanted kvs u6 (.val x) (.val (.int a)) (.val (.int v))))=.ok (decide ((kvs.length:Int)<120),N6 [5] (OZ d4 D7 AE kind wanted kvs u6 (.val x) (.val (.int a)) (.val (.int v)))) :=
    N7 (FW (x:=.int kvs.length) (P8 (KR (d:=.dt kvs) rfl) rfl) (y:=.int 120) rfl rfl)
   by_cases Of:a=v
   .rw[decide_eq_false (λz=>z Of)] at t1;exact{_,G7 s1 (G7 s2 (TN (WT (zE t1)) rfl)),d4,kvs,_,_,_,rfl,B4.mono 'L',L,hl}
   rw[decide_eq_true Of] at t1;by_cases lT:(kvs.length:Int)<120
   .rw[decide_eq_true lT] at t2;exact{_,G7 s1 (G7 s2 (ZC (WT (mT t1 t2)) (bP (i:=5) (E1:=OZ d4 D7 AE kind wanted kvs u6 (.val x) (.val (.int a)) (.val (.int v))) (E2:=OZ d4 D7 AE kind wanted kvs u6 (.val x) (.val (.int a)) (.val (.int v))) (t:=AD) (d:=.dt kvs) (v:=.bl AN) (k:=.tup [.int a,.int v]) rfl rfl rfl rfl (Pk (hJ (AW hl (DP _ _))))))),d4,_,_,_,_,rfl,B4.mono 'L',L.put {a0,a1,v0,v1,Of} _,AW (Gc _ _ _) 'L'}
   .rw[decide_eq_false lT] at t2;exact{_,G7 s1 (G7 s2 (TN (WT (mT t1 t2)) rfl)),d4,kvs,_,_,_,rfl,B4.mono 'L',L,hl})
 simp only[T4,AJ,J5] at B';exact{d',dM,u7,u8,u9,e,B'.mono 'L',L',jE}
end
def ri(n:Nat):List Int:=(C4 n).map λ(j:Nat)=>(0:Int)+(j:Int)
theorem Pj(n:Nat):T4 0 n=(ri n).map D.int:=by simp[T4,ri]
theorem MQ{n:Nat}{x:Int}:x∈ri n↔0<=x/\x<n:=by
 unfold ri;constructor
 .intro h;have{j,hj,rfl}:=CJ.mp h;have:=GL.mp hj;lia
 .intro zz';have{a,b}:=zz';exact CJ.mpr {x.toNat,GL.mpr 'L',by lia}
theorem yIJ(n:Nat):(ri n).Nodup:=List.Pairwise.map _ (λa b h z=>h 'L') List.nodup_range
theorem cV(n:Nat):(ri n).length=n:=by simp[ri]
def WW(ys:List Int)(a:Int):Int:=ys.getD a.toNat 0
def pk(ys:List Int)(k:List Int):Int×Int:=match k with
 |[a,b]=>(WW ys a,WW ys b)
 |_=>(0,0)
theorem yN{ys:List Int}{a:Int}(h0:0<=a)(h:a.toNat<ys.length):E7 (.lst (ys.map D.int)) (.int a)=.ok (.int (WW ys a)):=by refine nN (xs:=[]) h0 ?_;rw[AU,BP h];simp[WW,h]
theorem Eh{ys:List Int}{a:Int}(h:a.toNat<ys.length):WW ys a∈ys:=by
 have:WW ys a=ys[a.toNat]:=by simp[WW,h]
 rw[this];exact FQ h
theorem Eg{ys:List Int}(hn:ys.Nodup){a b:Int}(a0:0<=a)(b0:0<=b)(ha:a.toNat<ys.length)(hb:b.toNat<ys.length)(e:WW ys a=WW ys b):a=b:=by
 have e1:WW ys a=ys[a.toNat]:=by simp[WW,ha]
 have e2:WW ys b=ys[b.toNat]:=by simp[WW,hb]
 rw[e1,e2] at e;rcases RV a.toNat b.toNat with h|h|h
 .exact absurd e (DM.mp hn _ _ ha hb h)
 .lia
 .exact absurd e.symm (DM.mp hn _ _ hb ha h)
theorem Vt:∀ps:List (Int×Int),pAA (ps.map M4)=AN
 |[]=>by simp[pAA]
 |p::ps=>by simp[pAA,D.nod,M4,Vt ps]
section
variable{D7 AE kind wanted:Int}
def Rs(ys:List Int)(d:D):List D:=match d with
 |.tup [.int a,.int b]=>[M4 (WW ys a,WW ys b)]
 |_=>[]
theorem Sz{ys:List Int}:∀{ks:List (List Int)},(∀k∈ks,∃a b:Int,k=[a,b]/\0<=a/\a<AE/\0<=b/\b<AE/\a≠b)->(ks.map uN).flatMap (Rs ys)=(ks.map (pk ys)).map M4
 |[],_=>rfl
 |k::ks,h=>by have{a,b,rfl,_}:=h k A2;simp only[AV,EC,Sz λk hk=>h k (A5 _ hk)];rfl
theorem fX{x AE:Int}{n:Nat}(h:n=AE.toNat)(h0:0<=x)(h1:x<AE):x.toNat<n:=by lia
theorem yB6{d:D}{k:Nat}(B:Bag k d)(hk:k<700000)(h1:1<=D7)(h2:D7<=24) : ∃(AE:Int) (ps:List (Int×Int)) (A4:Int) (d':D),qU [.own AN d,.val (.int D7)]=.ok (AD,.tup [FS AE ps,.int A4],d')/\Net AE ps/\AE<=D7/\0<=A4/\A4<AE/\Bag (k+1000) d':=by
 have{AE,d1,e1,m1,m2,B1}:=yKY B (AO hk (DP _ _)) h1 h2;have{kind,d2,e2,k0,k1,B2}:=tk (g:=gC (.int 4)) (E:=U1 d1 D7 (.val (.int AE)) .no .no .no .no .no .no .no .no .no) rfl B1 'L' rfl 'L' 'L';have{wanted,d3,e3,w0,w1,B3}:=yKZ (D7:=D7) (AE:=AE) (kind:=kind) B2 'L' m1 (LD m2 h2);have{d4,kvs,u6,e4,B4,L4,l4}:=yIH (D7:=D7) (AE:=AE) (kind:=kind) (wanted:=wanted) B3 'L' m1 (LD m2 h2) k0;have{d5,kvs,u7,u8,u9,e5,B5,L5,l5}:=yII (D7:=D7) (AE:=AE) (kind:=kind) (wanted:=wanted) (u6:=u6) B4 'L' m1 (LD m2 h2) w0 w1 L4 (AW l4 (DP _ _));have{ys,d6,e6,hp,B6}:=yB4 (xs:=ri AE.toNat) B5 (by rw[cV];lia) 'L';have dY:ys.length=AE.toNat:=by rw[hp.length_eq,cV]
 have Mc:ys.Nodup:=hp.nodup_iff.mpr (yIJ _);have Md:∀x,x∈ys->0<=x/\x<AE:=λx hx=>by have:=MQ.mp (hp.mem_iff.mp hx);lia
 rw[cV] at B6;have s6:I0 (.nm 10) (LH uK 0 [(Jp (AY 2))]) (OZ d5 D7 AE kind wanted kvs u6 u7 u8 u9)=.ok (.nx (U1 d6 D7 (.val (.int AE)) (.val (.int kind)) (.val (.int wanted)) (.own AD (.dt kvs)) u6 u7 u8 u9 (.val (.lst (ys.map D.int))) .no)):=by refine N9 (Ti (ds:=[.lst ((ri AE.toNat).map D.int)]) (E1:=OZ d5 D7 AE kind wanted kvs u6 u7 u8 u9) (t:=AN) (d:=d5) rfl (KR (HG (a:=(.int AE,OZ d5 D7 AE kind wanted kvs u6 u7 u8 u9)) rfl ?_)) rfl e6) rfl;simp only[_L.guard];rw[if_pos {by lia,by lia},Pj]
 have{a,d7,e7,a0,a1,B7}:=tk (g:=AY 2) (E:=U1 d6 D7 (.val (.int AE)) (.val (.int kind)) (.val (.int wanted)) (.own AD (.dt kvs)) u6 u7 u8 u9 (.val (.lst (ys.map D.int))) .no) (n:=AE) rfl B6 'L' rfl (m1) 'L';have{c,d8,e8,c0,c1,B8}:=tk (g:=gC (.int 3)) (E:=U1 d7 D7 (.val (.int AE)) (.val (.int kind)) (.val (.int wanted)) (.own AD (.dt kvs)) u6 u7 u8 u9 (.val (.lst (ys.map D.int))) .no) (n:=3) rfl B7 'L' rfl 'L' 'L';have hz:(0:Int).toNat<ys.length:=by rw[dY];lia
 have ZN:=Md _ (Eh (ys:=ys) (a:=0) hz);have KN:∃g:Int,([D.int (WW ys 0),.int (WW ys 0),.int a])[c.toNat]?=AA (.int g)/\0<=g/\g<AE:=by
  have:c=0\/c=1\/c=2:=by lia
  rcases this with h|h|h
  .exact{_,by rw[h];rfl,ZN.1,ZN.2}
  .exact{_,by rw[h];rfl,ZN.1,ZN.2}
  .exact{a,by rw[h];rfl,a0,a1}
 have{A4,hg,g0,g1}:=KN;obtain⟨E9,lX⟩:∃E9,E9=U1 d8 D7 (.val (.int AE)) (.val (.int kind)) (.val (.int wanted)) (.own AD (.dt kvs)) u6 u7 u8 u9 (.val (.lst (ys.map D.int))) (.val (.int A4)):={_,rfl};have s7:I0 (.nm 11) (g2 E7 (J1 [(g2 E7 (AY 10) (gC (.int 0))),(g2 E7 (AY 10) (gC (.int 0))),(LH LR 0 [(AY 2)])]) (LH LR 0 [(gC (.int 3))])) (U1 d6 D7 (.val (.int AE)) (.val (.int kind)) (.val (.int wanted)) (.own AD (.dt kvs)) u6 u7 u8 u9 (.val (.lst (ys.map D.int))) .no)=.ok (.nx E9):=by rw[lX];exact N9 (FW (kK (RF (FW (x:=.lst (ys.map D.int)) (y:=.int 0) rfl rfl (yN 'D' hz)) (RF (FW (x:=.lst (ys.map D.int)) (y:=.int 0) rfl rfl (yN 'D' hz)) (KR e7))) (show 3<10000 by decide)) e8 (nN (xs:=[]) c0 hg)) rfl
 obtain⟨qs,jB⟩:∃qs,qs=(kvs.map (·.1)).map (pk ys):={_,rfl};have eO:RC (LB (AY 5)) 2 [10] (.tp [(.nm 0),(.nm 1)]) RA (T8 [(g2 E7 (AY 2) (AY 0)),(g2 E7 (AY 2) (AY 1))]) (N6 [5] E9)=.ok (.lst (qs.map M4),N6 [5] E9):=by
  have:=kT (gi:=LB (AY 5)) (k:=2) (js:=[10]) (t:=.tp [(.nm 0),(.nm 1)]) (tt:=RA) (ge:=T8 [(g2 E7 (AY 2) (AY 0)),(g2 E7 (AY 2) (AY 1))]) (E:=N6 [5] E9) (E1:=N6 [5] E9) (ds:=(kvs.map (·.1)).map uN) (Rs ys) (λE=>∃x y,E=[x,y,.val (.lst (ys.map D.int))]) (by rw[DY,lX];rfl) (by rw[lX];exact{_,_,rfl}) (by rw[AJ,AJ];lia) (λx hx E hE=>by
   have{ky,Nd,rfl}:=CJ.mp hx;have{p,q,rfl}:=hE;have{a,b,rfl,a0,a1,b0,b1,_}:=L5.rg ky Nd;exact{_,rfl,AN,_,rfl,.inl {rfl,_,_,sY (RF (FW (x:=.lst (ys.map D.int)) (y:=.int a) rfl rfl (yN a0 (fX dY a0 a1))) (KR (FW (x:=.lst (ys.map D.int)) (y:=.int b) rfl rfl (yN b0 (fX dY b0 b1))))) (show 2<10000 by decide),rfl,_,_,rfl}}) (λEc hEc=>by
   rw[lX];have:∀(u:Sl) (j:Nat),j≠10->j4 Ec 2 [10] j (bJ [5] j u)=bJ [5] j u:=λu j hj=>by
    cases u with
    |no=>rfl
    |val d=>rfl
    |own t d=>simp only[bJ];split<;>rfl
   simp only[WZ,N6,U1,iN,cM,ED,Nat.reduceAdd];rw[this u6 6 'D',this u7 7 'D',this u8 8 'D',this u9 9 'D'];rfl)
  rw[this,Sz L5.rg,jB]
 have Mz:Net AE (Z7 qs):=by
  have pm:=uF qs;refine{m1,LD m2 h2,by rw[pm.length_eq,jB,AJ,AJ];exact l5,λp hp=>?_,zXE ?_}
  .have hp:=pm.mem_iff.mp hp;rw[jB] at hp;have{ky,Nd,rfl}:=CJ.mp hp;have{a,b,rfl,a0,a1,b0,b1,ab}:=L5.rg ky Nd;have ha:=Md _ (Eh (ys:=ys) (a:=a) (fX dY a0 a1));have hb:=Md _ (Eh (ys:=ys) (a:=b) (fX dY b0 b1));exact{ha.1,ha.2,hb.1,hb.2,λz=>ab (Eg Mc a0 b0 (fX dY a0 a1) (fX dY b0 b1) z)}
  .rw[jB];refine D3.mpr (List.Pairwise.imp_of_mem ?_ L5.nd);intro x y hx hy hxy z;have{a,b,rfl,a0,a1,b0,b1,ab}:=L5.rg x hx;have{a',b',rfl,a0',a1',b0',b1',ab'}:=L5.rg y hy;simp only[pk,Prod.mk.injEq] at z;exact hxy (by rw[Eg Mc a0 a0' (fX dY a0 a1) (fX dY a0' a1') z.1,Eg Mc b0 b0' (fX dY b0 b1) (fX dY b0' b1') z.2])
 refine{AE,Z7 qs,A4,d8,P7 (E':=E9) (G7 e1 (G7 (N9 e2 rfl) (G7 e3 (G7 (X9 (d:=.dt []) rfl) (G7 e4 (G7 e5 (G7 s6 (G7 s7 (RD (ZG (d:=.tup [FS AE (Z7 qs),.int A4]) (sY (RF (sY (RF (d:=.int AE) (by rw[lX];rfl) (KR (P8 (KR (P8 (KR eO) (Wm qs))) rfl))) (show 2<10000 by decide)) (KR (d:=.int A4) (by rw[lX];rfl))) (show 2<10000 by decide)) ?_)))))))))) (by rw[lX];rfl),Mz,m2,g0,g1,B8.mono 'L'};rw[lX];simp only[cW,U1,FS,D.flat,pA9,D.nod,pAA,Vt];rfl
end
section
variable{ps:List (Int×Int)}{cl:List Int}{g x a b c:Int}
theorem Rc.st(h:Rc ps cl g x):g∉cl:=by
 induction h with
 |refl h=>exact h
 |step _ _ _ ih=>exact ih
theorem Rc.ne(h:Rc ps cl g x):x∉cl:=by
 cases h with
 |refl h=>exact h
 |step _ _ h=>exact h
theorem Rc.mono{dl:List Int}(hs:∀z∈dl,z∈cl)(h:Rc ps cl g x):Rc ps dl g x:=by
 induction h with
 |refl h=>exact .refl λz=>h (hs _ z)
 |step _ e h ih=>exact .step ih e λz=>h (hs _ z)
theorem Rc.range{AE:Int}(R:Rg AE ps)(h0:0<=g)(h1:g<AE)(h:Rc ps cl g x):0<=x/\x<AE:=by
 cases h with
 |refl _=>exact{h0,h1}
 |step _ e _=>have{_,_,a,b}:=R.rg _ e;exact{a,b}
theorem fM(h:a≠b):a∉[b]:=λz=>h (A1.mp z)
theorem Rc.by(b:Int)(h:Rc ps cl g x):Rc ps [b] g x\/Rc ps cl g b:=by
 induction h with
 |refl h =>
  by_cases e:g=b
  .exact .inr (by rw[<-e];exact .refl h)
  .exact .inl (.refl (fM e))
 |@step x y h e c ih =>
  rcases ih with ih|ih
  .by_cases eb:y=b
   .exact .inr (by rw[<-eb];exact .step h e c)
   .exact .inl (.step ih e (fM eb))
  .exact .inr ih
def Dom(ps:List (Int×Int))(g c x:Int):Prop:=Rc ps [] g x/\¬Rc ps [c] g x
theorem Dom.refl(h:Rc ps [] g x):Dom ps g x x:={h,λz=>z.ne A2}
theorem Dom.gate(h:Rc ps [] g x):Dom ps g g x:={h,λz=>z.st A2}
theorem Dom.rc(h:Dom ps g c x):Rc ps [] g c:=(h.1.by c).resolve_left h.2
theorem Dom.trans(h1:Dom ps g a b)(h2:Dom ps g b c):Dom ps g a c:={h2.1,λz=>(z.by b).elim h2.2 h1.2}
theorem Dom.anti(h1:Dom ps g a b)(h2:Dom ps g b a):a=b:=IL λne=>by
 have KN:∀x,Rc ps [] g x->Rc ps [a,b] g x:=λx h=>by
  have two:∀y:Int,y≠a->y≠b->y∉[a,b]:=λy p q z=>by simp only[A8,CG,or_false] at z;exact z.elim p q
  induction h with
  |refl _ =>
   refine .refl (two g (λe=>h2.2 ?_) (λe=>h1.2 ?_))
   .rw[<-e];exact .refl (fM (by rw[e];exact ne))
   .rw[<-e];exact .refl (fM (by rw[e];exact FI ne))
  |@step x y _ e _ ih =>
   refine .step ih e (two y (λq=>h2.2 ?_) (λq=>h1.2 ?_))
   .rw[<-q];exact .step (ih.mono 'S') e (fM (by rw[q];exact ne))
   .rw[<-q];exact .step (ih.mono 'S') e (fM (by rw[q];exact FI ne))
 exact(KN a h2.1).ne A2
theorem Dom.lin(h1:Dom ps g a x)(h2:Dom ps g b x):Dom ps g a b\/Dom ps g b a:=by
 by_cases e:Rc ps [a] g b
 .refine .inr {h1.rc,λz=>?_};have ne:a≠b:=λq=>e.ne (by rw[q];exact A2);have KN:∀x,Rc ps [] g x->Rc ps [a] g x\/Rc ps [b] g x:=λx h=>by
   induction h with
   |refl _ =>
    by_cases q:g=a
    .exact .inr (.refl (fM (by rw[q];exact ne)))
    .exact .inl (.refl (fM q))
   |@step x y _ e' _ ih =>
    rcases ih with ih|ih
    .by_cases q:y=a
     .exact .inr (by rw[q];exact z)
     .exact .inl (.step ih e' (fM q))
    .by_cases q:y=b
     .exact .inl (by rw[q];exact e)
     .exact .inr (.step ih e' (fM q))
  exact(KN x h1.1).elim h1.2 h2.2
 .exact .inl {h2.rc,e}
theorem Vs{p q:Int->Bool}:∀{l:List Int},(∀x∈l,p x=AN->q x=AN)->(l.filter p).length<=(l.filter q).length
 |[],_=>AL _
 |x::l,h=>by
  have ih:=Vs (l:=l) λy hy=>h y (A5 _ hy);have hx:=h x A2;rw[KL,KL];split
  .rename_i e;rw[if_pos (hx e)];simp only[BA];lia
  .split
   .simp only[BA];lia
   .exact ih
theorem Gz{p q:Int->Bool}{y:Int}(hq:q y=AN)(hp:¬p y=AN):∀{l:List Int},(∀x∈l,p x=AN->q x=AN)->y∈l->(l.filter p).length<(l.filter q).length
 |x::l,h,hy=>by
  have bU:=Vs (l:=l) λy hy=>h y (A5 _ hy);have hx:=h x A2;rw[KL,KL];rcases A8.mp hy with e|hy
  .subst e;rw[if_neg hp,if_pos hq];simp only[BA];lia
  .have ih:=Gz hq hp (l:=l) (λy hy=>h y (A5 _ hy)) hy;split
   .rename_i e;rw[if_pos (hx e)];simp only[BA];lia
   .split
    .simp only[BA];lia
    .exact ih
structure All(ps:List (Int×Int))(g:Int)(L:List Int):Prop where
 nd:L.Nodup
 mem:∀x,x∈L↔Rc ps [] g x
noncomputable instance domDec (ps:List (Int×Int)) (g c x:Int):Decidable (Dom ps g c x):=TY _
noncomputable def mu(ps:List (Int×Int))(g:Int)(L:List Int)(x:Int):List Int:=L.filter λc=>decide (Dom ps g c x)
noncomputable def cu(ps:List (Int×Int))(g:Int)(L:List Int)(c:Int):List Int:=L.filter λx=>decide (Dom ps g c x)
variable{L zs zs':List Int}{p h:Int}
theorem zB(A:All ps g L):c∈mu ps g L x↔Dom ps g c x:=by unfold mu;rw[DG,decide_eq_true_eq,A.mem];exact{λz=>z.2,λz=>{z.rc,z}}
theorem yFY(A:All ps g L):x∈cu ps g L c↔Dom ps g c x:=by unfold cu;rw[DG,decide_eq_true_eq,A.mem];exact{λz=>z.2,λz=>{z.1,z}}
theorem mJ(A:All ps g L)(d:Dom ps g a b)(ne:a≠b):(mu ps g L a).length<(mu ps g L b).length:=by refine Gz (y:=b) (decide_eq_true (Dom.refl d.1)) (λz=>ne (d.anti (of_decide_eq_true z))) (λx _ z=>decide_eq_true ((of_decide_eq_true z:Dom ps g x a).trans d)) ((A.mem b).mpr d.1)
theorem yIK(A:All ps g L)(d:Dom ps g a b)(ne:a≠b):(cu ps g L b).length<(cu ps g L a).length:=by refine Gz (y:=a) (decide_eq_true (Dom.refl d.rc)) (λz=>ne (d.anti (of_decide_eq_true z))) (λx _ z=>decide_eq_true (d.trans (of_decide_eq_true z:Dom ps g b x))) ((A.mem a).mpr d.rc)
structure Srt(ps:List (Int×Int))(g:Int)(L:List Int)(x:Int)(zs:List Int):Prop where
 pm:zs.Perm (mu ps g L x)
 pw:zs.Pairwise λa b=>(mu ps g L a).length<(mu ps g L b).length
theorem Srt.mem(A:All ps g L)(S:Srt ps g L x zs):c∈zs↔Dom ps g c x:=by rw[S.pm.mem_iff,zB A]
theorem Srt.uniq(S:Srt ps g L x zs)(S':Srt ps g L x zs'):zs=zs' :=IT (le:=λa b=>(mu ps g L a).length<(mu ps g L b).length) (λa b _ _ h1 h2=>by lia) S.pw S'.pw (S.pm.trans S'.pm.symm)
theorem Rr(h1:zs.Nodup)(A:All ps g L)(h:∀c,c∈zs↔Dom ps g c x):zs.Perm (mu ps g L x) :=(LN h1 (A.nd.filter _)).mpr λc=>by rw[h];exact(zB A).symm
theorem Fz(h:Dom ps g c g):c=g:=h.anti (Dom.gate h.rc)
theorem Srt.gate(A:All ps g L)(hg:Rc ps [] g g):Srt ps g L g [g] :={Rr (D8.mpr {by simp,ER}) A λc=>by rw[A1];exact{λz=>by rw[z];exact .refl hg,Fz},JU _ _}
structure IsH(ps:List (Int×Int))(g p h:Int):Prop where
 dom:Dom ps g h p
 ne:h≠p
 last:∀c,Dom ps g c p->c≠p->Dom ps g c h
theorem IsH.uniq{h':Int}(I:IsH ps g p h)(I':IsH ps g p h'):h=h':=(I'.last h I.dom I.ne).anti (I.last h' I'.dom I'.ne)
theorem Srt.nodup(S:Srt ps g L x zs):zs.Nodup:=S.pw.imp λh e=>by rw[e] at h;lia
theorem Srt.snoc(A:All ps g L)(I:IsH ps g p h)(S:Srt ps g L h zs):Srt ps g L p (zs++[p]):=by
 have hp:p∉zs:=λz=>I.ne (I.dom.anti ((S.mem A).mp z));refine{Rr (FZ.mpr {S.nodup,D8.mpr {by simp,ER},λa ha b hb e=>hp (by rw[<-A1.mp hb,<-e];exact ha)}) A λc=>?_,G4.mpr {S.pw,JU _ _,λa ha b hb=>?_}}
 .rw[BU,A1,S.mem A];constructor
  .rintro(z|z)
   .exact z.trans I.dom
   .rw[z];exact .refl I.dom.1
  .intro z;by_cases e:c=p
   .exact .inr e
   .exact .inl (I.last c z e)
 .rw[A1.mp hb];exact mJ A (((S.mem A).mp ha).trans I.dom) λe=>hp (by rw[<-e];exact ha)
theorem Srt.last(A:All ps g L)(S:Srt ps g L p zs)(hp:Rc ps [] g p)(ne:p≠g):∃pre h,zs=pre++[h,p]/\IsH ps g p h:=by
 have{pre,post,e}:=cH ((S.mem A).mpr (Dom.refl hp));have pw:=S.pw;rw[e,G4] at pw;have{w1,w2,w3}:=pw;rw[JK] at w2;have wZ:post=[]:=by
  cases post with
  |nil=>rfl
  |cons c post =>
   exfalso;have h1:=w2.1 c A2;have hc:Dom ps g c p:=(S.mem A).mp (by rw[e];simp);by_cases q:c=p
   .rw[q] at h1;lia
   .have:=mJ A hc q;lia
 subst wZ;rcases Y9 pre with UC|⟨vY,h,UC⟩
 .exfalso;have:=(S.mem A).mpr (Dom.gate hp);rw[e,UC] at this;exact ne (A1.mp this).symm
 .have UC:pre=vY++[h]:=by simpa using UC
  subst UC;refine{vY,h,by rw[e];simp,{(S.mem A).mp (by rw[e];simp),λq=>?_,λc hc q=>?_}}
  .have:=w3 h 'S' p A2;rw[q] at this;lia
  .have hh:Dom ps g h p:=(S.mem A).mp (by rw[e];simp);have hcm:=(S.mem A).mpr hc;rw[e,BU,BU,A1,A1] at hcm;rcases hcm with(hcm|hcm)|hcm
   .have lt:=(G4.mp w1).2.2 c hcm h A2;rcases hc.lin hh with z|z
    .exact z
    .by_cases q2:h=c
     .rw[q2] at lt;lia
     .have:=mJ A z q2;lia
   .rw[hcm];exact .refl hh.rc
   .exact absurd hcm q
open Classical in
noncomputable def nM(ps:List (Int×Int))(g p:Int):Int:=if h:∃h,IsH ps g p h then h.choose else g
theorem Rq(I:IsH ps g p h):nM ps g p=h:=by have e:∃h,IsH ps g p h:={h,I};unfold nM;rw[dif_pos e];exact e.choose_spec.uniq I
theorem Uj:nM ps g g=g:=by unfold nM;rw[dif_neg];intro zz';have{h,I}:=zz';exact I.ne (Fz I.dom)
noncomputable def fT(ps:List (Int×Int))(g b:Int)(zs:List Int):Option Int:=zs.foldl (λacc c=>if Dom ps g c b/\b≠c then AA c else acc) AK
theorem Vr:fT ps g b (zs++[c])=if Dom ps g c b/\b≠c then AA c else fT ps g b zs:=by unfold fT;rw[fJ];rfl
theorem Ez:∀{ys:List Int} {acc:Option Int},(∀c∈ys,¬(Dom ps g c b/\b≠c))->ys.foldl (λacc c=>if Dom ps g c b/\b≠c then AA c else acc) acc=acc
 |[],_,_=>rfl
 |c::ys,acc,h=>by rw[KW,if_neg (h c A2)];exact Ez λd hd=>h d (A5 _ hd)
theorem Vq(h:∀c∈zs,¬(Dom ps g c b/\b≠c)):fT ps g b zs=AK:=Ez h
theorem zT7{ys:List Int}(h:∀c∈ys,¬(Dom ps g c b/\b≠c)):fT ps g b (zs++ys)=fT ps g b zs:=by unfold fT;rw[fJ];exact Ez h
theorem zQZ(A:All ps g L)(pm:zs.Perm L)(pw:zs.Pairwise λa b=>(cu ps g L b).length<=(cu ps g L a).length)(I:IsH ps g b h):fT ps g b zs=AA h:=by have{pre,post,e}:=cH (pm.mem_iff.mpr ((A.mem h).mpr I.dom.rc));have nd:zs.Nodup:=pm.nodup_iff.mpr A.nd;rw[e,show pre++h::post=(pre++[h])++post by simp,zT7,Vr,if_pos {I.dom,FI I.ne}];intro c hc zz';have{d,ne}:=zz';rw[e,G4,JK] at pw;rw[e,FZ,D8] at nd;have h1:=pw.2.1.1 c hc;have:=yIK A (I.last c d (FI ne)) (λq=>nd.2.1.1 (by rw[<-q];exact hc));lia
end
theorem Fx{gi:GI}{js:List Nat}{tt:Ev->Out (Bool×Ev)}{E E1:Ev}{ns:List Int}(p:Int->Bool)(cs:List Sl)(hi:gi E=.ok (ns.map D.int,E1))(hc:WP 1 js E1=.no::cs)(hl:ns.length<10000) (ht:∀x∈ns,tt (.val (.int x)::cs)=.ok (p x,.val (.int x)::cs)) (hb:∀u,WZ E1 (u::cs) 1 js=E1):RC gi 1 js (.nm 0) tt (AY 0) E=.ok (.lst ((ns.filter p).map D.int),E1):=by
 have:=kT (gi:=gi) (k:=1) (js:=js) (t:=.nm 0) (tt:=tt) (ge:=AY 0) (E:=E) (E1:=E1) (ds:=ns.map D.int) (λd=>match d with|.int x=>if p x=AN then[.int x] else[]|_=>[]) (λE=>∃u,E=u::cs) hi {_,hc} (by rw[AJ];exact hl) (λd hd E hE=>by
  have{x,hx,rfl}:=CJ.mp hd;have{u,rfl}:=hE;refine{_,rfl,p x,_,ht x hx,?_};by_cases h:p x=AN
  .exact .inl {h,.int x,_,rfl,by simp only[h,if_true],_,rfl}
  .exact .inr {by simpa using h,by simp only[h,if_false];rfl,_,rfl}) ((λEc q0=>by have{u,e}:=q0;exact by rw[e];exact hb u))
 rw[this,Wl (g:=D.int) p λx=>rfl]
section
variable{AE A4 c:Int}{ps:List (Int×Int)}
theorem Pi(R:Rg AE ps)(h0:0<=A4)(h1:A4<AE)(hc:Rc ps [] A4 c):∃xs:List Int,nE [.val (FS AE ps),.val (.int A4),.val (.int c)]=.ok (AD,.tup (xs.map D.int),.non)/\xs.Nodup/\∀x,x∈xs↔Dom ps A4 c x:=by
 have{xs,e1,p1,m1}:=Vv (start:=A4) R h0 h1;have{ys,e2,p2,m2}:=zY (cl:=[c]) (start:=A4) R h0 h1;have aK:=R.m2;have nx:xs.Nodup:=p1.imp λe=>ZB e;have hl:xs.length<10000:=by have:=DB (l₂:=ri AE.toNat) nx λx hx=>MQ.mpr (by have:=((m1 x).mp hx).range R h0 h1;lia);rw[cV] at this;lia
 refine{xs.filter λx=>decide (x∉ys),?_,nx.filter _,λx=>?_}
 .have eO:=Fx (gi:=LB (AY 3)) (js:=[4]) (tt:=gB (g2 QU (AY 0) (AY 1))) (E:=[.val (FS AE ps),.val (.int A4),.val (.int c),.val (.tup (xs.map D.int)),.val (.tup (ys.map D.int))]) (E1:=[.val (FS AE ps),.val (.int A4),.val (.int c),.val (.tup (xs.map D.int)),.val (.tup (ys.map D.int))]) (λx=>decide (x∉ys)) [.val (.tup (ys.map D.int))] rfl rfl hl
   (λx _=>N7 (FW (x:=.int x) (y:=.tup (ys.map D.int)) rfl rfl (Vy x ys))) λu=>rfl
  have t1:gB (g2 QU (AY 2) (AY 3)) [.val (FS AE ps),.val (.int A4),.val (.int c),.val (.tup (xs.map D.int)),.no]=.ok (AD,[.val (FS AE ps),.val (.int A4),.val (.int c),.val (.tup (xs.map D.int)),.no]) :=
   N7 (FW (x:=.int c) (y:=.tup (xs.map D.int)) rfl rfl (by rw[Vy,decide_eq_false (λz=>z ((m1 c).mpr hc))]))
  exact P7 (G7 (N9 (PX (ds:=[FS AE ps,.int A4]) rfl e1) rfl) (G7 (TN t1 rfl) (G7 (N9 (PX (ds:=[FS AE ps,.int A4,.tup [.int c]]) rfl e2) rfl) (RD (P8 (KR eO) rfl))))) rfl
 .rw[DG,m1,decide_eq_true_eq,m2];rfl
def OA(f:Int->D)(L:List Int):List (Key×D):=L.map λp=>(CS p,f p)
theorem t8{f:Int->D}{p:Int}:∀{L:List Int},p∈L->NA (OA f L) (.inl p)=AA (f p)
 |x::L,h=>by
  unfold NA OA;rw[AV,FK];by_cases e:x=p
  .subst e;simp
  .have:decide ((CS x:Key)=CS p)=AD:=decide_eq_false λz=>e (IF z);simp only[this];exact t8 (L:=L) ((A8.mp h).resolve_left (FI e))
theorem Sy{f:Int->D}{p:Int}{L:List Int}(h:p∉L):O4 (OA f L) (.inl p) (f p)=OA f (L++[p]):=by
 unfold O4 OA;rw[if_neg,EH]
 .rfl
 .simp only[Q8,HI,OI,decide_eq_true_eq,not_exists,not_and];exact λq hq z=>h (IF z▸hq)
theorem Sx{f:Int->D}{L:List Int}:(OA f L).map (λkv=>j2 kv.1)=L.map D.int:=by unfold OA;rw[DY];rfl
theorem Qk{gv:G}(f:Int->D)(cs:List Sl):∀{ns acc:List Int} {u:Sl},(acc++ns).Nodup->(acc++ns).length<10000->(∀x∈ns,gv (.val (.int x)::cs)=.ok (f x,.val (.int x)::cs)) ->∃u',ZD (.nm 0) RA (pY (AY 0) gv) (ns.map D.int) (.dk (OA f acc)) (u::cs)=.ok (.dk (OA f (acc++ns)),u'::cs)
 |[],acc,u,_,_,_=>{u,by rw[C5];rfl}
 |x::ns,acc,u,nd,hl,hv=>by
  have hx:x∉acc:=λz=>(FZ.mp nd).2.2 x z x A2 rfl;have hla:(OA f acc).length<10000:=by unfold OA;rw[AJ];rw[BC] at hl;lia
  have{u',e}:=Qk f cs (ns:=ns) (acc:=acc++[x]) (u:=.val (.int x)) (by rw[CP];exact nd) (by rw[CP];exact hl) λy hy=>hv y (A5 _ hy);refine{u',?_};rw[CP] at e;have ge:pY (AY 0) gv (.dk (OA f acc)) (.val (.int x)::cs)=.ok (.dk (OA f (acc++[x])),.val (.int x)::cs):=by refine HG (a:=(.int x,.val (.int x)::cs)) rfl (HG (hv x A2) ?_);show few (OA f acc).length (Out.ok (D.dk (O4 (OA f acc) (.inl x) (f x)),Sl.val (.int x)::cs))=_;rw[XQ hla,Sy hx]
  rw[AV,ZD];refine HG (a:=.val (.int x)::cs) rfl (HG (a:=(AN,.val (.int x)::cs)) rfl ?_);show(if AN=AN then _ else _)=_;rw[if_pos rfl];exact HG ge e
theorem Rp{ge:G}{ds:List D}(k:Int->Int):∀{cs:List Int},(∀c∈cs,ge (.val (.int c)::ds.map .val)=.ok (.int (k c),.val (.int c)::ds.map .val))->iC ge ds (cs.map D.int)=.ok (cs.map k)
 |[],_=>rfl
 |c::cs,h=>by rw[AV,iC];exact HG (a:=k c) (HG (h c A2) rfl) (HG (Rp k λd hd=>h d (A5 _ hd)) rfl)
theorem Sw{gl ge:G}{js:List Nat}{E E1:Ev}{cs:List Int}{ds:List D}(k:Int->Int)(hl:gl E=.ok (.lst (cs.map D.int),E1))(hv:valsJ (shareJ js E1) js=AA ds)(hn:cs.length<64) (hk:∀c∈cs,ge (.val (.int c)::ds.map .val)=.ok (.int (k c),.val (.int c)::ds.map .val)):pX gl js ge E=.ok ((cs.map D.int,cs.map k),shareJ js E1):=by refine HG hl ?_;show(match D.lst (cs.map D.int),valsJ (shareJ js E1) js with|.lst ys,AA ds=>if ys.length<64 then(iC ge ds ys).bind λkz=>.ok ((ys,kz),shareJ js E1) else .bad|_,_=>.bad)=_;rw[hv];show(if(cs.map D.int).length<64 then(iC ge ds (cs.map D.int)).bind λkz=>Out.ok ((cs.map D.int,kz),shareJ js E1) else .bad)=_;rw[if_pos (by rw[AJ];exact hn)];exact HG (Rp k hk) rfl
theorem Al{α β γ:Type}(f:α->β)(h:α->γ):∀l:List α,(l.map f).zip (l.map h)=l.map λx=>(f x,h x)
 |[]=>rfl
 |x::l=>by rw[AV,AV,P0,Al f h l];rfl
theorem Ui{k:Int->Int}{cs:List Int}{qs:List (Int×D)}(h:cL (cs.map k) (cs.map D.int) qs):∃zs:List Int,qs=zs.map (λc=>(k c,D.int c))/\zs.Perm cs/\zs.Pairwise λa b=>k a<=k b:=by
 have{pm,pw}:=h;rw[Al] at pm;have un:∀q∈qs,q=(k (match q.2 with|.int c=>c|_=>0),D.int (match q.2 with|.int c=>c|_=>0)):=λq hq=>by have{c,_,rfl}:=CJ.mp (pm.mem_iff.mp hq);rfl
 have e:qs=(qs.map λq=>match q.2 with|.int c=>c|_=>0).map (λc=>(k c,D.int c)):=by rw[DY];exact((JA λq hq=>(un q hq).symm).trans (List.map_id _)).symm
 refine{_,e,?_,?_}
 .have:=pm.map (λq:Int×D=>match q.2 with|.int c=>c|_=>0);rw[DY] at this;exact this.trans (by rw[show((λq:Int×D=>match q.2 with|.int c=>c|_=>0)∘λc=>(k c,D.int c))=id from rfl,List.map_id])
 .rw[e,D3] at pw;exact pw
theorem Qj{k:Int->Int}:∀{zs:List Int},zs.Pairwise (λa b=>k a<k b)->∀a∈zs,∀b∈zs,k a=k b->a=b
 |z::zs,pw,a,ha,b,hb,e=>by
  have{p1,p2}:=JK.mp pw;rcases A8.mp ha with e1|h1
  .rcases A8.mp hb with e2|h2
   .rw[e1,e2]
   .have:=p1 b h2;rw[<-e1] at this;lia
  .rcases A8.mp hb with e2|h2
   .have:=p1 a h1;rw[<-e2] at this;lia
   .exact Qj p2 a h1 b h2 e
open Classical in
theorem zXN{gl ge:G}{js:List Nat}{E E1:Ev}{cs zs:List Int}{k:Int->Int}(h:pX gl js ge E=.ok ((cs.map D.int,cs.map k),E1))(pm:zs.Perm cs)(pw:zs.Pairwise λa b=>k a<k b):zF gl js ge E=.ok (.lst (zs.map D.int),E1):=by
 refine HG h ?_;have q0:cL (cs.map k) (cs.map D.int) (zs.map λc=>(k c,D.int c)):={by rw[Al];exact pm.map _,D3.mpr (pw.imp λh=>LF h)};have ex:∃ws,∀qs,cL (cs.map k) (cs.map D.int) qs->qs.map GK=ws:={zs.map D.int,λqs hq=>by have{ws,rfl,p1,p2}:=Ui hq;have:ws=zs:=IT (le:=λa b=>k a<=k b) (λa b ha hb h1 h2=>Qj pw a ((p1.trans pm.symm).mem_iff.mp ha) b hb 'L') p2 (pw.imp λh=>LF h) (p1.trans pm.symm);rw[this,DY];rfl};show(if h:∃ws,∀qs,cL (cs.map k) (cs.map D.int) qs->qs.map GK=ws then Out.ok (D.lst h.choose,E1) else .bad)=_;rw[dif_pos ex,<-ex.choose_spec _ q0,DY];rfl
end
def PY(n:Nat)(φ:Int->Option Int):List D:=(ri n).map λb=>L7 (φ b)
theorem yB8(n:Nat)(φ:Int->Option Int):(PY n φ).length=n:=by unfold PY;rw[AJ,cV]
theorem Yg{n j:Nat}(h:j<n):(ri n)[j]?=AA (j:Int):=by unfold ri;rw[AU,K6 h];simp
theorem yB9{n:Nat}{φ:Int->Option Int}{b:Int}(h0:0<=b)(h1:b<n):atI (PY n φ) b=AA (L7 (φ b)):=by refine sZ h0 ?_;unfold PY;rw[AU,Yg 'L'];simp only[GR];rw[show((b.toNat:Nat):Int)=b by lia]
theorem yCA{AE:Int}(h0:0<=AE)(h1:AE<=100):iE (.lst [.non]) (.int AE)=.ok (.lst (PY AE.toNat λ_=>AK)):=by
 have e:(BI AE.toNat [D.non]).flatten=PY AE.toNat λ_=>AK:=by
  unfold PY ri;rw[DY];generalize AE.toNat=n;induction n with
  |zero=>rfl
  |succ n ih=>rw[jV,EH,<-ih,List.replicate_succ',List.flatten_append];rfl
 simp only[iE,_L.guard];rw[if_pos {by lia,by lia,by simp;lia},e]
theorem Ro{n:Nat}{φ:Int->Option Int}{b c:Int}(h0:0<=b)(h1:b<n):jZ (.lst (PY n φ)) (.int b) (.int c)=.ok (.lst (PY n λx=>if x=b then AA c else φ x)):=by
 rw[Jf (j:=b.toNat) (by rw[yB8];exact Ed h0 h1)];congr 2;refine Q7 λj=>?_;rw[List.getElem?_set];unfold PY;rw[AU,AU,AJ,cV];by_cases hj:j<n
 .rw[Yg hj];by_cases e:b.toNat=j
  .have:(j:Int)=b:=by lia
   simp[e,hj,this,L7]
  .have:¬(j:Int)=b:=by lia
   simp[e,this]
 .have:(ri n)[j]?=AK:=OD (by rw[cV];lia);rw[this];by_cases e:b.toNat=j
  .lia
  .simp[e]
theorem Sv(φ:Int->Option Int):∀l:List Int,pA9 (l.map λb=>L7 (φ b))=AN/\pAA (l.map λb=>L7 (φ b))=AN
 |[]=>by simp[pA9,pAA]
 |b::l=>by have{h1,h2}:=Sv φ l;rw[AV,pA9,pAA,h1,h2];cases φ b<;>simp[L7,D.flat,D.nod]
section
variable{ps:List (Int×Int)}{g:Int}{L:List Int}{p:Int}
def OB(ps:List (Int×Int))(g:Int)(L:List Int)(p:Int):List Int:=(mu ps g L p).mergeSort λa b=>decide ((mu ps g L a).length<=(mu ps g L b).length)
theorem cX(A:All ps g L):Srt ps g L p (OB ps g L p):=by
 have pm:(OB ps g L p).Perm (mu ps g L p):=K5 _ _;have nd:(OB ps g L p).Nodup:=pm.nodup_iff.mpr (A.nd.filter _);have pw:=JV (le:=λa b=>decide ((mu ps g L a).length<=(mu ps g L b).length)) (λa b c h1 h2=>decide_eq_true (AW (of_decide_eq_true h1) (of_decide_eq_true h2)))
  (λa b=>by rcases Nat.le_total (mu ps g L a).length (mu ps g L b).length with h|h<;>simp[h]) (mu ps g L p)
 refine{pm,(pw.and nd).imp_of_mem λ{a b} ha hb h=>?_};have h1:=of_decide_eq_true h.1;have da:=(zB A).mp (pm.mem_iff.mp ha);have db:=(zB A).mp (pm.mem_iff.mp hb);rcases da.lin db with z|z
 .exact mJ A z h.2
 .have:=mJ A z (FI h.2);lia
theorem Uh(A:All ps g L)(hp:Rc ps [] g p)(ne:p≠g):∃h,IsH ps g p h:=let ⟨_,h,_,I⟩:=(cX A).last A hp ne;{h,I}
end
theorem Ey{AE A4:Int}{ps:List (Int×Int)}{L:List Int}(R:Rg AE ps)(h0:0<=A4)(h1:A4<AE)(A:All ps A4 L):L.length<=AE.toNat:=by have:=DB (l₂:=ri AE.toNat) A.nd λx hx=>MQ.mpr (by have:=((A.mem x).mp hx).range R h0 h1;lia);rwa [cV] at this
section
variable{AE A4:Int}{ps:List (Int×Int)}
abbrev Z6(ps:List (Int×Int))(A4:Int)(L:List Int):Int->D:=λp=>.tup ((OB ps A4 L p).map D.int)
theorem zXO(R:Rg AE ps)(hm:AE<=24)(h0:0<=A4)(h1:A4<AE):∃L,All ps A4 L/\qY [.val (FS AE ps),.val (.int A4)]=.ok (AD,.dk (OA (Z6 ps A4 L) L),.non):=by
 have{L,eL,nd,mL}:=Ao (BV:=AK) (A4:=A4) R h0 h1;have A:All ps A4 L:={nd,mL};have hl:=Ey R h0 h1 A;have ZQ:=λc=>Ao (BV:=AA c) (A4:=A4) R h0 h1;have wX:kG L (λc=>(ZQ c).choose)=.dk (OA (λp=>.lst ((mu ps A4 L p).map D.int)) L):=by unfold kG OA;congr 1;refine JA λp hp=>?_;congr 3;refine fL λc hc=>decide_eq_decide.mpr ?_;rw[(ZQ c).choose_spec.2.2 p];exact{λz=>{(mL p).mp hp,z},λz=>z.2}
 have gt:=yBB (m:=aD) (E:=[.val (FS AE ps),.val (.int A4),.own AD (.dk []),.no,.no,.no,.no]) (net:=FS AE ps) (A4:=.int A4) (L:=L) (left:=λc=>(ZQ c).choose) {rfl,{_,_,eL},nd,by lia,λc _=>{_,_,(ZQ c).choose_spec.1}};rw[wX] at gt;obtain⟨SV,hr⟩:∃SV,SV=OA (λp=>.lst ((mu ps A4 L p).map D.int)) L:={_,rfl};rw[<-hr] at gt;have eN:∀p∈L,E7 (.dk SV) (.int p)=.ok (.lst ((mu ps A4 L p).map D.int)):=λp hp=>by rw[hr];exact Io (t8 hp)
 have xD:∀p,(mu ps A4 L p).length<64:=λp=>by have:=FO (λc=>decide (Dom ps A4 c p)) L;unfold mu;lia
 have{E',e,u3,rfl}:=bN (gi:=LB (AY 2)) (t:=.nm 3) (g:=QV 6 (AY 3) (gN XN [(zF (g2 E7 (AY 2) (AY 3)) [2] (gN QR [(g2 E7 (AY 1) (AY 0))]))]))
  (E:=[.val (FS AE ps),.val (.int A4),.val (.dk SV),.no,.no,.no,.own AD (.dk [])]) (ds:=L.map D.int)
  (λi E=>∃u3,E=[.val (FS AE ps),.val (.int A4),.val (.dk SV),u3,.no,.no,.own AD (.dk (OA (Z6 ps A4 L) (L.take i)))])
  (HG (a:=(.dk SV,[.val (FS AE ps),.val (.int A4),.val (.dk SV),.no,.no,.no,.own AD (.dk [])])) rfl (by rw[hr];exact congrArg (λz=>Out.ok (z,_)) Sx)) {_,rfl}
  (λi x E hx hP=>by
   have{u3,rfl}:=hP;rw[AU] at hx;have{p,hp,rfl}:=BN.mp hx;have{hi,bY}:=AR.mp hp;have eF:=BJ hp;have S:=cX (p:=p) A;have ks:=zXN (zs:=OB ps A4 L p) (Sw (gl:=g2 E7 (AY 2) (AY 3)) (ge:=gN QR [(g2 E7 (AY 1) (AY 0))]) (js:=[2]) (E:=[.val (FS AE ps),.val (.int A4),.val (.dk SV),.val (.int p),.no,.no,.own AD (.dk (OA (Z6 ps A4 L) (L.take i)))]) (λc=>((mu ps A4 L c).length:Int))
    (FW (x:=.dk SV) (y:=.int p) rfl rfl (eN p eF)) (ds:=[.dk SV]) rfl (xD p) λc hc=>P8 (KR (FW (x:=.dk SV) (y:=.int c) rfl rfl (eN c (DG.mp hc).1))) (Jg (by rw[AJ]))) S.pm (S.pw.imp λh=>by lia)
   refine{_,rfl,_,bP (i:=6) (t:=AD) (d:=.dk (OA (Z6 ps A4 L) (L.take i))) (v:=Z6 ps A4 L p) (k:=.int p) (d':=.dk (OA (Z6 ps A4 L) (L.take (i+1)))) rfl (P8 (KR ks) rfl) rfl rfl ?_,_,rfl};rw[Yp (by unfold OA;rw[AJ,EI];lia),BK hi,bY];congr 2;exact Sy (f:=Z6 ps A4 L) (by rw[<-bY];exact Gb nd hi))
 rw[AJ,DE] at e;exact{L,A,P7 (G7 (X9 (d:=.dk []) rfl) (G7 gt (G7 (X9 (d:=.dk []) rfl) (G7 e (RD rfl))))) rfl}
open Classical in
theorem yCB{gl ge:G}{js ks:List Nat}{t:Tg}{g:GS}{E E1 Ef:Ev}{cs:List Int}{k:Int->Int}(h:pX gl js ge E=.ok ((cs.map D.int,cs.map k),E1)) (hz:∀zs:List Int,zs.Perm cs->zs.Pairwise (λa b=>k a<=k b)->∃E2,UR t g (zs.map D.int) E1=.ok (.nx E2)/\hush ks E2=Ef):yO gl js ge t g ks E=.ok (.nx Ef):=by
 refine HG h ?_;have pm:(cs.mergeSort λa b=>decide (k a<=k b)).Perm cs:=K5 _ _;have pw:=JV (le:=λa b=>decide (k a<=k b)) (λa b c h1 h2=>decide_eq_true (LD (of_decide_eq_true h1) (of_decide_eq_true h2)))
  (λa b=>by rcases Int.le_total (k a) (k b) with h|h<;>simp[h]) cs
 have q0:cL (cs.map k) (cs.map D.int) ((cs.mergeSort λa b=>decide (k a<=k b)).map λc=>(k c,D.int c)):={by rw[Al];exact pm.map _,D3.mpr (pw.imp λh=>of_decide_eq_true h)};have al:∀qs,cL (cs.map k) (cs.map D.int) qs->∃E2,UR t g (qs.map GK) E1=.ok (.nx E2)/\hush ks E2=Ef:=λqs hq=>by have{ws,rfl,p1,p2}:=Ui hq;rw[DY];exact hz ws p1 p2
 have ex:∃E0,∀qs,cL (cs.map k) (cs.map D.int) qs->∃E2,UR t g (qs.map GK) E1=.ok (.nx E2)/\hush ks E2=E0:={Ef,al};show(if h:∃E0,∀qs,cL (cs.map k) (cs.map D.int) qs->∃E2,UR t g (qs.map GK) E1=.ok (.nx E2)/\hush ks E2=E0 then Out.ok (Fl.nx h.choose) else .bad)=_;rw[dif_pos ex];have{E2,a1,a2}:=ex.choose_spec _ q0;have{E3,b1,b2}:=al _ q0;rw[a1] at b1;cases b1;rw[<-a2,b2]
end
section
variable{AE A4:Int}{ps:List (Int×Int)}
open Classical in
def hO(ps:List (Int×Int))(g b:Int):Option Int:=if Rc ps [] g b then AA (nM ps g b) else AK
def hE(AE:Int)(ps:List (Int×Int))(A4:Int)(JC:D)(φ:Int->Option Int)(o4 o5:Option D):Ev:=[.val (FS AE ps),.val (.int A4),.val JC,.own AD (.lst (PY AE.toNat φ)),k9 o4,k9 o5]
abbrev hB:GS:=NH (gB (g2 L9 (AY 5) (AY 4))) (QV 3 (AY 5) (AY 4)) PB
theorem yF0{JC:D}{φ:Int->Option Int}{o5:Option D}{c:Int}{xs:List Int}(hx:E7 JC (.int c)=.ok (.tup (xs.map D.int)))(hr:∀x∈xs,0<=x/\x<AE) : ∃oC,OQ (LB (g2 E7 (AY 2) (AY 4))) (.nm 5) hB (hE AE ps A4 JC φ (AA (.int c)) o5)=.ok (.nx (hE AE ps A4 JC (λb=>if b∈xs/\b≠c then AA c else φ b) (AA (.int c)) oC)):=by
 have{E',e,oC,rfl}:=bN (gi:=LB (g2 E7 (AY 2) (AY 4))) (t:=.nm 5) (g:=hB) (E:=hE AE ps A4 JC φ (AA (.int c)) o5) (ds:=xs.map D.int)
  (λi E=>∃oC,E=hE AE ps A4 JC (λb=>if b∈xs.take i/\b≠c then AA c else φ b) (AA (.int c)) oC)
  (tP (FW (x:=JC) (y:=.int c) rfl rfl hx)) {o5,by simp}
  (λi x E hx hP=>by
   have{o5,rfl}:=hP;rw[AU] at hx;have{b,hb,rfl}:=BN.mp hx;have{hi,eP}:=AR.mp hb;have{b0,b1}:=hr b (BJ hb);have tm:∀q,q∈xs.take (i+1)↔q∈xs.take i\/q=b:=by rw[<-eP];exact An hi
   have t1:gB (g2 L9 (AY 5) (AY 4)) (hE AE ps A4 JC (λb=>if b∈xs.take i/\b≠c then AA c else φ b) (AA (.int c)) (AA (.int b)))=.ok (decide (b≠c),hE AE ps A4 JC (λb=>if b∈xs.take i/\b≠c then AA c else φ b) (AA (.int c)) (AA (.int b))) :=
    N7 (FW (x:=.int b) (y:=.int c) rfl rfl (qK _ _))
   by_cases e:b=c
   .rw[decide_eq_false (λz=>z e)] at t1;refine{_,rfl,_,TN t1 rfl,AA (.int b),?_};congr 1;funext q;have:(q∈xs.take (i+1)/\q≠c)↔(q∈xs.take i/\q≠c):=by
     rw[tm];constructor
     .rintro⟨z|z,n⟩
      .exact{z,n}
      .exact absurd (z.trans e) n
     .intro zz';have{z,n}:=zz';exact{.inl z,n}
    simp only[this]
   .rw[decide_eq_true e] at t1;refine{_,rfl,_,ZC t1 (bP (i:=3) (t:=AD) (d:=.lst (PY AE.toNat λb=>if b∈xs.take i/\b≠c then AA c else φ b)) (v:=.int c) (k:=.int b) rfl rfl rfl rfl (Ro b0 'L')),AA (.int b),?_};show hE AE ps A4 JC _ (AA (.int c)) (AA (.int b))=_;congr 1;funext q;by_cases eq:q=b
    .subst eq;rw[if_pos rfl,if_pos {(tm q).mpr (.inr rfl),e}]
    .have:(q∈xs.take (i+1)/\q≠c)↔(q∈xs.take i/\q≠c):=by
      rw[tm];constructor
      .rintro⟨z|z,n⟩
       .exact{z,n}
       .exact absurd z eq
      .intro zz';have{z,n}:=zz';exact{.inl z,n}
     simp only[this,if_neg eq])
 rw[AJ,DE] at e;exact{oC,e}
theorem Vp(R:Rg AE ps)(hm:AE<=24)(h0:0<=A4)(h1:A4<AE):nD [.val (FS AE ps),.val (.int A4)]=.ok (AD,.tup (PY AE.toNat (hO ps A4)),.non):=by
 have{xs,e1,p1,m1}:=Vv (start:=A4) R h0 h1;have A:All ps A4 xs:={p1.imp λe=>ZB e,m1};have hl:=Ey R h0 h1 A;obtain⟨ZT,aO⟩:∃ZT:Int->List Int,∀c∈xs,nE [.val (FS AE ps),.val (.int A4),.val (.int c)]=.ok (AD,.tup ((ZT c).map D.int),.non)/\(ZT c).Nodup/\∀x,x∈ZT c↔Dom ps A4 c x:=by have:=λc=>Classical.em (Rc ps [] A4 c);refine{λc=>(open Classical in if h:Rc ps [] A4 c then(Pi R h0 h1 h).choose else[]),λc hc=>?_};have h:=(m1 c).mp hc;simp only[dif_pos h];exact(Pi R h0 h1 h).choose_spec
 have NV:∀c∈xs,(ZT c).length=(cu ps A4 xs c).length:=λc hc=>((LN (aO c hc).2.1 (A.nd.filter _)).mpr λx=>by rw[(aO c hc).2.2];exact(yFY A).symm).length_eq;obtain⟨JC,hc⟩:∃JC,JC=D.dk (OA (λp=>.tup ((ZT p).map D.int)) xs):={_,rfl};have eN:∀p∈xs,E7 JC (.int p)=.ok (.tup ((ZT p).map D.int)):=λp hp=>by rw[hc];exact Io (t8 hp)
 -- the JC
 have s1:mV (LB (KB nG [(AY 0),(AY 1)])) 1 [0,1] (.dk []) (.nm 0) RA (pY (AY 0) (KB nE [(AY 1),(AY 2),(AY 0)])) [.val (FS AE ps),.val (.int A4),.no,.no,.no,.no]=.ok (JC,[.val (FS AE ps),.val (.int A4),.no,.no,.no,.no]):=by have{u',e}:=Qk (gv:=KB nE [(AY 1),(AY 2),(AY 0)]) (λp=>.tup ((ZT p).map D.int)) [.val (FS AE ps),.val (.int A4)] (ns:=xs) (acc:=[]) (u:=.no) A.nd (by rw[G0];lia) λx hx=>PX (ds:=[FS AE ps,.int A4,.int x]) rfl (aO x hx).1;rw[G0,<-hc] at e;exact HG (tP (PX (ds:=[FS AE ps,.int A4]) rfl e1)) (HG e rfl)
 have s3:yO (gN j8 [(AY 2)]) [2] (g1 WD (gN QR [(g2 E7 (AY 1) (AY 0))])) (.nm 4) (OQ (LB (g2 E7 (AY 2) (AY 4))) (.nm 5) hB) [4,5] (hE AE ps A4 JC (λ_=>AK) AK AK)
   = .ok (.nx (hE AE ps A4 JC (λb=>if b=A4 then AK else hO ps A4 b) AK AK)):=by
  refine yCB (cs:=xs) (k:=λc=>-((ZT c).length:Int)) (Sw (λc=>-((ZT c).length:Int)) (P8 (ds:=[JC]) (KR rfl) (by rw[hc];exact congrArg (λz=>Out.ok (D.lst z)) Sx)) (ds:=[JC]) rfl 'L' λc xU=>?_) λzs pm pw=>?_
  .exact HG (P8 (KR (FW (x:=JC) (y:=.int c) rfl rfl (eN c xU))) (yH2 (by rw[AJ]))) rfl
  .have{E',e,o4,o5,rfl}:=Ah (t:=.nm 4) (g:=OQ (LB (g2 E7 (AY 2) (AY 4))) (.nm 5) hB) (ds:=zs.map D.int) (E:=hE AE ps A4 JC (λ_=>AK) AK AK)
    (λi E=>∃o4 o5,E=hE AE ps A4 JC (λb=>fT ps A4 b (zs.take i)) o4 o5) 0 {AK,AK,rfl} (λi x E hx hP=>by
     rw[ED] at hP ⊢;have{o4,o5,rfl}:=hP;rw[AU] at hx;have{c,hcz,rfl}:=BN.mp hx;have{hi,XZ}:=AR.mp hcz;have xU:c∈xs:=pm.mem_iff.mp (BJ hcz);have{oC,e}:=yF0 (AE:=AE) (ps:=ps) (A4:=A4) (φ:=λb=>fT ps A4 b (zs.take i)) (o5:=o5) (eN c xU) λx hx=>(((aO c xU).2.2 x).mp hx).1.range R h0 h1;refine{_,rfl,_,e,AA (.int c),oC,?_};congr 1;funext b;rw[BK hi,XZ,Vr];have:(b∈ZT c/\b≠c)↔(Dom ps A4 c b/\b≠c):=by rw[(aO c xU).2.2]
     simp only[this])
   refine{_,e,?_};rw[AJ,ED,DE];have hh:∀φ:Int->Option Int,hush [4,5] (hE AE ps A4 JC φ o4 o5)=hE AE ps A4 JC φ AK AK:=λφ=>by cases o4<;>cases o5<;>rfl
   rw[hh];congr 1;funext b;have pw':zs.Pairwise λa b=>(cu ps A4 xs b).length<=(cu ps A4 xs a).length:=pw.imp_of_mem λ{a b} ha hb h=>by rw[NV a (pm.mem_iff.mp ha),NV b (pm.mem_iff.mp hb)] at h;lia
   by_cases eb:b=A4
   .rw[if_pos eb];exact Vq λc _ z=>z.2 (by rw[eb] at z ⊢;exact(Fz z.1).symm)
   .rw[if_neg eb];unfold hO;by_cases hb:Rc ps [] A4 b
    .rw[if_pos hb];have{h,I}:=Uh A hb eb;rw[Rq I];exact zQZ A pm pw' I
    .rw[if_neg hb];exact Vq λc _ z=>hb z.1.1
 have hg:Rc ps [] A4 A4:=.refl 'S';have Nt:(λx=>if x=A4 then AA A4 else if x=A4 then AK else hO ps A4 x)=hO ps A4:=by
  funext x;by_cases e:x=A4
  .rw[if_pos e,e];unfold hO;rw[if_pos hg,Uj]
  .rw[if_neg e,if_neg e]
 have s4:=bP (i:=3) (gk:=AY 1) (gv:=AY 1) (E:=hE AE ps A4 JC (λb=>if b=A4 then AK else hO ps A4 b) AK AK) (E1:=hE AE ps A4 JC (λb=>if b=A4 then AK else hO ps A4 b) AK AK) (E2:=hE AE ps A4 JC (λb=>if b=A4 then AK else hO ps A4 b) AK AK) (t:=AD) (t2:=AD) (d0:=.lst (PY AE.toNat λb=>if b=A4 then AK else hO ps A4 b)) (d:=.lst (PY AE.toNat λb=>if b=A4 then AK else hO ps A4 b)) (v:=.int A4) (k:=.int A4) rfl rfl rfl rfl (Ro h0 'L');rw[Nt] at s4;have fl:=Sv (hO ps A4) (ri AE.toNat);have lo:cW [3] (hE AE ps A4 JC (hO ps A4) AK AK) (.tup (PY AE.toNat (hO ps A4)))=AN:=by unfold cW;rw[D.flat,D.nod,PY,fl.1,fl.2];simp
 exact P7 (G7 (N9 s1 rfl) (G7 (X9 (FW (x:=.lst [.non]) (y:=.int AE) rfl (FW (x:=FS AE ps) (y:=.int 0) rfl rfl rfl) (yCA (LF (HX h0 h1)) 'L'))) (G7 s3 (G7 s4 (RD (ZG (E':=N6 [3] (hE AE ps A4 JC (hO ps A4) AK AK)) (P8 (ds:=[.lst (PY AE.toNat (hO ps A4))]) (KR rfl) rfl) lo)))))) rfl
end
section
variable{ps qs:List (Int×Int)}{cl:List Int}{AE g p a b c x:Int}{L:List Int}
theorem Net.rg'(N:Net AE ps):Rg AE ps:={by have:=N.m1;lia,by have:=N.m2;lia,by have:=N.len;lia,λp hp=>let ⟨a,b,c,d,_⟩:=N.rg p hp;{a,b,c,d}}
theorem zXP(A:All ps g L){q h:Int}(I:IsH ps g q h):OB ps g L q=OB ps g L h++[q]:=(cX A).uniq (Srt.snoc A I (cX A))
theorem zL(R:Rg AE ps)(h0:0<=g)(h1:g<AE)(A:All ps g L)(q:Int):(OB ps g L q).length<=AE.toNat:=by have:=(cX (p:=q) A).pm.length_eq;have h2:=FO (λc=>decide (Dom ps g c q)) L;have h3:=Ey R h0 h1 A;unfold mu at this;lia
def mE(AE:Int)(ps:List (Int×Int))(g p:Int)(u:Sl):Ev:=[.val (.tup (PY AE.toNat (hO ps g))),.val (.int p),u]
theorem Ew(R:Rg AE ps)(h0:0<=g)(h1:g<AE)(p0:0<=p)(p1:p<AE):E7 (.tup (PY AE.toNat (hO ps g))) (.int p)=.ok (L7 (hO ps g p)):=yKQ (by rw[yB9 p0 'L'])
theorem yCC(A:All ps g L)(R:Rg AE ps)(h0:0<=g)(h1:g<AE)(hm:AE<=24)(hp:Rc ps [] g p) : qZ [.val (.tup (PY AE.toNat (hO ps g))),.val (.int p)]=.ok (AD,.tup ((OB ps g L p).map D.int),.non):=by
 have{p0,p1}:=hp.range R h0 h1;have t0:gB (g2 fQ (g2 E7 (AY 0) (AY 1)) (gC .non)) (mE AE ps g p .no)=.ok (AD,mE AE ps g p .no) :=
  N7 (FW (x:=L7 (hO ps g p)) (y:=.non) (FW (x:=.tup (PY AE.toNat (hO ps g))) (y:=.int p) rfl rfl (Ew R h0 h1 p0 p1)) rfl (by unfold hO;rw[if_pos hp];rfl))
 have{E',e,r,rfl,hr}:=tB (t:=QT [2] (gB (g2 L9 (g2 E7 (AY 0) (g2 E7 (AY 2) (g1 WD (gC (.int 1))))) (g2 E7 (AY 2) (g1 WD (gC (.int 1)))))))
  (g:=X6 (O7 2 T7 [(OY [2] (g2 E7 (AY 0) (g2 E7 (AY 2) (g1 WD (gC (.int 1))))))]))
  (λn E=>∃r q,E=mE AE ps g p (.own AD (.lst ((r++[q]).map D.int)))/\Rc ps [] g q/\OB ps g L q++r.reverse=OB ps g L p/\n=(OB ps g L q).length)
  (λE=>∃r:List Int,E=mE AE ps g p (.own AD (.lst (r.map D.int)))/\r.reverse=OB ps g L p)
  (λn E hP=>by
   have{r,q,rfl,hq,hc,rfl}:=hP;have{q0,q1}:=hq.range R h0 h1;obtain⟨E0,eU⟩:∃E0,E0=N6 [2] (mE AE ps g p (.own AD (.lst ((r++[q]).map D.int)))):={_,rfl};have last:E7 (.lst ((r++[q]).map D.int)) (.int (-1))=.ok (.int q):=uL (by rw[EH];exact zUY _ _);have lst:g2 E7 (AY 2) (g1 WD (gC (.int 1))) E0=.ok (.int q,E0):=by rw[eU];exact FW (x:=.lst ((r++[q]).map D.int)) (y:=.int (-1)) rfl rfl last
   have hd:g2 E7 (AY 0) (g2 E7 (AY 2) (g1 WD (gC (.int 1)))) E0=.ok (L7 (hO ps g q),E0):=FW (x:=.tup (PY AE.toNat (hO ps g))) (by rw[eU];rfl) lst (Ew R h0 h1 q0 q1);have hh0:hO ps g q=AA (nM ps g q):=by unfold hO;rw[if_pos hq]
   rw[hh0] at hd;have t1:gB (g2 L9 (g2 E7 (AY 0) (g2 E7 (AY 2) (g1 WD (gC (.int 1))))) (g2 E7 (AY 2) (g1 WD (gC (.int 1))))) E0=.ok (decide (nM ps g q≠q),E0):=N7 (FW hd lst (qK _ _));have EU:=congrArg MF hc;rw[BC,O2] at EU;have xV:=zL R h0 h1 A p;by_cases e:q=g
   .rw[decide_eq_false (λz=>z (by rw[e];exact Uj))] at t1;refine .inl {_,WT (E':=E0) (by rw[<-eU];exact t1),r++[q],rfl,?_};rw[<-hc,e,(cX A).uniq (Srt.gate A (e▸hq))];simp
   .have{h,I}:=Uh A hq e;rw[Rq I] at t1 hd;rw[decide_eq_true I.ne] at t1;have YK:=zXP A I;rw[YK,BC,EQ] at EU;have bd:OY [2] (g2 E7 (AY 0) (g2 E7 (AY 2) (g1 WD (gC (.int 1))))) (mE AE ps g p (.own AD (.lst ((r++[q]).map D.int))))=.ok (.int h,mE AE ps g p (.own AD (.lst ((r++[q]).map D.int)))):=by refine ZG (E':=E0) ?_ rfl;rw[<-eU];exact hd
    refine .inr {_,_,_,WT (E':=E0) (by rw[<-eU];exact t1),qJ (kR (x:=.non) (i:=2) (t:=AD) (xs:=(r++[q]).map D.int) (UD:=(r++[q]++[h]).map D.int) rfl (KR bd) rfl ?_),?_,r++[q],h,rfl,I.dom.rc,?_,rfl}
    .show few _ (Out.ok (D.non,(r++[q]).map D.int++[.int h]))=_;rw[XQ (by rw[AJ,BC,EQ];lia),EH (l₁:=r++[q])];rfl
    .rw[YK,BC,EQ];lia
    .rw[<-hc,YK];simp) 100000 (OB ps g L p).length (mE AE ps g p (.own AD (.lst (([]++[p]).map D.int)))) (by have:=zL R h0 h1 A p;lia) {[],p,rfl,hp,by simp,rfl}
 obtain⟨E1,eT⟩:∃E1,E1=N6 [2] (mE AE ps g p (.own AD (.lst (r.map D.int)))):={_,rfl};have g1:Ib (AY 2) (g1 WD (gC (.int 1))) E1=.ok (.lst ((OB ps g L p).map D.int),E1):=by rw[<-hr,List.map_reverse,eT];rfl
 refine P7 (G7 (TN t0 rfl) (G7 (X9 (d:=.lst [.int p]) rfl) (G7 e (RD (ZG (d:=.tup ((OB ps g L p).map D.int)) (E':=E1) ?_ ?_))))) rfl
 .rw[<-eT];exact P8 (KR g1) rfl
 .simp[cW,mE,uO,Ih,D.flat,D.nod,At,uE]
end
theorem Fw{m:Mr}{gs:List G}{E E':Ev}{ds:List D}(h1:N8 gs E=.ok (ds,E'))(h2:m (ds.map Sl.val)=.bad):KB m gs E=.bad:=HG h1 (by show(m (ds.map Sl.val)).bind _=_;rw[h2];rfl)
theorem Re{g:G}{t:Tg}{E:Ev}(h:g E=.bad):I0 t g E=.bad:=by unfold I0;rw[h];rfl
theorem yCD{g:G}{E:Ev}(h:g E=.bad):NB g E=.bad:=by unfold NB;rw[h];rfl
theorem fn_bad{n:Nat}{gb:GS}{sl:Ev}(h:gb (sl++BI (n-sl.length) .no)=.bad):O5 n gb sl=.bad:=by unfold O5;rw[h];rfl
theorem yIL{t:Ev->Out (Bool×Ev)}{g:GX}{E E1:Ev}{r:Out Ev}(h:t E=.ok (AN,E1))(h2:g E1=r):Bo t g E=r:=by unfold Bo;rw[h];show(if AN=AN then g E1 else .bad)=r;rw[if_pos rfl];exact h2
theorem Ys{gs:List G}{mx:List D->Out Ev}{E E1 z:Ev}{ds:List D}(h:N8 gs E=.ok (ds,E1))(h2:mx ds=.ok z):Cf gs mx E=.ok E1:=HG h (HG h2 rfl)
theorem yF2{acc c:CD}{r:List (CD ⊕ G)}{E:Ev}:gJ acc (.inl c::r) E=gJ (acc++c) r E:=by rw[gJ]
theorem yF3{acc:CD}{g:G}{r:List (CD ⊕ G)}{E E1:Ev}{a:Int}(h:g E=.ok (.int a,E1))(h2:0<=a/\a<100):gJ acc (.inr g::r) E=gJ (acc++(toString a:CD)) r E1:=by rw[gJ];exact HG h (if_pos h2)
noncomputable def kb:List D:=[.bl AN,.bl AD,.bl AD,.bl AD,.bl AD,.bl AD,.bl AD,.bl AD,.bl AD,.bl AD,.bl AN]
theorem yF4:aF (.lst []) (.lst [])=.ok (.bl AN):=zWV (Pls.lst (n:=59) (.nil _))
theorem yIM{g:GS}{gs:List G}{mx:List D->Out Ev}{ik ie:Nat}{bs:List Bool}{E:Ev}{r:Fl}(h:g E=.ok r):nO g gs mx ik ie bs E=.ok r:=by unfold nO;rw[h]
theorem yIN{g:GS}{gs:List G}{mx:List D->Out Ev}{ik ie:Nat}{bs:List Bool}{E E1 z:Ev}{ds:List D}(h:g E=.bad)(h1:N8 gs E=.ok (ds,E1))(h2:mx ds=.ok z):nO g gs mx ik ie bs E=.ok (.nx ((E1.set ik (.val (.lst (bs.map D.bl)))).set ie .no)):=by unfold nO;rw[h];exact HG h1 (HG h2 rfl)
section
variable{ps:List (Int×Int)}{AE g p:Int}{L:List Int}
theorem zXQ(A:All ps g L)(R:Rg AE ps)(h0:0<=g)(h1:g<AE)(hm:AE<=24)(hp:Rc ps [] g p):qI [.val (FS AE ps),.val (.int g),.val (.int p)]=.ok (AD,.tup ((OB ps g L p).map D.int),.non) :=P7 (RD (PX (ds:=[.tup (PY AE.toNat (hO ps g)),.int p]) (RF (PX (ds:=[FS AE ps,.int g]) rfl (Vp R hm h0 h1)) rfl) (yCC A R h0 h1 hm hp))) rfl
end
theorem yCE:uI [.val (.int 0)]=.ok (AD,.lst kb,.non):=by rfl
theorem yCF(n:Nat)(a:Int):zA5 (n+1) [.val (.int a),.val (.int a)]=.ok (AD,.bl AN,.non) :=P7 (G7 (TN (E1:=[.val (.int a),.val (.int a)]) (mO (zO (d:=.int a) rfl) rfl) rfl) (RD (yH1 (E1:=[.val (.int a),.val (.int a)]) (yFF (zO (d:=.int a) rfl)) (FW (x:=.int a) (y:=.int a) rfl rfl (d:=.bl AN) (by rw[yA5];simp))))) rfl
theorem Rb{n:Nat}{ds:List D}(hl:ds.length<10000)(h:∀d∈ds,zA5 n [.val d,.val d]=.ok (AD,.bl AN,.non)):zA5 (n+1) [.val (.tup ds),.val (.tup ds)]=.ok (AD,.bl AN,.non):=by
 have hc:RC (bD (AY 0) (AY 1)) 2 [] (.tp [(.nm 0),(.nm 1)]) RA (KB (zA5 n) [(AY 0),(AY 1)]) [.val (.tup ds),.val (.tup ds)]=.ok (.lst ((iD ds ds).map λ_=>.bl AN),[.val (.tup ds),.val (.tup ds)]):=by
  refine zXF (λE=>E.length=2) rfl rfl (by simpa[iD] using hl) (λd hd E hE=>?_) λEc _=>z6 Ec 2 0 _;have{x,y,rfl}:=Dx hE;have{zz',hp,rfl}:=CJ.mp hd;have{p,q}:=zz';have NT:p=q/\p∈ds:=by have{i,hi}:=OC.mp hp;rw[GW] at hi;have{a,b}:=hi;rw[a] at b;exact{BH b,BJ a}
  have{rfl,hm}:=NT;exact{_,rfl,_,PX (ds:=[p,p]) rfl (h p hm),rfl}
 have t1:rD (iO (Z5 (pV "tuple" (AY 0)))) (gB (g2 L9 (gN QR [(AY 0)]) (gN QR [(AY 1)]))) [.val (.tup ds),.val (.tup ds)]=.ok (AD,[.val (.tup ds),.val (.tup ds)]) :=
  Yr (Fg (b:=AN) (mO (zO (d:=.tup ds) rfl) rfl)) (N7 (FW (P8 (KR (d:=.tup ds) rfl) rfl) (P8 (KR (d:=.tup ds) rfl) rfl) (d:=.bl AD) (by rw[qK];simp)))
 exact P7 (tD (ZC (E1:=[.val (.tup ds),.val (.tup ds)]) (mO (zO (d:=.tup ds) rfl) rfl) (G7 (TN t1 rfl) (RD (P8 (KR hc) (zXG _)))))) rfl
section
variable{ps qs:List (Int×Int)}{cl:List Int}{AE a b c g p x u v:Int}{L w:List Int}{l:Int×Int}
theorem SM:(a,b)∈back ps↔(b,a)∈ps:=by
 unfold back;rw[(uF _).mem_iff];constructor
 .intro h;have{q,hq,e}:=CJ.mp h;cases e;exact hq
 .exact λh=>CJ.mpr {_,h,rfl}
theorem Rc.trans(h1:Rc ps cl a b)(h2:Rc ps cl b c):Rc ps cl a c:=by
 induction h2 with
 |refl _=>exact h1
 |step _ e n ih=>exact .step ih e n
theorem Rc.rev(hq:∀a b,(a,b)∈ps->(b,a)∈qs)(h:Rc ps cl a b):Rc qs cl b a:=by
 induction h with
 |refl n=>exact .refl n
 |step h e n ih=>exact Rc.trans (.step (.refl n) (hq _ _ e) h.ne) ih
theorem yCG:Rc (back ps) cl b a↔Rc ps cl a b:={λh=>h.rev λ_ _ e=>SM.mp e,λh=>h.rev λ_ _ e=>SM.mpr e}
theorem Rg.back(R:Rg AE ps):Rg AE (_M.back ps):=by have pm:=uF (ps.map Iw);refine{R.m1,R.m2,by unfold _M.back;rw[pm.length_eq,AJ];exact R.len,λp hp=>?_};have:=R.rg (p.2,p.1) (SM.mp hp);exact{this.2.2.1,this.2.2.2,this.1,this.2.1}
end
end _M
namespace _M
abbrev Pr:=Int×Int
open _L
section
variable{L:List Int}{s t r x h:Int}{R0 R:List Pr}{g:Int->List Int}{way:List Int}
def ON(w:List Int):List Pr:=w.zip (w.drop 1)
theorem WX{a b:Int}{w:List Int}:(a,b)∈ON w↔∃i:Nat,w[i]?=AA a/\w[i+1]?=AA b:=by
 unfold ON;rw[OC];constructor
 .intro zz';have{i,e}:=zz';rw[GW,LO] at e;exact{i,e.1,by rw[N4];exact e.2}
 .intro zz';have{i,e1,e2}:=zz';exact{i,by rw[GW,LO];exact{e1,by rw[N4];exact e2}}
end
end _M
namespace _M
open PySem _L
noncomputable def Cc:D->Int×Int:=λd=>match d with|.tup [.int a,.int b]=>(a,b)|_=>(0,0)
theorem yF5(x:Int×Int):Cc (M4 x)=x:=rfl
section
variable{ps fl:List (Int×Int)}{AE g p u v a b x:Int}{L w zs:List Int}{l:Int×Int}
theorem Qi{h:Int×Int->D}:∀fl:List (Int×Int),(fl.map M4).flatMap (λd=>[h (Cc d)])=fl.map h
 |[]=>rfl
 |x::l=>by rw[AV,EC,Qi l,AV];rfl
theorem yIO{gi:GI}{js:List Nat}{ge:G}{E E1:Ev}(h:Int×Int->D)(cs:List Sl)(hi:gi E=.ok (fl.map M4,E1))(hc:WP 2 js E1=.no::.no::cs)(hl:fl.length<10000) (hg:∀l∈fl,ge (.val (.int l.1)::.val (.int l.2)::cs)=.ok (h l,.val (.int l.1)::.val (.int l.2)::cs)) (hb:∀u v,WZ E1 (u::v::cs) 2 js=E1):RC gi 2 js (.tp [.nm 0,.nm 1]) RA ge E=.ok (.lst (fl.map h),E1):=by
 have:=kT (gi:=gi) (k:=2) (js:=js) (t:=.tp [.nm 0,.nm 1]) (tt:=RA) (ge:=ge) (E:=E) (E1:=E1) (ds:=fl.map M4) (λd=>[h (Cc d)]) (λE=>∃u v,E=u::v::cs) hi {_,_,hc} (by rw[AJ];exact hl) (λd hd E hE=>by have{x,hx,rfl}:=CJ.mp hd;have{u,v,rfl}:=hE;exact{_,rfl,AN,_,rfl,.inl {rfl,h x,_,hg x hx,rfl,_,_,rfl}}) (λEc q0=>by have{u,v,e}:=q0;rw[e];exact hb u v);rw[this,Qi]
theorem zXR{α β:Type}(f:α->β)(xs:List α)(lo hi:Option Int):XO (xs.map f) lo hi=(XO xs lo hi).map f:=by unfold XO;rw[AJ,<-List.map_drop,<-List.map_take]
theorem yCH(ns:List Int):∃c:Int,qX [.val (.lst (ns.map D.int)),.val (.int 0)]=.ok (AD,.int c,.non):=by
 unfold qX;cases ns with
 |nil=>exact{0,P7 (G7 (TN (E1:=[.val (.lst []),.val (.int 0)]) (N7 (FW (x:=.int 0) (y:=.int 0) rfl (P8 (KR (d:=.lst []) rfl) rfl) rfl)) rfl) (RD (d:=.int 0) rfl)) rfl}
 |cons n ns=>refine{n,P7 (tD (E1:=[.val (.lst ((n::ns).map D.int)),.val (.int 0)]) (ZC (E1:=[.val (.lst ((n::ns).map D.int)),.val (.int 0)]) (N7 (FW (x:=.int 0) (y:=.int ((n::ns).map D.int).length) rfl (P8 (KR (d:=.lst ((n::ns).map D.int)) rfl) rfl) ?_)) (RD (FW (x:=.lst ((n::ns).map D.int)) (y:=.int 0) rfl rfl (nN (xs:=[]) 'D' rfl))))) rfl};simp only[YB];rw[decide_eq_true (by simp only[AV,BA];lia)]
theorem Su{E Ec:Ev}{k:Nat}{js:List Nat}(h:∀n j,js[n]?=AA j->Ec[k+n]?=E[j]?):WZ E Ec k js=E:=Q7 λi=>by
 rw[Gg,ED];cases e:E[i]? with
 |none=>rfl
 |some s =>
  cases s with
  |own t d =>
   simp only[Option.map,j4];cases q:kC i js 0 with
   |none=>rfl
   |some n=>have{m,xF,hm}:=Hh q;rw[ED] at xF;subst xF;simp only[h _ i hm,e,Option.getD_some]
  |_=>rfl
theorem Ia{E:Ev}{a b:Sl}{j:Nat}(h:E[j]?=AA b):WZ E [a,b] 1 [j]=E:=Su λn i e=>by
 cases n with
 |zero=>cases e;exact h.symm
 |succ n=>simp at e
noncomputable def UU(f:Int×Int->D)(qs:List (Int×Int)):List (List Int×D):=qs.map λl=>([l.1,l.2],f l)
theorem Hz{l m:Int×Int}(e:([l.1,l.2]:List Int)=[m.1,m.2]):l=m:=by injection e with e1 e2;injection e2 with e2 _;exact ZY e1 e2
theorem Tr{f:Int×Int->D}{m:Int×Int}:∀{qs:List (Int×Int)},m∈qs->NA (UU f qs) [m.1,m.2]=AA (f m)
 |x::L,h=>by
  unfold NA UU;rw[AV,FK];by_cases e:x=m
  .subst e;simp
  .have:decide (([x.1,x.2]:List Int)=[m.1,m.2])=AD:=decide_eq_false λz=>e (Hz z);simp only[this];exact Tr (qs:=L) ((A8.mp h).resolve_left (FI e))
theorem zXS{f:Int×Int->D}{m:Int×Int}{qs:List (Int×Int)}(h:m∉qs):O4 (UU f qs) [m.1,m.2] (f m)=UU f (qs++[m]):=by
 unfold O4 UU;rw[if_neg,EH]
 .rfl
 .simp only[Q8,HI,OI,decide_eq_true_eq,not_exists,not_and];exact λq hq z=>h (Hz z▸hq)
end
section
variable{AE s t:Int}{ps U:List Pr}
theorem Dw{g:G}{E:Ev}{w:List Int}(h:g E=.ok (.tup (w.map D.int),E)):bD g (Z9 g (AA (gC (.int 1))) AK) E=.ok ((ON w).map M4,E):=by
 have sl:Z9 g (AA (gC (.int 1))) AK E=.ok (.tup ((w.drop 1).map D.int),E):=by refine HG h (HG (a:=(AA 1,E)) rfl (HG (a:=(AK,E)) rfl ?_));show Out.ok (D.tup (XO (w.map D.int) (AA 1) AK),_)=_;rw[yKX,List.map_drop]
 refine HG h (HG sl ?_);show Out.ok (iD (w.map D.int) ((w.drop 1).map D.int),_)=_;unfold iD ON;rw[List.zip_map,DY];rfl
theorem yCI{w:List Int}{i:Nat}{l:Pr}(h:(ON w)[i]?=AA l):w[i]?=AA l.1/\w[i+1]?=AA l.2:=by unfold ON at h;rw[GW,LO] at h;exact{h.1,by rw[N4];exact h.2}
theorem Fv(w:List Int):(ON w).length=w.length-1:=by unfold ON;rw[jW,M7];lia
end
theorem zUD{AE:Int}{ps:List (Int×Int)}(hl:ps.length<10000):t9 [.val (FS AE ps)]=.ok (AD,FS AE (back ps),.non):=by have h1:=zT0 (gi:=LB (AY 2)) (E:=[.val (FS AE ps),.val (.int AE),.val (.tup (ps.map M4))]) (E1:=[.val (FS AE ps),.val (.int AE),.val (.tup (ps.map M4))]) (ps:=ps) rfl hl;exact P7 (G7 (N9 (d:=FS AE ps) rfl rfl) (RD (sY (RF (d:=.int AE) rfl (KR (P8 (KR (P8 (KR h1) (Wm _))) rfl))) (show 2<10000 by decide)))) rfl
section
variable{ps:List (Int×Int)}{AE g p:Int}{l:Int×Int}{w:List Int}
noncomputable instance rcDec (ps:List (Int×Int)) (cl:List Int) (g x:Int):Decidable (Rc ps cl g x):=TY _
end
section
variable{ps fl:List (Int×Int)}{AE g p u v a b x:Int}{L w zs:List Int}{l:Int×Int}
theorem Srt.at(S:Srt ps g L p zs){i j:Nat}(e1:zs[i]?=AA a)(e2:zs[j]?=AA b)(h:i<j):(mu ps g L a).length<(mu ps g L b).length:=by have{h1,q1}:=AR.mp e1;have{h2,q2}:=AR.mp e2;have:=DM.mp S.pw i j h1 h2 h;rwa [q1,q2] at this
theorem Srt.lt(S:Srt ps g L p zs){i j:Nat}(e1:zs[i]?=AA a)(e2:zs[j]?=AA b)(h:(mu ps g L a).length<(mu ps g L b).length):i<j:=by
 rcases RV i j with q|q|q
 .exact q
 .subst q;rw[e1] at e2;cases e2;lia
 .have:=S.at e2 e1 q;lia
theorem Gs(A:All ps g L)(h1:Dom ps g a p)(h2:Dom ps g b p)(h:(mu ps g L a).length<(mu ps g L b).length):Dom ps g a b:=by
 rcases h1.lin h2 with d|d
 .exact d
 .by_cases e:b=a
  .rw[e] at h;lia
  .have:=mJ A d e;lia
end
section
variable{AE s t:Int}{ps U:List Pr}{xs w:List Int}{ws:List (List Int)}{k:Int}
theorem Qh{α:Type}{f:α->D}(r:D->α)(hr:∀c,r (f c)=c)(h:α->D):∀xs:List α,(xs.map f).flatMap (λd=>[h (r d)])=xs.map h
 |[]=>rfl
 |x::xs=>by rw[AV,EC,Qh r hr h xs,hr];rfl
theorem yIR{α:Type}{f:α->D}(r:D->α)(hr:∀c,r (f c)=c)(h:α->D){gi:GI}{js:List Nat}{ge:G}{E E1:Ev}{xs:List α}(cs:List Sl)(hi:gi E=.ok (xs.map f,E1))(hc:WP 1 js E1=.no::cs)(hl:xs.length<10000) (he:∀x∈xs,ge (.val (f x)::cs)=.ok (h x,.val (f x)::cs)) (hb:∀u,WZ E1 (u::cs) 1 js=E1):RC gi 1 js (.nm 0) RA ge E=.ok (.lst (xs.map h),E1):=by
 have:=kT (gi:=gi) (k:=1) (js:=js) (t:=.nm 0) (tt:=RA) (ge:=ge) (E:=E) (E1:=E1) (ds:=xs.map f) (λd=>[h (r d)]) (λE=>∃u,E=u::cs) hi {_,hc} (by rw[AJ];exact hl) (λd hd E hE=>by have{x,hx,rfl}:=CJ.mp hd;have{u,rfl}:=hE;exact{_,rfl,AN,_,rfl,.inl {rfl,_,_,he x hx,by rw[hr],_,rfl}}) (λEc q0=>by have{u,e}:=q0;rw[e];exact hb u);rw[this,Qh r hr h]
end
theorem yF6{f:Int×Int->D}{m:Int×Int}{qs:List (Int×Int)}(h:m∈qs):E7 (.dt (UU f qs)) (M4 m)=.ok (f m):=Rj (congrArg AA (Tr h))
theorem Ra{f:Int->D}{p:Int}:∀{L:List Int},p∉L->NA (OA f L) (.inl p)=AK
 |[],_=>rfl
 |x::L,h=>by unfold NA OA;rw[AV,FK];have:decide ((CS x:Key)=CS p)=AD:=decide_eq_false λz=>h (by rw[IF z];exact A2);simp only[this];exact Ra (L:=L) λz=>h (A5 _ z)
theorem zXT{f:Int->D}{p:Int}{L:List Int}:QU (.int p) (.dk (OA f L))=.ok (.bl (decide (p∉L))):=by
 simp only[QU,QA,iK,iL,GR];by_cases h:p∈L
 .rw[t8 h];simp[Out.bind,h]
 .rw[Ra h];simp[Out.bind,h]
section
variable{AE s t k g p b c x:Int}{ps qs U V:List Pr}{xs ys w bs L cl:List Int}{ws:List (List Int)}
theorem yCJ(A:All ps g L){i:Nat}{u v:Int}(e1:(OB ps g L p)[i]?=AA u)(e2:(OB ps g L p)[i+1]?=AA v):IsH ps g v u:=by
 have S:=cX (p:=p) A;have du:=(S.mem A).mp (BJ e1);have dv:=(S.mem A).mp (BJ e2);have lt:=S.at e1 e2 (DO i);have d:=Gs A du dv lt;refine{d,λe=>by rw[e] at lt;lia,λc hc hn=>?_};have dc:Dom ps g c p:=hc.trans dv;have{j,hj}:=OC.mp ((S.mem A).mpr dc);have h1:=S.lt hj e2 (mJ A hc hn);by_cases e:j=i
 .rw[e,e1] at hj;cases hj;exact .refl d.rc
 .exact Gs A dc du (S.at hj e1 'L')
end
theorem yIS{E:Ev}{u v a:Sl}{j:Nat}(h:E[j]?=AA a):WZ E [u,v,a] 2 [j]=E:=Su λn i e=>by
 match n,e with
 |0,e=>cases e;exact h.symm
 |_+1,e=>cases e
section
variable{AE s t k g p b c x:Int}{ps qs:List Pr}{xs ys w bs L cl DQ Q:List Int}
theorem yIT(N:Net AE ps)(s0:0<=s)(s1:s<AE)(t0:0<=t)(t1:t<AE):∃xs:List Int,nJ [.val (FS AE ps),.val (.int s),.val (.int t)]=.ok (AD,.tup (xs.map D.int),.non)/\xs.length<=24/\xs.Pairwise (· < ·)/\∀x,x∈xs↔Rc ps [t] s x/\Rc ps [s] x t:=by
 have R:=N.rg';have m2:=N.m2;have{xs,e1,p1,m1}:=zY (cl:=[t]) R s0 s1;have{ys,e2,_,my}:=zY (cl:=[s]) R.back t0 t1;have hl:=DB (l₂:=ri AE.toNat) (p1.imp λh=>by omega) λx hx=>MQ.mpr (by have:=((m1 x).mp hx).range R s0 s1;omega);rw[cV] at hl;have a1:I0 (.nm 3) (KB dA [(AY 0),(AY 1),(T8 [(AY 2)])]) [.val (FS AE ps),.val (.int s),.val (.int t),.no,.no]=.ok (.nx [.val (FS AE ps),.val (.int s),.val (.int t),.val (.tup (xs.map D.int)),.no]):=N9 (PX (ds:=[FS AE ps,.int s,.tup [.int t]]) rfl e1) rfl;have a2:I0 (.nm 4) (KB dA [(KB t9 [(AY 0)]),(AY 2),(T8 [(AY 1)])]) [.val (FS AE ps),.val (.int s),.val (.int t),.val (.tup (xs.map D.int)),.no]=.ok (.nx [.val (FS AE ps),.val (.int s),.val (.int t),.val (.tup (xs.map D.int)),.val (.tup (ys.map D.int))]) :=
  N9 (PX (ds:=[FS AE (back ps),.int t,.tup [.int s]]) (RF (PX (ds:=[FS AE ps]) rfl (zUD (by have:=N.len;omega))) rfl) e2) rfl
 refine{xs.filter λx=>decide (x∈ys),P7 (G7 a1 (G7 a2 (RD (P8 (KR (Fx (λx=>decide (x∈ys)) [.val (.tup (ys.map D.int))] (tP rfl) rfl 'O' (λx _=>N7 (FW rfl rfl (tQ _ _))) (λu=>Ia rfl))) rfl)))) rfl,AW (FO _ _) 'O',p1.filter _,λx=>?_};rw[DG,decide_eq_true_eq,m1,my,yCG]
def TK(AE:Int)(ps:List Pr)(e:Pr):List Int:=Classical.epsilon λxs:List Int=>nJ [.val (FS AE ps),.val (.int e.1),.val (.int e.2)]=.ok (AD,.tup (xs.map D.int),.non)/\xs.length<=24/\xs.Pairwise (· < ·)/\∀x,x∈xs↔Rc ps [e.2] e.1 x/\Rc ps [e.1] x e.2
theorem kQ(N:Net AE ps)(s0:0<=s)(s1:s<AE)(t0:0<=t)(t1:t<AE):nJ [.val (FS AE ps),.val (.int s),.val (.int t)]=.ok (AD,.tup ((TK AE ps (s,t)).map D.int),.non)/\(TK AE ps (s,t)).length<=24/\(TK AE ps (s,t)).Pairwise (· < ·)/\∀x,x∈TK AE ps (s,t)↔Rc ps [t] s x/\Rc ps [s] x t:=Classical.epsilon_spec (yIT N s0 s1 t0 t1)
theorem zI(A:All ps g L)(N:Net AE ps)(g0:0<=g)(g1:g<AE)(h:x∈OB ps g L p):0<=x/\x<AE:=((((cX (p:=p) A).mem A).mp h).rc).range N.rg' g0 g1
abbrev strD(AE:Int)(ps:List Pr)(DQ:List Int):D:=.tup ((ON DQ).map λe=>.tup ((TK AE ps e).map D.int))
theorem zNI(A:All ps g L)(N:Net AE ps)(g0:0<=g)(g1:g<AE)(hp:Rc ps [] g p):k6 [.val (FS AE ps),.val (.int g),.val (.int p)]=.ok (AD,strD AE ps (OB ps g L p),.non):=by have hl:=zL N.rg' g0 g1 A p;have m2:=N.m2;have e:=Fv (OB ps g L p);refine P7 (G7 (N9 (PX (ds:=[FS AE ps,.int g,.int p]) rfl (zXQ A N.rg' g0 g1 N.m2 hp)) rfl) (RD (P8 (KR (yIO (λe=>.tup ((TK AE ps e).map D.int)) [.val (FS AE ps)] (Dw rfl) rfl 'O' (λl hl=>?_) (λu v=>yIS rfl))) rfl))) rfl;have{u,v}:=l;have{i,h1,h2}:=WX.mp hl;have r1:=zI A N g0 g1 (BJ h1);have r2:=zI A N g0 g1 (BJ h2);exact PX (ds:=[FS AE ps,.int u,.int v]) rfl (kQ N r1.1 r1.2 r2.1 r2.2).1
theorem yF7{d:D}(h:k6 [.val (FS AE ps),.val (.int g),.val (.int p)]=.ok (AD,d,.non)):nH [.val (FS AE ps),.val (.int g),.val (.int p)]=.ok (AD,d,.non):=by refine P7 (G7 (N9 (d:=.non) rfl rfl) (G7 (N9 (d:=.lst []) rfl rfl) (G7 (E1:=[.val (FS AE ps),.val (.int g),.val (.int p),.val d,.val (.lst []),.no]) ?_ (RD (HG (N7 (FW (x:=.lst []) (y:=.lst []) rfl rfl yF4)) (by rw[if_pos rfl];rfl)))))) rfl;have:I0 (.nm 3) (KB k6 [(AY 0),(AY 1),(AY 2)]) [.val (FS AE ps),.val (.int g),.val (.int p),.val .non,.val (.lst []),.no]=.ok (.nx [.val (FS AE ps),.val (.int g),.val (.int p),.val d,.val (.lst []),.no]):=N9 (PX (ds:=[FS AE ps,.int g,.int p]) rfl h) rfl;exact yIM this
theorem yCK{g g':GS}{E:Ev}(h:g E=.bad):FX g g' E=.bad:=by unfold FX;rw[h];rfl
theorem yF8(N:Net AE ps)(h0:0<=g)(h1:g<AE)(p0:0<=p)(p1:p<AE)(hp:¬Rc ps [] g p):nH [.val (FS AE ps),.val (.int g),.val (.int p)]=.ok (AD,.lst kb,.non):=by
 have hm:=N.m2;have R:=N.rg';have hh:=Vp R hm h0 h1;have t:∀u,gB (g2 fQ (g2 E7 (AY 0) (AY 1)) (gC .non)) (mE AE ps g p u)=.ok (AN,mE AE ps g p u):=λu =>
  N7 (FW (x:=L7 (hO ps g p)) (y:=.non) (FW (x:=.tup (PY AE.toNat (hO ps g))) (y:=.int p) rfl rfl (Ew R h0 h1 p0 p1)) rfl (by unfold hO;rw[if_neg hp];rfl))
 have b1:qZ [.val (.tup (PY AE.toNat (hO ps g))),.val (.int p)]=.bad:=by show O5 3 _ _=_;refine fn_bad ?_;show(NH _ _ _ (mE AE ps g p .no)).bind _=_;rw[ZC (t .no) rfl];rfl
 have a2:N8 [(KB nD [(AY 0),(AY 1)]),(AY 2)] [.val (FS AE ps),.val (.int g),.val (.int p)]=.ok ([.tup (PY AE.toNat (hO ps g)),.int p],[.val (FS AE ps),.val (.int g),.val (.int p)]):=RF (PX (ds:=[FS AE ps,.int g]) rfl hh) rfl;have b2:qI [.val (FS AE ps),.val (.int g),.val (.int p)]=.bad:=fn_bad (yCD (Fw a2 b1));have b3:k6 [.val (FS AE ps),.val (.int g),.val (.int p)]=.bad:=fn_bad (yCK (Re (Fw (ds:=[FS AE ps,.int g,.int p]) rfl b2)));have j1:gJ O1 [.inl "no way leads to ",.inr (AY 1)] (mE AE ps g p .no)=.ok (.str (O1++"no way leads to "++(toString p:CD)),mE AE ps g p .no):=by rw[yF2,yF3 (a:=p) (E1:=mE AE ps g p .no) rfl {p0,by omega},gJ]
 obtain⟨z1,lM⟩:∃z,Be [.tup (PY AE.toNat (hO ps g)),.int p]=.ok z:={_,show Hr (mE AE ps g p .no)=_ from yIL (t .no) (HG (KR j1) (XQ (show 1<10000 by decide)))};obtain⟨z2,ZN⟩:∃z,Am [FS AE ps,.int g,.int p]=.ok z:={_,show Gi [.val (FS AE ps),.val (.int g),.val (.int p)]=_ from Ys a2 lM};obtain⟨z3,Mb⟩:∃z,Bh [FS AE ps,.int g,.int p]=.ok z:={_,show Hi [.val (FS AE ps),.val (.int g),.val (.int p),.no]=_ from Ys (ds:=[FS AE ps,.int g,.int p]) rfl ZN};refine P7 (G7 (N9 (d:=.non) rfl rfl) (G7 (N9 (d:=.lst []) rfl rfl) (G7 (E1:=[.val (FS AE ps),.val (.int g),.val (.int p),.val .non,.val (.lst kb),.no]) ?_ (RD (HG (N7 (FW (x:=.lst kb) (y:=.lst []) (d:=.bl AD) rfl rfl rfl)) (by rw[if_neg CH];rfl)))))) rfl;have:I0 (.nm 3) (KB k6 [(AY 0),(AY 1),(AY 2)]) [.val (FS AE ps),.val (.int g),.val (.int p),.val .non,.val (.lst []),.no]=.bad:=Re (Fw (ds:=[FS AE ps,.int g,.int p]) rfl b3);exact yIN this (ds:=[FS AE ps,.int g,.int p]) (E1:=[.val (FS AE ps),.val (.int g),.val (.int p),.val .non,.val (.lst []),.no]) rfl Mb
abbrev aG(AE:Int)(ps:List Pr)(s t:Int)(fs FF:List Int)(u5:Sl):Ev:=[.val (FS AE ps),.val (.int s),.val (.int t),.val (.lst (fs.map D.int)),.own AD (.lst (FF.map D.int)),u5]
theorem yIU(N:Net AE ps)(s0:0<=s)(s1:s<AE)(t0:0<=t)(t1:t<AE):qW [.val (FS AE ps),.val (.int s),.val (.int t)]=.ok (AD,.tup ((TK AE ps (s,t)).map D.int),.non):=by
 have R:=N.rg';have m2:=N.m2;have{_,hl,pw,mx}:=kQ N s0 s1 t0 t1;have{fs,e1,nd,mf}:=Ao (BV:=AA t) R s0 s1;obtain⟨q,hq⟩:∃q:Int->Bool,q=λx=>decide (x≠s/\Rc ps [s] x t):={_,rfl};have Nq:=DB (l₂:=ri AE.toNat) nd λx hx=>MQ.mpr (by have:=((mf x).mp hx).range R s0 s1;omega);rw[cV] at Nq;have e2:TK AE ps (s,t)=(ZE fs).filter q:=by
  have pm:=Au fs;have h1:(TK AE ps (s,t)).Perm ((ZE fs).filter q):=(LN (pw.imp λh=>by omega) ((pm.nodup_iff.mpr nd).filter _)).mpr λx=>by rw[mx,DG,pm.mem_iff,mf,hq,decide_eq_true_eq];exact{λh=>{h.1,λe=>h.2.st (by rw[e];exact A2),h.2},λh=>{h.1,h.2.2}}
  exact(Gf h1 (pw.imp λh=>by omega)).trans (Gf (GF _) ((To fs).filter _)).symm
 have a1:I0 (.nm 3) (KB aD [(AY 0),(AY 1),(AY 2)]) [.val (FS AE ps),.val (.int s),.val (.int t),.no,.no,.no]=.ok (.nx [.val (FS AE ps),.val (.int s),.val (.int t),.val (.lst (fs.map D.int)),.no,.no]):=N9 (PX (ds:=[FS AE ps,.int s,.int t]) rfl e1) rfl;have a2:RX 4 (J1 []) [.val (FS AE ps),.val (.int s),.val (.int t),.val (.lst (fs.map D.int)),.no,.no]=.ok (.nx (aG AE ps s t fs [] .no)):=X9 (i:=4) (E:=[.val (FS AE ps),.val (.int s),.val (.int t),.val (.lst (fs.map D.int)),.no,.no]) (E':=[.val (FS AE ps),.val (.int s),.val (.int t),.val (.lst (fs.map D.int)),.no,.no]) rfl;have{E',e,u5,rfl}:=bN (gi:=LB (gN bI [(AY 3)])) (t:=.nm 5) (g:=(NH (bK (gB (g2 L9 (AY 5) (AY 1))) (gB (g2 QA (AY 2) (KB aD [(AY 0),(AY 5),(AY 1)]))))
 (X6 (O7 4 T7 [(AY 5)]))
 PB)) (E:=aG AE ps s t fs [] .no) (E1:=aG AE ps s t fs [] .no) (ds:=(ZE fs).map D.int)
  (λi E=>∃u5,E=aG AE ps s t fs (((ZE fs).take i).filter q) u5) (nB (P8 (KR rfl) (zQS fs))) {_,rfl}
  (λi d E hd hP=>by
   have{u5,rfl}:=hP;rw[AU] at hd;have{x,hx,rfl}:=BN.mp hd;have{hi,ei}:=AR.mp hx;have hxf:x∈fs:=(Au fs).mem_iff.mp (BJ hx);have rx:=((mf x).mp hxf).range R s0 s1;obtain⟨FF,hf⟩:∃FF,FF=((ZE fs).take i).filter q:={_,rfl};have hfd:FF.length<=24:=by rw[hf];have:=FO q ((ZE fs).take i);have h2:=(Au fs).length_eq;rw[EI] at this;omega
   have tk:((ZE fs).take (i+1)).filter q=FF++if q x=AN then[x] else[]:=by
    rw[Q6,P1,hx,hf];by_cases h:q x=AN
    .rw[if_pos h];simp[h]
    .rw[if_neg h];simp[h]
   rw[<-hf,tk];refine{aG AE ps s t fs FF (.val (.int x)),rfl,?_};have t1:gB (g2 L9 (AY 5) (AY 1)) (aG AE ps s t fs FF (.val (.int x)))=.ok (decide (x≠s),aG AE ps s t fs FF (.val (.int x))):=N7 (FW (x:=.int x) (y:=.int s) rfl rfl (qK _ _));have{gs,eg,_,mg}:=Ao (BV:=AA s) R rx.1 rx.2;have t2:gB (g2 QA (AY 2) (KB aD [(AY 0),(AY 5),(AY 1)])) (aG AE ps s t fs FF (.val (.int x)))=.ok (decide (t∈gs),aG AE ps s t fs FF (.val (.int x))):=N7 (FW (x:=.int t) (y:=.lst (gs.map D.int)) rfl (PX (ds:=[FS AE ps,.int x,.int s]) rfl eg) (Rl _ _));have tt:bK (gB (g2 L9 (AY 5) (AY 1))) (gB (g2 QA (AY 2) (KB aD [(AY 0),(AY 5),(AY 1)]))) (aG AE ps s t fs FF (.val (.int x)))=.ok (q x,aG AE ps s t fs FF (.val (.int x))):=by
    by_cases h:x≠s
    .rw[decide_eq_true h] at t1;refine(mT t1 t2).trans ?_;rw[hq,decide_eq_decide.mpr ((mg t).trans (and_iff_right h).symm)];rfl
    .rw[decide_eq_false h] at t1;refine(zE t1).trans ?_;rw[hq];show _=Out.ok (decide _,_);rw[decide_eq_false λz=>h z.1]
   by_cases h:q x=AN
   .rw[h] at tt;rw[if_pos h];refine{_,ZC tt ?_,.val (.int x),rfl};have:=kR (i:=4) (f:=T7) (gs:=[AY 5]) (E:=aG AE ps s t fs FF (.val (.int x))) (E1:=aG AE ps s t fs FF (.val (.int x))) (t:=AD) (t2:=AD) (xs0:=FF.map D.int) (xs:=FF.map D.int) (ds:=[.int x]) (x:=.non) (UD:=(FF++[x]).map D.int) rfl rfl rfl (by simp only[T7,AJ];rw[XQ 'O',EH];rfl);exact qJ this
   .rw[show q x=AD by simpa using h] at tt;rw[if_neg h,C5];exact{_,TN tt rfl,.val (.int x),rfl})
 rw[AJ,DE,<-e2] at e;refine P7 (G7 a1 (G7 a2 (G7 e (RD (ZG (P8 (KR rfl) rfl) ?_))))) rfl;unfold cW;rw[show(D.tup ((TK AE ps (s,t)).map D.int)).flat=AN from At _,show(D.tup ((TK AE ps (s,t)).map D.int)).nod=AN from uE _,Bool.or_true,Bool.or_true];rfl
end
theorem Tq{f:Pr->D}{l:Pr}:∀{U:List Pr},(NA (UU f U) [l.1,l.2]).isSome=decide (l∈U)
 |[]=>rfl
 |m::U=>by
  have ih:=Tq (f:=f) (l:=l) (U:=U);unfold NA UU at ih ⊢;rw[AV,FK];by_cases e:m=l
  .subst e;simp
  .have:decide (([m.1,m.2]:List Int)=[l.1,l.2])=AD:=decide_eq_false λz=>e (Hz z);simp only[this];rw[ih];have e':l≠m:=λz=>e z.symm;simp[e']
theorem zUF{f:Pr->D}{l:Pr}{U:List Pr}:QU (M4 l) (.dt (UU f U))=.ok (.bl (decide (l∉U))):=by
 have:QA (M4 l) (.dt (UU f U))=.ok (.bl (decide (l∈U))):=by rw[<-Tq (f:=f)];rfl
 unfold QU;rw[this];simp[Out.bind]
theorem yCL{f:Pr->D}{l:Pr}{U:List Pr}(h:l∉U)(hl:U.length<9000):jZ (.dt (UU f U)) (M4 l) (f l)=.ok (.dt (UU f (U++[l]))):=by rw[<-zXS h];exact XQ (by unfold UU;rw[AJ];omega)
section
variable{AE s t k g p b c x n:Int}{sc:D}{ps qs:List (Int×Int)}{xs ys w bs L cl DQ Q:List Int}
theorem Tp(I:IsH ps g t s)(h:Rc ps [t] s x):Rc ps [t] g x:=by have:Rc ps [t] g s:=IL λz=>I.ne (Dom.anti I.dom {I.dom.rc,z});exact this.trans h
theorem zUG(I:IsH ps g t s)(h1:Rc ps [t] s x)(h2:Rc ps [s] x t)(d:Dom ps g x p)(dt:Dom ps g t p):False:=by
 rcases d.lin dt with e|e
 ·-- x is a must of t
  have hx:x≠t:=λz=>h1.ne (by rw[z];exact A2);have hs:x≠s:=λz=>h2.st (by rw[z];exact A2);have e2:=I.last x e hx;have:Rc ps [s] g x:=IL λz=>hs (Dom.anti e2 {e2.rc,z});exact I.dom.2 (this.trans h2)
 .exact e.2 (Tp I h1)
theorem zXU{s' t':Int}(I:IsH ps g t s)(I':IsH ps g t' s')(d:t=s'\/Dom ps g t s')(h1:Rc ps [t] s x)(h2:Rc ps [s'] x t'):False:=by
 have a:=Tp I h1;by_cases h:Rc ps [s'] g x
 .exact I'.dom.2 (h.trans h2)
 .have hx:Rc ps [] g x:=a.mono λz hz=>absurd hz CG;have e:Dom ps g s' x:={hx,h};rcases d with rfl|d
  .exact h a
  .exact(d.trans e).2 a
abbrev sf(AE:Int)(ps:List Pr):Pr->D:=λe=>.tup ((TK AE ps e).map D.int)
theorem Qz{i:Nat}{l:Pr}(h:(ON w)[i]?=AA l):w[i]?=AA l.1/\w[i+1]?=AA l.2:=yCI h
theorem mZ(A:All ps g L)(N:Net AE ps)(g0:0<=g)(g1:g<AE){e:Pr}(h:e∈ON (OB ps g L p)):IsH ps g e.2 e.1/\Dom ps g e.2 p/\0<=e.1/\e.1<AE/\0<=e.2/\e.2<AE:=by have{u,v}:=e;have{i,h1,h2}:=WX.mp h;have r1:=zI A N g0 g1 (BJ h1);have r2:=zI A N g0 g1 (BJ h2);exact{yCJ A h1 h2,((cX (p:=p) A).mem A).mp (BJ h2),r1.1,r1.2,r2.1,r2.2}
def rL(AE:Int)(ps:List Pr)(DQ:List Int):List Int:=(ON DQ).flatMap (TK AE ps)
theorem Qg(A:All ps g L)(N:Net AE ps)(g0:0<=g)(g1:g<AE):(rL AE ps (OB ps g L p)).Nodup:=by
 unfold rL;have S:=cX (p:=p) A;refine List.pairwise_flatMap.mpr {λe he=>?_,?_}
 .have h:=mZ A N g0 g1 he;exact(kQ N h.2.2.1 h.2.2.2.1 h.2.2.2.2.1 h.2.2.2.2.2).2.2.1.imp λh=>by omega
 .refine DM.mpr λi j hi hj LS=>?_;have e1:=BP hi;have e2:=BP hj;have m1:=FQ hi;have m2:=FQ hj;obtain⟨l,hl⟩:∃l,l=(ON (OB ps g L p))[i]:={_,rfl};obtain⟨m,hm⟩:∃m,m=(ON (OB ps g L p))[j]:={_,rfl};rw[<-hl] at e1 m1;rw[<-hm] at e2 m2;rw[<-hl,<-hm];have q1:=mZ A N g0 g1 m1;have q2:=mZ A N g0 g1 m2;have{a1,a2}:=Qz e1;have{b1,b2}:=Qz e2;have d:l.2=m.1\/Dom ps g l.2 m.1:=by
   by_cases h:i+1=j
   .rw[h,b1] at a2;exact .inl (BH a2).symm
   .exact .inr (Gs A q1.2.1 ((S.mem A).mp (BJ b1)) (S.at a2 b1 'O'))
  intro x hx y hx' exy;rw[<-exy] at hx';have x1:=((kQ N q1.2.2.1 q1.2.2.2.1 q1.2.2.2.2.1 q1.2.2.2.2.2).2.2.2 x).mp hx;have x2:=((kQ N q2.2.2.1 q2.2.2.2.1 q2.2.2.2.2.1 q2.2.2.2.2.2).2.2.2 x).mp hx';exact zXU q1.1 q2.1 d x1.1 x2.2
theorem yF9(A:All ps g L)(N:Net AE ps)(g0:0<=g)(g1:g<AE)(h:x∈rL AE ps (OB ps g L p)):x∉OB ps g L p:=λhc=>by have{e,he,hx}:=SG.mp h;have q:=mZ A N g0 g1 he;have x1:=((kQ N q.2.2.1 q.2.2.2.1 q.2.2.2.2.1 q.2.2.2.2.2).2.2.2 x).mp hx;exact zUG q.1 x1.1 x1.2 (((cX (p:=p) A).mem A).mp hc) q.2.1
theorem yCM(A:All ps g L)(N:Net AE ps)(g0:0<=g)(g1:g<AE):(rL AE ps (OB ps g L p)).length<=24:=by
 have m2:=N.m2;have:=DB (l₂:=ri AE.toNat) (Qg (p:=p) A N g0 g1) λx hx=>by have{e,he,hx}:=SG.mp hx;have q:=mZ A N g0 g1 he;have x1:=((kQ N q.2.2.1 q.2.2.2.1 q.2.2.2.2.1 q.2.2.2.2.2).2.2.2 x).mp hx;have:=x1.1.range N.rg' q.2.2.1 q.2.2.2.1;exact MQ.mpr 'O'
 rw[cV] at this;omega
end
section
variable{AE s t k g p b c x n:Int}{sc:D}{ps qs:List (Int×Int)}{xs ys w bs L cl DQ Q:List Int}{u6 u7 u8 u9 u10 u11:Sl}
abbrev LE(sc:D)(n AE:Int)(ps:List Pr)(g:Int)(L:List Int)(qs:List Pr)(u6 u7 u8 u9 u10 u11:Sl):Ev:=[.val sc,.val (.int n),.val (FS AE ps),.val (.int g),.val (.dk (OA (Z6 ps g L) L)),.own AD (.dt (UU (sf AE ps) qs)),u6,u7,u8,u9,u10,u11]
structure Kn(AE:Int)(qs:List Pr):Prop where
 nd:qs.Nodup
 rg:∀e∈qs,0<=e.1/\e.1<AE/\0<=e.2/\e.2<AE
theorem Kn.len(K:Kn AE qs)(hm:AE<=24):qs.length<=576:=by have h:=DB (l₂:=(ri 24).flatMap λa=>(ri 24).map λb=>(a,b)) K.nd λe he=>SG.mpr {e.1,MQ.mpr (by have:=K.rg e he;omega),CJ.mpr {e.2,MQ.mpr (by have:=K.rg e he;omega),rfl}};exact AW h (by decide +kernel)
abbrev Jl:GS:=(NH (QT [5] (gB (g2 QU (AY 9) (AY 5)))) (QV 5 (AY 9) (KB qW [(AY 2),(g2 E7 (AY 9) (gC (.int 0))),(g2 E7 (AY 9) (gC (.int 1)))])) PB)
theorem yIV(A:All ps g L)(N:Net AE ps)(z0:0<=g)(z1:g<AE)(K:Kn AE qs):∃UA vJ,OQ (bD (AY 8) (Z9 (AY 8) (AA (gC (.int 1))) AK)) (.nm 9) Jl (LE sc n AE ps g L qs u6 u7 (.val (.tup ((OB ps g L p).map D.int))) u9 u10 u11)=.ok (.nx (LE sc n AE ps g L UA u6 u7 (.val (.tup ((OB ps g L p).map D.int))) vJ u10 u11))/\Kn AE UA/\∀e∈ON (OB ps g L p),e∈UA:=by
 have hm:=N.m2;obtain⟨DQ,hr⟩:∃DQ,DQ=OB ps g L p:={_,rfl};have all:∀e∈ON DQ,0<=e.1/\e.1<AE/\0<=e.2/\e.2<AE:=λe he=>(mZ A N z0 z1 (hr▸he)).2.2;rw[<-hr];have{E',e,UA,vJ,rfl,K',MV}:=bN (gi:=bD (AY 8) (Z9 (AY 8) (AA (gC (.int 1))) AK)) (t:=.nm 9) (g:=Jl) (E:=LE sc n AE ps g L qs u6 u7 (.val (.tup (DQ.map D.int))) u9 u10 u11) (E1:=LE sc n AE ps g L qs u6 u7 (.val (.tup (DQ.map D.int))) u9 u10 u11) (ds:=(ON DQ).map M4)
  (λi E=>∃UA vJ,E=LE sc n AE ps g L UA u6 u7 (.val (.tup (DQ.map D.int))) vJ u10 u11/\Kn AE UA/\∀e∈(ON DQ).take i,e∈UA) (Dw rfl) {qs,u9,rfl,K,λe he=>absurd he (by rw[List.take_zero];exact CG)}
  (λi d E hd hP=>by
   have{gM,v9,rfl,K1,MV}:=hP;rw[AU] at hd;have{l,hl,rfl}:=BN.mp hd;have ra:=all l (BJ hl);have kl:=K1.len hm;obtain⟨E1,eT⟩:∃E1,E1=LE sc n AE ps g L gM u6 u7 (.val (.tup (DQ.map D.int))) (.val (M4 l)) u10 u11:={_,rfl};have tk:∀e,e∈(ON DQ).take (i+1)->e∈(ON DQ).take i\/e=l:=λe he=>by rw[Q6,hl] at he;exact(BU.mp he).imp id λz=>A1.mp z
   have tt:QT [5] (gB (g2 QU (AY 9) (AY 5))) E1=.ok (decide (l∉gM),E1):=by rw[eT];exact WT (N7 (FW (x:=M4 l) (y:=.dt (UU (sf AE ps) gM)) rfl rfl zUF))
   refine{E1,by rw[eT];rfl,?_};by_cases h:l∉gM
   .rw[decide_eq_true h] at tt;refine{LE sc n AE ps g L (gM++[l]) u6 u7 (.val (.tup (DQ.map D.int))) (.val (M4 l)) u10 u11,ZC tt ?_,gM++[l],_,rfl,{?_,?_},λe he=>?_}
    .have:=bP (i:=5) (gv:=KB qW [(AY 2),(g2 E7 (AY 9) (gC (.int 0))),(g2 E7 (AY 9) (gC (.int 1)))]) (gk:=AY 9) (E:=E1) (E1:=E1) (E2:=E1) (t2:=AD) (t:=AD) (d0:=.dt (UU (sf AE ps) gM)) (d:=.dt (UU (sf AE ps) gM)) (v:=sf AE ps l) (k:=M4 l) (d':=.dt (UU (sf AE ps) (gM++[l]))) (by rw[eT];rfl)
      (PX (ds:=[FS AE ps,.int l.1,.int l.2]) (by rw[eT];rfl) (yIU N ra.1 ra.2.1 ra.2.2.1 ra.2.2.2)) (by rw[eT];rfl) (by rw[eT];rfl) (yCL (f:=sf AE ps) h 'O')
     refine this.trans ?_;rw[eT];rfl
    .exact FZ.mpr {K1.nd,D8.mpr {CG,ER},λa ha b hb z=>h (by rw[<-A1.mp hb,<-z];exact ha)}
    .intro e he;rcases BU.mp he with he|he
     .exact K1.rg e he
     .rw[A1.mp he];exact ra
    .rcases tk e he with z|z
     .exact C1 _ (MV e z)
     .rw[z];exact BO _ A2
   .rw[decide_eq_false h] at tt;refine{E1,TN tt rfl,gM,_,eT,K1,λe he=>?_};rcases tk e he with z|z
    .exact MV e z
    .rw[z];exact Classical.not_not.mp h)
 rw[AJ,DE] at MV;exact{UA,vJ,e,K',MV}
theorem yCN(DQ:List Int)(hr:DQ.length<=24)(N:Net AE ps)(ra:∀e∈ON DQ,0<=e.1/\e.1<AE/\0<=e.2/\e.2<AE):zA5 5 [.val (strD AE ps DQ),.val (strD AE ps DQ)]=.ok (AD,.bl AN,.non) :=Rb (n:=4) (by rw[AJ,Fv];omega) λd hd=>by have{e,he,rfl}:=CJ.mp hd;have r:=ra e he;have:=(kQ N r.1 r.2.1 r.2.2.1 r.2.2.2).2.1;exact Rb (n:=3) (by rw[AJ];show(TK AE ps (e.1,e.2)).length<_;omega) λd hd=>by have{y,_,rfl}:=CJ.mp hd;exact yCF 2 y
abbrev isB:GS:=(NH (QT [5] (iO (Z5 (KB (zA5 5) [(AY 7),(gN XN [(RC (bD (AY 8) (Z9 (AY 8) (AA (gC (.int 1))) AK)) 1 [5] (.nm 0) RA (g2 E7 (AY 1) (AY 0)))])])))) (NB (gC (.bl AD))) PB)
theorem yIW(N:Net AE ps)(hr:DQ.length<=24)(ra:∀e∈ON DQ,0<=e.1/\e.1<AE/\0<=e.2/\e.2<AE)(hk:∀e∈ON DQ,e∈qs):isB (LE sc n AE ps g L qs u6 (.val (strD AE ps DQ)) (.val (.tup (DQ.map D.int))) u9 u10 u11)=.ok (.nx (LE sc n AE ps g L qs u6 (.val (strD AE ps DQ)) (.val (.tup (DQ.map D.int))) u9 u10 u11)):=by obtain⟨E,hE⟩:∃E,E=N6 [5] (LE sc n AE ps g L qs u6 (.val (strD AE ps DQ)) (.val (.tup (DQ.map D.int))) u9 u10 u11):={_,rfl};have hl:=Fv DQ;have z:bD (AY 8) (Z9 (AY 8) (AA (gC (.int 1))) AK) E=.ok ((ON DQ).map M4,E):=Dw (by rw[hE];rfl);have cp:=yIR (f:=M4) Cc yF5 (sf AE ps) (ge:=g2 E7 (AY 1) (AY 0)) (js:=[5]) [.val (.dt (UU (sf AE ps) qs))] z (by rw[hE];rfl) 'O' (λe he=>FW (x:=.dt (UU (sf AE ps) qs)) (y:=M4 e) rfl rfl (yF6 (hk e he))) (λu=>Ia (by rw[hE];rfl));refine TN (WT (E':=E) (d:=AD) ?_) rfl;rw[<-hE];exact Fg (b:=AN) (mO (d:=.bl AN) (PX (ds:=[strD AE ps DQ,strD AE ps DQ]) (RF (E1:=E) (by rw[hE];rfl) (KR (P8 (KR cp) rfl))) (yCN DQ hr N ra)) rfl)
abbrev Zn:GS:=(OQ (LB (AY 7)) (.nm 11) (X6 (O7 10 kF [(AY 11)])))
theorem yIX(hl:((ON DQ).flatMap (TK AE ps)).length<=24):∃dI,Zn (LE sc n AE ps g L qs u6 (.val (strD AE ps DQ)) u8 u9 (.own AD (.lst [])) u11)=.ok (.nx (LE sc n AE ps g L qs u6 (.val (strD AE ps DQ)) u8 u9 (.own AD (.lst ((rL AE ps DQ).map D.int))) dI)):=by
 have{E',e,dI,rfl}:=bN (gi:=LB (AY 7)) (t:=.nm 11) (g:=X6 (O7 10 kF [(AY 11)])) (E:=LE sc n AE ps g L qs u6 (.val (strD AE ps DQ)) u8 u9 (.own AD (.lst [])) u11) (E1:=LE sc n AE ps g L qs u6 (.val (strD AE ps DQ)) u8 u9 (.own AD (.lst [])) u11) (ds:=(ON DQ).map (sf AE ps))
  (λi E=>∃dI,E=LE sc n AE ps g L qs u6 (.val (strD AE ps DQ)) u8 u9 (.own AD (.lst ((((ON DQ).take i).flatMap (TK AE ps)).map D.int))) dI) (tP rfl) {u11,rfl}
  (λi d E hd hP=>by
   have{v,rfl}:=hP;rw[AU] at hd;have{l,jE,rfl}:=BN.mp hd;obtain⟨acc,ha⟩:∃acc,acc=((ON DQ).take i).flatMap (TK AE ps):={_,rfl};have tk:((ON DQ).take (i+1)).flatMap (TK AE ps)=acc++TK AE ps l:=by rw[Q6,jE,a9,ha];simp
   have SZ:(acc++TK AE ps l).length<=24:=by
    rw[<-tk];refine AW ?_ hl;conv=>rhs;rw[<-Y6 (i+1) (ON DQ),a9,BC]
    omega
   rw[BC] at SZ;rw[tk,<-ha];refine{LE sc n AE ps g L qs u6 (.val (strD AE ps DQ)) u8 u9 (.own AD (.lst (acc.map D.int))) (.val (sf AE ps l)),rfl,_,?_,.val (sf AE ps l),rfl};have:=kR (i:=10) (f:=kF) (gs:=[AY 11]) (E:=LE sc n AE ps g L qs u6 (.val (strD AE ps DQ)) u8 u9 (.own AD (.lst (acc.map D.int))) (.val (sf AE ps l))) (E1:=LE sc n AE ps g L qs u6 (.val (strD AE ps DQ)) u8 u9 (.own AD (.lst (acc.map D.int))) (.val (sf AE ps l))) (t:=AD) (t2:=AD) (xs0:=acc.map D.int) (xs:=acc.map D.int) (ds:=[sf AE ps l]) (x:=.non) (UD:=(acc++TK AE ps l).map D.int) rfl rfl rfl (by simp only[kF,AJ];rw[XQ 'O',EH]);exact qJ this)
 rw[AJ,DE] at e;exact{dI,e}
abbrev Zz:GS:=(NH (QT [10] (rD (gB (g2 YB (zN (AY 10)) (gN QR [(AY 10)]))) (gB (g2 L9 (RC (LB (AY 10)) 1 [8] (.nm 0) (gB (g2 QA (AY 0) (AY 1))) (AY 0)) (J1 []))))) (NB (gC (.bl AD))) PB)
theorem yIY(nd:xs.Nodup)(hl:xs.length<=24)(no:∀x∈xs,x∉DQ):Zz (LE sc n AE ps g L qs u6 u7 (.val (.tup (DQ.map D.int))) u9 (.own AD (.lst (xs.map D.int))) u11)=.ok (.nx (LE sc n AE ps g L qs u6 u7 (.val (.tup (DQ.map D.int))) u9 (.own AD (.lst (xs.map D.int))) u11)):=by
 obtain⟨E,hE⟩:∃E,E=N6 [10] (LE sc n AE ps g L qs u6 u7 (.val (.tup (DQ.map D.int))) u9 (.own AD (.lst (xs.map D.int))) u11):={_,rfl};have v:AY 10 E=.ok (.lst (xs.map D.int),E):=by rw[hE];rfl
 have l1:zN (AY 10) E=.ok (.int xs.length,E):=by refine HG v ?_;show(match RE (xs.map D.int) with|some ns=>_|none=>_)=_;rw[uG];show _L.guard _ _=_;rw[_L.guard,if_pos 'O',(zVL xs).mpr nd]
 have l2:gN QR [(AY 10)] E=.ok (.int xs.length,E):=P8 (KR v) (Jg (by rw[AJ]));have c:=Fx (gi:=LB (AY 10)) (js:=[8]) (tt:=gB (g2 QA (AY 0) (AY 1))) (E:=E) (E1:=E) (λx=>decide (x∈DQ)) [.val (.tup (DQ.map D.int))] (nB v) (by rw[hE];rfl) 'O' (λx _=>N7 (FW rfl rfl (tQ _ _))) (λu=>Ia (by rw[hE];rfl));rw[List.filter_eq_nil_iff.mpr λx hx h=>no x hx (of_decide_eq_true h)] at c;refine TN (WT (E':=E) (d:=AD) ?_) rfl;rw[<-hE];refine Yr (N7 (FW l1 l2 ?_)) (N7 (FW c rfl (d:=.bl AD) rfl));simp[YB]
end
section
variable{AE s t k g p b c x n:Int}{sc:D}{ps qs:List (Int×Int)}{L:List Int}{u6 u7 u8 u9 u10 u11:Sl}
abbrev Jj:GS:=(FX (I0 (.nm 7) (KB nH [(AY 2),(AY 3),(AY 6)])) (NH (gB (g2 QU (AY 6) (AY 4))) (NH (gB (g2 L9 (AY 7) (KB uI [(gC (.int 0))]))) (NB (gC (.bl AD))) PB) (FX (I0 (.nm 8) (g2 E7 (AY 4) (AY 6))) (FX (OQ (bD (AY 8) (Z9 (AY 8) (AA (gC (.int 1))) AK)) (.nm 9) Jl) (FX isB (FX (RX 10 (J1 [])) (FX Zn Zz)))))))
theorem yIZ(A:All ps g L)(N:Net AE ps)(z0:0<=g)(z1:g<AE)(K:Kn AE qs)(p0:0<=p)(p1:p<AE):∃UA v7 v8 v9 rS lD,Jj (LE sc n AE ps g L qs (.val (.int p)) u7 u8 u9 u10 u11)=.ok (.nx (LE sc n AE ps g L UA (.val (.int p)) v7 v8 v9 rS lD))/\Kn AE UA:=by
 have hm:=N.m2;have tn:∀{v7:Sl},gB (g2 QU (AY 6) (AY 4)) (LE sc n AE ps g L qs (.val (.int p)) v7 u8 u9 u10 u11)=.ok (decide (p∉L),LE sc n AE ps g L qs (.val (.int p)) v7 u8 u9 u10 u11):=λ{v7} =>
  N7 (FW (x:=.int p) (y:=.dk (OA (Z6 ps g L) L)) rfl rfl zXT)
 by_cases hp:Rc ps [] g p
 .have eF:p∈L:=(A.mem p).mpr hp;obtain⟨DQ,hr⟩:∃DQ,DQ=OB ps g L p:={_,rfl};have i9:DQ.length<=24:=by have:=zL N.rg' z0 z1 A p;rw[hr];omega
  have ra:∀e∈ON DQ,0<=e.1/\e.1<AE/\0<=e.2/\e.2<AE:=λe he=>(mZ A N z0 z1 (hr▸he)).2.2;have s1:I0 (.nm 7) (KB nH [(AY 2),(AY 3),(AY 6)]) (LE sc n AE ps g L qs (.val (.int p)) u7 u8 u9 u10 u11)=.ok (.nx (LE sc n AE ps g L qs (.val (.int p)) (.val (strD AE ps DQ)) u8 u9 u10 u11)) :=
   N9 (PX (ds:=[FS AE ps,.int g,.int p]) rfl (yF7 (by rw[hr];exact zNI A N z0 z1 hp))) rfl
  have s2:I0 (.nm 8) (g2 E7 (AY 4) (AY 6)) (LE sc n AE ps g L qs (.val (.int p)) (.val (strD AE ps DQ)) u8 u9 u10 u11)=.ok (.nx (LE sc n AE ps g L qs (.val (.int p)) (.val (strD AE ps DQ)) (.val (.tup (DQ.map D.int))) u9 u10 u11)) :=
   N9 (d:=.tup (DQ.map D.int)) (FW (x:=.dk (OA (Z6 ps g L) L)) (y:=.int p) rfl rfl (by rw[hr];exact Io (t8 eF))) rfl
  have{UA,v9,s3,K',hk}:=yIV (p:=p) (sc:=sc) (n:=n) (u6:=.val (.int p)) (u7:=.val (strD AE ps DQ)) (u9:=u9) (u10:=u10) (u11:=u11) A N z0 z1 K;rw[<-hr] at s3 hk;have s4:=yIW (sc:=sc) (n:=n) (g:=g) (L:=L) (u6:=.val (.int p)) (u9:=v9) (u10:=u10) (u11:=u11) N i9 ra hk;have EU:((ON DQ).flatMap (TK AE ps)).length<=24:=by rw[hr];exact yCM A N z0 z1
  have{lD,s6}:=yIX (sc:=sc) (n:=n) (g:=g) (L:=L) (qs:=UA) (u6:=.val (.int p)) (u8:=.val (.tup (DQ.map D.int))) (u9:=v9) (u11:=u11) EU;have s7:=yIY (sc:=sc) (n:=n) (g:=g) (ps:=ps) (AE:=AE) (L:=L) (qs:=UA) (DQ:=DQ) (xs:=rL AE ps DQ) (u6:=.val (.int p)) (u7:=.val (strD AE ps DQ)) (u9:=v9) (u11:=lD) (by rw[hr];exact Qg A N z0 z1) EU (λx hx=>by rw[hr] at hx ⊢;exact yF9 A N z0 z1 hx);refine{UA,_,_,_,_,_,G7 s1 (TN (tn.trans (by rw[decide_eq_false λz=>z eF])) (G7 s2 (G7 s3 (G7 s4 (G7 ?_ (G7 s6 s7)))))),K'};exact X9 (i:=10) (d:=.lst []) (E':=LE sc n AE ps g L UA (.val (.int p)) (.val (strD AE ps DQ)) (.val (.tup (DQ.map D.int))) v9 u10 u11) rfl
 .have eF:p∉L:=λz=>hp ((A.mem p).mp z);have ht:=yF8 N z0 z1 p0 p1 hp;exact{qs,_,_,_,_,_,G7 (E1:=LE sc n AE ps g L qs (.val (.int p)) (.val (.lst kb)) u8 u9 u10 u11) (N9 (PX (ds:=[FS AE ps,.int g,.int p]) rfl ht) rfl) (ZC (E1:=LE sc n AE ps g L qs (.val (.int p)) (.val (.lst kb)) u8 u9 u10 u11) (tn.trans (by rw[decide_eq_true eF])) (TN (N7 (FW (x:=.lst kb) (y:=.lst kb) rfl (PX (ds:=[.int 0]) rfl yCE) (d:=.bl AD) rfl)) rfl)),K}
end
theorem law_true:∀ns:List Int,ns.length<=63->∃b d',m_law [.val (.lst (ns.map D.int))]=.ok (b,.bl AN,d'):=by
 intro ns jD;have{c,ec}:=yCH ns;obtain⟨sc,hsc⟩:∃sc:D,sc=.lst (ns.map D.int):={_,rfl};have aO:(XO ns (AA 1) (AA 6)).length<=63:=by unfold XO;rw[EI,M7];omega
 have{E',e,u1,u2,u3,u4,u5,u6,u7,u8,u9,u10,u11,rfl}:=bN (gi:=LB (g2 NG (J1 [(KB qX [(AY 0),(gC (.int 0))])]) (Z9 (AY 0) (AA (gC (.int 1))) (AA (gC (.int 6)))))) (t:=.nm 1)
  (g:=(FX (I0 (.tp [(.nm 2),(.nm 3)]) (pZ qU (qC qV [(AY 1),(gC (.int 0))]) [(gC (.int 24))]))
 (FX (I0 (.nm 4) (KB qY [(AY 2),(AY 3)]))
 (FX (RX 5 (gC (.dt [])))
 (OQ (cS (g2 E7 (AY 2) (gC (.int 0)))) (.nm 6) Jj))))) (E:=[.val sc,.no,.no,.no,.no,.no,.no,.no,.no,.no,.no,.no]) (E1:=[.val sc,.no,.no,.no,.no,.no,.no,.no,.no,.no,.no,.no]) (ds:=(c::XO ns (AA 1) (AA 6)).map D.int)
  (λi E=>∃u1 u2 u3 u4 u5 u6 u7 u8 u9 u10 u11,E=[.val sc,u1,u2,u3,u4,u5,u6,u7,u8,u9,u10,u11])
  (by
   rw[hsc];refine nB (FW (x:=.lst [.int c]) (y:=.lst ((XO ns (AA 1) (AA 6)).map D.int)) (kK (KR (PX (ds:=[.lst (ns.map D.int),.int 0]) rfl ec)) (show 1<10000 by decide)) ?_ ?_)
   .rw[<-zXR];rfl
   .exact Yq (by rw[AJ];show 1+_<10000;omega) rfl) {_,_,_,_,_,_,_,_,_,_,_,rfl}
  (λi x E hx hP=>by
   have{u1,u2,u3,u4,u5,u6,u7,u8,u9,u10,u11,hE}:=hP;subst hE;rw[AU] at hx;have{n,_,rfl}:=BN.mp hx;refine{_,rfl,?_};have{w,ew,B}:=yBS n;have{AE,ps,A4,d',en,N,_,h0,h1,_}:=yB6 (D7:=24) B 'D' 'D' 'D';have hm:=N.m2;have aM:=N.m1;have{L,A,et}:=zXO N.rg' hm h0 h1;have s1:I0 (.tp [(.nm 2),(.nm 3)]) (pZ qU (qC qV [(AY 1),(gC (.int 0))]) [(gC (.int 24))]) [.val sc,.val (.int n),u2,u3,u4,u5,u6,u7,u8,u9,u10,u11]=.ok (.nx [.val sc,.val (.int n),.val (FS AE ps),.val (.int A4),u4,u5,u6,u7,u8,u9,u10,u11]) :=
    N9 (zWY (E1:=[.val sc,.val (.int n),u2,u3,u4,u5,u6,u7,u8,u9,u10,u11]) (zWZ (ds:=[.int n,.int 0]) rfl ew) (KR (d:=.int 24) rfl) en) rfl
   have s2:I0 (.nm 4) (KB qY [(AY 2),(AY 3)]) [.val sc,.val (.int n),.val (FS AE ps),.val (.int A4),u4,u5,u6,u7,u8,u9,u10,u11]=.ok (.nx [.val sc,.val (.int n),.val (FS AE ps),.val (.int A4),.val (.dk (OA (Z6 ps A4 L) L)),u5,u6,u7,u8,u9,u10,u11]):=N9 (PX (ds:=[FS AE ps,.int A4]) rfl et) rfl;have s3:RX 5 (gC (.dt [])) [.val sc,.val (.int n),.val (FS AE ps),.val (.int A4),.val (.dk (OA (Z6 ps A4 L) L)),u5,u6,u7,u8,u9,u10,u11]=.ok (.nx (LE sc n AE ps A4 L [] u6 u7 u8 u9 u10 u11)):=X9 (i:=5) (d:=.dt []) (E':=[.val sc,.val (.int n),.val (FS AE ps),.val (.int A4),.val (.dk (OA (Z6 ps A4 L) L)),u5,u6,u7,u8,u9,u10,u11]) rfl;have{E9,e9,qs,v6,v7,v8,v9,rS,lD,rfl,_}:=bN (gi:=cS (g2 E7 (AY 2) (gC (.int 0)))) (t:=.nm 6) (g:=Jj) (E:=LE sc n AE ps A4 L [] u6 u7 u8 u9 u10 u11) (E1:=LE sc n AE ps A4 L [] u6 u7 u8 u9 u10 u11) (ds:=T4 0 AE.toNat)
    (λi E=>∃qs v6 v7 v8 v9 rS lD,E=LE sc n AE ps A4 L qs v6 v7 v8 v9 rS lD/\Kn AE qs) (Ff (FW (x:=FS AE ps) (y:=.int 0) rfl rfl rfl) {by omega,by omega}) {[],_,_,_,_,_,_,rfl,ER,λe he=>absurd he CG} (λi x E hx hP=>by
    have{qs,v6,v7,v8,v9,rS,lD,rfl,K}:=hP;rw[Pj,AU] at hx;have{p,hp,rfl}:=BN.mp hx;have{p0,p1}:=MQ.mp (BJ hp);have{UA,w7,w8,w9,w10,w11,er,K'}:=yIZ (sc:=sc) (n:=n) (u7:=v7) (u8:=v8) (u9:=v9) (u10:=rS) (u11:=lD) A N h0 h1 K p0 'O';exact{_,rfl,_,er,UA,_,_,_,_,_,_,rfl,K'})
   exact{_,G7 s1 (G7 s2 (G7 s3 e9)),_,_,_,_,_,_,_,_,_,_,_,rfl})
 refine{AD,.non,?_};rw[<-hsc];exact P7 (G7 e (RD (d:=.bl AN) rfl)) rfl
structure FA(K:AC)(x:CD)(st:FM)(f:AT)(fd:CV):Prop where
 a:BS K BL x=AA (AA (.ref f))
 F:Fun K x x st f fd
section
variable{K:AC}{x:CD}{st:FM}{f:AT}{fd:CV}
theorem fa{oc kV dc pm cd ct:AH}{od an:Option AT}{sl:Array (Option AH)}(a:BS K BL x=AA (AA (.ref f)))(l:K.lookup f=AA {oc,od,.func (E8 x x (cZ st) (WG st) (J2 st) .none kV dc pm an cd ct),sl})(c:IG K cd x=AN)(k:EO K (.ref f)=AN):FA K x st f (E8 x x (cZ st) (WG st) (J2 st) .none kV dc pm an cd ct):={a,zJ l c k}
theorem FA.cal{P:BZ}{w:C8}{mg:CD->Option AH}{base h:CM}{ps:List CD}{k np:Nat}{m:Mr}(A:FA K x st f fd)(X:K.In h)(G:h.Ns BL mg)(o:FnOk P w K mg base LJ k f fd ps (NI K np m))(b:Binds K fd ps []):MR P w K mg base x k np m:=Fun.cal A.F o (CW X G A.a) b
abbrev bA(x:CD)(st:FM)(us:List AH)(r:List (CD×AH)):Prop:=∀(kV TC pm:AH) (an:Option AT) (G3 ct:AH),OG (E8 x x (cZ st) (WG st) (J2 st) .none kV TC pm an G3 ct) {us,[]}=pure r
theorem FA.b1{p:CD}(A:FA K x st f fd)(h:∀u,bA x st [u] [(p,u)]:=by exact λ_ _ _ _ _ _ _=>rfl):Binds K fd [p] []:=A.F.binds λ_ _ _ _ _ _ us hl=>by have{u,t,rfl}:=DT hl;obtain rfl:=HN (F8 hl);exact h u _ _ _ _ _ _
theorem FA.b2{p q:CD}(A:FA K x st f fd)(h:∀u v,bA x st [u,v] [(p,u),(q,v)]:=by exact λ_ _ _ _ _ _ _ _=>rfl):Binds K fd [p,q] []:=A.F.binds λ_ _ _ _ _ _ us hl=>by have{u,t,rfl}:=DT hl;have{v,t,rfl}:=DT (F8 hl);obtain rfl:=HN (F8 (F8 hl));exact h u v _ _ _ _ _ _
theorem FA.b3{p q r:CD}(A:FA K x st f fd)(h:∀u v w,bA x st [u,v,w] [(p,u),(q,v),(r,w)]:=by exact λ_ _ _ _ _ _ _ _ _=>rfl):Binds K fd [p,q,r] []:=A.F.binds λ_ _ _ _ _ _ us hl=>by have{u,t,rfl}:=DT hl;have{v,t,rfl}:=DT (F8 hl);have{w,t,rfl}:=DT (F8 (F8 hl));obtain rfl:=HN (F8 (F8 (F8 hl)));exact h u v w _ _ _ _ _ _
end
theorem all_mk{l:RQ}{w:C8}{K:AC}{h:CM}{mg:CD->Option AH}{fa f0 f1 f2 f3 f4 f5 f6 f7 f8 f9 f10 f11 f12 f13 f14 f15 f16 f17 Op Oo f20 f21 f22 On:AT}{d0 d1 d2 d3 d4 d5 d6 d7 d8 d9 d10 d11 d12 l7 eV d15 d16 d17 Dn Dm d22:CV}(X:K.In h)(G:h.Ns BL mg)(hfa:mg "law"=AA (.ref fa)) (x0:FA K "turned" Ga f0 d0) (x1:FA K "next_places" Bg f1 d1) (x2:FA K "musts_held" Bj f2 d2) (x3:FA K "_law_cell" Hq f3 d3) (x4:FA K "_law_well" Ho f4 d4) (x5:FA K "_law_take" Hn f5 d5) (x6:FA K "_law_reach" Hm f6 d6) (x7:FA K "_law_kinds" Hl f7 d7) (x8:FA K "_law_only" Hf f8 d8) (x9:FA K "lanes_away" Hk f9 d9) (Kg:FA K "_law_shuffled" Hu f10 d10) (Kf:FA K "_law_between" Hw f11 d11) (Ke:FA K "reached_past" Hv f12 d12) (Kd:FA K "_law_net" Hg f13 l7) (Kc:FA K "reached" Gx f14 eV) (Kb:FA K "stretch_between" Hy f15 d15) (Ka:FA K "cut_off" Gw f16 d16) (vF:FA K "_law_is" Gv f17 d17) (n6:FA K "musts" zM f20 Dn) (nZ:FA K "stretches" Ay f21 Dm) (Jz:FA K "_law_told" He f22 d22) {Lm Pb:Option AT} {Ku:Array (Option AH)} {Lq Lz Ot La Ow Lf:AH} {pS T18:AT} {vH:Array AH} {Lj:Option AT} {Kr:Array (Option AH)} (Pd:BS K BL "holders"=AA (AA (.ref Op))) (l18:K.lookup Op=AA {Lq,Lm,.func (E8 "holders" "holders" (cZ qQ) (WG qQ) (J2 qQ) .none Lz Ot La Pb (.ref pS) Ow),Ku}) (c18:IG K (.ref pS) "holders"=AN) (k18:EO K (.ref Op)=AN) (n18:K.lookup pS=AA {Lf,Lj,.fields vH,Kr}) (r18:vH[11]?=AA (.ref T18)) {Ll Pa:Option AT} {Kt:Array (Option AH)} {Lp Ly Os Kz Ov Ld:AH} {pR T19:AT} {vG:Array AH} {Li:Option AT} {Kq:Array (Option AH)} (Pc:BS K BL "_law_table"=AA (AA (.ref Oo))) (l19:K.lookup Oo=AA {Lp,Ll,.func (E8 "_law_table" "_law_table" (cZ rA) (WG rA) (J2 rA) .none Ly Os Kz Pa (.ref pR) Ov),Kt}) (c19:IG K (.ref pR) "_law_table"=AN) (k19:EO K (.ref Oo)=AN) (n19:K.lookup pR=AA {Ld,Li,.fields vG,Kq}) (r19:vG[11]?=AA (.ref T19)) {Lk yK:Option AT} {Ks:Array (Option AH)} {Lo wN yD vZ yF pQ:AH} (a23:BS K BL "law"=AA (AA (.ref On))) (l23:K.lookup On=AA {Lo,Lk,.func (E8 "law" "law" (cZ iI) (WG iI) (J2 iI) .none wN yD vZ yK pQ yF),Ks}) (c23:IG K pQ "law"=AN) (k23:EO K (.ref On)=AN) {y0 y1 y2 y3 y4 y5 y6 y7 y8 y9 WA:AT} (yW:BS K BL "WayError"=AA (AA (.ref WA))) (ya0:BS K BL "NotReached"=AA (AA (.ref y0))) (ya1:BS K BL "NoPaper"=AA (AA (.ref y1))) (ya2:BS K BL "TooMany"=AA (AA (.ref y2))) (ya3:BS K BL "NoSuch"=AA (AA (.ref y3))) (ya4:BS K BL "NoLane"=AA (AA (.ref y4))) (ya5:BS K BL "NoRound"=AA (AA (.ref y5))) (ya6:BS K BL "NoText"=AA (AA (.ref y6))) (ya7:BS K BL "NoRow"=AA (AA (.ref y7))) (ya8:BS K BL "NoPlace"=AA (AA (.ref y8))) (ya9:BS K BL "NothingLeft"=AA (AA (.ref y9))) (ye0:BR K (.ref y0) (.ref y0)=AA AN) (ye1:BR K (.ref y0) (.ref y1)=AA AD) (ye2:BR K (.ref y0) (.ref y2)=AA AD) (ye3:BR K (.ref y0) (.ref y3)=AA AD) (ye4:BR K (.ref y0) (.ref y4)=AA AD) (ye5:BR K (.ref y0) (.ref y5)=AA AD) (ye6:BR K (.ref y0) (.ref y6)=AA AD) (ye7:BR K (.ref y0) (.ref y7)=AA AD) (ye8:BR K (.ref y0) (.ref y8)=AA AD) (ye9:BR K (.ref y0) (.ref y9)=AA AD) (Jy:BR K (.ref y0) (.type "ValueError")=AA AN) (yx:N3 K (.ref y0) (.ref WA)=AA AN) (yz:ExK K y0 [.type "ValueError",.type "Exception",.type "BaseException",.type "object"] "ValueError.__new__") (VJ:BS K BL "ValueError"=AA AK) (vE:BS K BL "all"=AA AK) (nY:BS K BL "bool"=AA AK) (W0:BS K BL "enumerate"=AA AK) (VH:BS K BL "isinstance"=AA AK) (vD:BS K BL "len"=AA AK) (nX:BS K BL "list"=AA AK) (vC:BS K BL "min"=AA AK) (iY:BS K BL "range"=AA AK) (vA:BS K BL "set"=AA AK) (dH:BS K BL "sorted"=AA AK) (iX:BS K BL "tuple"=AA AK) (u0:BS K BL "zip"=AA AK) : ∃fd:CV,(∀(s:AQ) (v:AH),UN s fd {[v],[]} [("script",v)])/\∀base:CM,K.In base->base.Ns BL mg->CB K base->FnOk l.prog w K mg base LJ 10 fa fd ["script"] (NI K 1 m_law):=by have e:=hfa.symm.trans (CW X G a23);cases e;have T:Bt mg:={DF X G VJ,DF X G vE,DF X G nY,DF X G W0,DF X G VH,DF X G vD,DF X G nX,DF X G vC,DF X G iY,DF X G vA,DF X G dH,DF X G iX,DF X G u0};have Ph:=zJ (st:=qQ) l18 c18 k18;have Pg:=zJ (st:=rA) l19 c19 k19;have F23:=zJ (st:=iI) l23 c23 k23;refine{E8 "law" "law" (cZ iI) (WG iI) (J2 iI) .none wN yD vZ yK pQ yF,λs v=>.of_eq rfl,λbase _ _ cb=>?_};have vL:=tabIn_of Pd l18 rfl n18 r18;have vK:=tabIn_of Pc l19 rfl n19 r19;have q0:=x0.cal X G (zTU (P:=l.prog) (w:=w) (base:=base) x0.F T ) x0.b1;have q1:=x1.cal X G (zIP (P:=l.prog) (w:=w) (base:=base) x1.F T ) x1.b1;have q2:=x2.cal X G (zKZ (P:=l.prog) (w:=w) (base:=base) x2.F T ) x2.b2;have MS:=pAO x2.F (zK0 (P:=l.prog) (w:=w) (base:=base) x2.F T  (CW X G ya0) yz.ex ) (CW X G x2.a) x2.b2;have q3:=x3.cal X G (zM3 (P:=l.prog) (w:=w) (base:=base) x3.F T ) x3.b2;have q4:=x4.cal X G (zM4 (P:=l.prog) (w:=w) (base:=base) x4.F T ) x4.b2;have q5:=x5.cal X G (zM5 (P:=l.prog) (w:=w) (base:=base) x5.F T ) x5.b2;have q6:=x6.cal X G (zK1 (P:=l.prog) (w:=w) (base:=base) x6.F T ) x6.b3;have ts:TryS l.prog w K mg base y0 WA f7 [AN,AD,AD,AD,AD,AD,AD,AD,AD,AD,AN]:={ku x7.F T x7.b1 yz (CW X G ya0) ye0 (CW X G ya1) ye1 (CW X G ya2) ye2 (CW X G ya3) ye3 (CW X G ya4) ye4 (CW X G ya5) ye5 (CW X G ya6) ye6 (CW X G ya7) ye7 (CW X G ya8) ye8 (CW X G ya9) ye9 Jy,CW X G x7.a,x7.F.kp,CW X G yW,yx};have q8:=x8.cal X G (zM6 (P:=l.prog) (w:=w) (base:=base) x8.F T ) x8.b1;have q9:=x9.cal X G (zK2 (P:=l.prog) (w:=w) (base:=base) x9.F T q1) x9.b3;have q10:=Kg.cal X G (zGV (P:=l.prog) (w:=w) (base:=base) Kg.F T q5) Kg.b2;have q11:=Kf.cal X G (zH8 (P:=l.prog) (w:=w) (base:=base) Kf.F T q6) Kf.b3;have Ky:=Ke.cal X G (zH9 (P:=l.prog) (w:=w) (base:=base) Ke.F T q9) Ke.b3;have q13:=Kd.cal X G (zOK (P:=l.prog) (w:=w) (base:=base) Kd.F T q5 q10) Kd.b2;have q14:=Kc.cal X G (zQW (P:=l.prog) (w:=w) (base:=base) Kc.F T Ky) Kc.b2;have q15:=Kb.cal X G (zFV (P:=l.prog) (w:=w) (base:=base) Kb.F T Ky q0) Kb.b3;have q16:=Ka.cal X G (zQX (P:=l.prog) (w:=w) (base:=base) Ka.F T q14 Ky) Ka.b3;have q17:MR l.prog w K mg base "_law_is" 5 2 (zA5 5):=vF.cal X G (Vw vF.F T (CW X G vF.a) vF.b2  5) vF.b2;have q18:=Fun.cal Ph (zQY (P:=l.prog) (w:=w) (base:=base) Ph T rfl (cb "holders" (by decide +kernel) _ _ vL) {"holders",_,by decide +kernel,vL,rfl} q16 q14) (CW X G Pd) (FA.b2 {Pd,Ph});have q19:=Fun.cal Pg (zK3 (P:=l.prog) (w:=w) (base:=base) Pg T rfl (cb "_law_table" (by decide +kernel) _ _ vK) {"_law_table",_,by decide +kernel,vK,rfl} q6) (CW X G Pc) (FA.b2 {Pc,Pg});have q20:=n6.cal X G (zW8 (P:=l.prog) (w:=w) (base:=base) n6.F T q2 q18) n6.b3;have VL:=pAO n6.F (zW9 (P:=l.prog) (w:=w) (base:=base) n6.F T MS  q2 q18) (CW X G n6.a) n6.b3;have q21:=nZ.cal X G (zNA (P:=l.prog) (w:=w) (base:=base) nZ.F T q20 q15) nZ.b3;have NR:=pAO nZ.F (zNB (P:=l.prog) (w:=w) (base:=base) nZ.F T VL  q20 q15) (CW X G nZ.a) nZ.b3;have q22:=Jz.cal X G (zNC (P:=l.prog) (w:=w) (base:=base) Jz.F T ts NR q21) Jz.b3;exact yFU F23 T q13 q19 q3 q4 q22 q8 q17 q11
end _M
namespace PySem.W.Fast
theorem tw7640129807245539997:True:=trivial
theorem tw1114351663813914585:True:=trivial
theorem tw2926157634649094430:True:=trivial
theorem tw15487475491001488918:True:=trivial
theorem tw16109180618336766342:True:=trivial
theorem tw7114555364049998435:True:=trivial
theorem tw15121052162213834770:True:=trivial
theorem tw3872473291356334148:True:=trivial
theorem tw15425434862624147645:True:=trivial
theorem tw12048397507701168802:True:=trivial
theorem tw17582393325313019252:True:=trivial
theorem tw5098526835719976679:True:=trivial
theorem tw5282579506189150272:True:=trivial
theorem tw7310889025324135568:True:=trivial
theorem tw17890505818171724945:True:=trivial
theorem tw6836268681747582370:True:=trivial
theorem tw2925697963078113029:True:=trivial
theorem tw12842143016086002735:True:=trivial
theorem tw17578333911196684248:True:=trivial
theorem tw15027154746652199859:True:=trivial
theorem tw12767432143265162130:True:=trivial
theorem tw14191125235210658466:True:=trivial
theorem tw7564464325883642774:True:=trivial
theorem tw2131363347789124602:True:=trivial
theorem tw11215576445098124901:True:=trivial
theorem tw8678268851906931137:True:=trivial
theorem tw11151691639150745958:True:=trivial
theorem tw8756305026513240735:True:=trivial
theorem tw14887430688524275096:True:=trivial
theorem tw15439136288714287007:True:=trivial
theorem tw1977868433516729848:True:=trivial
theorem tw3278567921869982391:True:=trivial
theorem tw14679299098663511370:True:=trivial
theorem tw6085731224904932511:True:=trivial
theorem tw16875490069570943746:True:=trivial
theorem tw12267850244348494510:True:=trivial
theorem tw768837954140708733:True:=trivial
theorem tw7513841745197764895:True:=trivial
theorem tw13877272274735509937:True:=trivial
theorem tw4240943546918311763:True:=trivial
theorem tw15842173340588023297:True:=trivial
theorem tw12664673066953507851:True:=trivial
theorem tw10239249258018109663:True:=trivial
theorem tw836382181263576529:True:=trivial
theorem tw11363699648510742748:True:=trivial
theorem tw12978698439372352777:True:=trivial
theorem tw12306383645535522915:True:=trivial
theorem tw17692354314084021825:True:=trivial
theorem tw1176741221860247806:True:=trivial
theorem tw7077181534431956292:True:=trivial
theorem tw17146833774768971673:True:=trivial
theorem tw12994445379766920508:True:=trivial
theorem tw13569995450733679409:True:=trivial
theorem tw15407076275514102658:True:=trivial
theorem tw17316663910373407147:True:=trivial
theorem tw11181208622895545664:True:=trivial
theorem tw13130688822831267876:True:=trivial
theorem tw8609365350810928090:True:=trivial
theorem tw4413247917516021795:True:=trivial
theorem tw16394350625084862504:True:=trivial
theorem tw13049988392849915521:True:=trivial
theorem tw14303146909042174900:True:=trivial
theorem tw13197605470885461646:True:=trivial
theorem tw6711379387757400283:True:=trivial
theorem tw3796734217431416508:True:=trivial
theorem tw2320517200673548741:True:=trivial
theorem tw1264718407102883141:True:=trivial
theorem tw804338138560097036:True:=trivial
theorem tw6564493155231592127:True:=trivial
theorem tw3528542400691103130:True:=trivial
theorem tw12483406620385443657:True:=trivial
theorem tw14680138859362776200:True:=trivial
theorem tw16716843283251425697:True:=trivial
theorem tw541054817290044036:True:=trivial
theorem tw11989799676244645123:True:=trivial
theorem tw10710605096835065733:True:=trivial
theorem tw7198757042995826285:True:=trivial
theorem tw4036975923071233027:True:=trivial
theorem tw16259807396475158555:True:=trivial
theorem tw917817240802413644:True:=trivial
theorem tw6147592059355845072:True:=trivial
theorem tw14633408883908031059:True:=trivial
theorem tw15563562422198734511:True:=trivial
theorem tw11872303013847734803:True:=trivial
theorem tw9540656316643954926:True:=trivial
end PySem.W.Fast
open PySem PySem.W PyProof.Rows
set_option maxRecDepth 100000 in
set_option maxHeartbeats 0 in
theorem PySem.Challenge.cw_waymusts_k33_stretches_by_the_words_holds : PySem.Challenge.rw_waymusts_k33_stretches_by_the_words.Holds := by
 w_on;o_law;k_head;(case hw=>w_witness2)
 k_fill
 refine _L.walk_v (l:=PySem.Challenge.rw_waymusts_k33_stretches_by_the_words) (m:=_M.m_law) (lv:=10) rfl rfl {rfl,by decide,by decide,rfl} (λw h Y=>PySem.W.km_in_of Y) ?tK _M.law_true ?F
 case tK =>
  intro w;refine' _L.tabs5 ?h1 ?h2 ?h3 ?h4 ?h5 ?ap
  (case h1=>refine' _L.TabE.tab (_L.tabIn_of ?a ?l ?e ?m ?r) ?o ?d;(case a=>k_is);(case l=>k_is);(case e=>exact rfl);(case m=>k_is);(case r=>exact rfl);(case o=>kernel_rfl);(case d=>exact rfl))
  (case h2=>refine' _L.TabE.tab (_L.tabIn_of ?a ?l ?e ?m ?r) ?o ?d;(case a=>k_is);(case l=>k_is);(case e=>exact rfl);(case m=>k_is);(case r=>exact rfl);(case o=>kernel_rfl);(case d=>exact rfl))
  (case h3=>refine' .no ?z;(case z=>k_is))
  (case h4=>refine' .no ?z;(case z=>k_is))
  (case h5=>refine' _L.TabE.tab (_L.tabIn_of ?a ?l ?e ?m ?r) ?o ?d;(case a=>k_is);(case l=>k_is);(case e=>exact rfl);(case m=>k_is);(case r=>exact rfl);(case o=>kernel_rfl);(case d=>exact rfl))
  (case ap=>decide)
 case F =>
  intro w mg fa h KX G xE;refine' _M.all_mk KX G xE ?_ ?_ ?_ ?_ ?_ ?_ ?_ ?_ ?_ ?_ ?_ ?_ ?_ ?_ ?_ ?_ ?_ ?_ ?_ ?_ ?_ ?_ ?_ ?_ ?_ ?_ ?r18 ?_ ?_ ?_ ?_ ?_ ?r19 ?_ ?_ ?_ ?_ ?_ ?_ ?_ ?_ ?_ ?_ ?_ ?_ ?_ ?_ ?_ ?_ ?_ ?_ ?_ ?_ ?_ ?_ ?_ ?_ ?_ ?_ ?_ ?_ ?_ ?_ ?_ ?_ ?_ ?_ ?_ ?_ ?_ ?_ ?_ ?_ ?_
  any_goals (refine' _M.fa ?a ?l ?c ?k;(case a=>k_is);(case l=>k_is);(case c=>k_is);(case k=>k_is))
  any_goals k_is
  (case r18=>exact rfl)
  (case r19=>exact rfl)
  all_goals try kernel_rfl
  any_goals (refine' _L.ExK.mk ?a ?_ ?_ ?_ ?_ ?_ ?_ ?_;(case a=>k_exc);all_goals k_is)
