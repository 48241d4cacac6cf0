import PyProof.Rows.All
import Wide.All
import OpenK.AllK
import Wide.FinOn
import Lean
import PyProof.EqAt
import PyProof.EqKinds
import PyProof.TupleCall
import KE.KSortKey
import KE.KDflt
import PyProof.Rows.SortRuns
import PyProof.DictCompW
import KE.KLam
import PyProof.Rows.StrRev
import PyProof.WalksMore
import PyProof.ReprRoads
import PyProof.CallStr
import PyProof.AttrMissHeap
import KE.KDictOf
import KE.KTryMore
import OpenK.KOwn
import PyProof.RulesAs
import PyProof.RulesDel
import KE.KDictList
import PyProof.Rows.SeqMore2
import PyProof.FString
import PyProof.Rows.SetFrom
import PySem.Challenge.RW_waymusts_k19_musts_back
set_option autoImplicit false
set_option linter.all false
set_option Elab.async false
set_option maxRecDepth 100000
set_option maxHeartbeats 8000000
local macro_rules (kind:=«term{_}»)|`(«term{_}»|{$x,*})=>`(⟨$x,*⟩)
local macro_rules|`('l')=>`(by lia)
local macro_rules|`('d')=>`(by decide)
local macro_rules|`('s')=>`(by simp)
local macro_rules|`('o')=>`(by omega)
noncomputable section
open Option renaming some→AA,none→AK,map_eq_some_iff→BR,map_some→GT,isSome_map→PR,getD_none→bP
open Bool renaming false→AD,true→AL,false_ne_true→CN,false_eq_true→D7,and_eq_true→EB,not_eq_true'→MG,eq_false_iff→QR,and_eq_true_iff→ZM,or_eq_true→jN,and_false→lT
open PySem renaming wpAny_bind→AB,Value→AH,starEach→AO,Addr→AQ,Shared→AT,wpAny→A0,model→A1,mainGlobals→BK,wpAny_newObj_type→BY,wpAny_field→CG,wpAny_callSpecial?_slot→CJ,Program→CQ,Str→CT,wpAny_holding→CZ,wpAny_setField_rec→C2,wpAny_call_entry→C3,wpAny_mono→C7,Expr→C8,foldedSetIterable→DF,backTo→DO,Around→DQ,behindInMarks→DT,World→D3,Heap→D4,compareOp→EU,rawInt→EY,Stmt→E6,Builtin→FG,wpAny_rule→FJ,Spec→FN,letOwnedTupleGo→FO,sizeLine_eq→GE,bootBuiltins→GL,wpAny_attempt→GR,sysModules→GY,cLine→GZ,PyData→HA,sliceBounds→HD,binaryOp→HE,assignEach→HJ,codeAny→HN,wpAny_seqItems→HR,wpAny_typeNameOfWhole_keyiter→HX,wpAny_Call_Name_kw→IA,Obj→IE,wpAny_passesOwn→II,wpAny_execs_nil→IJ,wpAny_standAt→IK,swapsWith→IL,wpAny_truthy_bool→IP,mem_of_lookup→IR,standAt→IZ,holding→I0,wpAny_typeNameOf_keyiter→JO,wpAny_comprehension_free→JQ,FuncData→JR,tupleKind_room_in1→JX,pyNext→JY,DictEntry→J4,wpAny_pyIter_list→KG,IsPair→KH,wpAny_execs_cons→KW,assign→KY,getItem→K4,attributeBase→K5,codeAny_mono→MA,wpAny_newTuple→MS,builtinsNs→MT,wpAny_sequenceKey→NE,wpAny_dictEntries→NF,Scope→NG,wpAny_onRaise→NW,tupleKind→N8,setField→N9,bindArgs→OA,wpAny_typeOf→OM,pyIter→ON,codeAny_compStart_list→OP,call_meets→OQ,Keyword→OS,wpAny_isOneOf_keyiter→PF,wpAny_updateSeq_pair→P7,wpAny_setField→P8,wpAny_letGo→P9,wpAny_fieldsOf→QA,firstArgMember→QD,IsPart→QF,codeAmong→QM,callerA→QN,wpAny_newList→RF,field→RI,wpAny_pyIter_tuple→SH,wpAny_call→SI,Sem→SJ,wpAny_pyIter_slot→TU,wpAny_Assign_Name→TV,valueAt→TW,slot_list_getitem→TX,relabel→TY,concat_meets→TZ,NameKind→T8,BindsTo→UB,wpAny_isInstance→VM,wpAny_eqBool_int→VN,noFill_tuple_add→VP,isTrue→VQ,PassesOwn→VU,seqIndex_of→WB,keywordEach→WD,wpAny_dictEpoch→W9,Env→XC,wpAny_newFunctionEnv_cells→YG,isSubtype_stop→YJ,compTurn→YK,closureFor→YL,atKey→YM,again→YN,ReadsAll→YQ,wpAny_getItem_list_slice→aB,swapsWithSole→aC,swappedStores→aD,strLen_append→aE,seq_tuple_add→aF,evalPart_some→aG,evalPart_none→aH,call→aI,slicePick→bG,noteFrame→bI,bindL→bJ,bindC→bK,Reads→bL,isCodeTable→bM,Tok→eE,Fin→eJ,codeAny_call_function→gG,Pos→gK,wpAny_pyIter_keyiter→i8,wpAny_of_eq→i9,wpAny_newFunctionEnv→jA,wpAny_mkInt→jB,wpAny_Slice→jC,loadIfAlive→jD,compPost→jF,compEnvC→jG,codeAny_call_builtin→jH,backToKw→jI
open PySem.W renaming Frag→AC,kitOne→BQ,nsIn→BW,mg_of→C0,kia_one→DG,mg_none_of→DS,tabIn→EN,keepIn→EO,fnOf→E7,codeIn→ID,hideAll→IT,CodeHd→JH,excIn→J3,tabObj→KZ,findIn→K0,kitx_dict→LH,cellsFrom_some→MX,kla_obj→M0,exmOne→NY,hideAll_get→OB,callWith_K→OR,methodObj→PH,kitx_list→PJ,envX→PK,instObj→Q0,OpenLaw→Q1,KatTups→Q2,lookIn→SK,mroIn→T7,of_hideAll→YR,kitx_tuple→YS,codeRec_of→YT,specialIn→ZF,plainGet→aJ,kat_cons→aK,takesIn→bN,kat_yes→bO,kla_fn→eF,kat_no→eG,kat_go→eI,WalkO→gH
open PySem.Heap renaming get?_push_of_some→AF,get?_push_size→AX,lt_size→A9,SameBut→DM,size_push→FX,get?_push_ne→MF,size_update→M4,get?_update_self→N3,get?_update_ne→OZ,get?_update_other→XT,get?_none_of_le→ZK,ExtBut→ZL
open Array renaming getElem_mem→AG,getElem?_eq_some_iff→CK,getElem?_toList→DA,perm_iff_toList_perm→EG,size_push→EH,toList_append→EL,toList_push→FD,mem_toList_iff→G0,mem_push→HF,size_append→HY,size_extract→JD,toList_extract→KL,length_toList→KO,forIn_toList→LB,size_setIfInBounds→MH,toList_reverse→OD,toList_setIfInBounds→UC,eraseIdxIfInBounds→VZ,append_empty→aO
open List renaming length_map→AJ,getElem?_eq_some_iff→AR,getElem?_map→AU,map_cons→AV,size_toArray→AW,mem_singleton→A3,mem_cons_of_mem→A4,getElem?_set_ne→A5,mem_cons_self→A8,length_cons→BB,mem_cons→BC,take_succ_eq_append_getElem→BE,getElem?_set_self→BF,replicate→BG,length_append→BH,mem_append_right→BM,getElem?_eq_getElem→BO,mem_append→BX,getElem?_append_right→B0,length_set→B9,getElem?_append_left→CC,range→CI,append_assoc→CM,mem_map→C1,mem_of_getElem?→C4,not_mem_nil→C9,length_replicate→DC,mem_append_left→DH,mem_filter→DI,append_nil→DJ,filterMap_cons→DN,find?_cons→DU,getElem?_replicate→DW,pairwise_map→D2,take_length→EA,map_map→ED,pairwise_iff_getElem→EK,replicate_succ→EM,length_singleton→EQ,nodup_cons→ER,length_take→EZ,flatMap_cons→FF,length_reverse→FH,drop_eq_getElem_cons→FL,any_cons→FP,nodup_nil→FV,mem_range→FW,nodup_append→F8,getElem?_cons_succ→F9,nil_append→GC,map_append→GD,length_filter_le→GO,pairwise_append→G1,flatten_cons→G2,getElem_mem→HH,mem_filterMap→HP,reverse_cons→IF,any_eq_true→IQ,map_congr_left→IU,of_mem_zip→JB,length_nil→JC,pairwise_cons→JE,pairwise_singleton→JI,pairwise_mergeSort→JJ,take_of_length_le→JT,length_range→JU,drop_eq_nil_of_le→JV,singleton_append→J9,zipIdx_cons→KC,filter_cons→KD,mergeSort_perm→K1,getElem?_range→K2,getD_eq_getElem?_getD→LI,filterMap_map→LJ,take_sublist→MC,length→MD,any_eq_false→ME,lookup_cons→M1,cons_append→M3,map_nil→NH,forIn_cons→NZ,getElem?_reverse→N1,getElem?_eq_none→N2,forIn_nil→OF,drop_zero→OG,zip_cons_cons→PU,ext_getElem?→QQ,eraseIdxIfInBounds_toArray→Q4,length_drop→RM,foldl_cons→SU,perm_ext_iff_of_nodup→UP,getElem?_zip_eq_some→VY,getElem?_take_of_lt→WI,eraseIdx_cons_succ→XB,any_map→XS,perm_append_comm→YU,pairwise_reverse→YV,getElem?_toArray→YW,eq_nil_or_concat→YX,dropLast_eq_take→YY,mem_iff_getElem→ZI,reverse_append→aM,foldl→bQ,filter_append→bR,append_of_mem→bS,foldl_append→eM,find?_append→eN,filter_congr→eO,reverse_nil→gQ,perm_middle→gR,map_reverse→gS,all_eq_true→gT,zipIdx_nil→jL,range_succ→jM
open Nat renaming le_refl→AM,lt_of_lt_of_le→AN,lt_of_le_of_lt→AS,le_trans→AZ,le_add_right→A2,add_lt_add_left→A7,zero_le→BS,ne_of_lt→CA,le_of_lt→CW,le_of_eq→CY,lt_trans→DB,sub_le→DE,lt_or_eq_of_le→DL,le_add_left→DR,lt_succ_self→DX,add_le_add→EI,zero_add→ES,le_of_not_lt→E4,ne_of_gt→FR,lt_of_succ_le→GB,lt_irrefl→GJ,lt_of_le_of_ne→GN,le_of_lt_succ→IG,lt_succ_of_lt→JZ,le_succ→KM,succ_le_of_lt→MJ,le_max_right→M8,add_sub_cancel_left→M9,not_lt→VX,lt_trichotomy→gO,lt_succ_of_le→gP,not_lt_of_le→jJ,lt_of_not_le→jK,min_le_left→lQ,le_max_left→lR
open PyProof.Rows renaming arrOf→AY,Keyed→BA,wpS_pure→BD,wpS_bind→BJ,SortSt→BP,slot_tuple_getitem→CD,pendingOf→DK,seqObj→D8,SortKind→FK,callWith_type1→FT,envOfC→FY,wpS_forRange→F7,IntsAre→GP,pairsOf→IB,wpS_mono→JN,entry_tuple_getitem→LY,wpS_modify→MR,args_tuple_getitem→MU,wpS_get→ND,AllBare→NJ,wpS→NV,listUpdate_at→NX,mirror→OO,wpS_lift→P6,slicePart_none→QB,pairsOf_toList→QC,IsTup→QE,tupleItemsOf_→RG,subscriptTail→RH,seqEpoch_at→WC,get?_update_seq→XA,tail_any→YH,size_push'→YI,Subscript_→YO,numOf→bH,subscriptTail_builtinR→eC,listItems_at→eD,failedOf→jE
open Option.some renaming inj→BL,injEq→WH
open Or renaming inl→BN,inr→EF
open PySem.Builtin.SmallTypes renaming nextOf→CF,ownedTupleIsFree→C6,ownedTupleHandOut→HK
open PySem.Builtin.Tuple renaming tupleExact→CH,tupleItemsOf→HM,tupleIsExact→PN
open PySem.PassesOwn renaming never→CO
open Sum renaming inl→CS,inr→QZ
open PySem.Builtin.Slice renaming slicePlaces→C5,sliceApplied→ET,sliceFields→KI,sliceAdjust→KJ
open PySem.Obj renaming mapSeq→DD,data_mapFields→LU,isFreed_of_fields→ZH,cls_mapFields→gM
open PySem.Value renaming ref→DP,none→GK,bool→JA,int→MV,builtin→OX,type→T4,str→WE,isStrOf→lO
open PySem.Str renaming ofString→EE,empty→OY
open PySem.PyData renaming eqv→EJ,canLayAll0→FZ,depth→IM,canLay0→K6,depthAll→RL,int→ZG
open Ne renaming symm→E8
open Prod renaming snd→FU,fst→QP,ext→lP
open PySem.F renaming slot_enumerate_next→GF,plainAttrs_list→G9,type_list_append→LQ,slot_list_append→LR,args_tuple_add_2→LS,entry_tuple_add→MB,slot_tuple_add→MY,slot_dict_get→M7,args_enumerate_next_1→QO,entry_enumerate_next→Q3,slot_enumerate_iter→RK,args_dict_get_3→UO,entry_dict_get→VR,type_list_pop→WF,slot_list_pop→WG
open PySem.Heap.SameBut renaming update→GU
open List.Nodup renaming length_le_of_subset→G3
open List.Perm renaming refl→G4,swap→HW,eq_of_pairwise→IN,append_left→JM,trans→KA,append_right→T9
open True renaming intro→G7
open False renaming elim→HL
open Int renaming lt_of_le_of_lt→HS,emod_lt_of_pos→JK,emod_nonneg→K3,le_trans→K9,le_of_lt→LA,toNat_natCast→MK,ne_of_lt→YZ,ediv_one→Y0,le_refl→aN,toNat_of_nonneg→bT
open Sum.inl renaming inj→IC
open PySem.Builtin.List renaming listTooLong→IH
open Decidable renaming not_not→K7
open PySem.SeqAt renaming eqAt_reads→MW
open PySem.Heap.IsSliceOf renaming new→M5
open PySem.Calls renaming callWith_builtin→NA,evalArgs_plain→OC,spliced_cons→PL,Name_function_global→UA,call_function_entry→UR,spliced_nil→bU
open PySem.Builtin.Dict_items renaming ownsTuple→NI
open List.Pairwise renaming nil→N0,map→UQ
open Array.Perm renaming refl→PV
open ForInStep renaming yield→QG
open PySem.W.KatTups renaming nil→RJ
open PySem.Data renaming cell→RN,fields→SL,seq→lS
open PyProof.Rows.SortSt renaming mk'→SS
open Function renaming comp→SV
open Classical renaming propDecidable→SW
open PySem.Shared renaming heap→XR
open PySem.Around renaming frames_deeper→XU
open And renaming intro→XV
open List.cons renaming injEq→ZJ
open PySem.NameKind renaming free→eK
open Prod.mk renaming injEq→gI
open PySem
variable{κ α:Type}{a it dx C f:AQ}{h h' h1 base:D4}{items:Array AH}{P prog:CQ}{w:D3}{AE:List (AQ×IE)}{s s':AT}{t' i j k n:Nat}{ch fp:List AQ}{N:List CT}{x name qual:CT}{M:Model}{A:DQ}{E Q:AH->AT->Prop}{u cd pm ct oc:AH}{e c tg JS:C8}{pos N5 p WU MQ TN:gK}{es:List C8}{body:List E6}{op:CmpOp}{BZ us:List AH}{mA mg:CT->Option AH}{fd:JR}{scope:NG}{outer:List XC}{EW:Arguments}{an od:Option AQ}{ps:List CT}
namespace L2
open PySem PySem.Spec PyProof.Rows
abbrev Key:=Sum Int CT
noncomputable def mH:Key->AH->Bool
 |.inl k,v=>Value.isInt k v
 |.inr x,v=>lO x v
def yHD(w:D3):Key->Int
 |.inl k=>hashInt k
 |.inr x=>hashStr w x
theorem cF:∀{k:Key} {v:AH},mH k v=AL->(∃i t,k=CS i/\v=MV i t)\/(∃x t,k=QZ x/\v=WE x t)
 |.inl i,v,h=>by
  obtain⟨t,e⟩:=Value.isInt_shape (k:=i) (v:=v) h;exact .inl {i,t,rfl,e}
 |.inr x,v,h=>by
  obtain⟨t,e⟩:=Value.isStrOf_shape (x:=x) (v:=v) h;exact .inr {x,t,rfl,e}
theorem zPW(i:Int)(t:eE):mH (.inl i) (.int i t)=AL:=by simp[mH,Value.isInt]
theorem zPX(x:CT)(t:eE):mH (.inr x) (.str x t)=AL:=by simp[mH,lO]
theorem yAW(a b:Int):decide ((CS a:Key)=CS b)=(a==b):=by
 by_cases e:a=b
 .subst e;simp
 .have h:¬(CS a:Key)=CS b:=λq=>e (IC q)
  rw[decide_eq_false h];exact(beq_eq_false_iff_ne.mpr e).symm
theorem yAX(a b:CT):decide ((QZ a:Key)=QZ b)=decide (a=b):=by
 by_cases e:a=b
 .subst e;simp
 .have h:¬(QZ a:Key)=QZ b:=λq=>e (Sum.inr.inj q)
  rw[decide_eq_false h,decide_eq_false e]
theorem yAY(a:Int)(b:CT):decide ((CS a:Key)=QZ b)=AD:=decide_eq_false (λq=>nomatch q)
theorem yAZ(a:CT)(b:Int):decide ((QZ a:Key)=CS b)=AD:=decide_eq_false (λq=>nomatch q)
def TD(prog:CQ)(w:D3):PySem.KeyKind prog w Key where
 is:=mH
 hash:=yHD w
 inj:=λv a b ha hb=>by
  rcases cF ha with⟨i,t,rfl,rfl⟩|⟨x,t,rfl,rfl⟩
  .rcases cF hb with⟨j,u,rfl,e⟩|⟨y,u,rfl,e⟩
   .injection e with e1 _;rw[e1]
   .exact nomatch e
  .rcases cF hb with⟨j,u,rfl,e⟩|⟨y,u,rfl,e⟩
   .exact nomatch e
   .injection e with e1 _;rw[e1]
 byValue:=λk v h=>by
  rcases cF h with⟨i,t,rfl,rfl⟩|⟨x,t,rfl,rfl⟩<;>rfl
 pyHash:=λhv h=>by
  rcases cF hv with⟨i,t,rfl,rfl⟩|⟨x,t,rfl,rfl⟩
  .exact wpAny_pyHash_int h
  .exact wpAny_pyHash_str h
 eqBool:=λhu hv h=>by
  rcases cF hu with⟨i,t,rfl,rfl⟩|⟨x,t,rfl,rfl⟩
  .rcases cF hv with⟨j,u,rfl,rfl⟩|⟨y,u,rfl,rfl⟩
   .rw[yAW] at h;exact VN h
   .rw[yAY] at h;exact SeqAt.EqAt.int_str i t y u _ _ _ _ h
  .rcases cF hv with⟨j,u,rfl,rfl⟩|⟨y,u,rfl,rfl⟩
   .rw[yAZ] at h;exact SeqAt.EqAt.str_int x t j u _ _ _ _ h
   .rw[yAX] at h;exact wpAny_eqBool_str h
 «strs»:=λk x t v h=>by
  rcases cF h with⟨i,u,rfl,e⟩|⟨y,u,rfl,e⟩
  .exact nomatch e
  .injection e with e1 _
   subst e1;cases v<;>rfl
theorem Td(prog:CQ)(w:D3)(k:Key)(v:AH):(TD prog w).is k v=mH k v:=rfl
theorem zMO(prog:CQ)(w:D3)(i:Int)(t:eE):(TD prog w).is (.inl i) (.int i t)=AL:=zPW i t
theorem zMP(prog:CQ)(w:D3)(x:CT)(t:eE):(TD prog w).is (.inr x) (.str x t)=AL:=zPX x t
inductive V where
 |non|bl (b:Bool)|int (i:Int)|str (x:CT)|byt (b:Array UInt8)|flt (b:UInt64)|ref (a:AQ)|ty (n:String)
 deriving DecidableEq
def RelV:V->AH->Prop
 |.non,u=>u=GK
 |.bl b,u=>u=JA b
 |.int i,u=>∃t,u=MV i t
 |.str x,u=>∃t,u=WE x t
 |.byt b,u=>∃t,u=Value.bytes b t
 |.flt b,u=>∃t,u=Value.float b t
 |.ref a,u=>u=DP a
 |.ty n,u=>u=T4 n
abbrev Vals:List V->List AH->Prop:=Paired RelV
theorem Vals.length{xs:List V}{us:List AH}(r:Vals xs us):xs.length=us.length:=Paired.length r
theorem Vals.get:∀{xs:List V} {us:List AH} {i:Nat} {x:V},Vals xs us->xs[i]?=AA x->∃u,us[i]?=AA u/\RelV x u
 |_,_,_,_,.nil,e=>by simp at e
 |_,_,0,_,.cons r _,e=>by simp at e;subst e;exact{_,rfl,r}
 |_,_,i+1,x,.cons _ t,e=>by
  obtain⟨u,h1,h2⟩:=Vals.get (i:=i) (x:=x) t (by simpa using e);exact{u,by simpa using h1,h2}
theorem Vals.set{x:V}{u:AH}(r:RelV x u):∀{xs:List V} {us:List AH} (i:Nat),Vals xs us->Vals (xs.set i x) (us.set i u)
 |_,_,_,.nil=>.nil
 |_,_,0,.cons _ t=>.cons r t
 |_,_,i+1,.cons q t=>.cons q (Vals.set r i t)
theorem Vals.append:∀{xs ys:List V} {us ws:List AH},Vals xs us->Vals ys ws->Vals (xs++ys) (us++ws)
 |_,_,_,_,.nil,s=>s
 |_,_,_,_,.cons r t,s=>.cons r (Vals.append t s)
theorem Vals.take:∀{xs:List V} {us:List AH} (n:Nat),Vals xs us->Vals (xs.take n) (us.take n)
 |_,_,0,_=>.nil
 |_,_,_+1,.nil=>.nil
 |_,_,n+1,.cons r t=>.cons r (Vals.take n t)
theorem Vals.drop:∀{xs:List V} {us:List AH} (n:Nat),Vals xs us->Vals (xs.drop n) (us.drop n)
 |_,_,0,r=>r
 |_,_,_+1,.nil=>.nil
 |_,_,n+1,.cons _ t=>Vals.drop n t
def RelO:Option V->Option AH->Prop
 |some v,AA u=>RelV v u
 |none,AK=>True
 |_,_=>False
def KV:List (κ×V)->List (κ×AH)->Prop:=Paired λ(p:κ×V) (q:κ×AH)=>p.1=q.1/\RelV p.2 q.2
def kV:Key->V
 |.inl i=>.int i
 |.inr x=>.str x
inductive HO where
 |lst (xs:List V)
 |tup (xs:List V)
 |dK (kvs:List (Key×V))|dT (kvs:List (List Key×V))
 |set (S:Int->Bool) (n:Nat)
 |ins (C dx:AQ) (fs:List (CT×V))
 |own (x:AQ)
 |xd (fs:List (CT×V))
 |met (f x:AQ)
 |rng (lo hi:Int)
 |frz (o:IE) (u:HO)
 |tbl (q:CT) (ps:Array AH)
 |ext (φ:D4->Prop)
abbrev Hp:=AQ->Option HO
def D6(H:Hp)(a:AQ)(o:HO):Hp:=λb=>if b=a then AA o else H b
variable{H:Hp}{o:HO}
theorem HB:D6 H a o a=AA o:=by unfold D6;rw[if_pos rfl]
theorem EV{b:AQ}(h:b≠a):D6 H a o b=H b:=by unfold D6;rw[if_neg h]
theorem yEM{b:AQ}{u:HO}(h:H a=AA o)(h':H b=AA u)(d:o≠u):a≠b:=by
 intro e;subst e;rw[h] at h';exact d (BL h')
theorem UX{b:AQ}(h:H a=AA o)(h':H b=AK):a≠b:=by
 intro e;subst e;rw[h] at h';cases h'
def IsTupP(h:D4)(a:AQ)(items:Array AH):Prop:=∃o,h.get? a=AA o/\o.cls=.type "tuple"/\o.dict=AK/\∃n,o.data=.seq items n
theorem IsTupP.isTup(p:IsTupP h a items):QE h a items:=let ⟨o,e,c,_,n⟩:=p;{o,e,c,n}
theorem IsTupP.new(h:D4)(items:Array AH):IsTupP (h.push { cls:=.type "tuple",data:=.seq items }) h.objs.size items:={_,AX _ rfl,rfl,rfl,_,rfl}
section
variable(P:CQ)(w:D3)
def ObjOk(H:Hp)(h:D4)(a:AQ):HO->Prop
 |.lst xs=>xs.length<=sizeLine/\∃(BZ:List AH) (n:Nat),Vals xs BZ/\h.get? a=AA { cls:=.type "list",data:=.seq BZ.toArray n }
 |.tup xs=>xs.length<=sizeLine/\∃BZ:List AH,Vals xs BZ/\IsTupP h a BZ.toArray
 |.dK kvs=>kvs.length<=sizeLine/\(a==GY)=AD/\∃vs,KV kvs vs/\h.DictOf (TD P w) a vs
 |.dT kvs=>kvs.length<=sizeLine/\(a==GY)=AD/\∃xs:List (List Key×AQ×AH),
   Paired (λ(p:List Key×V) (q:List Key×AQ×AH)=>p.1=q.1/\H q.2.1=AA (.tup (p.1.map kV))/\RelV p.2 q.2.2) kvs xs /\
   ∃o es ep,h.get? a=AA o/\o.ExactDict/\o.data=.dict es ep/\es.toList=xs.map (entryOfKey (N8 (TD P w)))/\(xs.map (·.1)).Nodup
 |.set S n=>h.SetOf (intKind P w) a S n
 |.ins C dx fs=>H dx=AA (.own a)/\fs.length<=1000/\dx≠a/\h.get? a=AA (Q0 C dx) /\
   ∃mA,h.Ns1 dx mA/\(∀f,RelO (fs.lookup f) (mA f))/\PySem.Within mA (fs.map (·.1))
 |.own _=>∃o,h.get? a=AA o
 |.xd fs=>∃mA,h.Ns1 a mA/\∀f,RelO (fs.lookup f) (mA f)
 |.rng lo hi=>∃t u v,h.get? a=AA { cls:=.type "range",data:=.fields #[.int lo t,.int hi u,.int 1 v] }
 |.frz o u=>h.get? a=AA o/\ObjOk H h a u
 |.tbl q ps=>h.get? a=AA { cls:=.none,data:=.fields ps }/\TriplesOk ps.toList/\∀pos cv,QM pos ps.toList=AA cv->∃c' o vs t,cv=.ref c'/\H c'=AA (.frz o (.own c'))/\o.data=.fields vs/\vs[1]?=AA (.str q t)
 |.met f x=>h.get? a=AA (PH (.ref f) (.ref x))
 |.ext φ=>φ h/\(∃o,h.get? a=AA o)/\∀h1 h2:D4,φ h1->(∀o,h1.get? a=AA o->h2.get? a=AA o)->φ h2
def HOk(H:Hp)(h:D4):Prop:=∀a o,H a=AA o->ObjOk P w H h a o
end
variable{H':Hp}
theorem ObjOk.lt(x:ObjOk P w H h a o):a<h.objs.size:=by
 cases o with
 |lst xs=>obtain⟨_,_,_,_,e⟩:=x;exact A9 e
 |tup xs=>obtain⟨_,_,_,p⟩:=x;exact p.isTup.lt
 |dK kvs=>obtain⟨_,_,_,_,o,_,_,e,_⟩:=x;exact A9 e
 |dT kvs=>obtain⟨_,_,_,_,o,_,_,e,_⟩:=x;exact A9 e
 |set S n=>obtain⟨o,_,_,_,e,_⟩:=x;exact A9 e
 |ins C dx fs=>obtain⟨_,_,_,e,_⟩:=x;exact A9 e
 |own y=>obtain⟨_,e⟩:=x;exact A9 e
 |xd fs=>obtain⟨_,⟨_,_,_,e,_⟩,_⟩:=x;exact A9 e
 |rng lo hi=>obtain⟨_,_,_,e⟩:=x;exact A9 e
 |frz ob u=>obtain⟨e,_⟩:=x;exact A9 e
 |tbl q ps=>exact A9 x.1
 |met f y=>exact A9 (show h.get? a=AA _ from x)
 |ext φ=>obtain⟨_,⟨_,e⟩,_⟩:=x;exact A9 e
theorem pA0{α β:Type}{F G:α->β->Prop}:∀{l₁:List α} {l₂:List β},Paired F l₁ l₂->(∀a b,F a b->G a b)->Paired G l₁ l₂
 |_,_,.nil,_=>.nil
 |_,_,.cons r t,f=>.cons (f _ _ r) (pA0 t f)
theorem ObjOk.stay(x:ObjOk P w H h a o)(k:∀b u,(b=a\/H b=AA (.own a))->h.get? b=AA u->h'.get? b=AA u)
  (ho:∀b,H b=AA (.own a)->H' b=AA (.own a)) (ht:∀b xs,H b=AA (.tup xs)->H' b=AA (.tup xs)) (hf:∀b o x,H b=AA (.frz o (.own x))->H' b=AA (.frz o (.own x))):ObjOk P w H' h' a o:=by
 induction o with
 |lst xs=>obtain⟨z,BZ,n,r,e⟩:=x;exact{z,BZ,n,r,k _ _ (.inl rfl) e}
 |tup xs=>obtain⟨z,BZ,r,ob,e,c⟩:=x;exact{z,BZ,r,ob,k _ _ (.inl rfl) e,c}
 |dK kvs=>obtain⟨z,y,vs,r,ob,es,ep,e,c⟩:=x;exact{z,y,vs,r,ob,es,ep,k _ _ (.inl rfl) e,c}
 |dT kvs =>
  obtain⟨z,y,xs,r,ob,es,ep,e,c⟩:=x;exact{z,y,xs,pA0 r λp q z=>{z.1,ht _ _ z.2.1,z.2.2},ob,es,ep,k _ _ (.inl rfl) e,c}
 |set S n=>obtain⟨ob,es,ep,t,e,c⟩:=x;exact{ob,es,ep,t,k _ _ (.inl rfl) e,c}
 |ins C dx fs =>
  obtain⟨d,z,ne,e,mA,⟨od,es,ep,e2,c⟩,r⟩:=x;exact{ho _ d,z,ne,k _ _ (.inl rfl) e,mA,{od,es,ep,k _ _ (.inr d) e2,c},r}
 |own y=>obtain⟨ob,e⟩:=x;exact{ob,k _ _ (.inl rfl) e}
 |xd fs=>obtain⟨mA,⟨od,es,ep,e,c⟩,r⟩:=x;exact{mA,{od,es,ep,k _ _ (.inl rfl) e,c},r}
 |rng lo hi=>obtain⟨t,u,v,e⟩:=x;exact{t,u,v,k _ _ (.inl rfl) e}
 |frz ob u ih=>obtain⟨e,q⟩:=x;exact{k _ _ (.inl rfl) e,ih q}
 |tbl q ps =>
  obtain⟨e,tr,al⟩:=x;refine{k a _ (.inl rfl) e,tr,λpos cv z=>?_};obtain⟨c',o,vs,t,r1,r2,r3⟩:=al pos cv z;exact{c',o,vs,t,r1,hf _ _ _ r2,r3}
 |met f y =>
  have e:h.get? a=AA (PH (.ref f) (.ref y)):=x;show h'.get? a=AA (PH (.ref f) (.ref y));exact k a _ (.inl rfl) e
 |ext φ=>obtain⟨p,⟨o,e⟩,st⟩:=x;exact{st _ _ p λo q=>k _ _ (.inl rfl) q,{o,k _ _ (.inl rfl) e},st}
theorem HOk.lt(x:HOk P w H h)(e:H a=AA o):a<h.objs.size:=(x a o e).lt
theorem HOk.fresh(x:HOk P w H h)(e:h.objs.size<=a):H a=AK:=by
 cases q:H a with
 |none=>rfl
 |some u=>exact absurd (AN (x.lt q) e) (GJ _)
theorem HOk.kept(x:HOk P w H h)(k:∀b u,h.get? b=AA u->h'.get? b=AA u):HOk P w H h':=λa o e =>
 (x a o e).stay (λb u _ q=>k b u q) (λ_ q=>q) (λ_ _ q=>q) λ_ _ _ q=>q
theorem HOk.laid(x:HOk P w H h)(k:∀b u,h.get? b=AA u->h'.get? b=AA u)(hp:h.objs.size<=a)(new:ObjOk P w (D6 H a o) h' a o):HOk P w (D6 H a o) h':=λb u e=>by
 have hn:=x.fresh hp
 by_cases hb:b=a
 .subst hb;rw[HB] at e;cases e;exact new
 .rw[EV hb] at e
  exact(x b u e).stay (λc v _ q=>k c v q) (λc q=>by rw[EV (UX q hn)];exact q) (λc xs q=>by rw[EV (UX q hn)];exact q) λc o x q=>by rw[EV (UX q hn)];exact q
def Rd(H:Hp)(a:AQ)(u:HO):Prop:=H a=AA u\/∃o,H a=AA (.frz o u)
theorem Rd.ok{u:HO}(r:Rd H a u)(x:HOk P w H h):ObjOk P w H h a u:=by
 rcases r with r|⟨o,r⟩
 .exact x a u r
 .obtain⟨_,q⟩:=x a _ r
  exact q
def tY:Option HO->Prop
 |some (.lst _)=>True
 |some (.dK _)=>True
 |some (.dT _)=>True
 |some (.set _ _)=>True
 |some (.ins _ _ _)=>True
 |some (.ext _)=>True
 |_=>False
section
variable{x e:AQ}{o':HO}
theorem HOk.write(ok:HOk P w H h)(mu:tY (H x))(he:e=x\/H e=AA (.own x))(k:∀b u,b≠e->h.get? b=AA u->h'.get? b=AA u)(rH:∃u,h'.get? e=AA u)
  (new:ObjOk P w (D6 H x o') h' x o'):HOk P w (D6 H x o') h':=λb u q=>by
 have uX:∀c y,H c=AA (.own y)->c≠x:=λc y r z=>by subst z;rw[r] at mu;exact mu
 have Ix:∀c xs,H c=AA (.tup xs)->c≠x:=λc xs r z=>by subst z;rw[r] at mu;exact mu
 have Iy:∀c o y,H c=AA (.frz o (.own y))->c≠x:=λc o y r z=>by subst z;rw[r] at mu;exact mu
 by_cases hb:b=x
 .subst hb;rw[HB] at q;cases q;exact new
 .rw[EV hb] at q
  by_cases oK:b=e
  .have q':H b=AA (.own x):=by
    rcases he with z|z
    .exact absurd (oK.trans z) hb
    .rw[oK];exact z
   rw[q] at q';cases q';obtain⟨v,hv⟩:=rH;exact{v,by rw[oK];exact hv}
  .refine(ok b u q).stay (λc v hc r=>k c v ?_ r) (λc r=>by rw[EV (uX c b r)];exact r) (λc xs r=>by rw[EV (Ix c xs r)];exact r) λc o y r=>by rw[EV (Iy c o y r)];exact r
   rcases hc with rfl|hc
   .exact oK
   .rintro rfl
    rcases he with z|z
    .exact uX c b hc z
    .rw[hc] at z;cases z;exact hb rfl
end
structure Un(fs ex:List AQ)(H H':Hp)(h h':D4):Prop where
 keep:∀b o,h.get? b=AA o->H b=AK->b∉fs->b∉ex->h'.get? b=AA o
 slot:∀b o,h.get? b=AA o->H b=AK->b∈fs->b∉ex->∃sl,h'.get? b=AA { o with slots:=sl }
 free:∀b o,h.get? b=AA o->H b=AK->b∉ex->H' b=AK
 there:∀b o,h.get? b=AA o->b∉ex->∃o',h'.get? b=AA o'
 tups:∀b xs,H b=AA (.tup xs)->H' b=AA (.tup xs)
 frzs:∀b o u,H b=AA (.frz o u)->H' b=AA (.frz o u)
 tbls:∀b t ps,H b=AA (.tbl t ps)->∃QW,H' b=AA (.tbl t (ps++QW))
variable{H1 H2:Hp}
section
variable{fs oO ex Zn:List AQ}{h2:D4}{x e:AQ}
theorem Un.any(u:Un fs ex H H1 h h1){b:AQ}{ob:IE}(q:h.get? b=AA ob)(n:H b=AK)(hx:b∉ex):∃sl,h1.get? b=AA { ob with slots:=sl }:=by
 by_cases hb:b∈fs
 .exact u.slot b ob q n hb hx
 .exact{ob.slots,u.keep b ob q n hb hx}
theorem Un.kept(k:∀b u,h.get? b=AA u->h'.get? b=AA u):Un fs ex H H h h' :=
 {λb ob q _ _ _=>k b ob q,λb ob q _ _ _=>{ob.slots,k b ob q},λ_ _ _ n _=>n,λb ob q _=>{ob,k b ob q},λ_ _ q=>q,λ_ _ _ q=>q,λ_ _ ps q=>{#[],by rw[q];simp}}
theorem Un.refl:Un fs ex H H h h:=Un.kept λ_ _ q=>q
theorem Un.laid(k:∀b u,h.get? b=AA u->h'.get? b=AA u)(hp:h.objs.size<=a)(hn:H a=AK):Un fs ex H (D6 H a o) h h' where
 keep:=λb u q _ _ _=>k b u q
 slot:=λb u q _ _ _=>{u.slots,k b u q}
 free:=λb u q n _=>by rw[EV (CA (AN (A9 q) hp))];exact n
 there:=λb u q _=>{u,k b u q}
 tups:=λb xs q=>by rw[EV (UX q hn)];exact q
 frzs:=λb u xs q=>by rw[EV (UX q hn)];exact q
 tbls:=λb t ps q=>{#[],by rw[EV (UX q hn),q];simp}
theorem Un.write(mu:tY (H x))(he:e=x\/H e=AA (.own x))(k:∀b u,b≠e->h.get? b=AA u->h'.get? b=AA u)(rH:∃u,h'.get? e=AA u):Un fs ex H (D6 H x o) h h':=by
 have hx:∀b,H b=AK->b≠x:=λb n z=>by subst z;rw[n] at mu;exact mu
 have hb:∀b,H b=AK->b≠e:=λb n z=>by
  subst z;rcases he with r|r
  .exact hx b n r
  .rw[n] at r;cases r
 have hm:∀b u,H b=AA u->¬tY (AA u)->b≠x:=λb u q nm z=>by subst z;rw[q] at mu;exact nm mu
 refine{λb u q n _ _=>k b u (hb b n) q,λb u q n _ _=>{u.slots,k b u (hb b n) q},λb u q n _=>by rw[EV (hx b n)];exact n,λb u q _=>?_,
  λb xs q=>by rw[EV (hm b _ q λz=>z)];exact q,λb u xs q=>by rw[EV (hm b _ q λz=>z)];exact q,λb t ps q=>{#[],by rw[EV (hm b _ q λz=>z),q];simp}}
 by_cases oK:b=e
 .subst oK;exact rH
 .exact{u,k b u oK q}
end
noncomputable def z6(h:D4)(H:Hp):List AQ:=(CI h.objs.size).filter λa=>(H a).isSome
def eW(h:D4)(H:Hp):D4:=IT h (z6 h H)
theorem zPY(h:D4)(H:Hp):(eW h H).objs.size=h.objs.size:=PySem.W.hideAll_size _ _
theorem zTH{b:AQ}{o:IE}(e:h.get? b=AA o)(n:H b=AK):(eW h H).get? b=AA o :=
 OB _ e λhm=>by
  have q:(H b).isSome=AL:=(DI.mp hm).2;rw[n] at q;simp at q
theorem zXC{b:AQ}{o:IE}(e:(eW h H).get? b=AA o):h.get? b=AA o/\H b=AK:=by
 have e':h.get? b=AA o:=YR (z6 h H) e;refine{e',?_}
 cases q:H b with
 |none=>rfl
 |some x =>
  have hm:b∈z6 h H:=DI.mpr {FW.mpr (A9 e'),by simp[q]};have z:(eW h H).get? b=AK:=PySem.W.hideAll_none (z6 h H) hm;rw[z] at e;cases e
noncomputable def sP(g h:D4)(L:AQ):List (AQ×IE):=(CI h.objs.size).filterMap λa=>if a=L\/(g.get? a).isSome=AL then AK else(h.get? a).map λo=>(a,o)
theorem zMQ{g:D4}{L:AQ}{o:IE}(h1:a≠L)(h2:g.get? a=AK)(h3:h.get? a=AA o):(a,o)∈sP g h L :=
 HP.mpr {a,FW.mpr (A9 h3),by simp[h1,h2,h3]}
theorem zHG{g:D4}{L:AQ}{p:AQ×IE}(hp:p∈sP g h L):p.1≠L/\g.get? p.1=AK/\h.get? p.1=AA p.2:=by
 obtain⟨b,_,e⟩:=HP.mp hp;split at e
 .cases e
 .rename_i hn
  cases q:h.get? b with
  |none=>rw[q] at e;simp at e
  |some u =>
   rw[q] at e;simp only[GT,WH] at e;subst e;refine{λz=>hn (.inl z),?_,q};show g.get? b=AK
   cases r:g.get? b with
   |none=>rfl
   |some v=>exact(hn (.inr (by simp[r]))).elim
def rest(g h:D4)(L d:AQ):List (AQ×IE):=(sP g h L).filter λp=>decide (p.1≠d)
theorem zTI{g:D4}{L:AQ}:News g L h (sP g h L):=λp hp=>let ⟨a,b,c⟩:=zHG hp;{c,a,b}
structure Mod(K:AC)(mg:CT->Option AH)(base:D4):Prop where
 kin:K.In base
 glob:base.Ns BK mg
 blt:∃mb,base.Ns MT mb/\∀x:CT,x≠"__name__"->mb x=GL x
 nolimit:base.NoLimit
 bmain:∃bm ob,mg "__builtins__"=AA (.ref bm)/\bm≠MT/\base.get? bm=AA ob/\ob.cls=.type "module"/\ob.dict=AA MT/\ob.data=.plain
structure Cx where
 prog:CQ
 w:D3
 K:AC
 mg:CT->Option AH
 base:D4
 A:DQ
 N:List CT
 s₀:AT
 H₀:Hp
 env:XC
 outer:List XC
 stack:List XC
 ex:List AQ
 fn:CT->Bool
 calm:Bool
 pn:List (AQ×IE)
 xe:AH->AT->Prop
def RA(l:List XC):List AQ:=l.filterMap (·.frame)
abbrev Cx.fs(X:Cx):List AQ:=RA X.outer
def Z2(sc:NG)(x:CT):Prop:=sc.names.lookup x=AA .local\/sc.names.lookup x=AA .cell\/sc.names.lookup x=AA .free
def Loc(sc:NG)(x:CT):Prop:=sc.names.lookup x=AA .local\/sc.names.lookup x=AA .cell
def Uz(env:XC)(h:D4)(m:CT->Option AH)(x:CT)(u:AH):Prop :=
 (env.kindOf x=AA .local/\m x=AA u)\/((env.kindOf x=AA .cell\/env.kindOf x=AA .free)/\∃c,env.cells.lookup x=AA c/\h.IsCell c (AA u))
noncomputable def iG:List CT:=["holders","_law_table","_law_back","_law_kept_right","law"]
def TB(K:AC)(T:AQ)(q:CT):Prop:=∃x c,x∈iG/\EN K x=AA (c,T)/\q=x++(".<locals>.<lambda>":CT)
structure Cx.Ok(X:Cx):Prop where
 tab:∀T q,TB X.K T q->∃ps,X.H₀ T=AA (.tbl q ps)
 mod:Mod X.K X.mg X.base
 kind:X.env.scope.kind=.function
 glob:X.env.globals=BK
 blt:X.env.builtins=MT
 above:X.s₀.heap.objs.size<=X.env.locals
 inj:∀x y c,X.env.cells.lookup x=AA c->X.env.cells.lookup y=AA c->x=y
 has:∀x,(X.env.kindOf x=AA .cell\/X.env.kindOf x=AA .free)->∃c,X.env.cells.lookup x=AA c
 cab:∀x c,X.fn x=AL->X.env.cells.lookup x=AA c->X.s₀.heap.objs.size<=c
 hd:X.calm=AL->X.A.handled=AK
 frames:X.A.frames=AA X.stack
 stk:X.stack=X.outer\/(X.stack=X.env::X.outer/\X.env.frame=AA X.env.locals)
 exf:∀b∈X.ex,b≠X.env.locals/\∀x c,X.env.cells.lookup x=AA c->c≠b
 bs:∀b o,X.base.get? b=AA o->X.s₀.heap.get? b=AA o/\X.H₀ b=AK
 bsz:X.base.objs.size<=X.s₀.heap.objs.size
 noex:∀b o,X.base.get? b=AA o->b∉X.ex
 exfs:∀b∈X.ex,b∉X.fs
 funs:X.s₀.heap.FunFrames X.base X.outer
 frf:∀b∈X.fs,X.H₀ b=AK
structure Inv(X:Cx)(AE:List (AQ×IE))(σ:List (Option V))(H:Hp)(s:AT):Prop where
 ok:X.Ok
 os:s.os=X.s₀.os
 bare:NJ s.gens
 base:Un X.fs X.ex X.H₀ H X.s₀.heap s.heap
 loc:∃m,s.heap.Ns X.env.locals m/\∀(i:Nat) (x:CT) (v:V),X.N[i]?=AA x->σ[i]?=AA (AA v)->Z2 X.env.scope x->∃u,RelV v u/\Uz X.env s.heap m x u
 cell:∀x c,X.env.cells.lookup x=AA c->∃v,s.heap.IsCell c v
 free:H X.env.locals=AK
 freeC:∀x c,X.env.cells.lookup x=AA c->H c=AK
 pin:∀p∈X.pn++AE,s.heap.get? p.1=AA p.2/\H p.1=AK/\p.1≠X.env.locals/\p.1∉X.fs/\∀v,p.2.data≠.cell v
 hok:HOk X.prog X.w H s.heap
 len:σ.length=X.N.length
variable{X:Cx}{v:V}{σ:List (Option V)}
theorem Cx.Ok.nofr(ok:X.Ok){b:AQ}{o:IE}(e:X.base.get? b=AA o):b∉X.fs:=λhb=>by
 have:=(ok.funs.mem hb).1;rw[e] at this;cases this
theorem Inv.bs(I:Inv X AE σ H s):∀b o,X.base.get? b=AA o->s.heap.get? b=AA o/\H b=AK:=λb o e =>
 {I.base.keep b o (I.ok.bs b o e).1 (I.ok.bs b o e).2 (I.ok.nofr e) (I.ok.noex b o e),I.base.free b o (I.ok.bs b o e).1 (I.ok.bs b o e).2 (I.ok.noex b o e)}
theorem Inv.bk(I:Inv X AE σ H s):∀b o,X.base.get? b=AA o->s.heap.get? b=AA o:=λb o e=>(I.bs b o e).1
theorem Inv.tab(I:Inv X AE σ H s):∀T q,TB X.K T q->∃ps,H T=AA (.tbl q ps):=λT q b=>by
 obtain⟨ps,e⟩:=I.ok.tab T q b;obtain⟨m,e'⟩:=I.base.tbls T q ps e;exact{_,e'}
theorem Inv.mod(I:Inv X AE σ H s):Mod X.K X.mg X.base:=I.ok.mod
theorem Inv.kIn(I:Inv X AE σ H s):X.K.In s.heap:=I.ok.mod.kin.keeps I.bk
theorem Inv.nolimit(I:Inv X AE σ H s):s.heap.NoLimit:=I.ok.mod.nolimit.keeps I.bk
theorem Inv.fr(I:Inv X AE σ H s):∃m,Fr X.base X.env.locals s.heap m :=
 let ⟨m,hn,_⟩:=I.loc
 {m,hn,I.bk,AZ I.ok.bsz I.ok.above}
theorem Inv.lt(I:Inv X AE σ H s):X.env.locals<s.heap.objs.size:=let ⟨_,hn,_⟩:=I.loc;hn.lt
theorem Inv.sz(I:Inv X AE σ H s):X.s₀.heap.objs.size<=s.heap.objs.size:=AZ I.ok.above (CW I.lt)
theorem Inv.nofs(I:Inv X AE σ H s)(h:s.heap.objs.size<=a):a∉X.fs:=λhb=>by
 obtain⟨_,o,ho,_⟩:=I.ok.funs.mem hb;exact absurd (AN (A9 ho) (AZ I.sz h)) (GJ _)
theorem Inv.cne(I:Inv X AE σ H s):∀x c,X.env.cells.lookup x=AA c->c≠X.env.locals:=λx c e z=>by
 obtain⟨v,o,ho,hd⟩:=I.cell x c e;obtain⟨m,⟨o',es,ep,fU,wF,_⟩,_⟩:=I.loc;rw[z,fU] at ho;cases ho;rw[wF] at hd;cases hd
theorem Inv.funs(I:Inv X AE σ H s):s.heap.FunFrames X.base X.outer:=by
 have all:∀(l:List XC),(∀b∈RA l,b∈X.fs)->X.s₀.heap.FunFrames X.base l->s.heap.FunFrames X.base l:=by
  intro l
  induction l with
  |nil=>intro _ _;trivial
  |cons env r ih =>
   intro hs hl;obtain⟨hk,⟨L,o,hf,hn,ho,hd⟩,hr⟩:=hl;have hL:L∈X.fs:=hs L (by unfold RA;rw[DN,hf];exact A8);obtain⟨sl,e⟩:=I.base.slot L o ho (I.ok.frf L hL) hL λz=>I.ok.exfs L z hL;exact{hk,{L,_,hf,hn,e,hd},ih (λb hb=>hs b (by unfold RA;rw[DN,hf];exact A4 _ hb)) hr}
 exact all X.outer (λ_ hb=>hb) I.ok.funs
theorem Inv.stack(I:Inv X AE σ H s):s.heap.FunFrames X.base X.stack:=by
 rcases I.ok.stk with e|⟨e,hf⟩
 .rw[e];exact I.funs
 .rw[e]
  obtain⟨m,hn,_⟩:=I.loc;refine .cons (by rw[I.ok.kind];decide) hf hn ?_ I.funs;exact ZK (AZ I.ok.bsz I.ok.above)
theorem Inv.stkSub(I:Inv X AE σ H s):∀b∈RA X.stack,b∈X.env.locals::X.fs:=λb hb=>by
 rcases I.ok.stk with e|⟨e,hf⟩
 .rw[e] at hb;exact A4 _ hb
 .rw[e] at hb
  unfold RA at hb;rw[DN,hf] at hb;exact hb
theorem Inv.stkFree(I:Inv X AE σ H s):∀b∈RA X.stack,H b=AK:=λb hb=>by
 rcases BC.mp (I.stkSub b hb) with e|hb
 .rw[e];exact I.free
 .obtain⟨_,o,ho,_⟩:=I.ok.funs.mem hb
  exact I.base.free b o ho (I.ok.frf b hb) λz=>I.ok.exfs b z hb
theorem Inv.step{g':Array GenState}{d':Drawn}(I:Inv X AE σ H s)
  (fX:∀b∈ch,(b∈X.ex\/X.s₀.heap.objs.size<=b)/\b≠X.env.locals/\(∀x c,X.env.cells.lookup x=AA c->c≠b)/\∀p∈X.pn++AE,p.1≠b)
  (keep:∀b o,b≠X.env.locals->b∉X.fs->b∉ch->s.heap.get? b=AA o->H b=AK->h'.get? b=AA o)
  (slot:∀b o,b≠X.env.locals->b∈X.fs->b∉ch->s.heap.get? b=AA o->H b=AK->∃sl,h'.get? b=AA { o with slots:=sl }) (free:∀b o,b∉ch->s.heap.get? b=AA o->H b=AK->H' b=AK)
  (there:∀b o,b∉ch->s.heap.get? b=AA o->∃o',h'.get? b=AA o')
  (tups:∀b xs,H b=AA (.tup xs)->H' b=AA (.tup xs)) (frzs:∀b o u,H b=AA (.frz o u)->H' b=AA (.frz o u)) (tbls:∀b t ps,H b=AA (.tbl t ps)->∃QW,H' b=AA (.tbl t (ps++QW)))
  (ns:∀m,s.heap.Ns X.env.locals m->h'.Ns X.env.locals m) (hok:HOk X.prog X.w H' h') (hg:NJ g') :
  Inv X AE σ H' { s with heap:=h',gens:=g',drawn:=d',toks:=t' }:=by
 have Yg:∀b o,X.s₀.heap.get? b=AA o->b≠X.env.locals:=λb o e=>CA (AN (A9 e) I.ok.above)
 have Aq:∀b o,X.s₀.heap.get? b=AA o->b∉X.ex->b∉ch:=λb o e hx hb=>by
  rcases(fX b hb).1 with z|z
  .exact hx z
  .exact absurd (AN (A9 e) z) (GJ _)
 have lM:∀x c,X.env.cells.lookup x=AA c->∀v,s.heap.IsCell c v->h'.IsCell c v:=λx c e v q0=>by
  obtain⟨o,ho,hd⟩:=q0;have vA:c∉ch:=λz=>(fX c z).2.2.1 x c e rfl
  by_cases hc:c∈X.fs
  .obtain⟨sl,q⟩:=slot c o (I.cne x c e) hc vA ho (I.freeC x c e)
   exact{_,q,hd}
  .exact{o,keep c o (I.cne x c e) hc vA ho (I.freeC x c e),hd}
 refine{I.ok,I.os,hg,{λb o e n hb hx=>?_,λb o e n hb hx=>?_,λb o e n hx=>?_,λb o e hx=>?_,λb xs e=>tups b xs (I.base.tups b xs e),λb o xs e=>frzs b o xs (I.base.frzs b o xs e),λb t ps e=>?_},?_,λx c e=>?_,?_,λx c e=>?_,λp hp=>?_,hok,I.len}
 .exact keep b o (Yg b o e) hb (Aq b o e hx) (I.base.keep b o e n hb hx) (I.base.free b o e n hx)
 .obtain⟨sl,e1⟩:=I.base.slot b o e n hb hx
  obtain⟨uI,e2⟩:=slot b _ (Yg b o e) hb (Aq b o e hx) e1 (I.base.free b o e n hx);exact{uI,e2}
 .obtain⟨o',e1⟩:=I.base.there b o e hx
  exact free b o' (Aq b o e hx) e1 (I.base.free b o e n hx)
 .obtain⟨o',e1⟩:=I.base.there b o e hx
  exact there b o' (Aq b o e hx) e1
 .obtain⟨m1,e1⟩:=I.base.tbls b t ps e
  obtain⟨m2,e2⟩:=tbls b t _ e1;exact{m1++m2,by rw[e2,Array.append_assoc]}
 .obtain⟨m,hn,hl⟩:=I.loc
  refine{m,ns m hn,λi x v e1 e2 e3=>?_};obtain⟨u,r,l⟩:=hl i x v e1 e2 e3;refine{u,r,?_};rcases l with l|⟨k,c,e,z⟩
  .exact .inl l
  .exact .inr {k,c,e,lM x c e _ z}
 .obtain⟨v,z⟩:=I.cell x c e
  exact{v,lM x c e v z}
 .obtain⟨m,⟨o,_,_,ho,_⟩,_⟩:=I.loc
  exact free _ o (λz=>(fX _ z).2.1 rfl) ho I.free
 .obtain⟨v,o,ho,hd⟩:=I.cell x c e
  exact free c o (λz=>(fX c z).2.2.1 x c e rfl) ho (I.freeC x c e)
 .obtain⟨e,n,ne,nf,d⟩:=I.pin p hp
  have vA:p.1∉ch:=λz=>(fX p.1 z).2.2.2 p hp rfl;exact{keep p.1 p.2 ne nf vA e n,free p.1 p.2 vA e n,ne,nf,d}
theorem Inv.un(I:Inv X AE σ H s)(u:Un X.fs [] H H' s.heap h')(hok:HOk X.prog X.w H' h'):Inv X AE σ H' { s with heap:=h',toks:=t' }:=by
 obtain⟨m,⟨o,es,ep,ho,r⟩,_⟩:=id I.loc;obtain⟨sl,hL⟩:=u.any ho I.free 's'
 exact I.step (g':=s.gens) (d':=s.drawn) (ch:=[]) (λ_ z=>nomatch z) (λb o _ hb _ e n=>u.keep b o e n hb 's') (λb o _ hb _ e n=>u.slot b o e n hb 's') (λb o _ e n=>u.free b o e n 's') (λb o _ e=>u.there b o e 's') u.tups u.frzs u.tbls (λm' hm=>by
  obtain⟨o',lG,lH,fU,r'⟩:=hm;rw[ho] at fU;cases fU
  exact{_,lG,lH,hL,r'}) hok I.bare
theorem Inv.call{g':Array GenState}{d':Drawn}(I:Inv X AE σ H s)(u:Un (RA X.stack) ch H H' s.heap h')(hok:HOk X.prog X.w H' h')(hg:NJ g')
  (fX:∀b∈ch,(b∈X.ex\/X.s₀.heap.objs.size<=b)/\b≠X.env.locals/\(∀x c,X.env.cells.lookup x=AA c->c≠b)/\∀p∈X.pn++AE,p.1≠b) :
  Inv X AE σ H' { s with heap:=h',gens:=g',drawn:=d',toks:=t' }:=by
 obtain⟨m,⟨o,es,ep,ho,r⟩,_⟩:=id I.loc;obtain⟨sl,hL⟩:=u.any ho I.free λz=>(fX _ z).2.1 rfl
 exact I.step (ch:=ch) fX (λb o hL hb hc e n=>u.keep b o e n (λz=>(BC.mp (I.stkSub b z)).elim hL hb) hc) (λb o _ _ hc e n=>u.any e n hc) (λb o hc e n=>u.free b o e n hc) (λb o hc e=>u.there b o e hc) u.tups u.frzs u.tbls (λm' hm=>by
  obtain⟨o',lG,lH,fU,r'⟩:=hm;rw[ho] at fU;cases fU
  exact{_,lG,lH,hL,r'}) hok hg
theorem Inv.turned(I:Inv X AE σ H s)(k:∀b o,b≠it->s.heap.get? b=AA o->h'.get? b=AA o)(hn:H it=AK)(hL:it≠X.env.locals)
  (h1:it∈X.ex\/X.s₀.heap.objs.size<=it) (h2:∀x c,X.env.cells.lookup x=AA c->c≠it) (h3:∀p∈X.pn++AE,p.1≠it):Inv X AE σ H { s with heap:=h',toks:=t' }:=by
 have u0:∀b u,H b=AA u->b≠it:=λb u e z=>by rw[z,hn] at e;cases e
 refine I.step (g':=s.gens) (d':=s.drawn) (ch:=[it]) (λb hb=>?_) (λb o _ _ hc e _=>k b o (λz=>hc (by simp[z])) e) (λb o _ _ hc e _=>{o.slots,k b o (λz=>hc (by simp[z])) e}) (λ_ _ _ _ n=>n)
  (λb o hc e=>{o,k b o (λz=>hc (by simp[z])) e}) (λ_ _ e=>e) (λ_ _ _ e=>e) (λb t ps e=>{#[],by rw[e];simp}) (λm hm=>?_) (λb u e=>?_) I.bare
 .have e:b=it:=by simpa using hb
  subst e;exact{h1,hL,h2,h3}
 .obtain⟨o,es,ep,ho,r⟩:=hm
  exact{o,es,ep,k _ o (E8 hL) ho,r}
 .refine(I.hok b u e).stay (λc v hc q=>k c v ?_ q) (λ_ q=>q) (λ_ _ q=>q) λ_ _ _ q=>q
  rcases hc with z|z
  .rw[z];exact u0 b u e
  .exact u0 c _ z
theorem Inv.tok(I:Inv X AE σ H s)(t:Nat):Inv X AE σ H { s with toks:=t }:=I.un (h':=s.heap) (t':=t) Un.refl I.hok
theorem Inv.kept{t':Nat}(I:Inv X AE σ H s)(k:∀b u,s.heap.get? b=AA u->h'.get? b=AA u):Inv X AE σ H { s with heap:=h',toks:=t' }:=I.un (Un.kept k) (I.hok.kept k)
theorem Inv.laid{a:AQ}{o:HO}{t':Nat}(I:Inv X AE σ H s)(k:∀b u,s.heap.get? b=AA u->h'.get? b=AA u)(hp:s.heap.objs.size<=a)(new:ObjOk X.prog X.w (D6 H a o) h' a o) :
  Inv X AE σ (D6 H a o) { s with heap:=h',toks:=t' }:=I.un (Un.laid k hp (I.hok.fresh hp)) (I.hok.laid k hp new)
theorem Inv.write{x e:AQ}{o:HO}{t':Nat}(I:Inv X AE σ H s)(mu:tY (H x))(he:e=x\/H e=AA (.own x))(k:∀b u,b≠e->s.heap.get? b=AA u->h'.get? b=AA u)(rH:∃u,h'.get? e=AA u)
  (new:ObjOk X.prog X.w (D6 H x o) h' x o):Inv X AE σ (D6 H x o) { s with heap:=h',toks:=t' }:=I.un (Un.write mu he k rH) (I.hok.write mu he k rH new)
theorem Inv.weak{σ':List (Option V)}(I:Inv X AE σ H s)(hl:σ'.length=σ.length)(w:∀(i:Nat) v,σ'[i]?=AA (AA v)->σ[i]?=AA (AA v)):Inv X AE σ' H s :=
 {I.ok,I.os,I.bare,I.base,let ⟨m,hn,oD⟩:=I.loc;{m,hn,λi x v e1 e2 e3=>oD i x v e1 (w i v e2) e3},I.cell,I.free,I.freeC,I.pin,I.hok,hl.trans I.len}
theorem Inv.pins_of{pins':List (AQ×IE)}(I:Inv X AE σ H s)(h:∀p∈pins',s.heap.get? p.1=AA p.2/\H p.1=AK/\p.1≠X.env.locals/\p.1∉X.fs/\∀v,p.2.data≠.cell v):Inv X pins' σ H s :=
 {I.ok,I.os,I.bare,I.base,I.loc,I.cell,I.free,I.freeC,λp hp=>(BX.mp hp).elim (λz=>I.pin p (DH _ z)) (h p),I.hok,I.len}
theorem yS(hN:N.Nodup)(a:N[i]?=AA x)(b:N[j]?=AA x):i=j:=by
 obtain⟨h1,e1⟩:=AR.mp a;obtain⟨h2,e2⟩:=AR.mp b;exact(List.getElem_inj hN).mp (e1.trans e2.symm)
theorem Em{Q:Unit->AT->Prop}(I:Inv X AE σ H s)(hN:X.N.Nodup)(hi:X.N[i]?=AA x)(hx:Loc X.env.scope x)(r:RelV v u)
  (h:∀s',Inv X AE (σ.set i (AA v)) H s'->(∃a,DM a s.heap s'.heap/\(a=X.env.locals\/X.env.cells.lookup x=AA a))->Q () s') (hf:X.fn x=AL\/X.env.scope.names.lookup x=AA .local:=by first|exact .inl rfl|exact .inr rfl|assumption):A0 M A (storeName X.env x u) Q E s:=by
 obtain⟨m,hn,hl⟩:=id I.loc;have Lf:(X.env.scope.kind==.class||(X.env.scope.kind==.module&&X.env.locals != X.env.globals))=AD:=by rw[I.ok.kind];rfl
 have hiσ:i < σ.length:=by rw[I.len];exact(AR.mp hi).1
 have Ma:=I.cne
 have U6:∀{a:AQ} {h':D4},(∃o,s.heap.get? a=AA o/\H a=AK)->DM a s.heap h'->HOk X.prog X.w H h':=λ{a h'} ha hs b ob e=>by
  obtain⟨_,_,lA⟩:=ha;refine(I.hok b ob e).stay (λc w' hc q=>(hs.2 c ?_).trans q) (λ_ q=>q) (λ_ _ q=>q) λ_ _ _ q=>q;rintro rfl;rcases hc with rfl|hc
  .rw[lA] at e;cases e
  .rw[lA] at hc;cases hc
 rcases hx with hk|hk
 .refine wpAny_storeName_local hk hn (λh' Kd hs=>?_) Lf
  obtain⟨oL,_,_,k4,_⟩:=id hn;refine h _ {I.ok,I.os,I.bare,{λb o e n hb hx=>?_,λb o e n hb hx=>?_,I.base.free,λb o e hx=>?_,I.base.tups,I.base.frzs,I.base.tbls},{_,Kd,λj y v' e1 e2 e3=>?_},λy c e=>?_,I.free,I.freeC,λp hp=>?_,U6 {oL,k4,I.free} hs,by simpa using I.len} {_,hs,.inl rfl}
  .exact(hs.2 b (CA (AN (A9 e) I.ok.above))).trans (I.base.keep b o e n hb hx)
  .obtain⟨sl,e1⟩:=I.base.slot b o e n hb hx
   exact{sl,(hs.2 b (CA (AN (A9 e) I.ok.above))).trans e1}
  .obtain⟨o',e1⟩:=I.base.there b o e hx
   exact{o',(hs.2 b (CA (AN (A9 e) I.ok.above))).trans e1}
  .by_cases hj:j=i
   .subst hj
    rw[hi] at e1;cases e1;rw[BF hiσ] at e2;cases e2;exact{u,r,.inl {hk,by simp}}
   .rw[A5 (E8 hj)] at e2
    obtain⟨u',r',q⟩:=hl j y v' e1 e2 e3;refine{u',r',?_};rcases q with⟨k,e⟩|⟨k,c,e,z⟩
    .refine .inl {k,?_}
     have:y≠x:=λe=>hj (yS hN e1 (e▸hi));simp[this,e]
    .exact .inr {k,c,e,z.sameBut hs (Ma y c e)}
  .obtain⟨w',z⟩:=I.cell y c e
   exact{w',z.sameBut hs (Ma y c e)}
  .obtain⟨e,n,ne,nf,d⟩:=I.pin p hp
   exact{(hs.2 p.1 ne).trans e,n,ne,nf,d}
 .have Ku:X.fn x=AL:=by
   rcases hf with z|z
   .exact z
   .rw[z] at hk;cases hk
  obtain⟨c,hc⟩:=I.ok.has x (.inl hk);obtain⟨w',z⟩:=I.cell x c hc;refine wpAny_storeName_cell I.ok.kind hk hc z (λh' ZC hs=>?_);obtain⟨oc,iZ,Kb⟩:=id z;refine h { s with heap:=h' } {I.ok,I.os,I.bare,{λb o e n hb hx=>?_,λb o e n hb hx=>?_,I.base.free,λb o e hx=>?_,I.base.tups,I.base.frzs,I.base.tbls},{m,hn.sameBut hs (E8 (Ma x c hc)),λj y v' e1 e2 e3=>?_},λy c' e=>?_,I.free,I.freeC,λp hp=>?_,U6 {oc,iZ,I.freeC x c hc} hs,by simpa using I.len} {c,hs,.inr hc}
  .exact(hs.2 b (CA (AN (A9 e) (I.ok.cab x c Ku hc)))).trans (I.base.keep b o e n hb hx)
  .obtain⟨sl,e1⟩:=I.base.slot b o e n hb hx
   exact{sl,(hs.2 b (CA (AN (A9 e) (I.ok.cab x c Ku hc)))).trans e1}
  .obtain⟨o',e1⟩:=I.base.there b o e hx
   exact{o',(hs.2 b (CA (AN (A9 e) (I.ok.cab x c Ku hc)))).trans e1}
  .by_cases hj:j=i
   .subst hj
    rw[hi] at e1;cases e1;rw[BF hiσ] at e2;cases e2;exact{u,r,.inr {.inl hk,c,hc,ZC}}
   .rw[A5 (E8 hj)] at e2
    obtain⟨u',r',q⟩:=hl j y v' e1 e2 e3;refine{u',r',?_};rcases q with q|⟨k,c',e,z'⟩
    .exact .inl q
    .refine .inr {k,c',e,z'.sameBut hs ?_}
     rintro rfl;exact hj (yS hN e1 (I.ok.inj _ _ _ e hc▸hi))
  .by_cases Ba:c'=c
   .subst Ba;exact{_,ZC}
   .obtain⟨w2,z2⟩:=I.cell y c' e
    exact{w2,z2.sameBut hs Ba}
  .obtain⟨e,n,ne,nf,d⟩:=I.pin p hp
   refine{(hs.2 p.1 ?_).trans e,n,ne,nf,d};intro q;rw[q,iZ] at e;have q':oc=p.2:=BL e;exact d w' (by rw[<-q'];exact Kb)
theorem yR{Q:Unit->AT->Prop}(I:Inv X AE σ H s)(hN:X.N.Nodup)(hi:X.N[i]?=AA x)(hx:Loc X.env.scope x)(r:RelV v u)
  (h:∀s',Inv X AE (σ.set i (AA v)) H s'->Q () s') (hf:X.fn x=AL\/X.env.scope.names.lookup x=AA .local:=by first|exact .inl rfl|exact .inr rfl|assumption):A0 M A (storeName X.env x u) Q E s :=
 Em I hN hi hx r (λs' I' _=>h s' I') hf
theorem Inv.call'(I:Inv X AE σ H s)(ho:s'.os=s.os)(u:Un (RA X.stack) ch H H' s.heap s'.heap)(hok:HOk X.prog X.w H' s'.heap)(hg:NJ s'.gens)
  (fX:∀b∈ch,(b∈X.ex\/X.s₀.heap.objs.size<=b)/\b≠X.env.locals/\(∀x c,X.env.cells.lookup x=AA c->c≠b)/\∀p∈X.pn++AE,p.1≠b):Inv X AE σ H' s':=by
 obtain⟨h',g',d',t',o'⟩:=s';have e:o'=s.os:=ho;subst e;exact I.call (g':=g') (t':=t') (d':=d') u hok hg fX
abbrev XK:=AH->Option AQ->Hp->Prop
abbrev St:=List (Option V)
abbrev VK:=V->Hp->Prop
abbrev TE:=St->Hp->VK->Prop
abbrev TT:=St->Hp->(Bool->Hp->Prop)->Prop
abbrev TA:=St->Hp->(List V->Hp->Prop)->Prop
structure Ends where
 nx:St->Hp->Prop
 rt:VK
 bk:St->Hp->Prop:=λ_ _=>False
 ct:St->Hp->Prop:=λ_ _=>False
abbrev TS:=Ends->St->Hp->Prop
def EP(X:Cx)(AE:List (AQ×IE))(σ:St)(Q:VK)(u:AH)(s':AT):Prop:=∃v H',Inv X AE σ H' s'/\RelV v u/\Q v H'
def TP(X:Cx)(AE:List (AQ×IE))(σ:St)(Q:Bool->Hp->Prop)(b:Bool)(s':AT):Prop:=∃H',Inv X AE σ H' s'/\Q b H'
def AP(X:Cx)(AE:List (AQ×IE))(σ:St)(Q:List V->Hp->Prop)(us:List AH)(s':AT):Prop:=∃vs H',Inv X AE σ H' s'/\Vals vs us/\Q vs H'
def SP(X:Cx)(AE:List (AQ×IE))(D:Ends)(f:Flow)(s':AT):Prop :=
 match f with
 |.next=>∃σ' H',Inv X AE σ' H' s'/\D.nx σ' H'
 |.brk=>∃σ' H',Inv X AE σ' H' s'/\D.bk σ' H'
 |.cont=>∃σ' H',Inv X AE σ' H' s'/\D.ct σ' H'
 |.ret u=>∃v σ' H',Inv X AE σ' H' s'/\RelV v u/\D.rt v H'
def PE(X:Cx)(e:C8)(t:TE):Prop :=
 ∀(AE:List (AQ×IE)) (s:AT) (σ:St) (H:Hp) (Q:VK),Inv X AE σ H s->t σ H Q->A0 (A1 X.prog X.w) X.A (eval e X.env) (EP X AE σ Q) X.xe s
def PT(X:Cx)(e:C8)(t:TT):Prop :=
 ∀(AE:List (AQ×IE)) (s:AT) (σ:St) (H:Hp) (Q:Bool->Hp->Prop),Inv X AE σ H s->t σ H Q->A0 (A1 X.prog X.w) X.A (VQ e X.env (eval e X.env)) (TP X AE σ Q) X.xe s
def PW(X:Cx)(e:C8)(t:TT):Prop :=
 ∀(RX:SJ AH) (AE:List (AQ×IE)) (s:AT) (σ:St) (H:Hp) (Q:Bool->Hp->Prop),Inv X AE σ H s->t σ H Q->A0 (A1 X.prog X.w) X.A (VQ e X.env RX) (TP X AE σ Q) X.xe s
theorem PW.pt{t:TT}(h:PW X e t):PT X e t:=h _
def PA(X:Cx)(es:List C8)(t:TA):Prop :=
 ∀(pos:gK) (AE:List (AQ×IE)) (s:AT) (σ:St) (H:Hp) (Q:List V->Hp->Prop),Inv X AE σ H s->t σ H Q->A0 (A1 X.prog X.w) X.A (spliced (DO pos (AO es X.env))) (AP X AE σ Q) X.xe s
def PS(X:Cx)(st:E6)(t:TS):Prop :=
 ∀(AE:List (AQ×IE)) (s:AT) (σ:St) (H:Hp) (D:Ends),Inv X AE σ H s->t D σ H->A0 (A1 X.prog X.w) X.A (exec st X.env) (SP X AE D) X.xe s
def PSs(X:Cx)(st:List E6)(t:TS):Prop :=
 ∀(AE:List (AQ×IE)) (s:AT) (σ:St) (H:Hp) (D:Ends),Inv X AE σ H s->t D σ H->A0 (A1 X.prog X.w) X.A (execs st X.env) (SP X AE D) X.xe s
theorem GV{t:SJ α}{Q Q':α->AT->Prop}(h:A0 M A t Q E s)(hQ:∀a s,Q a s->Q' a s):A0 M A t Q' E s:=C7 h hQ λ_ _ x=>x
variable{σ:St}{ta:TE}{tb:TE}
section
def eV(i:Nat):TE:=λσ H Q=>∃v,σ[i]?=AA (AA v)/\Q v H
def tC(v:V):TE:=λ_ H Q=>Q v H
theorem iD(hN:X.N[i]?=AA x)(hv:Z2 X.env.scope x)(hd:(x==("__debug__":CT))=AD:=by decide)(L9:(x==("__classdict__":CT))=AD:=by decide):PE X (.Name x pos) (eV i):=by
 intro AE s σ H Q I h;obtain⟨v,e,h⟩:=h;obtain⟨m,hn,hl⟩:=I.loc;obtain⟨u,r,l⟩:=hl i x v hN e hv;have fin:EP X AE σ Q u s:={v,H,I,r,h};rcases l with⟨hk,hm⟩|⟨hk,c,hc,lB⟩
 .exact wpAny_Name (wpAny_loadName_local I.ok.kind hk hn hm fin) hd
 .rcases hk with hk|hk
  .exact wpAny_Name (wpAny_loadName_cell I.ok.kind hk hc lB fin) hd
  .exact wpAny_Name (wpAny_loadName_free I.ok.kind hk hc lB fin L9) hd
theorem mX{i j pos}:PE X (.Constant (.int i) j pos) (tC (.int i)):=λ_ _ _ H _ I h=>wpAny_Constant_int {.int i,H,I.tok _,{_,rfl},h}
theorem tM{b j pos}:PE X (.Constant (.bool b) j pos) (tC (.bl b)):=λ_ _ _ H _ I h=>Constant_bool {.bl b,H,I,rfl,h}
theorem mW{j pos}:PE X (.Constant .none j pos) (tC .non):=λ_ _ _ H _ I h=>Constant_none {.non,H,I,rfl,h}
def Gl(X:Cx)(x:CT):Prop:=X.env.kindOf x=AA .globalImplicit
theorem pU(I:Inv X AE σ H s)(hg:Gl X x)(hm:X.mg x=AA u)(h:Q u s)
  (hd:(x==("__debug__":CT))=AD:=by decide):A0 (A1 X.prog X.w) X.A (eval (.Name x pos) X.env) Q E s :=
 UA I.ok.kind hg (Calls.loadGlobal_global (by rw[I.ok.glob];exact I.mod.glob.keeps I.bk) hm h) hd
theorem j9(I:Inv X AE σ H s)(hg:Gl X x)(hm:X.mg x=AK)(hv:GL x=AA u)(h:Q u s)
  (hn:x≠"__name__":=by decide) (hd:(x==("__debug__":CT))=AD:=by decide):A0 (A1 X.prog X.w) X.A (eval (.Name x pos) X.env) Q E s:=by
 obtain⟨mb,h1,h2⟩:=I.mod.blt;exact UA I.ok.kind hg (Calls.loadGlobal_builtin (by rw[I.ok.glob];exact I.mod.glob.keeps I.bk) hm (by rw[I.ok.blt];exact h1.keeps I.bk) ((h2 x hn).trans hv) h) hd
theorem fH(hg:Gl X x)(hm:X.mg x=AA u)(r:RelV v u)(hd:(x==("__debug__":CT))=AD:=by decide):PE X (.Name x pos) (tC v) :=
 λ_ _ _ H _ I h=>pU I hg hm {v,H,I,r,h} hd
theorem Pn(hg:Gl X x)(hm:X.mg x=AK)(hv:GL x=AA u)(r:RelV v u)(hn:x≠"__name__":=by decide)(hd:(x==("__debug__":CT))=AD:=by decide):PE X (.Name x pos) (tC v) :=
 λ_ _ _ H _ I h=>j9 I hg hm hv {v,H,I,r,h} hn hd
variable{a b:C8}{tA Al:TT}{rest:List C8}
def yHE(t u:TT):TT:=λσ H Q=>t σ H λc H1=>if c=AL then u σ H1 Q else Q AD H1
def tOr(t u:TT):TT:=λσ H Q=>t σ H λc H1=>if c=AL then Q AL H1 else u σ H1 Q
def yHF(t:TT):TT:=λσ H Q=>t σ H λc H1=>Q (!c) H1
theorem zXD(ha:PT X a tA):PW X (.BoolOp .And [a] pos) tA:=by
 intro wh AE s σ H Q I h;refine isTrue_and (GV (ha AE s σ H Q I h) λc s1 e=>?_)
 cases c with
 |true=>exact isTrue_and_nil e
 |false=>exact e
theorem yA0(ha:PT X a tA):PW X (.BoolOp .Or [a] pos) tA:=by
 intro wh AE s σ H Q I h;refine isTrue_or (GV (ha AE s σ H Q I h) λc s1 e=>?_)
 cases c with
 |false=>exact isTrue_or_nil e
 |true=>exact e
theorem yA1(ha:PT X a tA)(hb:PW X (.BoolOp .And (b::rest) pos) Al):PW X (.BoolOp .And (a::b::rest) pos) (yHE tA Al):=by
 intro wh AE s σ H Q I h;refine isTrue_and (GV (ha AE s σ H _ I h) λc s1 ⟨H1,I1,q1⟩=>?_)
 cases c with
 |true=>exact hb wh AE s1 σ H1 Q I1 q1
 |false=>exact{H1,I1,q1}
theorem yEN(ha:PT X a tA)(hb:PW X (.BoolOp .Or (b::rest) pos) Al):PW X (.BoolOp .Or (a::b::rest) pos) (tOr tA Al):=by
 intro wh AE s σ H Q I h;refine isTrue_or (GV (ha AE s σ H _ I h) λc s1 ⟨H1,I1,q1⟩=>?_)
 cases c with
 |true=>exact{H1,I1,q1}
 |false=>exact hb wh AE s1 σ H1 Q I1 q1
theorem yA2(ha:PT X a tA):PT X (.UnaryOp .Not a pos) (yHF tA):=by
 intro AE s σ H Q I h;exact isTrue_not (ha AE s σ H (λc H1=>Q (!c) H1) I h)
def yEO(ta tb:TE):TE:=λσ H Q=>ta σ H λx H1=>∃c,x=.bl c/\if c=AL then tb σ H1 Q else Q (.bl AD) H1
def yHG(ta tb:TE):TE:=λσ H Q=>ta σ H λx H1=>∃c,x=.bl c/\if c=AL then Q (.bl AL) H1 else tb σ H1 Q
def yEP(ta:TE):TE:=λσ H Q=>ta σ H λx H1=>∃c,x=.bl c/\Q (.bl (!c)) H1
theorem yA3{op}{t:TE}(h:PE X a t):PE X (.BoolOp op [a] pos) t:=λAE s σ H Q I hw=>BoolOp_one (h AE s σ H Q I hw)
theorem yA4(ha:PE X a ta)(hb:PE X (.BoolOp .And (b::rest) pos) tb):PE X (.BoolOp .And (a::b::rest) pos) (yEO ta tb):=by
 intro AE s σ H Q I h;refine BoolOp_and (GV (ha AE s σ H _ I h) λv s1 ⟨x,H1,I1,r1,q1⟩=>?_);obtain⟨c,rfl,q1⟩:=q1;cases r1;refine IP ?_
 cases c with
 |true=>exact hb AE s1 σ H1 Q I1 q1
 |false=>exact{.bl AD,H1,I1,rfl,q1}
theorem yEQ(ha:PE X a ta)(hb:PE X (.BoolOp .Or (b::rest) pos) tb):PE X (.BoolOp .Or (a::b::rest) pos) (yHG ta tb):=by
 intro AE s σ H Q I h;refine BoolOp_or (GV (ha AE s σ H _ I h) λv s1 ⟨x,H1,I1,r1,q1⟩=>?_);obtain⟨c,rfl,q1⟩:=q1;cases r1;refine IP ?_
 cases c with
 |false=>exact hb AE s1 σ H1 Q I1 q1
 |true=>exact{.bl AL,H1,I1,rfl,q1}
theorem yA5(ha:PE X a ta):PE X (.UnaryOp .Not a pos) (yEP ta):=by
 intro AE s σ H Q I h;refine UnaryOp_ (GV (ha AE s σ H _ I h) λv s1 ⟨x,H1,I1,r1,q1⟩=>?_);obtain⟨c,rfl,q1⟩:=q1;cases r1;exact not_of (IP {.bl (!c),H1,I1,rfl,q1})
def tIf(t:TT)(ta tb:TE):TE:=λσ H Q=>t σ H λc H1=>if c=AL then ta σ H1 Q else tb σ H1 Q
theorem Qn(hc:PT X c tA)(ha:PE X a ta)(hb:PE X b tb):PE X (.IfExp c a b pos) (tIf tA ta tb):=by
 intro AE s σ H Q I h;refine wpAny_IfExp (GV (hc AE s σ H _ I h) λd s1 ⟨H1,I1,q1⟩=>?_)
 cases d with
 |true=>exact ha AE s1 σ H1 Q I1 q1
 |false=>exact hb AE s1 σ H1 Q I1 q1
end
def SqL(K:AC)(H:Hp)(a:AQ)(xs:List V):Prop :=
 Rd H a (.lst xs) \/
  ∃(o:IE) (BZ:Array AH) (n:Nat),K.lookup a=AA o/\o.cls=.type "list"/\o.dict=AK/\o.data=.seq BZ n/\BZ.size<=sizeLine/\Vals xs BZ.toList
def SqT(K:AC)(H:Hp)(a:AQ)(xs:List V):Prop :=
 Rd H a (.tup xs) \/
  ∃(o:IE) (BZ:Array AH) (n:Nat),K.lookup a=AA o/\o.cls=.type "tuple"/\o.data=.seq BZ n/\BZ.size<=sizeLine/\Vals xs BZ.toList
noncomputable def yHH:AH->Option V
 |.none=>AA .non
 |.bool b=>AA (.bl b)
 |.int i _=>AA (.int i)
 |.str x _=>AA (.str x)
 |.bytes b _=>AA (.byt b)
 |.float b _=>AA (.flt b)
 |.ref a=>AA (.ref a)
 |.type n=>AA (.ty n)
 |_=>AK
theorem RelV.abs{x:V}(r:RelV x u):yHH u=AA x:=by
 cases x with
 |non=>cases r;rfl
 |bl _=>cases r;rfl
 |int _=>obtain⟨t,rfl⟩:=r;rfl
 |str _=>obtain⟨t,rfl⟩:=r;rfl
 |byt _=>obtain⟨t,rfl⟩:=r;rfl
 |flt _=>obtain⟨t,rfl⟩:=r;rfl
 |ref _=>cases r;rfl
 |ty _=>cases r;rfl
theorem RelV.inj{x y:V}{u:AH}(r:RelV x u)(q:RelV y u):x=y:=BL (r.abs.symm.trans q.abs)
theorem Vals.inj:∀{xs ys:List V} {us:List AH},Vals xs us->Vals ys us->xs=ys
 |_,_,_,.nil,.nil=>rfl
 |_,_,_,.cons r t,.cons r' t'=>by rw[r.inj r',Vals.inj t t']
variable{xs ys:List V}
theorem SqL.of{K:AC}(h:H a=AA (.lst xs)):SqL K H a xs:=.inl (.inl h)
theorem SqT.of{K:AC}(h:H a=AA (.tup xs)):SqT K H a xs:=.inl (.inl h)
theorem Inv.list(I:Inv X AE σ H s)(h:SqL X.K H a xs):∃BZ:List AH,Vals xs BZ/\PlainL s.heap a BZ.toArray/\xs.length<=sizeLine:=by
 rcases h with h|⟨o,BZ,n,hk,hc,hd,hs,hz,r⟩
 .obtain⟨z,BZ,n,r,e⟩:=h.ok I.hok
  exact{BZ,r,{_,n,e,rfl,rfl,rfl},z}
 .refine{BZ.toList,r,{o,n,I.kIn a o hk,hc,hd,by simpa using hs},?_}
  have e:=r.length;simp only[KO] at e;exact AZ (CY e) hz
theorem Inv.tuple(I:Inv X AE σ H s)(h:SqT X.K H a xs):∃BZ:List AH,Vals xs BZ/\QE s.heap a BZ.toArray/\xs.length<=sizeLine:=by
 rcases h with h|⟨o,BZ,n,hk,hc,hs,hz,r⟩
 .obtain⟨z,BZ,r,p⟩:=h.ok I.hok
  exact{BZ,r,p.isTup,z}
 .refine{BZ.toList,r,{o,I.kIn a o hk,hc,n,by simpa using hs},?_}
  have e:=r.length;simp only[KO] at e;exact AZ (CY e) hz
theorem Inv.list_inj(I:Inv X AE σ H s)(h:SqL X.K H a xs)(h':SqL X.K H a ys):xs=ys:=by
 obtain⟨BZ,r,⟨o,n,e,_,_,d⟩,_⟩:=I.list h;obtain⟨N6,r',⟨o',n',e',_,_,d'⟩,_⟩:=I.list h';rw[e] at e';cases e';rw[d] at d';injection d' with d1 _;have:BZ=N6:=by simpa using congrArg Array.toList d1
 subst this;exact r.inj r'
theorem Inv.tuple_inj(I:Inv X AE σ H s)(h:SqT X.K H a xs)(h':SqT X.K H a ys):xs=ys:=by
 obtain⟨BZ,r,⟨o,e,_,n,d⟩,_⟩:=I.tuple h;obtain⟨N6,r',⟨o',e',_,n',d'⟩,_⟩:=I.tuple h';rw[e] at e';cases e';rw[d] at d';injection d' with d1 _;have:BZ=N6:=by simpa using congrArg Array.toList d1
 subst this;exact r.inj r'
abbrev Cx.wish(X:Cx)(E:AH->AT->Prop):Cx:={ X with xe:=E }
abbrev Cx.nox(X:Cx):Cx:=X.wish λ_ _=>False
theorem Cx.Ok.wish{X:Cx}(ok:X.Ok)(E:AH->AT->Prop):(X.wish E).Ok :=
 {ok.tab,ok.mod,ok.kind,ok.glob,ok.blt,ok.above,ok.inj,ok.has,ok.cab,ok.hd,ok.frames,ok.stk,ok.exf,ok.bs,ok.bsz,ok.noex,ok.exfs,ok.funs,ok.frf}
theorem Cx.Ok.unwish(ok:(X.wish E).Ok):X.Ok :=
 {ok.tab,ok.mod,ok.kind,ok.glob,ok.blt,ok.above,ok.inj,ok.has,ok.cab,ok.hd,ok.frames,ok.stk,ok.exf,ok.bs,ok.bsz,ok.noex,ok.exfs,ok.funs,ok.frf}
theorem Inv.wish(I:Inv X AE σ H s)(E:AH->AT->Prop):Inv (X.wish E) AE σ H s:={I.ok.wish E,I.os,I.bare,I.base,I.loc,I.cell,I.free,I.freeC,I.pin,I.hok,I.len}
theorem Inv.unwish(I:Inv (X.wish E) AE σ H s):Inv X AE σ H s:={I.ok.unwish,I.os,I.bare,I.base,I.loc,I.cell,I.free,I.freeC,I.pin,I.hok,I.len}
theorem SP.unwish{D:Ends}{f:Flow}{s':AT}(h:SP (X.wish E) AE D f s'):SP X AE D f s':=by
 cases f with
 |next=>obtain⟨σ',H',I,q⟩:=h;exact{σ',H',I.unwish,q}
 |brk=>obtain⟨σ',H',I,q⟩:=h;exact{σ',H',I.unwish,q}
 |cont=>obtain⟨σ',H',I,q⟩:=h;exact{σ',H',I.unwish,q}
 |ret u=>obtain⟨v,σ',H',I,r,q⟩:=h;exact{v,σ',H',I.unwish,r,q}
theorem PSs.nox{st:List E6}{t:TS}(h:PSs X.nox st t):PSs X st t:=λAE s σ H D I hw =>
 C7 (h AE s σ H D (I.wish _) hw) (λ_ _ q=>q.unwish) λ_ _ z=>HL z
variable{te:TE}
section
variable{st:E6}{rest:List E6}{t u:TS}
def Wl:TS:=λD σ H=>D.nx σ H
def qQ(t u:TS):TS:=λD σ H=>t { D with nx:=u D } σ H
theorem UY:PSs X [] Wl:=λ_ _ σ H _ I h=>IJ {σ,H,I,h}
theorem cE(h1:PS X st t)(h2:PSs X rest u):PSs X (st::rest) (qQ t u):=by
 intro AE s σ H D I h;refine KW (GV (h1 AE s σ H { D with nx:=u D } I h) λf s1 q=>?_)
 cases f with
 |next =>
  obtain⟨σ',H',I',q⟩:=q;exact h2 AE s1 σ' H' D I' q
 |ret v=>exact q
 |brk=>exact q
 |cont=>exact q
theorem kE(h1:PS X st t):PSs X [st] t:=by
 intro AE s σ H D I h;refine KW (GV (h1 AE s σ H D I h) λf s1 q=>?_)
 cases f with
 |next=>exact IJ q
 |ret v=>exact q
 |brk=>exact q
 |cont=>exact q
theorem Inv.quiet(I:Inv X AE σ H s):interactive X.env=AD:=by simp[interactive,I.ok.kind]
def Wk(te:TE):TS:=λD σ H=>te σ H λ_ H1=>D.nx σ H1
theorem Dn(he:PE X e te)(hs:IL e AK pos.line X.env=pure AD:=by rfl):PS X (.Expr e pos) (Wk te):=by
 intro AE s σ H D I h;exact wpAny_Expr_any (GV (he AE s σ H _ I h) (λv s1 q0=>by obtain⟨x,H1,I1,r1,q1⟩:=q0;exact{σ,H1,I1,q1})) I.quiet hs
def Uy(te:TE):TS:=λD σ H=>te σ H D.rt
theorem sH(he:PE X e te):PS X (.Return (AA e) pos) (Uy te):=by
 intro AE s σ H D I h;exact wpAny_Return_some (GV (he AE s σ H _ I h) (λv s1 q0=>by obtain⟨x,H1,I1,r1,q1⟩:=q0;exact{x,σ,H1,I1,r1,q1}))
def Ux(c:TT)(t u:TS):TS:=λD σ H=>c σ H λb H1=>if b=AL then t D σ H1 else u D σ H1
theorem Cc{a b:List E6}{tc:TT}(hc:PT X c tc)(ha:PSs X a t)(hb:PSs X b u):PS X (.If c a b pos) (Ux tc t u):=by
 intro AE s σ H D I h;refine wpAny_If (GV (hc AE s σ H _ I h) λd s1 ⟨H1,I1,q1⟩=>?_)
 cases d with
 |true=>exact ha AE s1 σ H1 D I1 q1
 |false=>exact hb AE s1 σ H1 D I1 q1
def Nh:TS:=λ_ _ _=>False
theorem cK:PS X st Nh:=λ_ _ _ _ _ _ h=>h.elim
theorem El{sts:List E6}:PSs X sts Nh:=λ_ _ _ _ _ _ h=>h.elim
end
abbrev TG:=V->St->Hp->(St->Hp->Prop)->Prop
abbrev iL:=List V->St->Hp->(St->Hp->Prop)->Prop
def PG(X:Cx)(P1:C8)(t:TG):Prop :=
 ∀(AE:List (AQ×IE)) (s:AT) (σ:St) (H:Hp) (v:V) (u:AH) (Q:St->Hp->Prop),Inv X AE σ H s->RelV v u->t v σ H Q ->
  A0 (A1 X.prog X.w) X.A (KY P1 X.env u) (λ_ s'=>∃σ' H',Inv X AE σ' H' s'/\Q σ' H') X.xe s
def PGs(X:Cx)(ts:List C8)(t:iL):Prop :=
 ∀(AE:List (AQ×IE)) (s:AT) (σ:St) (H:Hp) (vs:List V) (us:List AH) (Q:St->Hp->Prop),Inv X AE σ H s->Vals vs us->t vs σ H Q ->
  A0 (A1 X.prog X.w) X.A (assignInOrder ((HJ ts X.env).map (·.2)) us) (λ_ s'=>∃σ' H',Inv X AE σ' H' s'/\Q σ' H') X.xe s
abbrev Gg:=V->V->V->Hp->(Hp->Prop)->Prop
def Uw(X:Cx)(t:Gg):Prop :=
 ∀(AE:List (AQ×IE)) (s:AT) (σ:St) (H:Hp) (o i v:V) (ov iv u:AH) (Q:Hp->Prop),Inv X AE σ H s->RelV o ov->RelV i iv->RelV v u->t o i v H Q ->
  A0 (A1 X.prog X.w) X.A (setItem ov iv u) (λ_ s'=>∃H',Inv X AE σ H' s'/\Q H') X.xe s
def b9(i:Nat):TG:=λv σ H Q=>Q (σ.set i (AA v)) H
theorem iF(hN:X.N.Nodup)(hi:X.N[i]?=AA x)(hx:Loc X.env.scope x)(hf:X.fn x=AL\/X.env.scope.names.lookup x=AA .local:=by first|exact .inl rfl|exact .inr rfl|assumption):PG X (.Name x pos) (b9 i):=by
 intro AE s σ H v u Q I r h;exact wpAny_assign_Name (yR I hN hi hx r (λs' I'=>{_,H,I',h}) hf)
def yHI:iL:=λvs σ H Q=>vs=[]/\Q σ H
def yES(t:TG)(u:iL):iL:=λvs σ H Q=>∃v r,vs=v::r/\t v σ H λσ' H'=>u r σ' H' Q
theorem UZ:PGs X [] yHI:=by
 intro AE s σ H vs us Q I r h;obtain⟨e,h⟩:=h;subst e;cases r;exact assignInOrder_nil {σ,H,I,h}
theorem sT{t:TG}{u:iL}(h1:PG X e t)(h2:PGs X es u)
  (hs:(HJ (e::es) X.env).map (·.2)=KY e X.env::(HJ es X.env).map (·.2):=by rfl):PGs X (e::es) (yES t u):=by
 intro AE s σ H vs us Q I r h;obtain⟨v,vr,e1,h⟩:=h;subst e1
 cases r with
 |cons r rr =>
  rw[hs];refine assignInOrder_cons (GV (h1 AE s σ H _ _ _ I r h) λ_ s1 ⟨σ1,H1,I1,q1⟩=>?_);exact h2 AE s1 σ1 H1 _ _ Q I1 rr q1
def yHJ(K:AC)(n:Nat)(t:iL):TG:=λv σ H Q=>∃a xs,v=.ref a/\SqT K H a xs/\xs.length=n/\t xs σ H Q
theorem Cz{t:iL}(hc:X.calm=AL)(h:PGs X es t)
  (hn:(HJ es X.env).length=n:=by rfl) (a9:(HJ es X.env).findIdx? (·.1)=AK:=by rfl):PG X (.Tuple es k pos) (yHJ X.K n t):=by
 intro AE s σ H v u Q I r hw;obtain⟨a,xs,e1,hq,hl,hw⟩:=hw;subst e1;cases r;obtain⟨BZ,rv,ht,hz⟩:=I.tuple hq;refine assign_Tuple_tuple (I.ok.hd hc) ht (by simp[hn,<-hl,rv.length]) a9 λh' hx=>?_;have I1:Inv X AE σ H { s with heap:=h' }:=I.kept (t':=s.toks) λb o e=>hx b o (CA (A9 e)) e;exact h AE _ σ H xs _ Q I1 (by simpa using rv) hw
def yHK(to ti:TE)(t:Gg):TG:=λv σ H Q=>to σ H λo H1=>ti σ H1 λi H2=>t o i v H2 λH3=>Q σ H3
theorem yA8{o i:C8}{to ti:TE}{t:Gg}(ho:PE X o to)(hi:PE X i ti)(hs:Uw X t)
  (ha:∀v,KY (.Subscript o i pos) X.env v=(do
   let ov <-I0 [v] (eval o X.env)
   let iv <-I0 [v,ov] (eval i X.env)
   IZ pos
   I0 [v,ov,iv] (setItem ov iv v)
   release [v,ov,iv] []):=by intro _;rfl):PG X (.Subscript o i pos) (yHK to ti t):=by
 intro AE s σ H v u Q I r h;rw[ha];refine AB (CZ (GV (ho AE s σ H _ I h) λov s1 ⟨x,H1,I1,r1,q1⟩=>?_));refine AB (CZ (GV (hi AE s1 σ H1 _ I1 q1) λiv s2 ⟨y,H2,I2,r2,q2⟩=>?_));refine AB (IK (AB (CZ (GV (hs AE s2 σ H2 x y v ov iv u _ I2 r1 r2 r q2) λ_ s3 ⟨H3,I3,q3⟩=>?_))));exact wpAny_release {σ,H3,I3,q3}
def l6(te:TE)(g:TG):TS:=λD σ H=>te σ H λx H1=>g x σ H1 D.nx
theorem Cy{g:TG}(he:PE X e te)(hg:PG X tg g)(hs:aC [tg] e pos.line X.env=pure AD:=by rfl)(hw:aD [tg] e X.env=pure AK:=by rfl)
  (h1:(HJ [tg] X.env).map (·.2)=[KY tg X.env]:=by rfl):PS X (.Assign [tg] e pos) (l6 te g):=by
 intro AE s σ H D I h;refine wpAny_Assign_stores (GV (he AE s σ H _ I h) λv s1 ⟨x,H1,I1,r1,q1⟩=>?_) hs hw;rw[h1];exact GV (hg AE s1 σ H1 x v _ I1 r1 q1) λ_ s2 q=>q
theorem xL(hN:X.N.Nodup)(hi:X.N[i]?=AA x)(hx:Loc X.env.scope x)(he:PE X e te)(hs:IL e (AA (.Name x N5)) pos.line X.env=pure AD:=by rfl)(hf:X.fn x=AL\/X.env.scope.names.lookup x=AA .local:=by first|exact .inl rfl|exact .inr rfl|assumption) :
  PS X (.Assign [.Name x N5] e pos) (l6 te (b9 i)):=by
 intro AE s σ H D I h;refine TV (GV (he AE s σ H _ I h) λv s1 ⟨y,H1,I1,r1,q1⟩=>?_) hs;exact yR I1 hN hi hx r1 (λs2 I2=>{_,H1,I2,q1}) hf
variable{tb:TS}
def yA9(c:TT)(tb:TS):TS:=λD σ H=>∃W:Nat->St->Hp->Prop,(∃m,W m σ H)/\∀m σ H,W m σ H ->
 c σ H λb H1=>if b=AL then ∃N:St->Hp->Prop,(∀σ' H',N σ' H'->∃m',m'<m/\W m' σ' H')/\tb { D with nx:=N,ct:=N,bk:=D.nx } σ H1 else D.nx σ H1
theorem zTJ{tc:TT}(hp:VU (A1 X.prog X.w) X.A X.env X.xe)(hc:PT X c tc)(hb:PSs X body tb):PS X (.While c body [] pos) (yA9 tc tb):=by
 intro AE s σ H D I h;obtain⟨W,⟨m0,w0⟩,turn⟩:=h;refine wpAny_While (codeAny_whileLoop (λn s'=>∃σ' H',Inv X AE σ' H' s'/\W n σ' H') ?_ m0 {σ,H,I,w0});rintro n s1 ⟨σ1,H1,I1,w1⟩;refine II hp (GV (hc AE s1 σ1 H1 _ I1 (turn n σ1 H1 w1)) λb s2 ⟨H2,I2,q2⟩=>?_)
 cases b with
 |true =>
  obtain⟨N,hN,q2⟩:=q2;rw[if_pos rfl];refine II hp (GV (hb AE s2 σ1 H2 _ I2 q2) λf s3 q3=>?_)
  cases f with
  |next =>
   obtain⟨σ3,H3,I3,n3⟩:=q3;obtain⟨m',hm,w3⟩:=hN σ3 H3 n3;exact{m',hm,σ3,H3,I3,w3}
  |cont =>
   obtain⟨σ3,H3,I3,n3⟩:=q3;obtain⟨m',hm,w3⟩:=hN σ3 H3 n3;exact{m',hm,σ3,H3,I3,w3}
  |brk=>exact q3
  |ret v=>exact q3
 |false =>
  rw[if_neg CN];exact IJ {σ1,H2,I2,q2}
structure It where
 go:Nat->Hp->Prop
 yld:Nat->Hp->V->Hp->Prop
 stop:Nat->Hp->Prop
def FpOk(X:Cx)(AE:List (AQ×IE))(H:Hp)(b:AQ):Prop :=
 H b=AK/\b≠X.env.locals/\b∉X.fs/\(b∈X.ex\/X.s₀.heap.objs.size<=b)/\(∀x c,X.env.cells.lookup x=AA c->c≠b)/\∀p∈X.pn++AE,p.1≠b
theorem Inv.fpOk{b:AQ}(I:Inv X AE σ H s)(hb:s.heap.objs.size<=b)(hn:H' b=AK):FpOk X AE H' b:=by
 refine{hn,FR (AN I.lt hb),I.nofs hb,.inr (AZ I.sz hb),λx c e z=>?_,λp hp z=>?_}
 .obtain⟨v,q⟩:=I.cell x c e
  exact absurd (AN q.lt (by rw[z];exact hb)) (GJ _)
 .exact absurd (AN (A9 (I.pin p hp).1) (by rw[z];exact hb)) (GJ _)
structure Turn(P:CQ)(w:D3)(K:AC)(tg:C8)(J:It)(fp:List AQ)(it:AQ)(tn:Nat->D4->Prop):Prop where
 mem:it∈fp
 obj:∀i h,tn i h->∀b∈fp,∃o,h.get? b=AA o/\∀v,o.data≠.cell v
 keep:∀i h h',tn i h->(∀b∈fp,∀o,h.get? b=AA o->h'.get? b=AA o)->tn i h'
 item:∀(X:Cx),X.prog=P->X.w=w->X.K=K->X.calm=AL->∀(i:Nat) (AE:List (AQ×IE)) (s:AT) (σ:St) (H:Hp) (E:AH->AT->Prop),Inv X AE σ H s->(∀b∈fp,FpOk X AE H b)->tn i s.heap->J.go i H ->
  A0 (A1 P w) X.A (JY (.ref it)) (λr s1=>∃u,r=AA u /\
   A0 (A1 P w) X.A (FO tg (.ref it) u) (λ_ s2=>∃x H',Inv X AE σ H' s2/\RelV x u/\J.yld i H x H'/\tn (i+1) s2.heap/\∀b∈fp,H' b=AK) E s1) E s
 done:∀(X:Cx),X.prog=P->X.w=w->X.K=K->X.calm=AL->∀(i:Nat) (AE:List (AQ×IE)) (s:AT) (σ:St) (H:Hp) (E:AH->AT->Prop),Inv X AE σ H s->(∀b∈fp,FpOk X AE H b)->tn i s.heap->J.stop i H ->
  A0 (A1 P w) X.A (JY (.ref it)) (λr s1=>r=AK/\Inv X AE σ H s1) E s
 self:∀(A:DQ) (i:Nat) (s:AT) (Q:AH->AT->Prop) (E:AH->AT->Prop),tn i s.heap->Q (.ref it) s->A0 (A1 P w) A (ON (.ref it)) Q E s
abbrev TI:=St->Hp->(It->Hp->Prop)->Prop
def Xb(X:Cx)(AE:List (AQ×IE))(σ:St)(tg:C8)(R:It->Hp->Prop)(nN:AH)(s2:AT):Prop :=
 ∃(it:AQ) (fp:List AQ) (tn:Nat->D4->Prop) (J:It) (H':Hp),nN=.ref it/\Inv X AE σ H' s2/\Turn X.prog X.w X.K tg J fp it tn/\tn 0 s2.heap/\(∀b∈fp,FpOk X AE H' b)/\R J H'
def PI(X:Cx)(tg iter:C8)(wi:TI):Prop :=
 ∀(AE:List (AQ×IE)) (s:AT) (σ:St) (H:Hp) (R:It->Hp->Prop),Inv X AE σ H s->wi σ H R ->
  A0 (A1 X.prog X.w) X.A (eval iter X.env) (λv s1=>A0 (A1 X.prog X.w) X.A (ON v) (Xb X AE σ tg R) X.xe s1) X.xe s
theorem rW{E:AH → AT → Prop}{o:IE}{n:String}{vs:Array AH}{Q:Unit → AT → Prop}(ho : s.heap.get? it = AA o)(hc : o.cls = .type n)(hd : o.data = .fields vs)
    (hn : ["enumerate", "zip", "dict_itemiterator", "dict_reverseitemiterator", "odict_iterator", "itertools.zip_longest", "itertools.pairwise"].contains n = AD) (hQ : Q () s) : A0 M A (FO tg (.ref it) u) Q E s := by
  unfold FO
  cases tg <;> first
    | exact wpAny_pure hQ
    | (cases u <;> first
        | exact wpAny_pure hQ
        | (
          refine AB (wpAny_load ho ?_);rw [hc, hd];show A0 M A (if (["enumerate", "zip", "dict_itemiterator", "dict_reverseitemiterator", "odict_iterator", "itertools.zip_longest", "itertools.pairwise"].contains n && vs[0]? == AA (EY _)) = AL then _ else _) Q E s;rw [if_neg (by intro h; rw [hn, Bool.false_and] at h; cases h)]
          exact wpAny_pure hQ))
noncomputable def qV(K:AC)(a:AQ):It :=
 {λi H=>∃xs x,SqL K H a xs/\xs[i]?=AA x,λi H x H'=>H'=H/\∀xs,SqL K H a xs->xs[i]?=AA x,λi H=>∃xs,SqL K H a xs/\xs.length<=i}
noncomputable def qT(K:AC)(a:AQ):It :=
 {λi H=>∃xs x,SqT K H a xs/\xs[i]?=AA x,λi H x H'=>H'=H/\∀xs,SqT K H a xs->xs[i]?=AA x,λi H=>∃xs,SqT K H a xs/\xs.length<=i}
noncomputable def qU(lo:Int)(n:Nat):It:={λi _=>i<n,λi H x H'=>H'=H/\x=.int (lo+i),λi _=>n<=i}
theorem zP3{K:AC}(a it:AQ):Turn P w K tg (qV K a) [it] it (λi h=>h.IsListIter it a i) where
 mem:=by simp
 obj:=λi h st b hb=>by
  have e:b=it:=by simpa using hb
  subst e;obtain⟨o,e,c,d⟩:=st;exact{o,e,λv z=>by rw[d] at z;cases z}
 keep:=λi h h' st k=>st.at λo e=>k it 's' o e
 item:=by
  intro X hP hw hK hc i AE s σ H E I hf st hg;subst hP hw hK;obtain⟨xs,x,hq,hx⟩:=hg;obtain⟨BZ,rv,p,hz⟩:=I.list hq;obtain⟨u,hu,ru⟩:=rv.get hx;obtain⟨f0,f1,f2,f3,f4,f5⟩:=hf it 's';refine wpAny_pyNext_list_item st p.isList (x:=u) (by simpa using hu) λh' CU sb=>?_;have I1:Inv X AE σ H { s with heap:=h' }:=I.turned (t':=s.toks) (λb o hb e=>(sb.2 b hb).trans e) f0 f1 f3 f4 f5;obtain⟨o,e,c,d⟩:=id CU;exact{u,rfl,rW (s:={ s with heap:=h' }) e c d 'd' {x,H,I1,ru,{rfl,λys hy=>by rw[I.list_inj hy hq];exact hx},CU,λb hb=>(hf b hb).1}}
 done:=by
  intro X hP hw hK hc i AE s σ H E I hf st hg;subst hP hw hK;obtain⟨xs,hq,hx⟩:=hg;obtain⟨BZ,rv,p,hz⟩:=I.list hq;obtain⟨f0,f1,f2,f3,f4,f5⟩:=hf it 's';have hl:=rv.length;exact wpAny_pyNext_list_end (I.ok.hd hc) st p.isList (by simp;lia) λh' eb=>{rfl,I.turned (t':=s.toks) (λb o hb e=>eb b o hb e) f0 f1 f3 f4 f5}
 self:=λ_ _ _ _ _ st h=>wpAny_pyIter_listiter st h
theorem zOW{K:AC}(a it:AQ):Turn P w K tg (qT K a) [it] it (λi h=>h.IsTupleIter it a i) where
 mem:=by simp
 obj:=λi h st b hb=>by
  have e:b=it:=by simpa using hb
  subst e;obtain⟨o,e,c,d⟩:=st;exact{o,e,λv z=>by rw[d] at z;cases z}
 keep:=λi h h' st k=>st.at λo e=>k it 's' o e
 item:=by
  intro X hP hw hK hc i AE s σ H E I hf st hg;subst hP hw hK;obtain⟨xs,x,hq,hx⟩:=hg;obtain⟨BZ,rv,p,hz⟩:=I.tuple hq;obtain⟨u,hu,ru⟩:=rv.get hx;obtain⟨f0,f1,f2,f3,f4,f5⟩:=hf it 's';refine wpAny_pyNext_tuple_item st (show s.heap.IsTuple a BZ.toArray from p) (x:=u) (by simpa using hu) λh' CU sb=>?_;have I1:Inv X AE σ H { s with heap:=h' }:=I.turned (t':=s.toks) (λb o hb e=>(sb.2 b hb).trans e) f0 f1 f3 f4 f5;obtain⟨o,e,c,d⟩:=id CU;exact{u,rfl,rW (s:={ s with heap:=h' }) e c d 'd' {x,H,I1,ru,{rfl,λys hy=>by rw[I.tuple_inj hy hq];exact hx},CU,λb hb=>(hf b hb).1}}
 done:=by
  intro X hP hw hK hc i AE s σ H E I hf st hg;subst hP hw hK;obtain⟨xs,hq,hx⟩:=hg;obtain⟨BZ,rv,p,hz⟩:=I.tuple hq;obtain⟨f0,f1,f2,f3,f4,f5⟩:=hf it 's';have hl:=rv.length;exact wpAny_pyNext_tuple_end (I.ok.hd hc) st (show s.heap.IsTuple a BZ.toArray from p) (by simp;lia) λh' eb=>{rfl,I.turned (t':=s.toks) (λb o hb e=>eb b o hb e) f0 f1 f3 f4 f5}
 self:=λ_ _ _ _ _ st h=>wpAny_pyIter_tupleiter st h
theorem zOX{K:AC}(it:AQ)(lo:Int)(n:Nat):Turn P w K tg (qU lo n) [it] it (λi h=>IsRangeIter h it (lo+(i:Nat) * 1) ((n:Int)-(i:Nat)) 1) where
 mem:=by simp
 obj:=λi h st b hb=>by
  have e:b=it:=by simpa using hb
  subst e
  exact{_,st,λv z=>by
   have z':SL _=RN v:=z
   cases z'}
 keep:=λi h h' st k=>k it 's' _ st
 item:=by
  intro X hP hw hK hc i AE s σ H E I hf st hg;subst hP hw hK;obtain⟨f0,f1,f2,f3,f4,f5⟩:=hf it 's';have W:=Walks.range (prog:=X.prog) (w:=X.w) (I.ok.hd hc) it lo 1 n;refine W.item i s _ _ hg st λv h' tk hv CU kk=>?_;obtain⟨t,rfl⟩:=hv;have I1:Inv X AE σ H { s with heap:=h',toks:=tk }:=I.turned (λb o hb e=>kk b o (by simpa using hb) e) f0 f1 f3 f4 f5;refine{_,rfl,rW (s:={ s with heap:=h',toks:=tk }) (n:="range_iterator") CU rfl rfl 'd' {.int (lo+i),H,I1,{t,?_},{rfl,rfl},CU,λb hb=>(hf b hb).1}};rw[Int.mul_one]
 done:=by
  intro X hP hw hK hc i AE s σ H E I hf st hg;subst hP hw hK;obtain⟨f0,f1,f2,f3,f4,f5⟩:=hf it 's';exact wpAny_pyNext_range_end (I.ok.hd hc) st (by have:n<=i:=hg;lia) λh' eb=>{rfl,I.turned (t':=s.toks) (λb o hb e=>eb b o hb e) f0 f1 f3 f4 f5}
 self:=λ_ _ _ _ _ st h=>wpAny_pyIter_rangeiter st h
variable{tl:TE}{wi:TI}
def yET(K:AC)(tl:TE):TI:=λσ H R=>tl σ H λx H1=>∃a,x=.ref a/\(∃xs,SqL K H1 a xs)/\R (qV K a) H1
def yHL(K:AC)(tl:TE):TI:=λσ H R=>tl σ H λx H1=>∃a,x=.ref a/\(∃xs,SqT K H1 a xs)/\R (qT K a) H1
theorem Po{l:C8}(hl:PE X l tl):PI X tg l (yET X.K tl):=by
 intro AE s σ H R I h;refine GV (hl AE s σ H _ I h) λv s1 q0=>?_;obtain⟨x,H1,I1,r1,q1⟩:=q0;obtain⟨a,e,⟨xs,hq⟩,q⟩:=q1;subst e;cases r1;obtain⟨BZ,rv,p,hz⟩:=I1.list hq;refine KG p.isList ?_;refine{s1.heap.objs.size,[s1.heap.objs.size],_,_,H1,rfl,I1.kept (t':=s1.toks) λb o e=>AF _ e,zP3 a _,{_,AX _ rfl,rfl,rfl},λb hb=>?_,q};have e:b=s1.heap.objs.size:=by simpa using hb
 subst e;exact I1.fpOk (AM _) (I1.hok.fresh (AM _))
theorem Ng{l:C8}(hl:PE X l tl):PI X tg l (yHL X.K tl):=by
 intro AE s σ H R I h;refine GV (hl AE s σ H _ I h) λv s1 q0=>?_;obtain⟨x,H1,I1,r1,q1⟩:=q0;obtain⟨a,e,⟨xs,hq⟩,q⟩:=q1;subst e;cases r1;obtain⟨BZ,rv,p,hz⟩:=I1.tuple hq;refine SH (show s1.heap.IsTuple a BZ.toArray from p) ?_;refine{s1.heap.objs.size,[s1.heap.objs.size],_,_,H1,rfl,I1.kept (t':=s1.toks) λb o e=>AF _ e,zOW a _,{_,AX _ rfl,rfl,rfl},λb hb=>?_,q};have e:b=s1.heap.objs.size:=by simpa using hb
 subst e;exact I1.fpOk (AM _) (I1.hok.fresh (AM _))
theorem Qm{R:It->Hp->Prop}{lo hi:Int}{t u v:eE}{tk:Nat}(I:Inv X AE σ H s)(h1:-(2 ^ 62)<=lo)(h2:lo<2 ^ 62)(h3:-(2 ^ 62)<=hi)(h4:hi<2 ^ 62)
  (q:R (qU lo (hi-lo).toNat) H):A0 (A1 X.prog X.w) X.A (ON (.ref s.heap.objs.size)) (Xb X AE σ tg R) E { s with heap:=s.heap.push { cls:=.type "range",data:=.fields #[.int lo t,.int hi u,.int 1 v] },toks:=tk }:=by
 refine wpAny_pyIter_range (IsRange.new ..) (small_one h1 h2 h3 h4) ?_;have I1:Inv X AE σ H { s with heap:=s.heap.push { cls:=.type "range",data:=.fields #[.int lo t,.int hi u,.int 1 v] },toks:=tk }:=I.kept λb o e=>AF _ e
 refine{(s.heap.push { cls:=.type "range",data:=.fields #[.int lo t,.int hi u,.int 1 v] }).objs.size,[(s.heap.push { cls:=.type "range",data:=.fields #[.int lo t,.int hi u,.int 1 v] }).objs.size],_,_,H,rfl,
  I1.kept (t':=tk) λb o e=>AF _ e,zOX _ lo (hi-lo).toNat,?_,λb hb=>?_,q}
 .have e1:lo+((0:Nat):Int) * 1=lo:=by simp
  have e2:(((hi-lo).toNat:Nat):Int)-((0:Nat):Int)=Builtin.Range.rangeSize lo hi 1:=by rw[rangeSize_one];split<;>lia
  show IsRangeIter _ _ (lo+((0:Nat):Int) * 1) ((((hi-lo).toNat:Nat):Int)-((0:Nat):Int)) 1;rw[e1,e2];exact AX _ rfl
 .have e:b=(s.heap.push { cls:=.type "range",data:=.fields #[.int lo t,.int hi u,.int 1 v] }).objs.size:=by simpa using hb
  subst e;exact I1.fpOk (AM _) (I1.hok.fresh (AM _))
def yEU(ta:TA):TI:=λσ H R=>ta σ H λvs H1=>∃j:Int,vs=[.int j]/\-(2 ^ 62)<=j/\j<2 ^ 62/\R (qU 0 j.toNat) H1
def yEV(ta:TA):TI:=λσ H R=>ta σ H λvs H1=>∃i j:Int,vs=[.int i,.int j]/\(-(2 ^ 62)<=i/\i<2 ^ 62/\-(2 ^ 62)<=j/\j<2 ^ 62)/\R (qU i (j-i).toNat) H1
theorem Sd{a:C8}{ta:TA}(hg:Gl X "range")(hm:X.mg "range"=AK)(ha:PA X [a] ta)(hs:AO [a] X.env=[(AD,eval a X.env)]:=by rfl):PI X tg (.Call (.Name "range" p) [a] [] pos) (yEU ta):=by
 intro AE s σ H R I h;refine Call_ (j9 I hg hm boot_range (FT (GV (ha pos AE s σ H _ I h) λus s1 ⟨vs,H1,I1,r1,q1⟩=>?_) hs rfl));obtain⟨j,e,q1,q2,q⟩:=q1;subst e
 cases r1 with
 |cons r rr =>
  cases rr;obtain⟨t,rfl⟩:=r;exact call_range_1 (Qm I1 'l' 'l' q1 q2 (by simpa using q))
theorem zP5{a b:C8}{ta:TA}(hg:Gl X "range")(hm:X.mg "range"=AK)(ha:PA X [a,b] ta)(hs:AO [a,b] X.env=[(AD,eval a X.env),(AD,eval b X.env)]:=by rfl)(M6:AO [b] X.env=[(AD,eval b X.env)]:=by rfl) :
  PI X tg (.Call (.Name "range" p) [a,b] [] pos) (yEV ta):=by
 intro AE s σ H R I h;refine Call_ (j9 I hg hm boot_range (FT (GV (ha pos AE s σ H _ I h) λus s1 ⟨vs,H1,I1,r1,q1⟩=>?_) (by rw[hs,M6]) (by rw[M6];rfl)));obtain⟨i,j,e,⟨q1,q2,q3,q4⟩,q⟩:=q1;subst e
 cases r1 with
 |cons r rr =>
  cases rr with
  |cons r' rr =>
   cases rr;obtain⟨t,rfl⟩:=r;obtain⟨t',rfl⟩:=r';exact call_range_2 (Qm I1 q1 q2 q3 q4 q)
def zX(wi:TI)(g:TG)(tb:TS):TS:=λD σ H=>wi σ H λJ H1=>∃W:Nat->Nat->St->Hp->Prop,(∃m,W 0 m σ H1)/\∀i m σ H,W i m σ H ->
 (J.stop i H/\D.nx σ H)\/(J.go i H/\∃N:St->Hp->Prop,(∀σ' H',N σ' H'->∃m',m'<m/\W (i+1) m' σ' H')/\∀x H',J.yld i H x H'->g x σ H' λσ2 H2=>tb { D with nx:=N,ct:=N,bk:=D.nx } σ2 H2)
noncomputable def sG(fp:List AQ)(h:D4):List (AQ×IE):=fp.filterMap λb=>(h.get? b).map λo=>(b,o)
theorem zA{b:AQ}{o:IE}(hb:b∈fp)(e:h.get? b=AA o):(b,o)∈sG fp h:=HP.mpr {b,hb,by rw[e];rfl}
theorem zP6{p:AQ×IE}(hp:p∈sG fp h):p.1∈fp/\h.get? p.1=AA p.2:=by
 obtain⟨b,hb,e⟩:=HP.mp hp
 cases q:h.get? b with
 |none=>rw[q] at e;cases e
 |some o =>
  rw[q] at e;have e':(b,o)=p:=BL e;subst e';exact{hb,q}
theorem Inv.pinned(I:Inv X AE σ H s)(hf:∀b∈fp,FpOk X AE H b)(ho:∀b∈fp,∃o,s.heap.get? b=AA o/\∀v,o.data≠.cell v):Inv X (AE++sG fp s.heap) σ H s :=
 I.pins_of λp hp=>(BX.mp hp).elim (λz=>I.pin p (BM _ z)) λz=>by
  obtain⟨hb,e⟩:=zP6 z;obtain⟨f0,f1,f2,_⟩:=hf p.1 hb;obtain⟨o,e',d⟩:=ho p.1 hb;rw[e] at e';cases e';exact{e,f0,f1,f2,d}
theorem Inv.unpinned{pl:List (AQ×IE)}(I:Inv X (AE++pl) σ H s):Inv X AE σ H s:=I.pins_of λp hp=>I.pin p (BM _ (DH _ hp))
theorem pM{iter:C8}{g:TG}(hp:VU (A1 X.prog X.w) X.A X.env X.xe)(hc:X.calm=AL)(hi:PI X tg iter wi)(hg:PG X tg g)(hb:PSs X body tb)
  (hs:∀x,DF iter X.env x=pure x:=by intro _;rfl):PS X (.For tg iter body [] pos) (zX wi g tb):=by
 intro AE s σ H D I h;refine wpAny_For (GV (hi AE s σ H _ I h) λv s1 h1=>GV h1 λnN s2 h2=>?_) hs;obtain⟨it,fp,tn,J,H2,e,I2,T,st2,f2,W,⟨m0,w0⟩,turn⟩:=h2;subst e
 -- what stays AL of the iterator's objects through the nM
 have U8:∀{H':Hp},(∀b∈fp,H' b=AK)->∀b∈fp,FpOk X AE H' b:=λhn b hb=>{hn b hb,(f2 b hb).2};refine codeAny_forLoop_any (λn s'=>∃i σ' H',Inv X AE σ' H' s'/\tn i s'.heap/\(∀b∈fp,H' b=AK)/\W i n σ' H') ?_ m0 {0,σ,H2,I2,st2,λb hb=>(f2 b hb).1,w0};rintro n s3 ⟨i,σ3,H3,I3,KN,wM,w3⟩;rcases turn i n σ3 H3 w3 with⟨stop,qn⟩|⟨go,N,hN,step⟩
 .refine II hp (GV (T.done X rfl rfl rfl hc i AE s3 σ3 H3 X.xe I3 (U8 wM) KN stop) λr s4 ⟨hr,I4⟩=>?_)
  subst hr;exact IJ {σ3,H3,I4,qn}
 .refine II hp (GV (T.item X rfl rfl rfl hc i AE s3 σ3 H3 X.xe I3 (U8 wM) KN go) λr s4 ⟨u,hr,h4⟩=>?_)
  subst hr;refine II hp (GV h4 λ_ s5 ⟨x,H5,I5,r5,y5,iR,Lk⟩=>?_);have Mf:=I5.pinned (U8 Lk) (T.obj _ _ iR);refine II hp (GV (hg _ s5 σ3 H5 x u _ Mf r5 (step x H5 y5)) λ_ s6 ⟨σ6,H6,I6,q6⟩=>?_);refine II hp (GV (hb _ s6 σ6 H6 _ I6 q6) λf s7 q7=>?_)
  have YN:∀{σ7:St} {H7:Hp},Inv X (AE++sG fp s5.heap) σ7 H7 s7->N σ7 H7->∃m,m<n/\∃i σ' H',Inv X AE σ' H' s7/\tn i s7.heap/\(∀b∈fp,H' b=AK)/\W i m σ' H':=λ{σ7 H7} I7 n7=>by
   obtain⟨m',hm,w7⟩:=hN σ7 H7 n7;refine{m',hm,i+1,σ7,H7,I7.unpinned,T.keep _ _ _ iR λb hb o e=>(I7.pin (b,o) (BM _ (BM _ (zA hb e)))).1,λb hb=>?_,w7};obtain⟨o,e,d⟩:=T.obj _ _ iR b hb;exact(I7.pin (b,o) (BM _ (BM _ (zA hb e)))).2.1
  cases f with
  |next=>obtain⟨σ7,H7,I7,n7⟩:=q7;exact YN I7 n7
  |cont=>obtain⟨σ7,H7,I7,n7⟩:=q7;exact YN I7 n7
  |brk=>obtain⟨σ7,H7,I7,q7⟩:=q7;exact{σ7,H7,I7.unpinned,q7}
  |ret v=>obtain⟨x7,σ7,H7,I7,r7,q7⟩:=q7;exact{x7,σ7,H7,I7.unpinned,r7,q7}
theorem yD8{K:AC}{g:TG}{D:Ends}(Pv:Nat->St->Hp->Prop)(h0:Pv 0 σ H)(hl:∀i σ H,i<=xs.length->Pv i σ H->SqL K H a xs)
  (hs:∀i x σ H,xs[i]?=AA x->Pv i σ H->g x σ H λσ2 H2=>tb { D with nx:=Pv (i+1),ct:=Pv (i+1),bk:=D.nx } σ2 H2) (hd:∀σ H,Pv xs.length σ H->D.nx σ H) :
  ∃W:Nat->Nat->St->Hp->Prop,(∃m,W 0 m σ H)/\∀i m σ H,W i m σ H ->
   ((qV K a).stop i H/\D.nx σ H)\/((qV K a).go i H/\∃N:St->Hp->Prop,(∀σ' H',N σ' H'->∃m',m'<m/\W (i+1) m' σ' H')/\∀x H',(qV K a).yld i H x H'->g x σ H' λσ2 H2=>tb { D with nx:=N,ct:=N,bk:=D.nx } σ2 H2):=by
 refine{λi m σ H=>m=xs.length-i/\i<=xs.length/\Pv i σ H,{xs.length,by simp,BS _,h0},?_};rintro i m σ H ⟨rfl,hi,p⟩;have q:=hl i σ H hi p
 by_cases JL:i<xs.length
 .refine .inr {{xs,xs[i],q,by simp[JL]},Pv (i+1),λσ' H' p'=>{xs.length-(i+1),by lia,rfl,JL,p'},λx H' y=>?_}
  obtain⟨e,y⟩:=y;subst e;exact hs i x σ _ (y xs q) p
 .have e:i=xs.length:=by lia
  subst e;exact .inl {{xs,q,AM _},hd σ H p}
theorem zXG{K:AC}{g:TG}{D:Ends}(Pv:Nat->St->Hp->Prop)(h0:Pv 0 σ H)(hl:∀i σ H,i<=xs.length->Pv i σ H->SqT K H a xs)
  (hs:∀i x σ H,xs[i]?=AA x->Pv i σ H->g x σ H λσ2 H2=>tb { D with nx:=Pv (i+1),ct:=Pv (i+1),bk:=D.nx } σ2 H2) (hd:∀σ H,Pv xs.length σ H->D.nx σ H) :
  ∃W:Nat->Nat->St->Hp->Prop,(∃m,W 0 m σ H)/\∀i m σ H,W i m σ H ->
   ((qT K a).stop i H/\D.nx σ H)\/((qT K a).go i H/\∃N:St->Hp->Prop,(∀σ' H',N σ' H'->∃m',m'<m/\W (i+1) m' σ' H')/\∀x H',(qT K a).yld i H x H'->g x σ H' λσ2 H2=>tb { D with nx:=N,ct:=N,bk:=D.nx } σ2 H2):=by
 refine{λi m σ H=>m=xs.length-i/\i<=xs.length/\Pv i σ H,{xs.length,by simp,BS _,h0},?_};rintro i m σ H ⟨rfl,hi,p⟩;have q:=hl i σ H hi p
 by_cases JL:i<xs.length
 .refine .inr {{xs,xs[i],q,by simp[JL]},Pv (i+1),λσ' H' p'=>{xs.length-(i+1),by lia,rfl,JL,p'},λx H' y=>?_}
  obtain⟨e,y⟩:=y;subst e;exact hs i x σ _ (y xs q) p
 .have e:i=xs.length:=by lia
  subst e;exact .inl {{xs,q,AM _},hd σ H p}
abbrev R2:=V->V->Hp->VK->Prop
def OpR(X:Cx)(f:AH->AH->SJ AH)(r:R2):Prop :=
 ∀(AE:List (AQ×IE)) (s:AT) (σ:St) (H:Hp) (x y:V) (v u:AH) (Q:VK),Inv X AE σ H s->RelV x v->RelV y u->r x y H Q ->
  A0 (A1 X.prog X.w) X.A (f v u) (EP X AE σ Q) X.xe s
def Ag(X:Cx)(f:AH->SJ AH)(r:V->Hp->VK->Prop):Prop :=
 ∀(AE:List (AQ×IE)) (s:AT) (σ:St) (H:Hp) (x:V) (v:AH) (Q:VK),Inv X AE σ H s->RelV x v->r x H Q ->
  A0 (A1 X.prog X.w) X.A (f v) (EP X AE σ Q) X.xe s
def CallR(X:Cx)(f:AH)(r:List V->Hp->VK->Prop):Prop :=
 ∀(AE:List (AQ×IE)) (s:AT) (σ:St) (H:Hp) (xs:List V) (us:List AH) (Q:VK),Inv X AE σ H s->Vals xs us->r xs H Q ->
  A0 (A1 X.prog X.w) X.A (call f us) (EP X AE σ Q) X.xe s
def yHM(X:Cx)(r:V->Hp->(Bool->Hp->Prop)->Prop):Prop :=
 ∀(AE:List (AQ×IE)) (s:AT) (σ:St) (H:Hp) (x:V) (v:AH) (Q:Bool->Hp->Prop),Inv X AE σ H s->RelV x v->r x H Q ->
  A0 (A1 X.prog X.w) X.A (truthy v) (TP X AE σ Q) X.xe s
def kJ(r:R2)(ta tb:TE):TE:=λσ H Q=>ta σ H λx H1=>tb σ H1 λy H2=>r x y H2 Q
def Wo(r:V->Hp->VK->Prop)(ta:TE):TE:=λσ H Q=>ta σ H λx H1=>r x H1 Q
def rI(C:Int->Int->Prop)(g:Int->Int->V):R2:=λx y H Q=>∃i j,x=.int i/\y=.int j/\C i j/\Q (g i j) H
def cJ(g:Int->Int->V):R2:=λx y H Q=>∃i j,x=.int i/\y=.int j/\Q (g i j) H
def rU(g:Int->V):V->Hp->VK->Prop:=λx H Q=>∃i,x=.int i/\Q (g i) H
section
variable{a b:C8}{tb tc:TE}
theorem Gf(ha:PE X a ta)(hb:PE X b tb){R:V->V->Hp->Prop}(I:Inv X AE σ H s)
  (h:ta σ H λx H1=>tb σ H1 λy H2=>R x y H2) {Q:AH->AT->Prop} {f:AH->AH->SJ AH}
  (hf:∀v u s2 x y H2,Inv X AE σ H2 s2->RelV x v->RelV y u->R x y H2->A0 (A1 X.prog X.w) X.A (f v u) Q X.xe s2) :
  A0 (A1 X.prog X.w) X.A (eval a X.env) (λv FC=>A0 (A1 X.prog X.w) X.A (eval b X.env) (λu O4=>A0 (A1 X.prog X.w) X.A (f v u) Q X.xe O4) X.xe FC) X.xe s:=by
 refine GV (ha AE s σ H _ I h) λv s1 q0=>?_;obtain⟨x,H1,I1,r1,q1⟩:=q0;refine GV (hb AE s1 σ H1 _ I1 q1) λu s2 q0=>?_;obtain⟨y,H2,I2,r2,q2⟩:=q0;exact hf v u s2 x y H2 I2 r1 r2 q2
theorem xH{op:Operator}{r:R2}(ho:OpR X (HE op) r)(ha:PE X a ta)(hb:PE X b tb):PE X (.BinOp a op b pos) (kJ r ta tb):=by
 intro AE s σ H Q I h;exact wpAny_BinOp (Gf ha hb I h λv u s2 x y H2 I2 rx ry q=>ho AE s2 σ H2 x y v u Q I2 rx ry q)
theorem yEX{op:UnaryOp}{r:V->Hp->VK->Prop}(ho:Ag X (unaryOp op) r)(ha:PE X a ta):PE X (.UnaryOp op a pos) (Wo r ta):=by
 intro AE s σ H Q I h;exact UnaryOp_ (GV (ha AE s σ H _ I h) (λv s1 q0=>by obtain⟨x,H1,I1,r1,q1⟩:=q0;exact ho AE s1 σ H1 x v Q I1 r1 q1))
theorem z9{f:AH->AH->SJ AH}{C:Int->Int->Prop}{g:Int->Int->Int}
  (rule:∀(i j:Int) (t u:eE) (s:AT) (Q:AH->AT->Prop) (E:AH->AT->Prop),C i j->Q (.int (g i j) s.toks) { s with toks:=s.toks+1 }->A0 (A1 X.prog X.w) X.A (f (.int i t) (.int j u)) Q E s) :
  OpR X f (rI C λi j=>.int (g i j)):=by
 intro AE s σ H x y v u Q I rx ry h;obtain⟨i,j,rfl,rfl,hc,q⟩:=h;obtain⟨t,rfl⟩:=rx;obtain⟨t',rfl⟩:=ry;exact rule i j t t' s _ _ hc {.int (g i j),H,I.tok _,{_,rfl},q}
theorem Uv{f:AH->AH->SJ AH}{g:Int->Int->Int}
  (rule:∀(i j:Int) (t u:eE) (s:AT) (Q:AH->AT->Prop) (E:AH->AT->Prop),Q (.int (g i j) s.toks) { s with toks:=s.toks+1 }->A0 (A1 X.prog X.w) X.A (f (.int i t) (.int j u)) Q E s) :
  OpR X f (cJ λi j=>.int (g i j)):=by
 intro AE s σ H x y v u Q I rx ry h;obtain⟨i,j,rfl,rfl,q⟩:=h;obtain⟨t,rfl⟩:=rx;obtain⟨t',rfl⟩:=ry;exact rule i j t t' s _ _ {.int (g i j),H,I.tok _,{_,rfl},q}
theorem Ge{f:AH->AH->SJ AH}{g:Int->Int->Bool}
  (rule:∀(i j:Int) (t u:eE) (s:AT) (Q:AH->AT->Prop) (E:AH->AT->Prop),Q (.bool (g i j)) s->A0 (A1 X.prog X.w) X.A (f (.int i t) (.int j u)) Q E s) :
  OpR X f (cJ λi j=>.bl (g i j)):=by
 intro AE s σ H x y v u Q I rx ry h;obtain⟨i,j,rfl,rfl,q⟩:=h;obtain⟨t,rfl⟩:=rx;obtain⟨t',rfl⟩:=ry;exact rule i j t t' s _ _ {.bl (g i j),H,I,rfl,q}
def Uu(i j:Int):Prop:=0<=j/\j<=1000000/\i.natAbs<2 ^ 64
def CMul(i j:Int):Prop:=(-(2 ^ 64)<i/\i<2 ^ 64)\/(-(2 ^ 64)<j/\j<2 ^ 64)
theorem CMul.ok{i j:Int}(h:CMul i j):IntMulOk i j:=by
 rcases h with⟨h1,h2⟩|⟨h1,h2⟩
 .exact .of_left (intBits_le_64 h1 h2)
 .exact .of_right (intBits_le_64 h1 h2)
theorem mY:OpR X (HE .Add) (cJ λi j=>.int (i+j)):=Uv λ_ _ _ _ _ _ _ q=>add_int q
theorem yBA:OpR X (HE .Sub) (cJ λi j=>.int (i-j)):=Uv λ_ _ _ _ _ _ _ q=>sub_int q
theorem yBB:OpR X (HE .Mult) (rI CMul λi j=>.int (i * j)):=z9 λ_ _ _ _ _ _ _ hc q=>mul_int q hc.ok
theorem yBC:OpR X (HE .Mod) (rI (λ_ j=>0<j) λi j=>.int (i % j)):=z9 λi j _ _ _ _ _ hc q=>by
 have h1:(0:Int)<j:=hc;exact mod_int' (Int.ne_of_gt hc) (by rw[Int.fmod_eq_emod_of_nonneg i (LA hc)];exact q)
theorem yBD:OpR X (HE .Pow) (rI Uu λi j=>.int (i ^ j.toNat)):=z9 λ_ _ _ _ _ _ _ hc q=>pow_int_small hc.1 hc.2.1 hc.2.2 q
theorem unI{f:AH->SJ AH}{g:Int->Int}
  (rule:∀(i:Int) (t:eE) (s:AT) (Q:AH->AT->Prop) (E:AH->AT->Prop),Q (.int (g i) s.toks) { s with toks:=s.toks+1 }->A0 (A1 X.prog X.w) X.A (f (.int i t)) Q E s) :
  Ag X f (rU λi=>.int (g i)):=by
 intro AE s σ H x v Q I rx h;obtain⟨i,rfl,q⟩:=h;obtain⟨t,rfl⟩:=rx;exact rule i t s _ _ {.int (g i),H,I.tok _,{_,rfl},q}
theorem yBE:Ag X (unaryOp .USub) (rU λi=>.int (-i)):=unI λ_ _ _ _ _ q=>neg_int q
end
variable{y:V}
section
variable{a b:C8}{tb tc:TE}
theorem Nf{Q:VK}{k k':Bool}(I:Inv X AE σ H s)(q:Q (.bl k) H)(e:k=k'):EP X AE σ Q (.bool k') s:=by
 subst e;exact{.bl k,H,I,rfl,q}
theorem tN:OpR X (EU .Lt) (cJ λi j=>.bl (decide (i<j))):=Ge λ_ _ _ _ _ _ _ q=>lt_int q
theorem yEZ:OpR X (EU .Gt) (cJ λi j=>.bl (decide (j<i))):=Ge λ_ _ _ _ _ _ _ q=>gt_int q
theorem yE0:OpR X (EU .GtE) (cJ λi j=>.bl (decide (j<=i))):=Ge λ_ _ _ _ _ _ _ q=>ge_int q
theorem yBF:OpR X (EU .Is) (λx y H Q=>y=.non/\Q (.bl (decide (x=.non))) H):=by
 intro AE s σ H x y v u Q I rx ry h;obtain⟨rfl,q⟩:=h;cases ry;refine is_none_gen (Nf I q ?_)
 cases x<;>first
  |(cases rx;rfl)
  |(obtain⟨t,rfl⟩:=rx;rfl)
theorem zXH:OpR X (EU .IsNot) (λx y H Q=>y=.non/\Q (.bl (!decide (x=.non))) H):=by
 intro AE s σ H x y v u Q I rx ry h;obtain⟨rfl,q⟩:=h;cases ry;refine isnot_none_gen (Nf I q ?_)
 cases x<;>first
  |(cases rx;rfl)
  |(obtain⟨t,rfl⟩:=rx;rfl)
theorem OpR.or{f:AH->AH->SJ AH}{r r':R2}(h:OpR X f r)(h':OpR X f r'):OpR X f (λx y H Q=>r x y H Q\/r' x y H Q):=by
 intro AE s σ H x y v u Q I rx ry q;rcases q with q|q
 .exact h AE s σ H x y v u Q I rx ry q
 .exact h' AE s σ H x y v u Q I rx ry q
theorem yGP(b:C8)(h:op≠.In:=by decide)(h2:op≠.NotIn:=by decide):DT op b=AD:=by
 have e1:(op==CmpOp.In)=AD:=by cases op<;>first|rfl|exact absurd rfl h
 have e2:(op==CmpOp.NotIn)=AD:=by cases op<;>first|rfl|exact absurd rfl h2
 cases b<;>simp[DT,e1,e2]
theorem zXI{r:R2}(ho:OpR X (EU op) r)(ha:PE X a ta)(hb:PE X b tb)(hm:DT op b=AD):PE X (.Compare a [op] [b] pos) (kJ r ta tb):=by
 intro AE s σ H Q I h;exact wpAny_Compare1 (Gf ha hb I h λv u s2 x y H2 I2 rx ry q=>ho AE s2 σ H2 x y v u Q I2 rx ry q) hm
def yE1(t:TE):TT:=λσ H Q=>t σ H λx H'=>∃k,x=.bl k/\Q k H'
theorem zXJ{r:R2}(ho:OpR X (EU op) r)(ha:PE X a ta)(hb:PE X b tb)(hm:DT op b=AD):PT X (.Compare a [op] [b] pos) (yE1 (kJ r ta tb)):=by
 intro AE s σ H Q I h
 refine wpAny_isTrue_Compare1 (GV (ha AE s σ H _ I h) λv s1 ⟨x,H1,I1,r1,q1⟩=>GV (hb AE s1 σ H1 _ I1 q1) λu s2 ⟨y,H2,I2,r2,q2⟩ =>
  GV (ho AE s2 σ H2 x y v u _ I2 r1 r2 q2) λc s3 ⟨z,H3,I3,r3,k,e,q3⟩=>?_) hm
 subst e;cases r3;exact IP {H3,I3,q3}
def Ut(K:AC)(x:V)(H:Hp)(k:Bool):Prop :=
 match x with
 |.non=>k=AD
 |.bl b=>k=b
 |.int i=>k=(i != 0)
 |.str y=>y.length<=sizeLine/\k=((y.length:Int) != 0)
 |.byt y=>y.size<=sizeLine/\k=((y.size:Int) != 0)
 |.ref p=>(∃xs,SqL K H p xs/\k=!xs.isEmpty)\/(∃xs,SqT K H p xs/\k=!xs.isEmpty)\/∃kvs,H p=AA (.dK kvs)/\k=!kvs.isEmpty
 |_=>False
theorem zOY{kvs:List (κ×V)}{vs:List (κ×AH)}(r:KV kvs vs):(!vs.isEmpty)=!kvs.isEmpty:=by
 cases r<;>rfl
theorem Tc(r:Vals xs BZ):(!BZ.toArray.isEmpty)=!xs.isEmpty:=by
 cases r<;>simp
theorem j8:(sizeLine:Nat)<2 ^ 63:=by rw[GE];decide
theorem yBG:yHM X (λx H Q=>∃k,Ut X.K x H k/\Q k H):=by
 intro AE s σ H x v Q I rx h;obtain⟨k,e,q⟩:=h;have hl:=j8;have hs:sizeLine=16777216:=GE
 cases x with
 |non =>
  cases rx;have e':k=AD:=e;subst e';exact truthy_none {H,I,q}
 |bl b =>
  cases rx;have e':k=b:=e;subst e';exact IP {H,I,q}
 |int i =>
  obtain⟨t,rfl⟩:=rx;have e':k=(i != 0):=e;subst e';exact PySem.P.truthy_int {H,I,q}
 |str y =>
  obtain⟨t,rfl⟩:=rx;obtain⟨hy,e'⟩:y.length<=sizeLine/\k=((y.length:Int) != 0):=e;subst e';exact PySem.P.truthy_str 'l' {H,I.tok _,q}
 |byt y =>
  obtain⟨t,rfl⟩:=rx;obtain⟨hy,e'⟩:y.size<=sizeLine/\k=((y.size:Int) != 0):=e;subst e';exact PySem.W.truthy_bytes 'l' {H,I.tok _,q}
 |ref p =>
  cases rx;have e':(∃xs,SqL X.K H p xs/\k=!xs.isEmpty)\/(∃xs,SqT X.K H p xs/\k=!xs.isEmpty)\/∃kvs,H p=AA (.dK kvs)/\k=!kvs.isEmpty:=e;rcases e' with⟨xs,hx,e'⟩|⟨xs,hx,e'⟩|⟨kvs,hx,e'⟩
  .subst e'
   obtain⟨BZ,r,pl,hz⟩:=I.list hx;have EX:=r.length;exact wpAny_truthy_list pl.isList (by simp only[AW];lia) {H,I.tok _,by rw[Tc r];exact q}
  .subst e'
   obtain⟨BZ,r,pl,hz⟩:=I.tuple hx;have EX:=r.length;exact truthy_tuple pl (by simp only[AW];lia) {H,I.tok _,by rw[Tc r];exact q}
  .subst e'
   obtain⟨hz,hS,vs,r,m⟩:kvs.length<=sizeLine/\(p==GY)=AD/\∃vs,KV kvs vs/\s.heap.DictOf (TD X.prog X.w) p vs:=I.hok p _ hx;have EX:kvs.length=vs.length:=Paired.length r;exact wpAny_truthy_dict hS m 'l' {H,I.tok _,by rw[zOY r];exact q}
 |_=>exact(show False from e).elim
theorem zTL(ha:PE X a ta)(he:∀RX,VQ a X.env RX=(do let v <-RX;IZ a.pos;I0 [v] (truthy v))) :
  PT X a (λσ H Q=>ta σ H λx H'=>∃k,Ut X.K x H' k/\Q k H'):=by
 intro AE s σ H Q I h;exact isTrue_plain (GV (ha AE s σ H _ I h) (λv s1 q0=>by obtain⟨x,H1,I1,r1,q1⟩:=q0;exact yBG AE s1 σ H1 x v Q I1 r1 q1)) (he _)
theorem zOZ:OpR X (HE .Add) (λx y H Q=>∃i j,x=.str i/\y=.str j/\i.length+j.length<=sizeLine/\Q (.str (i++j)) H):=by
 intro AE s σ H x y v u Q I rx ry h;obtain⟨i,j,rfl,rfl,hz,q⟩:=h;obtain⟨t,rfl⟩:=rx;obtain⟨t',rfl⟩:=ry;exact add_str (λt' tk=>{.str (i++j),H,I.tok _,{_,rfl},q}) hz
theorem ZV{x:V}(r:Vals [x] us):∃u,us=[u]/\RelV x u:=by
 cases r with
 |cons r1 r2=>cases r2;exact{_,rfl,r1}
theorem yE2{x:V}(r:Vals [x,y] us):∃u w',us=[u,w']/\RelV x u/\RelV y w':=by
 cases r with
 |cons r1 r2 =>
  cases r2 with
  |cons r3 r4=>cases r4;exact{_,_,rfl,r1,r3}
theorem zP7(hc:X.calm=AL):CallR X (.builtin "min") (λxs H Q=>∃i j,xs=[.int i,.int j]/\Q (.int (if j<i then j else i)) H):=by
 intro AE s σ H xs us Q I r h;obtain⟨i,j,rfl,q⟩:=h;obtain⟨u,w',rfl,⟨t,rfl⟩,⟨t',rfl⟩⟩:=yE2 r;refine min_two_ints (I.ok.hd hc) λh' tk k=>{_,H,I.kept k,?_,q}
 by_cases hj:j<i
 .rw[if_pos hj,if_pos hj];exact{_,rfl}
 .rw[if_neg hj,if_neg hj];exact{_,rfl}
end
structure ObjM(h:D4)(x dx C:AQ)(mA:CT->Option AH):Prop where
 obj:h.get? x=AA (Q0 C dx)
 ns:h.Ns1 dx mA
 ne:dx≠x
theorem zP8(n:h.Ns1 dx mA):∃od,h.get? dx=AA od/\∀name,SK name od=AA (mA name):=by
 obtain⟨o,es,ep,ho,hd,hk,_,hm⟩:=n;refine{o,ho,λname=>?_};have e:=hm name;unfold nsFind findBy at e;rw[<-Array.find?_toList] at e;unfold SK;rw[hd];dsimp only;split
 .rename_i y q
  rw[q] at e;exact congrArg AA e
 .rename_i q
  rw[q] at e
  have a:es.toList.any (·.refKey)=AD:=by
   rw[ME];intro y hy;obtain⟨z,t,NS⟩:=hk y (G0.mp hy);simp[DictEntry.refKey,NS]
  have a':¬es.toList.any (·.refKey)=AL:=by rw[a];exact CN
  rw[if_neg a'];exact congrArg AA e
theorem ObjM.look{x:AQ}(I:ObjM h x dx C mA):∃od,PySem.W.InstAt h x (Q0 C dx) C (AA od)/\∀name,SK name od=AA (mA name) :=
 let ⟨od,ho,hl⟩:=zP8 I.ns
 {od,{I.obj,rfl,rfl,ho},hl}
section
variable{K:AC}{x:AQ}{v:AH}
end
theorem RelO.some_of{o:Option AH}(r:RelO (AA v) o):∃u,o=AA u/\RelV v u:=by
 cases o with
 |none=>exact(show False from r).elim
 |some u=>exact{u,rfl,r}
section
variable{fs oO:List (CT×V)}
theorem zXK(hok:HOk P w H h)(e:H a=AA (.ins C dx fs)):∃mA,ObjM h a dx C mA/\(∀f,RelO (fs.lookup f) (mA f))/\PySem.Within mA (fs.map (·.1))/\fs.length<=1000/\H dx=AA (.own a):=by
 obtain⟨d,z,ne,ob,mA,n,r,q⟩:=(show ObjOk P w H h a (.ins C dx fs) from hok a _ e);exact{mA,{ob,n,ne},r,q,z,d}
end
structure Cls(K:AC)(C:AQ):Prop where
 pg:aJ K C OY=AL
 hd:PySem.W.hasDictIn K C=AL
 po:PySem.W.plainOver K C=AL
 sa:K0 K (.ref C) "__setattr__"=AA (AA (.builtin "object.__setattr__"))
theorem Cls.get{K:AC}(c:Cls K C)(f:CT):aJ K C f=AL:=c.pg
section
variable{fs:List (CT×V)}{f:CT}
end
variable{tv:TE}
section
variable{o:C8}{f:CT}
end
section
variable{c:AH}{b:Bool}
inductive TyOf(K:AC)(H:Hp):V->AH->Prop where
 |non:TyOf K H .non (.type "NoneType")
 |bl (x:Bool):TyOf K H (.bl x) (.type "bool")
 |int (i:Int):TyOf K H (.int i) (.type "int")
 |str (x:CT):TyOf K H (.str x) (.type "str")
 |flt (x:UInt64):TyOf K H (.flt x) (.type "float")
 |lst {a:AQ} {xs:List V} (e:H a=AA (.lst xs)):TyOf K H (.ref a) (.type "list")
 |frz {a:AQ} {o:IE} {xs:List V} (e:H a=AA (.frz o (.lst xs))):TyOf K H (.ref a) (.type "list")
 |tup {a:AQ} {xs:List V} (e:H a=AA (.tup xs)):TyOf K H (.ref a) (.type "tuple")
 |dK {a:AQ} {kvs:List (Key×V)} (e:H a=AA (.dK kvs)):TyOf K H (.ref a) (.type "dict")
 |dT {a:AQ} {kvs:List (List Key×V)} (e:H a=AA (.dT kvs)):TyOf K H (.ref a) (.type "dict")
 |ins {a C dx:AQ} {fs:List (CT×V)} (e:H a=AA (.ins C dx fs)) (cl:Cls K C) (ha:K0 K (.ref C) "__class__"=AA (AA (.builtin "object.__class__")))
   (hn:ZF K (.builtin "object.__class__") "__get__"=AA (AA (.builtin "getset_descriptor.__get__"))) (nR:bN K (.builtin "object.__class__")=AA AL)
   (hm:T7 K C (.type "object")=AA AL):TyOf K H (.ref a) (.ref C)
theorem yX{x:V}{t:AH}(I:Inv X AE σ H s)(rx:RelV x u)(ty:TyOf X.K H x t)(e:BQ X.K t c=AA b)(h:∀tk,Q (.bool b) { s with toks:=tk }) :
  A0 (A1 X.prog X.w) A (call (.builtin "isinstance") [u,c]) Q E s:=by
 cases ty with
 |non=>cases(show u=GK from rx);exact DG PySem.W.kitx_none I.kIn G7 e (λz=>nomatch z) h
 |bl y=>cases(show u=JA y from rx);exact DG PySem.W.kitx_bool I.kIn G7 e (λz=>nomatch z) h
 |int i=>obtain⟨t,q⟩:=(show ∃t,u=MV i t from rx);cases q;exact DG PySem.W.kitx_int I.kIn G7 e (λz=>nomatch z) h
 |str y=>obtain⟨t,q⟩:=(show ∃t,u=WE y t from rx);cases q;exact DG PySem.W.kitx_str I.kIn G7 e (λz=>nomatch z) h
 |flt y=>obtain⟨t,q⟩:=(show ∃t,u=Value.float y t from rx);cases q;exact DG PySem.W.kitx_float I.kIn G7 e (λz=>nomatch z) h
 |@lst a xs ea =>
  cases(show u=DP a from rx);obtain⟨_,_,n,_,h1⟩:=(show ObjOk X.prog X.w H s.heap a (.lst xs) from I.hok a _ ea);exact DG PJ I.kIn {_,h1,rfl} e (λz=>nomatch z) h
 |@frz a ob xs ea =>
  cases(show u=DP a from rx);obtain⟨_,_,_,n,_,h1⟩:=(show ObjOk X.prog X.w H s.heap a (.frz ob (.lst xs)) from I.hok a _ ea);exact DG PJ I.kIn {_,h1,rfl} e (λz=>nomatch z) h
 |@tup a xs ea =>
  cases(show u=DP a from rx);obtain⟨_,_,_,p⟩:=(show ObjOk X.prog X.w H s.heap a (.tup xs) from I.hok a _ ea);obtain⟨o,h1,h2,_⟩:=p;exact DG YS I.kIn {o,h1,h2} e (λz=>nomatch z) h
 |@dK a kvs ea =>
  cases(show u=DP a from rx);obtain⟨_,_,vs,_,p⟩:=(show ObjOk X.prog X.w H s.heap a (.dK kvs) from I.hok a _ ea);obtain⟨o,es,ep,h1,h2,_⟩:=p;exact DG LH I.kIn {o,h1,h2.1} e (λz=>nomatch z) h
 |@dT a kvs ea =>
  cases(show u=DP a from rx);obtain⟨_,_,xs,_,o,es,ep,h1,h2,_⟩:=(show ObjOk X.prog X.w H s.heap a (.dT kvs) from I.hok a _ ea);exact DG LH I.kIn {o,h1,h2.1} e (λz=>nomatch z) h
 |@ins a C dx fs ea cl ha hn nR hm =>
  cases(show u=DP a from rx);obtain⟨mA,O,_⟩:=zXK I.hok ea;obtain⟨od,J,_⟩:=O.look;exact DG (PySem.W.kitx_own (cl.get _) cl.hd ha hn nR hm) I.kIn J e (λz=>nomatch z) h
end
structure Room(k:Nat)(A:DQ):Prop where
 hd:A.handled=AK
 dp:A.depth+3 * k+5<recursionLimit
 un:A.units+16 * k+200<GZ
 gd:A.guards=AA []
theorem Room.mono(r:Room k A)(h:j<=k):Room j A:={r.hd,by have:=r.dp;lia,by have:=r.un;lia,r.gd}
theorem Room.deeper{k:Nat}{A:DQ}(r:Room (k+1) A)(env:XC):Room k (A.deeper env) :=
 {r.hd,by have:=r.dp;show A.depth+1+3 * k+5<_;lia,by have:=r.un;show A.units+3+16 * k+200<_;lia,r.gd}
theorem Room.in1{k:Nat}{A:DQ}(r:Room (k+1) A):Room k A.in1 :=
 {r.hd,by have:=r.dp;show A.depth+3 * k+5<_;lia,by have:=r.un;show A.units+1+16 * k+200<_;lia,r.gd}
theorem Room.depth{k:Nat}{A:DQ}(r:Room k A):A.depth<recursionLimit:=by have:=r.dp;lia
theorem Room.units{k:Nat}{A:DQ}(r:Room k A):A.units+64<GZ:=by have:=r.un;lia
def zW:TA:=λ_ H Q=>Q [] H
def rV(ta:TE)(tr:TA):TA:=λσ H Q=>ta σ H λx H1=>tr σ H1 λxs H2=>Q (x::xs) H2
section
variable{t:TA}
theorem HZ:PA X [] zW:=λ_ _ _ _ H Q I h=>bU {[],H,I,.nil,h}
theorem TC(ha:PE X e te)(hr:PA X es t)(hs:AO (e::es) X.env=(AD,eval e X.env)::AO es X.env:=by rfl):PA X (e::es) (rV te t):=by
 intro pos AE s σ H Q I h;rw[hs];show A0 _ _ (spliced ((AD,eval e X.env)::DO pos (AO es X.env))) _ _ s;refine PL (GV (ha AE s σ H _ I h) λu s1 ⟨x,H1,I1,r1,q1⟩=>?_);exact GV (hr pos AE s1 σ H1 _ I1 q1) (λus s2 q0=>by obtain⟨xs,H2,I2,r2,q2⟩:=q0;exact{x::xs,H2,I2,.cons r1 r2,q2})
def yHN(t:TA):TE:=λσ H Q=>t σ H λxs H1=>xs.length<=sizeLine/\∀p,H1 p=AK->Q (.ref p) (D6 H1 p (.tup xs))
def qP(t:TA):TE:=λσ H Q=>t σ H λxs H1=>xs.length<=sizeLine/\∀p,H1 p=AK->Q (.ref p) (D6 H1 p (.lst xs))
theorem yBH{x1}(h:PA X es t):PE X (.Tuple es x1 pos) (yHN t):=by
 intro AE s σ H Q I hq;refine wpAny_Tuple_spliced (GV (h pos AE s σ H _ I hq) λus s1 ⟨xs,H1,I1,r,z,q⟩=>{by rw[<-r.length];exact z,?_});have hf:H1 s1.heap.objs.size=AK:=I1.hok.fresh (AM _);refine{.ref s1.heap.objs.size,D6 H1 s1.heap.objs.size (.tup xs),I1.laid (t':=s1.toks) (λb u e=>AF _ e) (AM _) ?_,rfl,q _ hf};exact{z,us,r,{_,AX _ rfl,rfl,rfl,_,rfl}}
theorem mQ(h:PA X es t):PE X (.List es pos) (qP t):=by
 intro AE s σ H Q I hq;refine wpAny_List_spliced (GV (h pos AE s σ H _ I hq) λus s1 ⟨xs,H1,I1,r,z,q⟩=>{by rw[<-r.length];exact z,?_});have hf:H1 s1.heap.objs.size=AK:=I1.hok.fresh (AM _);refine{.ref s1.heap.objs.size,D6 H1 s1.heap.objs.size (.lst xs),I1.laid (t':=s1.toks) (λb u e=>AF _ e) (AM _) ?_,rfl,q _ hf};exact{z,us,0,r,AX _ rfl}
end
abbrev Sp:=List V->Hp->VK->XK->Prop
abbrev CXT:=List XC->Hp->AT->XK->AH->AT->Prop
structure Env0(P:CQ)(w:D3)(K:AC)(mg:CT->Option AH)(base:D4)(A:DQ)(outer:List XC)(s:AT)(H:Hp):Prop where
 tab:∀T q,TB K T q->∃ps,H T=AA (.tbl q ps)
 frames:A.frames=AA outer
 mod:Mod K mg base
 bs:∀b o,base.get? b=AA o->s.heap.get? b=AA o/\H b=AK
 bsz:base.objs.size<=s.heap.objs.size
 funs:s.heap.FunFrames base outer
 frf:∀b∈RA outer,H b=AK
 hok:HOk P w H s.heap
 bare:NJ s.gens
def CE(outer:List XC)(P:CQ)(w:D3)(H:Hp)(s:AT)(Q:VK)(u:AH)(s':AT):Prop :=
 ∃v H',s'.os=s.os/\NJ s'.gens/\Un (RA outer) [] H H' s.heap s'.heap/\HOk P w H' s'.heap/\RelV v u/\Q v H'
def CR(CX:CXT)(outer:List XC)(P:CQ)(w:D3)(H:Hp)(s:AT)(Q:VK)(E:XK)(r:Result)(s':AT):Prop :=
 match r with
 |.ok (.ret u)=>CE outer P w H s Q u s'
 |.ok _=>False
 |.error e=>CX outer H s E e s'
structure FnOk(P:CQ)(w:D3)(K:AC)(mg:CT->Option AH)(base:D4)(CX:CXT)(k:Nat)(f:AQ)(fd:JR)(ps:List CT)(sp:Sp):Prop where
 len:∀vs H Q E,sp vs H Q E->vs.length=ps.length
 run:∀(A:DQ) (outer:List XC) (s:AT) (H:Hp) (args:Args) (us:List AH) (vs:List V) (Q:VK) (E:XK),Room k A->Env0 P w K mg base A outer s H->UB s fd args (ps.zip us)->Vals vs us->sp vs H Q E ->
  HN (A1 P w) A (.call (.ref f) args) (CR CX outer P w H s Q E) s
variable{CX:CXT}{sp:Sp}
theorem FnOk.imp{K:AC}{Xt:Sp}(F:FnOk P w K mg base CX k f fd ps sp)
  (h:∀vs H Q E,Xt vs H Q E->sp vs H Q E):FnOk P w K mg base CX k f fd ps Xt :=
 {λvs H Q E q=>F.len vs H Q E (h _ _ _ _ q),λA outer s H args us vs Q E hr he hb hv hs=>F.run A outer s H args us vs Q E hr he hb hv (h _ _ _ _ hs)}
theorem Inv.env0(I:Inv X AE σ H s):Env0 X.prog X.w X.K X.mg X.base X.A X.stack s H :=
 {I.tab,I.ok.frames,I.ok.mod,I.bs,AZ I.ok.bsz I.sz,I.stack,I.stkFree,I.hok,I.bare}
theorem Inv.after{Q:VK}(I:Inv X AE σ H s)(h:CE X.stack X.prog X.w H s Q u s'):EP X AE σ Q u s':=by
 obtain⟨v,H',os,bare,un,hok,r,q⟩:=h;obtain⟨hh,g,d,t,Ig⟩:=s';obtain rfl:Ig=s.os:=os;exact{v,H',I.call (h':=hh) (g':=g) (d':=d) (t':=t) (ch:=[]) un hok bare (λb z=>absurd z 's'),r,q}
def rS(sp:Sp)(lI:List V)(E:XK)(t:TA):TE:=λσ H Q=>t σ H λvs H1=>sp (vs++lI) H1 Q E
def Binds(K:AC)(fd:JR)(ps:List CT)(ds:List AH):Prop :=
 ∀(s:AT) (us:List AH),K.In s.heap->(us++ds).length=ps.length->UB s fd {us,[]} (ps.zip (us++ds))
theorem Binds.all{K:AC}(h:∀us:List AH,us.length=ps.length->OA fd {us,[]}=pure (ps.zip us)):Binds K fd ps []:=λs us _ hl=>by
 rw[DJ] at hl ⊢;exact .of_eq (h us hl)
def xK(CX:CXT)(X:Cx)(E:XK):Prop:=∀(AE:List (AQ×IE)) (σ:St) (H:Hp) (s:AT) (e:AH) (s':AT),Inv X AE σ H s->CX X.stack H s E e s'->X.xe e s'
variable{vs:List V}
section
variable{lI:List V}{ds:List AH}{E:XK}{m:CT}{o:C8}{t:TA}
theorem yBI{Q:VK}(F:FnOk X.prog X.w X.K X.mg X.base CX k f fd ps sp)(hr:Room k X.A)(hb:Binds X.K fd ps ds)(hd:Vals lI ds)(hx:xK CX X E)
  (I:Inv X AE σ H s) (r:Vals vs us) (h:sp (vs++lI) H Q E):A0 (A1 X.prog X.w) X.A (call (.ref f) us) (EP X AE σ Q) X.xe s:=by
 have r2:Vals (vs++lI) (us++ds):=r.append hd;have hl:(us++ds).length=ps.length:=by rw[<-r2.length];exact F.len _ _ _ _ h
 refine SI (MA (F.run X.A X.stack s H {us,[]} (us++ds) (vs++lI) Q E hr I.env0 (hb s us I.kIn hl) r2 h) λr s' hq=>?_)
 cases r with
 |error e=>exact hx AE σ H s e s' I hq
 |ok fl =>
  cases fl with
  |ret u=>exact I.after hq
  |next=>exact HL hq
  |brk=>exact HL hq
  |cont=>exact HL hq
theorem sO(F:FnOk X.prog X.w X.K X.mg X.base CX k f fd ps sp)(hr:Room k X.A)(hg:Gl X x)(hm:X.mg x=AA (.ref f))(hk:EO X.K (.ref f)=AL)(hb:Binds X.K fd ps ds)(hd:Vals lI ds)(hx:xK CX X E)
  (ha:PA X (e::es) t) (SC:(x==("__debug__":CT))=AD:=by decide) (he:AO (e::es) X.env=(AD,eval e X.env)::AO es X.env:=by rfl) (JW:(DO pos (AO es X.env)).any (·.1)=AD:=by rfl) :
  PE X (.Call (.Name x p) (e::es) [] pos) (rS sp lI E t):=by
 intro AE s σ H Q I h;refine IA (pU I hg hm ?_ SC);refine OR (h₀:=X.base) I.ok.mod.kin hk (GV (ha pos AE s σ H _ I h) λus s1 ⟨vs,H1,I1,r,q⟩=>{I1.kIn,?_}) he JW;exact yBI F hr hb hd hx I1 r q
end
section
variable{ks:List CT}{E:XK}{m:CT}{o:C8}{kws:List OS}{t tk:TA}{nm:Option CT}{g:List AH->List AH->List AH}{gV:List V->List V->List V}
end
structure FnScope(N P:List CT)(sc:NG):Prop where
 kind:sc.kind=.function
 co:sc.isCoroutine=AD
 gen:sc.isGenerator=AD
 nd:N.Nodup
 pre:N.take P.length=P
 par:∀x∈P,sc.names.lookup x=AA .local\/sc.names.lookup x=AA .cell
 nofree:∀y∈sc.names,y.2≠.free
theorem Sc{kindOf:CT->Option T8}{x:CT}:∀{W8:List (CT×AH)} {m:CT->Option AH},(∀v,(x,v)∉W8)->bJ kindOf W8 m x=m x
 |[],_,_=>rfl
 |(n,v)::r,m,h=>by
  unfold bJ;rw[Sc λw hw=>h w (A4 _ hw)];split
  .have:x≠n:=by rintro rfl;exact h v A8
   simp[this]
  .rfl
theorem Sb{kindOf:CT->Option T8}{x:CT}:∀{W8:List (CT×AH)} {m:CT->Option AH},(∀v,(x,v)∉W8)->bK kindOf W8 m x=m x
 |[],_,_=>rfl
 |(n,v)::r,m,h=>by
  unfold bK;rw[Sb λw hw=>h w (A4 _ hw)];split
  .rfl
  .have:x≠n:=by rintro rfl;exact h v A8
   simp[this]
theorem Sa{kindOf:CT->Option T8}{x:CT}{v:AH}:∀{P:List CT} {vs:List AH} {i:Nat} {m:CT->Option AH},P.Nodup->P[i]?=AA x->vs[i]?=AA v->kindOf x=AA .local ->
  bJ kindOf (P.zip vs) m x=AA v
 |[],_,_,_,_,h,_,_=>by simp at h
 |_::_,[],_,_,_,_,h,_=>by simp at h
 |p::P,w::vs,0,m,nd,h1,h2,hk=>by
  simp at h1 h2;subst h1;subst h2;show bJ kindOf ((p,w)::P.zip vs) m p=_;unfold bJ;rw[Sc λv hv=>(ER.mp nd).1 (JB hv).1,if_pos hk];simp
 |p::P,w::vs,i+1,m,nd,h1,h2,hk=>by
  show bJ kindOf ((p,w)::P.zip vs) m x=_;unfold bJ;exact Sa (i:=i) (ER.mp nd).2 (by simpa using h1) (by simpa using h2) hk
theorem Rz{kindOf:CT->Option T8}{x:CT}{v:AH}:∀{P:List CT} {vs:List AH} {i:Nat} {m:CT->Option AH},P.Nodup->P[i]?=AA x->vs[i]?=AA v->kindOf x≠AA .local ->
  bK kindOf (P.zip vs) m x=AA v
 |[],_,_,_,_,h,_,_=>by simp at h
 |_::_,[],_,_,_,_,h,_=>by simp at h
 |p::P,w::vs,0,m,nd,h1,h2,hk=>by
  simp at h1 h2;subst h1;subst h2;show bK kindOf ((p,w)::P.zip vs) m p=_;unfold bK;rw[Sb λv hv=>(ER.mp nd).1 (JB hv).1,if_neg hk];simp
 |p::P,w::vs,i+1,m,nd,h1,h2,hk=>by
  show bK kindOf ((p,w)::P.zip vs) m x=_;unfold bK;exact Rz (i:=i) (ER.mp nd).2 (by simpa using h1) (by simpa using h2) hk
noncomputable def start(N:List CT)(vs:List V):St:=vs.map AA++BG (N.length-vs.length) AK
noncomputable def O1(CX:CXT)(P:CQ)(w:D3)(K:AC)(mg:CT->Option AH)(base:D4)(N:List CT)(qual:CT)(scope:NG)(f:AQ)(cd:AH)(A:DQ)(outer:List XC)(s:AT)(H:Hp)(E:XK):Cx where
 prog:=P
 w:=w
 K:=K
 mg:=mg
 base:=base
 A:=A.deeper (FY qual scope s.heap.objs.size f cd)
 N:=N
 s₀:=s
 H₀:=H
 env:=FY qual scope s.heap.objs.size f cd
 outer:=outer
 stack:=FY qual scope s.heap.objs.size f cd::outer
 ex:=[]
 calm:=AL
 fn:=λ_=>AL
 pn:=[]
 xe:=λe s'=>A0 (A1 P w) (A.deeper (FY qual scope s.heap.objs.size f cd)) (leaving (FY qual scope s.heap.objs.size f cd) e) (λ_ fP=>CX outer H s E e fP) (λe' fP=>CX outer H s E e' fP) s'
theorem Ql{sc:NG}(h:sc.names.lookup x=AA .cell):∃c,(cellsFrom n sc.names []).lookup x=AA c:=by
 have q:=MX sc.names n [] (.inl h);exact Option.isSome_iff_exists.mp q
theorem Ry{K:AC}{s1:AT}{E:XK}
  (S:FnScope N ps scope) (hd:A.handled=AK) (e0:Env0 P w K mg base A outer s H) (hl:vs.length=ps.length) (r:Vals vs us)
  (x:InCallC s s.heap.objs.size (bJ (FY qual scope s.heap.objs.size f cd).kindOf (ps.zip us) λ_=>AK) (cellsFrom (s.heap.objs.size+1) scope.names []) (bK (FY qual scope s.heap.objs.size f cd).kindOf (ps.zip us) λ_=>AK) s1) :
  Inv (O1 CX P w K mg base N qual scope f cd A outer s H E) [] (start N vs) H s1:=by
 have JW:ps.length<=N.length:=by have:=congrArg MD S.pre;rw[EZ] at this;lia
 obtain⟨h1,tk,rfl,hk⟩:=x.done;have uZ:∀b:AQ,b∉(O1 CX P w K mg base N qual scope f cd A outer s H E).ex:=λb z=>absurd (show b∈([]:List AQ) from z) 's'
 refine{{e0.tab,e0.mod,S.kind,rfl,rfl,AM _,λy z c h1 h2=>?_,λy hy=>?_,λy c _ h=>?_,λ_=>hd,XU e0.frames,.inr {rfl,rfl},λb z=>absurd z (uZ b),e0.bs,e0.bsz,λb _ _=>uZ b,λb z=>absurd z (uZ b),e0.funs,e0.frf},
  rfl,e0.bare,Un.kept hk,{_,x.toInCall.ns,λi y v h1 h2 h3=>?_},λy c h=>{_,x.cell y c h},e0.hok.fresh (AM _),λy c h=>?_,λp hp=>absurd (show p∈([]:List (AQ×IE)) from hp) 's',e0.hok.kept hk,?_}
 .exact name_of_addr x.apart (IR h1) (IR h2)
 .have hy:scope.names.lookup y=AA .cell\/scope.names.lookup y=AA .free:=hy
  rcases hy with hy|hy
  .exact Ql hy
  .exact absurd rfl (S.nofree _ (IR hy))
 .exact CW (x.above y c (IR h))
 .have hi:i<vs.length:=by
   unfold start at h2
   by_cases hi:i<vs.length
   .exact hi
   .rw[B0 (by simpa using hi)] at h2
    rw[DW] at h2;split at h2<;>cases h2
  have ha:vs[i]?=AA v:=by
   unfold start at h2;rw[CC (by simpa using hi),AU] at h2
   cases e:vs[i]? with
   |none=>rw[e] at h2;cases h2
   |some a=>rw[e] at h2;cases h2;rfl
  obtain⟨u,hu,rv⟩:=r.get ha
  have hp:ps[i]?=AA y:=by
   rw[<-S.pre,WI (AN hi (CY hl))];exact h1
  have Yh:ps.Nodup:=by rw[<-S.pre];exact S.nd.sublist (MC _ _)
  refine{u,rv,?_};rcases S.par y (C4 hp) with k|k
  .exact .inl {k,Sa Yh hp hu k}
  .obtain⟨c,e⟩:=Ql (n:=s.heap.objs.size+1) k
   refine .inr {.inl k,c,e,?_};have q:=x.cell y c e;rw[Rz Yh hp hu (by show scope.names.lookup y≠_;rw[k];decide)] at q;exact q
 .exact e0.hok.fresh (CW (x.above y c (IR h)))
 .unfold start
  show _=N.length;rw[BH,AJ,DC];lia
theorem Cb{K:AC}{dV kV SF G6:AH}
  {Z4:Array (Option AH)} {N ps:List CT} {sp:Sp} (lk:K.lookup f=AA {oc,od,.func (E7 name qual EW body scope dV kV SF pm an G6 ct),Z4}) (L9:ID K G6 qual=AL) (S:FnScope N ps scope)
  (len:∀vs H Q E,sp vs H Q E->vs.length=ps.length)
  (KR:∀(A:DQ) (outer:List XC) (s:AT) (H:Hp) (vs:List V) (Q:VK) (E:XK),Room k (A.deeper (FY qual scope s.heap.objs.size f G6))->sp vs H Q E ->
   ∃t,PSs (O1 CX P w K mg base N qual scope f G6 A outer s H E) body t/\t { nx:=λ_ H'=>Q .non H',rt:=Q } (start N vs) H) :
  FnOk P w K mg base CX (k+1) f (E7 name qual EW body scope dV kV SF pm an G6 ct) ps sp:=by
 refine{len,λA outer s H args us vs Q E hr e0 hb r bB=>?_};have hl:=len _ _ _ _ bB;have KX:K.In s.heap:=e0.mod.kin.keeps λb o e=>(e0.bs b o e).1;have Iz:s.heap.NoLimit:=e0.mod.nolimit.keeps λb o e=>(e0.bs b o e).1
 have vZ:∀y∈ps.zip us,scope.names.lookup y.1=AA .local\/(scope.names.lookup y.1=AA .cell/\((cellsFrom (s.heap.objs.size+1) scope.names []).lookup y.1).isSome=AL):=λ⟨n,v⟩ hy=>by
  rcases S.par n (JB hy).1 with q|q
  .exact .inl q
  .exact .inr {q,MX _ _ _ (.inl q)}
 refine gG hr.depth (KX _ _ lk) rfl S.co S.gen rfl (YT KX L9) (hb _ _ _ _ ?_);refine YG S.kind vZ λenv he s1 x=>?_;subst he;refine{Iz.keeps x.toInCall.keep,codeAny_func ?_};obtain⟨t,ht,hq⟩:=KR A outer s H vs Q E (hr.deeper _) bB;have I:Inv (O1 CX P w K mg base N qual scope f G6 A outer s H E) [] (start N vs) H s1:=Ry S hr.hd e0 hl r x;refine C7 (ht [] s1 (start N vs) H _ I hq) (λfl s' hs=>?_) λe s' hs=>hs
 have fin:∀{σ':St} {H':Hp} {v:V} {u:AH},Inv (O1 CX P w K mg base N qual scope f G6 A outer s H E) [] σ' H' s'->RelV v u->Q v H'->CE outer P w H s Q u s' :=
  λ{σ' H' v u} J rv q=>{v,H',J.os,J.bare,J.base,J.hok,rv,q}
 cases fl with
 |ret u =>
  obtain⟨v,σ',H',J,rv,q⟩:=hs;exact fin J rv q
 |next =>
  obtain⟨σ',H',J,q⟩:=hs;exact fin (v:=V.non) (u:=GK) J rfl q
 |brk =>
  obtain⟨_,_,_,q⟩:=hs;exact HL q
 |cont =>
  obtain⟨_,_,_,q⟩:=hs;exact HL q
variable{r:List V->Hp->VK->Prop}
section
variable{t:TA}{id T:String}
def z8(r:List V->Hp->VK->Prop)(t:TA):TE:=λσ H Q=>t σ H λvs H1=>r vs H1 Q
theorem yQ(hc:CallR X (.builtin id) r)(hg:Gl X x)(hm:X.mg x=AK)(hv:GL x=AA (.builtin id))(ha:PA X (e::es) t)(hn:x≠"__name__":=by decide)(SC:(x==("__debug__":CT))=AD:=by decide)
  (he:AO (e::es) X.env=(AD,eval e X.env)::AO es X.env:=by rfl) (JW:(DO pos (AO es X.env)).any (·.1)=AD:=by rfl):PE X (.Call (.Name x p) (e::es) [] pos) (z8 r t):=by
 intro AE s σ H Q I h;refine IA (j9 I hg hm hv ?_ hn SC);exact PyProof.Rows.callWith_builtin1 (GV (ha pos AE s σ H _ I h) (λus s1 q0=>by obtain⟨vs,H1,I1,r1,q1⟩:=q0;exact hc AE s1 σ H1 vs us Q I1 r1 q1)) he JW
theorem yV(hc:CallR X (.type T) r)(hg:Gl X x)(hm:X.mg x=AK)(hv:GL x=AA (.type T))(ha:PA X (e::es) t)(hn:x≠"__name__":=by decide)(SC:(x==("__debug__":CT))=AD:=by decide)
  (he:AO (e::es) X.env=(AD,eval e X.env)::AO es X.env:=by rfl) (JW:(DO pos (AO es X.env)).any (·.1)=AD:=by rfl):PE X (.Call (.Name x p) (e::es) [] pos) (z8 r t):=by
 intro AE s σ H Q I h;refine IA (j9 I hg hm hv ?_ hn SC);exact FT (GV (ha pos AE s σ H _ I h) (λus s1 q0=>by obtain⟨vs,H1,I1,r1,q1⟩:=q0;exact hc AE s1 σ H1 vs us Q I1 r1 q1)) he JW
end
end L2
variable{l:AQ}{ns:List Int}{ws:List AH}{vl vu:AH}{hi:Option Int}{v:AH}
namespace HT
open PySem PyProof.Rows
noncomputable def lexLt:List Int->List Int->Bool
 |[],[]=>AD
 |[],_::_=>AL
 |_::_,[]=>AD
 |x::xs,y::ys=>if x=y then lexLt xs ys else decide (x<y)
theorem zO0(x y:Int)(xs ys:List Int):lexLt (x::xs) (y::ys)=if x=y then lexLt xs ys else decide (x<y):=rfl
theorem zIR:lexLt [] []=AD:=rfl
theorem zHH(y:Int)(ys:List Int):lexLt [] (y::ys)=AL:=rfl
theorem zHI(x:Int)(xs:List Int):lexLt (x::xs) []=AD:=rfl
theorem zTM(A:DQ)(s:AT)(a:Int)(t:eE)(c:Int)(u:eE):∃e,SeqAt.EqAt A s (.int a t) (.int c u) e/\(e=AL↔a=c) :=
 {(a==c),SeqAt.EqAt.int_int a t c u,by simp}
theorem zTN(A:DQ)(s:AT)(a:Int)(t:eE)(c:Int)(u:eE)(prog:CQ)(w:D3)(E:AH->AT->Prop)(Q:AH->AT->Prop)(h:Q (.bool (decide (a<c))) s) :
  A0 (A1 prog w) A (richCompare .Lt (.int a t) (.int c u)) Q E s :=
 (PyProof.Rows.lt_int h:A0 (A1 prog w) A (EU .Lt (.int a t) (.int c u)) Q E s)
section
open PySem.SeqAt
open PySem.AutoSeq1 (wpAny_loadPart')
open PySem.MeetsSeq PySem.MeetsSeq2 PySem.MeetsSeq3
theorem zIS(l b:AQ)(items LP:Array AH)(n n2:Nat)(dd lK:Option AQ)(sl kO:Array (Option AH))(ns ms:List Int)(hi:GP items.toList ns)(hj:GP LP.toList ms) :
  Meets (FG.«tuple.__lt__» {[.ref l,.ref b],[]})
   (λ_ R s=>s.heap.get? l=AA { cls:=.type "tuple",dict:=dd,data:=.seq items n,slots:=sl }/\s.heap.get? b=AA { cls:=.type "tuple",dict:=lK,data:=.seq LP n2,slots:=kO } /\
    R (.ok (.ret (.bool (lexLt ns ms)))) s) :=
 .of_wp λprog w A R s h=>by
  obtain⟨hp,g,d,tk,os⟩:=s;obtain⟨hl,hb,h⟩:=h;have f2:=AutoSeq1.sub_tuple_tuple;have z1:items.size=ns.length:=by rw[<-hi.length];simp
  have z2:LP.size=ms.length:=by rw[<-hj.length];simp
  wp_walk using wpAny_loadPart' hl,wpAny_loadPart' hb,wpAny_forIn_list _ (λrest b s'=>b.1=AK/\s'={hp,g,d,tk,os}/\∃(vs ws:List AH) (rA rC:List Int),rest=vs.zip ws /\
   GP vs rA/\GP ws rC/\rA.length+LP.size=rC.length+items.size/\R (.ok (.ret (.bool (lexLt rA rC)))) {hp,g,d,tk,os}) _
  case turn =>
   rintro⟨y,x⟩ rest b s' ⟨dS,rfl,vs,ws,rA,rC,hz,Jl,Ar,EX,hR⟩
   cases Jl with
   |nil=>rw[List.zip_nil_left] at hz;cases hz
   |cons a t hvi' =>
    cases Ar with
    |nil=>rw[List.zip_nil_right] at hz;cases hz
    |cons c u hwi' =>
     rw[PU] at hz;injection hz with hyx hrest;injection hyx with hy hx;subst hy hx;rw[zO0] at hR;simp only[BB] at EX;obtain⟨e,he,wA⟩:=zTM A.in1 {hp,g,d,tk,os} a t c u;refine AB (he prog w _ _ ?_)
     cases e with
     |true =>
      rw[if_pos (wA.mp rfl)] at hR
      wp_walk
      exact{rfl,rfl,_,_,_,_,hrest,hvi',hwi',by lia,hR}
     |false =>
      rw[if_neg (λq=>absurd (wA.mpr q) CN)] at hR;have hri:=zTN A.in1 {hp,g,d,tk,os} a t c u prog w
      wp_walk using hri
      exact{_,rfl,by simpa using hR}
  case fin =>
   rintro⟨b1,b2⟩ s' ⟨dS,rfl,vs,ws,rA,rC,hz,Jl,Ar,EX,hR⟩;simp only at dS;subst dS
   have hv:lexLt rA rC=decide (items.size<LP.size):=by
    cases Jl with
    |nil =>
     cases Ar with
     |nil =>
      simp only[JC] at EX;rw[zIR];exact(decide_eq_false 'l').symm
     |cons c u hw =>
      simp only[JC,BB] at EX;rw[zHH];exact(decide_eq_true 'l').symm
    |cons a t hv =>
     cases Ar with
     |nil =>
      simp only[JC,BB] at EX;rw[zHI];exact(decide_eq_false 'l').symm
     |cons c u hw =>
      rw[PU] at hz;cases hz
   rw[hv] at hR
   wp_walk
   exact{_,rfl,by simpa[Builtin.Tuple.tupleCompareSizes] using hR}
  case h =>
   exact{rfl,rfl,items.toList,LP.toList,ns,ms,rfl,hi,hj,by lia,h}
end
theorem lt_tupInts{b:AQ}{LP:Array AH}{ms:List Int}(hl:QE s.heap l items)(hb:QE s.heap b LP)(hi:GP items.toList ns)(hj:GP LP.toList ms)
  (hu:A.units<GZ) (h:Q (.bool (lexLt ns ms)) s):A0 (A1 prog w) A (EU .Lt (.ref l) (.ref b)) Q E s:=by
 obtain⟨⟨cls,dd,data,sl⟩,ho,hc,n,hd⟩:=id hl;obtain⟨⟨wU,lK,data2,kO⟩,ZA,dR,n2,fW⟩:=id hb;simp only at hc hd dR fW;subst hc hd dR fW
 exact richCompare_meets_room (op:=.Lt) {_,ho,rfl} {_,ZA,rfl} PySem.F.slot_tuple_lt PySem.F.entry_tuple_lt (PySem.F.args_tuple_lt_2 _ _) (zIS l b items LP n n2 dd lK sl kO ns ms hi hj)
  {ho,ZA,show JA (lexLt ns ms)≠Value.notImplemented/\Q (.bool (lexLt ns ms)) s from{(λx=>nomatch x),h}} hu
theorem cat_tup{t b:AQ}{vs:List AH}(ht:QE s.heap t vs.toArray)(hb:QE s.heap b ws.toArray)(hv:vs≠[])
  (h1:ws=[]->Q (.ref t) s) (h2:ws≠[]->Q (.ref s.heap.objs.size) { s with heap:=s.heap.push { cls:=.type "tuple",data:=.seq (vs++ws).toArray } })
  (hsz:vs.length+ws.length<=sizeLine):A0 (A1 prog w) A (HE .Add (.ref t) (.ref b)) Q E s:=by
 obtain⟨⟨cls,dd,data,sl⟩,ho,hc,n,hd⟩:=id ht;obtain⟨⟨wU,lK,data2,kO⟩,ZA,dR,n2,fW⟩:=id hb;simp only at hc hd dR fW;subst hc hd dR fW;have e:vs.toArray++ws.toArray=(vs++ws).toArray:=by simp
 by_cases hw:ws=[]
 .exact TZ {_,ho,rfl} {_,ZA,rfl} VP aF MY MB (LS _ _)
   (tuple_addW1 t b vs.toArray ws.toArray n n2 dd lK sl kO (by simpa using hv) (by simp[hw])) {ho,ZA,h1 hw}
 .refine TZ {_,ho,rfl} {_,ZA,rfl} VP aF MY MB (LS _ _)
   (tuple_addW2 t b vs.toArray ws.toArray n n2 dd lK sl kO (by simpa using hv) (by simpa using hw) (by rw[AW,AW];exact hsz)) {ho,ZA,?_}
  rw[e];exact h2 hw
noncomputable def sIx(n d:Nat):Option Int->Nat
 |none=>d
 |some v=>if v<0 then(v+(n:Int)).toNat else min v.toNat n
theorem yBJ(n d:Nat)(hd:d<=n)(o:Option Int):sIx n d o<=n:=by
 cases o with
 |none=>exact hd
 |some v =>
  show(if v<0 then(v+(n:Int)).toNat else min v.toNat n)<=n
  by_cases hv:v<0
  .rw[if_pos hv];lia
  .rw[if_neg hv];exact Nat.min_le_right _ _
theorem Pj(v:Int)(n d:Nat):(if v<0 then max (v+(n:Int)) 0 else min v (n:Int))=((sIx n d (AA v):Nat):Int):=by
 show(if v<0 then max (v+(n:Int)) 0 else min v (n:Int))=(((if v<0 then(v+(n:Int)).toNat else min v.toNat n):Nat):Int)
 by_cases hv:v<0
 .simp only[if_pos hv];lia
 .simp only[if_neg hv];lia
theorem zO1(lo hi:Option Int)(n:Nat):KJ lo hi 1 (n:Int)=(((sIx n 0 lo:Nat):Int),((sIx n n hi:Nat):Int)):=by
 have h1:¬((1:Int)<0):=by lia
 unfold KJ;simp only[h1,if_false];refine lP ?_ ?_
 .cases lo with
  |none=>rfl
  |some v=>exact Pj v n 0
 .cases hi with
  |none=>rfl
  |some v=>exact Pj v n n
theorem zO2(i j:Nat):C5 (i:Int) (j:Int) 1=j-i:=by
 unfold C5;have h1:(1:Int)>0:=by lia
 simp only[h1,if_true,Y0];split<;>lia
theorem slicePart_{o:Option Int}{Q:Option Int->AT->Prop}(p:QF v o)(h:Q o s):A0 (A1 prog w) A (Builtin.Slice.slicePartIndex v) Q E s:=by
 cases p with
 |none=>exact QB h
 |int i t=>exact slicePart_int h
theorem sliceApplied_gen{sl:AQ}{lo:Option Int}{Q:Int×Int×Nat->AT->Prop}(hs:s.heap.IsSliceOf sl vl vu .none)(pl:QF vl lo)(pu:QF vu hi)
  (h:Q (((sIx n 0 lo:Nat):Int),1,sIx n n hi-sIx n 0 lo) s):A0 (A1 prog w) A (ET (.ref sl) (pure (n:Int))) Q E s:=by
 obtain⟨os,V9,UN,RC⟩:=id hs;unfold ET KI;refine AB (AB (CG V9 RC (x:=vl) rfl (AB (CG V9 RC (x:=vu) rfl (AB (CG V9 RC (x:=.none) rfl (wpAny_pure ?_)))))));refine AB (QB ?_);show A0 _ _ (if((1:Int)==0)=AL then _ else _) _ _ s;rw[if_neg 'd'];refine AB (slicePart_ pl (AB (slicePart_ pu (AB (wpAny_pure ?_)))));show A0 _ _ (match KJ lo hi 1 (n:Int) with|(lo,hi)=>pure (lo,(1:Int),C5 lo hi 1)) _ _ s;rw[zO1 lo hi n];show A0 _ _ (pure (((sIx n 0 lo:Nat):Int),(1:Int),C5 ((sIx n 0 lo:Nat):Int) ((sIx n n hi:Nat):Int) 1)) _ _ s;rw[zO2];exact wpAny_pure h
theorem zTO(xs:Array AH)(i k:Nat):((CI k).filterMap λ(m:Nat)=>xs[((i:Int)+(m:Int) * 1).toNat]?).toArray=((xs.toList.drop i).take k).toArray:=by
 have e:(λ(m:Nat)=>xs[((i:Int)+(m:Int) * 1).toNat]?)=λm=>xs[i+m]?:=by
  funext m
  have:((i:Int)+(m:Int) * 1).toNat=i+m:=by lia
  rw[this]
 rw[e];have:=pick_run xs i k;rw[LJ] at this;have e2:((λx=>xs[x]?)∘λx=>i+x)=λm=>xs[i+m]?:=rfl;rw[e2] at this;rw[this]
theorem getItem_tuple_cut{t sl:AQ}{lo:Option Int}(ht:QE s.heap t items)(hs:s.heap.IsSliceOf sl vl vu .none)(pl:QF vl lo)(pu:QF vu hi)
  (hw:¬(sIx items.size 0 lo=0/\sIx items.size items.size hi=items.size))
  (h:Q (.ref s.heap.objs.size) { s with heap:=s.heap.push { cls:=.type "tuple",data:=.seq ((items.toList.drop (sIx items.size 0 lo)).take (sIx items.size items.size hi-sIx items.size 0 lo)).toArray } })
  (hsz:items.size<=sizeLine):A0 (A1 prog w) A (K4 (.ref t) (.ref sl)) Q E s:=by
 have LF:sizeOk (.seq ((items.toList.drop (sIx items.size 0 lo)).take (sIx items.size items.size hi-sIx items.size 0 lo)).toArray):=by
  show((items.toList.drop (sIx items.size 0 lo)).take (sIx items.size items.size hi-sIx items.size 0 lo)).toArray.size<=sizeLine;rw[AW,EZ,RM,KO];lia
 have hj:sIx items.size items.size hi<=items.size:=yBJ _ _ (AM _) hi;obtain⟨os,V9,UN,RC⟩:=id hs;have oN:s.TypeIs (.ref sl) "slice":={os,V9,UN};unfold K4
 try with_reducible refine CZ ?_
 first|refine AB (wpAny_pure ?_)|skip
 refine AB (NE ht.typeIs 'd' ?_)
 refine AB (CJ (name:=EE "__getitem__") ht.typeIs CD
  (C3 CD ht.typeIs LY ?_ (MU _ _)))
 show A0 _ _ (HM (.ref t) >>= _) _ _ s;refine AB (RG ht ?_);refine AB (OM oN ?_);rw[if_pos 'd'];refine AB (sliceApplied_gen hs pl pu ?_)
 have hno:¬((((sIx items.size 0 lo:Nat):Int)==0&&(1:Int)==1&&(sIx items.size items.size hi-sIx items.size 0 lo)==items.size)=AL):=by
  intro q;rw[EB,EB] at q;have q1:((sIx items.size 0 lo:Nat):Int)=0:=eq_of_beq q.1.1;have q2:sIx items.size items.size hi-sIx items.size 0 lo=items.size:=eq_of_beq q.2;exact hw {by lia,by lia}
 show A0 _ _ (if(((sIx items.size 0 lo:Nat):Int)==0&&(1:Int)==1&&(sIx items.size items.size hi-sIx items.size 0 lo)==items.size)=AL then _ else _) _ _ s;rw[if_neg hno,zTO]
 first
  |exact AB (m:=CH _) (BY (wpAny_pure {_,rfl,wpAny_pure h}) LF)
  |exact AB (m:=CH _) (BY (AB (wpAny_pure (wpAny_pure {_,rfl,wpAny_pure h}))) LF)
  |exact AB (AB (m:=CH _) (BY (wpAny_pure (wpAny_pure {_,rfl,wpAny_pure h})) LF))
  |exact AB (AB (m:=CH _) (BY (wpAny_pure {_,rfl,wpAny_pure h}) LF))
end HT
variable{X:L2.Cx}{te ta tv:L2.TE}{p2 GW:gK}{xs ys zs:List L2.V}{σ:L2.St}{H H':L2.Hp}{r:List L2.V->L2.Hp->L2.VK->Prop}{y v:L2.V}{kvs:List (List L2.Key×L2.V)}{kM:List (L2.TE×L2.TE)}{tb:L2.TE}
namespace L2
open PySem PySem.Spec PyProof.Rows
abbrev TO:=St->Hp->(Option Int->Hp->Prop)->Prop
def PO(X:Cx)(e:Option C8)(t:TO):Prop :=
 ∀(AE:List (AQ×IE)) (s:AT) (σ:St) (H:Hp) (Q:Option Int->Hp->Prop),Inv X AE σ H s->t σ H Q ->
  A0 (A1 X.prog X.w) X.A (evalPart e X.env) (λu s'=>∃o H',Inv X AE σ H' s'/\QF u o/\Q o H') X.xe s
def yE3(t:TE):TO:=λσ H Q=>t σ H λx H1=>∃i,x=.int i/\Q (AA i) H1
theorem pY:∀{us:List AH},Vals (ns.map V.int) us->GP us ns:=by
 induction ns with
 |nil=>intro us r;rw[NH] at r;cases r;exact .nil
 |cons n ns ih =>
  intro us r;rw[AV] at r
  cases r with
  |cons r1 r2 =>
   obtain⟨t,e⟩:=r1;subst e;exact .cons n t (ih r2)
section
variable{lo hi:Option C8}{tl th:TO}
theorem zXM(h:PE X e te):PO X (AA e) (yE3 te):=by
 intro AE s σ H Q I hw;rw[aG];refine GV (h AE s σ H _ I hw) λu s1 q0=>?_;obtain⟨x,H1,I1,r1,q1⟩:=q0;obtain⟨i,rfl,q⟩:=q1;obtain⟨t,rfl⟩:=r1;exact{AA i,H1,I1,.int i t,q}
def SlR(X:Cx)(r:V->Option Int->Option Int->Hp->VK->Prop):Prop :=
 ∀(AE:List (AQ×IE)) (s:AT) (σ:St) (H:Hp) (x:V) (v vl vu:AH) (lo hi:Option Int) (sl:AQ) (Q:VK),Inv X AE σ H s->RelV x v->s.heap.IsSliceOf sl vl vu .none->QF vl lo->QF vu hi->r x lo hi H Q ->
  ∃T id,typeLookup (.type T) "__getitem__"=pure (AA (.builtin id))/\s.TypeIs v T/\A0 (A1 X.prog X.w) X.A (K4 v (.ref sl)) (EP X AE σ Q) X.xe s
theorem SlR.or{r r':V->Option Int->Option Int->Hp->VK->Prop}(h:SlR X r)(h':SlR X r'):SlR X (λx lo hi H Q=>r x lo hi H Q\/r' x lo hi H Q):=by
 intro AE s σ H x v vl vu lo hi sl Q I rx hs pl pu q;rcases q with q|q
 .exact h AE s σ H x v vl vu lo hi sl Q I rx hs pl pu q
 .exact h' AE s σ H x v vl vu lo hi sl Q I rx hs pl pu q
def tSl(r:V->Option Int->Option Int->Hp->VK->Prop)(te:TE)(tl th:TO):TE:=λσ H Q=>te σ H λx H1=>tl σ H1 λl H2=>th σ H2 λu H3=>r x l u H3 Q
theorem zTP{r:V->Option Int->Option Int->Hp->VK->Prop}(hr:SlR X r)(he:PE X e te)(hl:PO X lo tl)(hu:PO X hi th):PE X (.Subscript e (.Slice lo hi AK p2) pos) (tSl r te tl th):=by
 intro AE s σ H Q I h;refine YO (GV (he AE s σ H _ I h) λv s1 ⟨x,H1,I1,r1,q1⟩=>?_);refine jC (GV (hl AE s1 σ H1 _ I1 q1) λvl s2 ⟨l,H2,I2,pl,q2⟩=>GV (hu AE s2 σ H2 _ I2 q2) λvu s3 ⟨u,H3,I3,pu,q3⟩=>?_);rw[aH];refine wpAny_pure ?_;have I4:Inv X AE σ H3 { s3 with heap:=s3.heap.push { cls:=.type "slice",data:=.fields #[vl,vu,.none] } }:=I3.kept (t':=s3.toks) λb ob q=>AF _ q;obtain⟨T,id,hT,ht,hg⟩:=hr AE { s3 with heap:=s3.heap.push { cls:=.type "slice",data:=.fields #[vl,vu,.none] } } σ H3 x v vl vu l u s3.heap.objs.size Q I4 r1 (M5 ..) pl pu q3;show A0 (A1 X.prog X.w) X.A (RH e (.Slice lo hi AK p2) v (.ref s3.heap.objs.size)) (EP X AE σ Q) X.xe { s3 with heap:=s3.heap.push { cls:=.type "slice",data:=.fields #[vl,vu,.none] } };exact YH (ops:=[.ref s3.heap.objs.size,v]) ht hT hg (by with_unfolding_all rfl)
noncomputable def Y1(xs:List V)(lo hi:Option Int):List V:=(xs.drop (HT.sIx xs.length 0 lo)).take (HT.sIx xs.length xs.length hi-HT.sIx xs.length 0 lo)
theorem Ts(xs:List V)(lo hi:Option Int):(Y1 xs lo hi).length<=xs.length:=by
 unfold Y1;rw[EZ,RM];lia
def yHO(K:AC):V->Option Int->Option Int->Hp->VK->Prop:=λx lo hi H Q=>∃a xs,x=.ref a/\SqT K H a xs /\
 ¬(HT.sIx xs.length 0 lo=0/\HT.sIx xs.length xs.length hi=xs.length)/\∀p,H p=AK->Q (.ref p) (D6 H p (.tup (Y1 xs lo hi)))
theorem yBK:SlR X (yHO X.K):=by
 intro AE s σ H x v vl vu lo hi sl Q I rx hs pl pu h;obtain⟨a,xs,rfl,hx,hw,q⟩:=h;cases rx;obtain⟨BZ,r,ht,hz⟩:=I.tuple hx;have EX:BZ.toArray.size=xs.length:=by rw[AW];exact r.length.symm
 refine{"tuple",_,CD.lookup,ht.typeIs,?_};refine HT.getItem_tuple_cut ht hs pl pu (by rw[EX];exact hw) ?_ (by rw[EX];exact hz);rw[EX];refine{.ref s.heap.objs.size,_,I.laid (t':=s.toks) (o:=.tup (Y1 xs lo hi)) (λb ob q=>AF _ q) (AM _) ?_,rfl,q _ (I.hok.fresh (AM _))};exact{AZ (Ts xs lo hi) hz,_,(r.drop (HT.sIx xs.length 0 lo)).take (HT.sIx xs.length xs.length hi-HT.sIx xs.length 0 lo),IsTupP.new _ _}
def Us(K:AC):R2:=λx y H Q=>∃a b ns ms,x=.ref a/\y=.ref b/\SqT K H a (ns.map V.int)/\SqT K H b (ms.map V.int)/\Q (.bl (HT.lexLt ns ms)) H
theorem yBL(hu:X.A.units<GZ):OpR X (EU .Lt) (Us X.K):=by
 intro AE s σ H x y v u Q I rx ry h;obtain⟨a,b,ns,ms,rfl,rfl,ha,hb,q⟩:=h;cases rx;cases ry;obtain⟨BZ,r1,p1,_⟩:=I.tuple ha;obtain⟨L7,r2,p2,_⟩:=I.tuple hb;have i1:GP BZ.toArray.toList ns:=pY r1;have i2:GP L7.toArray.toList ms:=pY r2;exact HT.lt_tupInts p1 p2 i1 i2 hu {.bl (HT.lexLt ns ms),H,I,rfl,q}
theorem Vals.nil_iff(r:Vals xs us):us=[]↔xs=[]:=by
 cases r with
 |nil=>simp
 |cons _ _=>simp
end
noncomputable def XI(n:Nat)(i:Int):Option Nat:=if 0<=i then(if i<n then AA i.toNat else AK) else if -(n:Int)<=i then AA (i+n).toNat else AK
def atI(xs:List α)(i:Int):Option α:=(XI xs.length i).bind λj=>xs[j]?
theorem Pi{i:Int}(h:XI n i=AA j):seqIndex? i n=AA j/\j<n/\-(n:Int)<=i/\i<n:=by
 unfold XI at h
 by_cases h0:0<=i
 .rw[if_pos h0] at h
  by_cases h1:i<n
  .rw[if_pos h1] at h
   have e:i.toNat=j:=BL h;exact{by rw[WB h0 h1,e],by lia,by lia,h1}
  .rw[if_neg h1] at h;cases h
 .rw[if_neg h0] at h
  by_cases h1:-(n:Int)<=i
  .rw[if_pos h1] at h
   have e:(i+n).toNat=j:=BL h;exact{by rw[seqIndex_neg 'l' h1,e],by lia,h1,by lia}
  .rw[if_neg h1] at h;cases h
theorem Dm{xs:List α}{i:Int}{v:α}(h:atI xs i=AA v):∃j,seqIndex? i xs.length=AA j/\xs[j]?=AA v/\j<xs.length/\-(xs.length:Int)<=i/\i<xs.length:=by
 unfold atI at h
 cases e:XI xs.length i with
 |none=>rw[e] at h;cases h
 |some j =>
  rw[e] at h;obtain⟨h1,h2,h3,h4⟩:=Pi e;exact{j,h1,h,h2,h3,h4}
theorem Ph{xs:List α}{v:α}(h:xs[j]?=AA v):atI xs (j:Int)=AA v:=by
 have hj:j<xs.length:=(AR.mp h).1
 have e:XI xs.length (j:Int)=AA j:=by
  unfold XI;rw[if_pos (Int.natCast_nonneg _),if_pos 'l'];simp
 unfold atI;rw[e];exact h
theorem zTQ(xs:List α)(v:α):atI (xs++[v]) (-1)=AA v:=by
 have hl:(xs++[v]).length=xs.length+1:=by simp
 have e:XI (xs++[v]).length (-1)=AA xs.length:=by
  unfold XI;rw[hl,if_neg 'd',if_pos 'l']
  congr 1
  lia
 unfold atI;rw[e];show(xs++[v])[xs.length]?=AA v;simp
def Pg(b:C8):Prop:=∀o i,subscripted b AD o i=operate [o,i] (K4 o i)
def IxR(X:Cx)(r:R2):Prop :=
 ∀(JS O6:C8) (AE:List (AQ×IE)) (s:AT) (σ:St) (H:Hp) (x y:V) (v u:AH) (Q:VK),Inv X AE σ H s->RelV x v->RelV y u->r x y H Q ->
  subscripted O6 AD v u=operate [v,u] (K4 v u)->A0 (A1 X.prog X.w) X.A (RH JS O6 v u) (EP X AE σ Q) X.xe s
def Hc(X:Cx)(id:String)(r:V->List V->Hp->VK->Prop):Prop :=
 ∀(AE:List (AQ×IE)) (s:AT) (σ:St) (H:Hp) (x:V) (xs:List V) (v:AH) (us:List AH) (Q:VK),Inv X AE σ H s->RelV x v->Vals xs us->r x xs H Q ->
  A0 (A1 X.prog X.w) X.A (call (.builtin id) (v::us)) (EP X AE σ Q) X.xe s
section
variable{a b:C8}
theorem IxR.or{r r':R2}(h:IxR X r)(h':IxR X r'):IxR X (λx y H Q=>r x y H Q\/r' x y H Q):=by
 intro JS O6 AE s σ H x y v u Q I rx ry q hs;rcases q with q|q
 .exact h JS O6 AE s σ H x y v u Q I rx ry q hs
 .exact h' JS O6 AE s σ H x y v u Q I rx ry q hs
theorem Ca{r:R2}(hr:IxR X r)(ha:PE X a ta)(hb:PE X b tb)(hs:Pg b):PE X (.Subscript a b pos) (kJ r ta tb):=by
 intro AE s σ H Q I h;exact YO (Gf ha hb I h λv u s2 x y H2 I2 rx ry q=>hr a b AE s2 σ H2 x y v u Q I2 rx ry q (hs _ _))
def Ur(K:AC):R2:=λx y H Q=>∃p xs i v,x=.ref p/\y=.int i/\SqL K H p xs/\atI xs i=AA v/\Q v H
def Uq(K:AC):R2:=λx y H Q=>∃p xs i v,x=.ref p/\y=.int i/\SqT K H p xs/\atI xs i=AA v/\Q v H
def Up:R2:=λx y H Q=>∃z i c,x=.str z/\y=.int i/\z.length<=sizeLine/\atI z.cps.toList i=AA c/\Q (.str {#[c]}) H
theorem Y6:IxR X (Ur X.K):=by
 intro JS O6 AE s σ H x y v u Q I rx ry h hs;obtain⟨p,xs,i,z,rfl,rfl,hq,he,q⟩:=h;cases rx;obtain⟨t,rfl⟩:=ry;obtain⟨BZ,r,pl,hz⟩:=I.list hq;obtain⟨j,h1,h2,h3,h4,h5⟩:=Dm he;obtain⟨w,ew,LN⟩:=r.get h2;have hl:=r.length;have hn:=j8;have fin:EP X AE σ Q w s:={z,H,I,LN,q}
 by_cases h0:0<=i
 .have hj:i.toNat=j:=by
   rw[WB h0 h5] at h1;exact BL h1
  exact item_listR pl.isList h0 'l' (by rw[hj];simpa using ew) fin hs
 .have hj:(i+(BZ.toArray.size:Int)).toNat=j:=by
   rw[seqIndex_neg 'l' h4] at h1;rw[AW,<-hl];exact BL h1
  exact eC (x:=w) pl.isList.typeIs TX.lookup
   (wpAny_getItem_list_neg (Q:=λr s'=>r=w/\EP X AE σ Q r s') pl.isList 'l' (by rw[AW]<;>lia) 'l' (by rw[hj];simpa using ew) {rfl,fin}) hs
theorem mZ:IxR X (Uq X.K):=by
 intro JS O6 AE s σ H x y v u Q I rx ry h hs;obtain⟨p,xs,i,z,rfl,rfl,hq,he,q⟩:=h;cases rx;obtain⟨t,rfl⟩:=ry;obtain⟨BZ,r,pl,hz⟩:=I.tuple hq;obtain⟨j,h1,h2,h3,h4,h5⟩:=Dm he;obtain⟨w,ew,LN⟩:=r.get h2;have hl:=r.length;have hn:=j8;have fin:EP X AE σ Q w s:={z,H,I,LN,q}
 exact eC (x:=w) pl.typeIs slot_tuple_getitem.lookup
  (getItem_tuple (j:=j) (Q:=λr s'=>r=w/\EP X AE σ Q r s') pl 'l' 'l' (by rw[AW,<-hl];exact h1) (by simpa using ew) {rfl,fin}) hs
theorem yBM:IxR X Up:=by
 intro JS O6 AE s σ H x y v u Q I rx ry h hs;obtain⟨z,i,c,rfl,rfl,hz,he,q⟩:=h;obtain⟨t,rfl⟩:=rx;obtain⟨t',rfl⟩:=ry;obtain⟨j,h1,h2,h3,h4,h5⟩:=Dm he;have hl:z.cps.toList.length=z.length:=by simp[Str.length]
 rw[hl] at h1 h4 h5;have hn:=j8
 exact YH (typeIs_str s z t) slot_str_getitem.lookup (getItem_str (c:=c) (by
  have e1:decide (i < -(2 ^ 63:Int))=AD:=decide_eq_false 'l';have e2:decide (i>=2 ^ 63)=AD:=decide_eq_false 'l'
  rw[e1,e2,Bool.or_false]) (by rw[h1];simpa using h2) {.str {#[c]},H,I.tok _,{_,rfl},q}) hs
def Wr(K:AC):R2:=λx y H Q=>Ur K x y H Q\/Uq K x y H Q\/Up x y H Q
theorem nA:IxR X (Wr X.K):=Y6.or (mZ.or yBM)
theorem zO3(BZ:List AH)(n j:Nat)(u:AH):DD (·.setIfInBounds j u) { cls:=.type "list",data:=.seq BZ.toArray n }={ cls:=.type "list",data:=.seq (BZ.set j u).toArray n }:=by
 simp[DD]
theorem Inv.lst{AE:List (AQ×IE)}{σ:St}{H:Hp}{s:AT}{p:AQ}{xs:List V}(I:Inv X AE σ H s)(h:H p=AA (.lst xs)) :
  ∃(BZ:List AH) (n:Nat),Vals xs BZ/\s.heap.get? p=AA { cls:=.type "list",data:=.seq BZ.toArray n }/\xs.length<=sizeLine:=by
 obtain⟨z,BZ,n,r,e⟩:=I.hok p _ h;exact{BZ,n,r,e,z}
theorem Inv.lstUpd{p:AQ}{N6:List AH}{n':Nat}{f:IE->IE}(I:Inv X AE σ H s)(h:H p=AA (.lst xs))
  (ho:s.heap.get? p=AA { cls:=.type "list",data:=.seq BZ.toArray n }) (hf:f { cls:=.type "list",data:=.seq BZ.toArray n }={ cls:=.type "list",data:=.seq N6.toArray n' }) (r:Vals ys N6) (hz:ys.length<=sizeLine) (t:Nat) :
  Inv X AE σ (D6 H p (.lst ys)) { s with heap:=s.heap.update p f,toks:=t }:=by
 have e:(s.heap.update p f).get? p=AA { cls:=.type "list",data:=.seq N6.toArray n' }:=by
  rw[N3 f ho (by rw[hf]<;>rfl),hf]
 refine I.write (x:=p) (e:=p) (by rw[h];trivial) (.inl rfl) (λb u hb q=>(XT _ _ (E8 hb)).trans q) {_,e} ?_;exact{hz,N6,n',r,e}
def yE4:V->V->V->Hp->(Hp->Prop)->Prop:=λo i v H Q=>∃p xs k j,o=.ref p/\i=.int k/\H p=AA (.lst xs)/\XI xs.length k=AA j/\Q (D6 H p (.lst (xs.set j v)))
theorem zTR:Uw X yE4:=by
 intro AE s σ H o i v ov iv u Q I ro ri rv h;obtain⟨p,xs,k,j,rfl,rfl,hp,hj,q⟩:=h;cases ro;obtain⟨t,rfl⟩:=ri;obtain⟨BZ,n,r,ho,hz⟩:=I.lst hp;obtain⟨h1,h2,h3,h4⟩:=Pi hj;have hl:=r.length;have hn:=j8
 have I':Inv X AE σ (D6 H p (.lst (xs.set j v))) { s with heap:=s.heap.update p (DD (·.setIfInBounds j u)) } :=
  I.lstUpd hp ho (zO3 BZ n j u) (r.set rv j) (by rw[B9];exact hz) s.toks
 by_cases h0:0<=k
 .have hk:k.toNat=j:=by
   rw[WB h0 h4] at h1;exact BL h1
  exact PySem.W.ki_setAt ho h0 'l' (by rw[AW,<-hl];exact h4) (by rw[hk];exact{_,I',q})
 .have hk:(k+(BZ.toArray.size:Int)).toNat=j:=by
   rw[seqIndex_neg 'l' h3] at h1;rw[AW,<-hl];exact BL h1
  exact PySem.W.ki_setBack ho 'l' (by rw[AW,<-hl];exact h3) 'l' (by rw[hk];exact{_,I',q})
theorem zKP(lo hi:Option Int)(n:Nat):(HD lo hi AK n).1=((HT.sIx n 0 lo:Nat):Int)/\(HD lo hi AK n).2.1=((HT.sIx n n hi:Nat):Int)/\(HD lo hi AK n).2.2=1:=by
 refine{?_,?_,rfl}
 .cases lo with
  |none=>simp[HD,HT.sIx]
  |some i =>
   simp only[HD,HT.sIx,bP,show(1:Int)>0 by decide,if_true]
   by_cases h:i<0
   .simp only[h,if_true]<;>lia
   .simp only[h,if_false]<;>lia
 .cases hi with
  |none=>simp[HD,HT.sIx]
  |some i =>
   simp only[HD,HT.sIx,bP,show(1:Int)>0 by decide,if_true]
   by_cases h:i<0
   .simp only[h,if_true]<;>lia
   .simp only[h,if_false]<;>lia
theorem zIT(BZ:List AH)(lo hi:Option Int):bG BZ.toArray lo hi AK=((BZ.drop (HT.sIx BZ.length 0 lo)).take (HT.sIx BZ.length BZ.length hi-HT.sIx BZ.length 0 lo)).toArray:=by
 obtain⟨h1,h2,h3⟩:=zKP lo hi BZ.toArray.size;unfold bG;rw[h1,h2,h3];simp only[sliceRange_one,pick_run,AW]<;>rfl
def yHP(K:AC):V->Option Int->Option Int->Hp->VK->Prop:=λx lo hi H Q=>∃a xs,x=.ref a/\SqL K H a xs/\∀p,H p=AK->Q (.ref p) (D6 H p (.lst (Y1 xs lo hi)))
theorem zXO:SlR X (yHP X.K):=by
 intro AE s σ H x v vl vu lo hi sl Q I rx hs pl pu h;obtain⟨a,xs,rfl,hx,q⟩:=h;cases rx;obtain⟨BZ,r,ht,hz⟩:=I.list hx;have EX:=r.length;refine{"list",_,TX.lookup,ht.isList.typeIs,?_};refine aB ht.isList hs pl pu .none 's' ?_ (by rw[AW]<;>lia);rw[zIT,<-EX];refine{.ref s.heap.objs.size,_,I.laid (t':=s.toks) (o:=.lst (Y1 xs lo hi)) (λb ob q=>AF _ q) (AM _) ?_,rfl,q _ (I.hok.fresh (AM _))};exact{AZ (Ts xs lo hi) hz,_,0,(r.drop (HT.sIx xs.length 0 lo)).take (HT.sIx xs.length xs.length hi-HT.sIx xs.length 0 lo),AX _ rfl}
theorem U2:CallR X (.builtin "len") (λxs H Q=>∃p ys,xs=[.ref p]/\(SqL X.K H p ys\/SqT X.K H p ys)/\Q (.int ys.length) H):=by
 intro AE s σ H xs us Q I r h;obtain⟨p,ys,rfl,hq,q⟩:=h;obtain⟨u,rfl,rx⟩:=ZV r;cases rx;have hn:=j8;rcases hq with hq|hq
 .obtain⟨BZ,r',pl,hz⟩:=I.list hq
  have EX:=r'.length;exact Calls.call_len_list pl.isList (by simp only[AW]<;>lia) {.int ys.length,H,I.tok _,{s.toks+1,by rw[AW,EX]},q}
 .obtain⟨BZ,r',pl,hz⟩:=I.tuple hq
  have EX:=r'.length;exact len_tuple pl (by simp only[AW]<;>lia) {.int ys.length,H,I.tok _,{s.toks+1,by rw[AW,EX]},q}
theorem U1:CallR X (.builtin "len") (λxs H Q=>∃z,xs=[.str z]/\z.length<=sizeLine/\Q (.int z.length) H):=by
 intro AE s σ H xs us Q I r h;obtain⟨z,rfl,hz,q⟩:=h;obtain⟨u,rfl,t,rfl⟩:=ZV r;have hn:=j8;exact len_str 'l' {.int z.length,H,I.tok _,{_,rfl},q}
theorem CallR.or{f:AH}{r':List V->Hp->VK->Prop}(h:CallR X f r)(h':CallR X f r'):CallR X f (λxs H Q=>r xs H Q\/r' xs H Q):=by
 intro AE s σ H xs us Q I rs q;rcases q with q|q
 .exact h AE s σ H xs us Q I rs q
 .exact h' AE s σ H xs us Q I rs q
theorem U0:CallR X (.type "list") (λxs H Q=>∃p ys,xs=[.ref p]/\(SqL X.K H p ys\/SqT X.K H p ys)/\∀l,H l=AK->Q (.ref l) (D6 H l (.lst ys))):=by
 intro AE s σ H xs us Q I r h;obtain⟨p,ys,rfl,hq,q⟩:=h;obtain⟨u,rfl,rx⟩:=ZV r;cases rx
 have fin:∀(BZ:List AH),Vals ys BZ->ys.length<=sizeLine->∀(h':D4) (c':Nat),(∀b o',s.heap.get? b=AA o'->h'.get? b=AA o') ->
   h'.get? s.heap.objs.size=AA { cls:=.type "list",dict:=AK,data:=.seq BZ.toArray c',slots:=#[] }->EP X AE σ Q (.ref s.heap.objs.size) { s with heap:=h' }:=λBZ r' hz h' c' kp e =>
  {.ref s.heap.objs.size,_,I.laid (t':=s.toks) kp (AM _) (show ObjOk X.prog X.w _ h' _ (.lst ys) from{hz,BZ,c',r',e}),rfl,q _ (I.hok.fresh (AM _))}
 rcases hq with hq|hq
 .obtain⟨BZ,r',pl,hz⟩:=I.list hq
  have EX:=r'.length;obtain⟨o,ho,hc,n,hd⟩:=pl.isList;exact call_list_seq p (.inl rfl) ho hc hd (λh' c' kp e=>fin BZ r' hz h' c' kp e) (by simp only[AW]<;>lia)
 .obtain⟨BZ,r',pl,hz⟩:=I.tuple hq
  have EX:=r'.length;obtain⟨o,ho,hc,n,hd⟩:=pl;exact call_list_seq p (.inr rfl) ho hc hd (λh' c' kp e=>fin BZ r' hz h' c' kp e) (by simp only[AW]<;>lia)
theorem zIU:CallR X (.type "tuple") (λxs H Q=>∃p ys,xs=[.ref p]/\((SqL X.K H p ys/\∀l,H l=AK->Q (.ref l) (D6 H l (.tup ys)))\/(SqT X.K H p ys/\Q (.ref p) H))):=by
 intro AE s σ H xs us Q I r h;obtain⟨p,ys,rfl,h⟩:=h;obtain⟨u,rfl,rx⟩:=ZV r;cases rx;rcases h with⟨hq,q⟩|⟨hq,q⟩
 .obtain⟨BZ,r',pl,hz⟩:=I.list hq
  have EX:=r'.length;refine call_tuple_list pl.isList (λh' kp=>?_) (by simp only[AW]<;>lia);have I1:Inv X AE σ H { s with heap:=h' }:=I.kept (t':=s.toks) kp
  have I2:Inv X AE σ (D6 H h'.objs.size (.tup ys)) { s with heap:=h'.push { cls:=.type "tuple",data:=.seq BZ.toArray } } :=
   I1.laid (t':=s.toks) (λb o e=>AF _ e) (AM _) (show ObjOk X.prog X.w _ _ _ (.tup ys) from{hz,BZ,r',IsTupP.new _ _})
  exact{.ref h'.objs.size,_,I2,rfl,q _ (I1.hok.fresh (AM _))}
 .obtain⟨BZ,r',pl,hz⟩:=I.tuple hq
  exact call_tuple_same pl {.ref p,H,I,rfl,q}
def zY(K:AC)(T:String)(x:V)(H:Hp):Prop:=match x with
 |.str _=>T="str"
 |.int _=>T="int"
 |.ref p=>(T="list"/\∃xs,SqL K H p xs)\/(T="tuple"/\∃o,K.lookup p=AA o/\o.cls=.type "tuple"/\o.dict=AK) \/
   (T="dict"/\((∃kvs,H p=AA (.dK kvs))\/∃kvs,H p=AA (.dT kvs)))\/(T="set"/\∃S n,H p=AA (.set S n))
 |_=>False
theorem Nd{T:String}{x:V}{v:AH}(I:Inv X AE σ H s)(r:RelV x v)(ty:zY X.K T x H) :
  s.TypeIs v T/\∀a,v=.ref a->∃ob,s.heap.get? a=AA ob/\ob.dict=AK:=by
 cases x with
 |str z =>
  obtain⟨t,rfl⟩:=r;cases(show T="str" from ty);exact{typeIs_str s z t,λ_ e=>nomatch e}
 |int i =>
  obtain⟨t,rfl⟩:=r;cases(show T="int" from ty);exact{typeIs_int s i t,λ_ e=>nomatch e}
 |ref p =>
  cases r;rcases ty with⟨rfl,xs,hq⟩|⟨rfl,o,hk,hc,hd⟩|⟨rfl,hk⟩|⟨rfl,S,n,hk⟩
  .obtain⟨BZ,_,pl,_⟩:=I.list hq
   refine{pl.isList.typeIs,λa e=>?_};cases e;obtain⟨o,n,e,c,hd,_⟩:=pl;exact{o,e,hd}
  .refine{{o,I.kIn p o hk,hc},λa e=>?_}
   cases e;exact{o,I.kIn _ o hk,hd}
  .have z:∃o,s.heap.get? p=AA o/\o.ExactDict:=by
    rcases hk with⟨kvs,hk⟩|⟨kvs,hk⟩
    .obtain⟨_,_,_,_,o,_,_,e,ex,_⟩:=I.hok p _ hk
     exact{o,e,ex}
    .obtain⟨_,_,_,_,o,_,_,e,ex,_⟩:=I.hok p _ hk
     exact{o,e,ex}
   obtain⟨o,e,ex⟩:=z;refine{{o,e,ex.1},λa e2=>?_};cases e2;exact{o,e,ex.2.1}
  .obtain⟨o,_,_,_,e,ex,_⟩:=I.hok p _ hk
   refine{{o,e,ex.1},λa e2=>?_};cases e2;exact{o,e,ex.2.1}
 |_=>exact HL ty
def yHQ(K:AC)(T:String)(r:V->List V->Hp->VK->Prop)(to:TE):TE:=λσ H Q=>to σ H λx H1=>zY K T x H1/\r x [] H1 Q
def Wq(K:AC)(T:String)(r:V->List V->Hp->VK->Prop)(to:TE)(t:TA):TE:=λσ H Q=>to σ H λx H1=>zY K T x H1/\t σ H1 λxs H2=>r x xs H2 Q
variable{o:C8}{to:TE}{t:TA}{T id:String}{r:V->List V->Hp->VK->Prop}
theorem yBN(pa:PlainAttrs T)(slot:Slot T name id)(Jp:typeOf (.builtin id)=pure (.type "method_descriptor"))(hm:Hc X id r)(ho:PE X o to)
  (PB:K5 o name X.env (eval o X.env)=eval o X.env:=by rfl) (O7:(MQ.endLine==GW.line)=AL:=by rfl):PE X (.Call (.Attribute o name MQ) [] [] GW) (yHQ X.K T r to):=by
 intro AE s σ H Q I h;refine wpAny_Call_method0_late PB O7 (GV (ho AE s σ H _ I h) λv s1 ⟨x,H1,I1,r1,ty,q1⟩=>?_);obtain⟨h1,h2⟩:=Nd I1 r1 ty;exact{T,id,pa,slot,Jp,h1,h2,NA rfl (PySem.evalArgs_none (hm AE s1 σ H1 x [] v [] Q I1 r1 .nil q1))}
theorem xG(pa:PlainAttrs T)(slot:Slot T name id)(Jp:typeOf (.builtin id)=pure (.type "method_descriptor"))(hm:Hc X id r)(ho:PE X o to)(ha:PA X (e::es) t)
  (PB:K5 o name X.env (eval o X.env)=eval o X.env:=by rfl)
  (dP:((DO GW (AO (e::es) X.env)).all (λx=>!x.1)&&(jI GW (WD [] X.env)).all (λx=>x.1.isSome)
   && decide ((e::es).length+([]:List OS).length+(if([]:List OS).isEmpty then 0 else 1)<30))=AL:=by rfl)
  (O7:(MQ.endLine==GW.line)=AL:=by rfl) (hs:AO (e::es) X.env=(AD,eval e X.env)::AO es X.env:=by rfl) (R8:(DO GW (AO es X.env)).any (·.1)=AD:=by rfl) :
  PE X (.Call (.Attribute o name MQ) (e::es) [] GW) (Wq X.K T r to t):=by
 intro AE s σ H Q I h;refine wpAny_Call_method_late PB dP O7 rfl (GV (ho AE s σ H _ I h) λv s1 ⟨x,H1,I1,r1,ty,q1⟩=>?_);obtain⟨h1,h2⟩:=Nd I1 r1 ty;refine{T,id,pa,slot,Jp,h1,h2,?_};have hA:=ha GW AE s1 σ H1 _ I1 q1;rw[hs] at hA ⊢;refine NA (by show(AD||(DO GW (AO es X.env)).any (·.1))=AD;rw[R8]<;>rfl) (OC ?_);exact GV hA (λus s2 q0=>by obtain⟨vs,H2,I2,r2,q2⟩:=q0;exact hm AE s2 σ H2 x vs v us Q I2 r1 r2 q2)
/- xs.append(e),list.index on a module's tuple .. are Hc facts of 06m -/
end
def Ai(X:Cx)(id:String)(r:V->List V->Hp->VK->Prop):Prop :=
 ∀(AE:List (AQ×IE)) (s:AT) (σ:St) (H:Hp) (x:V) (xs:List V) (v:AH) (us:List AH) (Q:VK),Inv X AE σ H s->RelV x v->Vals xs us->r x xs H Q ->
  A0 (A1 X.prog X.w) X.A (call (.builtin id) (v::us)) (EP X AE σ Q) X.xe s
theorem Vals.one:∀{x:V} {us:List AH},Vals [x] us->∃u,us=[u]/\RelV x u
 |_,_,.cons r .nil=>{_,rfl,r}
theorem Vals.zero:∀{us:List AH},Vals [] us->us=[]
 |_,.nil=>rfl
theorem Vals.dropLast{xs:List V}{us:List AH}(h:Vals xs us):Vals xs.dropLast us.dropLast:=by
 induction h with
 |nil=>exact .nil
 |cons r t ih =>
  cases t with
  |nil=>exact .nil
  |cons q t'=>exact .cons r ih
theorem Vals.eraseIdx:∀{xs:List V} {us:List AH} (i:Nat),Vals xs us->Vals (xs.eraseIdx i) (us.eraseIdx i)
 |_,_,_,.nil=>.nil
 |_,_,0,.cons _ t=>t
 |_,_,i+1,.cons r t=>.cons r (Vals.eraseIdx i t)
theorem Vals.reverse{xs:List V}{us:List AH}(h:Vals xs us):Vals xs.reverse us.reverse:=by
 induction h with
 |nil=>exact .nil
 |cons r t ih=>rw[IF,IF];exact Vals.append ih (.cons r .nil)
theorem Vals.rep{xs:List V}{us:List AH}(h:Vals xs us):∀k:Nat,Vals (BG k xs).flatten (BG k us).flatten
 |0=>.nil
 |k+1=>by
  rw[EM,EM,G2,G2];exact Vals.append h (Vals.rep h k)
theorem zO4(l:List α):l.eraseIdx (l.length-1)=l.dropLast:=by
 induction l with
 |nil=>rfl
 |cons a r ih =>
  cases r with
  |nil=>rfl
  |cons b r =>
   have e:(a::b::r).length-1=((b::r).length-1)+1:=by
    have h1:(a::b::r).length=r.length+2:=rfl;have h2:(b::r).length=r.length+1:=rfl;lia
   rw[e,XB,ih]
   all_goals rfl
theorem Rx{α:Type}:∀(l:List α) (i:Nat),(l.eraseIdx i).length<=l.length
 |[],_=>AM _
 |_::_,0=>KM _
 |_::r,i+1=>Nat.succ_le_succ (Rx r i)
theorem Rw(BZ:List AH):∀(k:Nat) (acc:List AH),
  bQ (λx1 x2=>x1++x2) acc.toArray (BG k BZ.toArray)=(acc++(BG k BZ).flatten).toArray
 |0,acc=>by simp
 |k+1,acc=>by
  have e:acc.toArray++BZ.toArray=(acc++BZ).toArray:=by simp
  have e2:(acc++BZ)++(BG k BZ).flatten=acc++(BG (k+1) BZ).flatten:=by
   rw[EM,G2,CM]
  rw[<-e2,<-Rw BZ k (acc++BZ),<-e,EM,SU]
section
variable{b:AQ}
theorem Inv.lset{N6:List AH}{f:Array AH->Array AH}(I:Inv X AE σ H s)(hH:H l=AA (.lst xs))
  (e:s.heap.get? l=AA { cls:=.type "list",data:=.seq BZ.toArray n }) (hf:f BZ.toArray=N6.toArray) (hv:Vals ys N6) (hz:ys.length<=sizeLine) :
  Inv X AE σ (D6 H l (.lst ys)) { s with heap:=s.heap.update l (DD f),toks:=t' }:=by
 have q:=PySem.IsL.update e f;rw[hf] at q;refine I.write (x:=l) (e:=l) (by rw[hH];exact trivial) (.inl rfl) (λb' u hb hu=>(XT s.heap (DD f) (E8 hb)).trans hu) {_,q} ?_;exact{hz,N6,_,hv,q}
theorem Inv.lnew(I:Inv X AE σ H s)(hv:Vals ys BZ)(hz:ys.length<=sizeLine) :
  Inv X AE σ (D6 H s.heap.objs.size (.lst ys)) { s with heap:=s.heap.push { cls:=.type "list",data:=.seq BZ.toArray },toks:=t' } :=
 I.laid (λ_ _ q=>AF _ q) (AM _) {hz,BZ,0,hv,AX _ rfl}
theorem Inv.fresh(I:Inv X AE σ H s):H s.heap.objs.size=AK:=I.hok.fresh (AM _)
theorem Inv.lstM(I:Inv X AE σ H s)(hH:H l=AA (.lst xs)):xs.length<=sizeLine/\∃(BZ:List AH) (n:Nat),Vals xs BZ/\xs.length=BZ.length/\s.heap.get? l=AA { cls:=.type "list",data:=.seq BZ.toArray n }:=by
 obtain⟨z,BZ,n,r,e⟩:=I.hok l _ hH;exact{z,BZ,n,r,r.length,e}
theorem Qw(h:n<=sizeLine):IH n=AD:=by
 unfold IH;exact decide_eq_false (jJ h)
end
def Dl:V->List V->Hp->VK->Prop:=λx vs H Q=>∃l xs y,x=.ref l/\vs=[y]/\H l=AA (.lst xs)/\xs.length<sizeLine/\Q .non (D6 H l (.lst (xs++[y])))
theorem yU:Ai X "list.append" Dl:=by
 intro AE s σ H x vs v us Q I rx rv h;obtain⟨l,xs,y,rfl,rfl,hH,hz,q⟩:=h;cases rx;obtain⟨u,rfl,ru⟩:=rv.one;obtain⟨z,BZ,n,r,hl,e⟩:=I.lstM hH;refine OQ F.slot_list_append {_,e,rfl} F.entry_list_append (F.args_list_append_2 _ _) (PySem.list_append l BZ.toArray n u (by rw[AW];lia)) {e,?_};refine{.non,_,I.lset (N6:=BZ++[u]) hH e 's' (r.append (.cons ru .nil)) ?_,rfl,q};rw[BH,EQ];exact MJ hz
def zXP:V->List V->Hp->VK->Prop:=λx vs H Q=>∃l b xs zs,x=.ref l/\vs=[.ref b]/\H l=AA (.lst xs)/\H b=AA (.lst zs)/\xs.length+zs.length<=sizeLine/\Q .non (D6 H l (.lst (xs++zs)))
theorem yBO:Ai X "list.extend" zXP:=by
 intro AE s σ H x vs v us Q I rx rv h;obtain⟨l,b,xs,zs,rfl,rfl,hH,hB,hz,q⟩:=h;cases rx;obtain⟨u,rfl,ru⟩:=rv.one;cases ru;obtain⟨z,BZ,n,r,hl,e⟩:=I.lstM hH;obtain⟨z2,L7,n2,r2,bE,e2⟩:=I.lstM hB;have hsz:BZ.toArray.size+L7.toArray.size<=sizeLine:=by rw[AW,AW];lia
 have dI:¬(!BZ.toArray.isEmpty&&IH (BZ.toArray.size+L7.toArray.size))=AL:=by
  rw[Qw hsz,lT];exact CN
 refine OQ F.slot_list_extend {_,e,rfl} F.entry_list_extend (F.args_list_extend_2 _ _)
  (AutoSeq1.list_extend_list_list_0 l BZ.toArray n b L7.toArray n2 dI (by rw[AW];lia) (AZ hsz (A2 _ _))) {e,e2,?_}
 refine{.non,_,I.lset (N6:=BZ++L7) hH e 's' (r.append r2) ?_,rfl,q};rw[BH];exact hz
def Uo:V->List V->Hp->VK->Prop:=λx vs H Q=>∃l xs y,x=.ref l/\vs=[]/\H l=AA (.lst xs)/\xs[xs.length-1]?=AA y/\Q y (D6 H l (.lst xs.dropLast))
theorem yBP:Ai X "list.pop" Uo:=by
 intro AE s σ H x vs v us Q I rx rv h;obtain⟨l,xs,y,rfl,rfl,hH,hy,q⟩:=h;cases rx;have hus:=rv.zero;subst hus;obtain⟨z,BZ,n,r,hl,e⟩:=I.lstM hH;obtain⟨u,hu,ru⟩:=r.get hy
 have hy':BZ.toArray[BZ.toArray.size-1]?=AA u:=by
  show BZ.toArray[BZ.length-1]?=AA u;rw[<-DA,<-hl];exact hu
 refine OQ F.slot_list_pop {_,e,rfl} F.entry_list_pop (F.args_list_pop_1 _) (MeetsSeq.list_pop_last l BZ.toArray n u hy' (by rw[AW];lia)) {e,?_};refine{y,_,I.lset (N6:=BZ.dropLast) hH e ?_ r.dropLast ?_,ru,q}
 .show BZ.toArray.eraseIdxIfInBounds (BZ.toArray.size-1)=BZ.dropLast.toArray
  rw[AW,Q4,zO4]
 .rw[List.length_dropLast]
  exact AZ (DE _ _) z
def Nc:V->List V->Hp->VK->Prop:=λx vs H Q=>∃l xs i k y,x=.ref l/\vs=[.int i]/\H l=AA (.lst xs)/\-(2 ^ 63)<=i/\i<2 ^ 63/\seqIndex? i xs.length=AA k/\xs[k]?=AA y/\Q y (D6 H l (.lst (xs.eraseIdx k)))
theorem zTT:Ai X "list.pop" Nc:=by
 intro AE s σ H x vs v us Q I rx rv h;obtain⟨l,xs,i,k,y,rfl,rfl,hH,h1,h2,hk,hy,q⟩:=h;cases rx;obtain⟨u,rfl,ru⟩:=rv.one;obtain⟨t,rfl⟩:=ru;obtain⟨z,BZ,n,r,hl,e⟩:=I.lstM hH;obtain⟨w,hw,LN⟩:=r.get hy
 refine OQ F.slot_list_pop {_,e,rfl} F.entry_list_pop (F.args_list_pop_2 _ _)
  (MeetsSeq.list_pop_at l BZ.toArray n i t k w (fitsIndex_both h1 h2) (by rw[AW,<-hl];exact hk) (by rw[<-DA];exact hw) (by rw[AW];lia)) {e,?_}
 refine{y,_,I.lset (N6:=BZ.eraseIdx k) hH e ?_ (r.eraseIdx k) ?_,LN,q}
 .show BZ.toArray.eraseIdxIfInBounds k=(BZ.eraseIdx k).toArray
  rw[Q4]
 .have:=Rx xs k
  exact AZ this z
def Gi:R2:=λx y H Q=>∃l b xs zs,x=.ref l/\y=.ref b/\H l=AA (.lst xs)/\H b=AA (.lst zs)/\xs.length+zs.length<=sizeLine/\∀p,H p=AK->Q (.ref p) (D6 H p (.lst (xs++zs)))
theorem Nb:OpR X (HE .Add) Gi:=by
 intro AE s σ H x y v u Q I rx ry h;obtain⟨l,b,xs,zs,rfl,rfl,hH,hB,hz,q⟩:=h;cases rx;cases ry;obtain⟨z,BZ,n,r,hl,e⟩:=I.lstM hH;obtain⟨z2,L7,n2,r2,bE,e2⟩:=I.lstM hB;refine PySem.P.add_list e e2 ?_ (by rw[AW,AW];lia);have ea:BZ.toArray++L7.toArray=(BZ++L7).toArray:=by simp
 rw[ea];exact{.ref _,_,I.lnew (t':=s.toks) (r.append r2) (by rw[BH];lia),rfl,q _ I.fresh}
def yHR:R2:=λx y H Q=>∃l k xs,x=.ref l/\y=.int k/\H l=AA (.lst xs)/\-(2 ^ 63)<=k/\k<2 ^ 63/\xs.length * k.toNat<=sizeLine /\
 ∀p,H p=AK->Q (.ref p) (D6 H p (.lst (BG k.toNat xs).flatten))
theorem zXQ(xs:List α)(k:Nat):(BG k xs).flatten.length=k * xs.length:=by
 induction k with
 |zero=>simp
 |succ k ih=>rw[EM,G2,BH,ih,Nat.succ_mul,Nat.add_comm]
theorem yBQ:OpR X (HE .Mult) yHR:=by
 intro AE s σ H x y v u Q I rx ry h;obtain⟨l,k,xs,rfl,rfl,hH,h1,h2,hz,q⟩:=h;cases rx;obtain⟨t,rfl⟩:=ry;obtain⟨z,BZ,n,r,hl,e⟩:=I.lstM hH;have EX:BZ.toArray.size * k.toNat<=sizeLine:=by rw[AW,<-hl];exact hz
 have oI:¬BZ.toArray.size * k.toNat>(2 ^ 63-1) / 8:=by
  have:(sizeLine:Nat)<=(2 ^ 63-1) / 8:=by decide
  exact jJ (AZ EX this)
 have Kv:¬(!Builtin.List.listFitsIndex k)=AL:=by
  rw[fitsIndex_both h1 h2];exact CN
 have dI:¬IH (BZ.toArray.size * k.toNat)=AL:=by
  rw[Qw EX];exact CN
 have oB:bQ (λx1 x2=>x1++x2) #[] (BG (if BZ.toArray.isEmpty=AL then 0 else k.toNat) BZ.toArray)=(BG k.toNat BZ).flatten.toArray:=by
  have f0:∀m:Nat,bQ (λx1 x2=>x1++x2) #[] (BG m BZ.toArray)=(BG m BZ).flatten.toArray:=λm=>by
   have:=Rw BZ m [];rw[GC] at this;exact this
  rw[f0]
  cases BZ with
  |nil=>simp
  |cons a r'=>rw[if_neg 's']
 refine wpAny_binaryOp_repeat_ref (T:="list") (U:="int") 'd' {_,e,rfl} (λs'=>typeIs_int s' k t) noFill_list_mul F.fills_int_mul F.slot_int_rmul repeat_list F.slot_int_index.lookup
  (OQ F.slot_int_rmul (typeIs_int s k t) F.entry_int_rmul (F.args_int_rmul_2 _ _) (int___rmul___int_list k t l BZ.toArray n)
   {e,rfl,{_,e,rfl},OQ F.slot_list_mul {_,e,rfl} F.entry_list_mul (F.args_list_mul_2 _ _) (AutoListH.list___mul___list_int_3 l BZ.toArray n k t Kv oI dI) {e,?_}})
 rw[oB];exact{.ref _,_,I.lnew (t':=s.toks) (r.rep k.toNat) (by rw[zXQ,Nat.mul_comm];exact hz),rfl,q _ I.fresh}
section
variable[DecidableEq κ]
noncomputable def QH(kvs:List (κ×V))(k:κ):Option V:=(kvs.find? λkv=>decide (kv.1=k)).map (·.2)
noncomputable def QS(kvs:List (κ×V))(k:κ)(v:V):List (κ×V) :=
 if(kvs.any λkv=>decide (kv.1=k))=AL then kvs.map (λkv=>if kv.1=k then(kv.1,v) else kv) else kvs++[(k,v)]
theorem Eg{p:κ×V}{r:List (κ×V)}{k:κ}(e:p.1=k):QH (p::r) k=AA p.2:=by simp[QH,DU,e]
theorem Ee{p:κ×V}{r:List (κ×V)}{k:κ}(e:¬p.1=k):QH (p::r) k=QH r k:=by simp[QH,DU,e]
theorem Qv(k:κ):∀kvs:List (κ×V),(kvs.any λkv=>decide (kv.1=k))=(QH kvs k).isSome
 |[]=>rfl
 |p::r=>by
  rw[FP]
  by_cases e:p.1=k
  .simp only[Eg e,decide_eq_true e,Bool.true_or,Option.isSome_some]
  .rw[Ee e,decide_eq_false e,Bool.false_or];exact Qv k r
theorem zH(kvs:List (κ×V))(k:κ)(v:V):(QS kvs k v).length<=kvs.length+1:=by
 unfold QS;split
 .rw[AJ];lia
 .rw[BH,BB,JC];lia
theorem RelO.isSome_eq{o:Option V}{u:Option AH}(r:RelO o u):o.isSome=u.isSome:=by
 cases o with
 |none=>cases u with
  |none=>rfl
  |some _=>exact(show False from r).elim
 |some _=>cases u with
  |none=>exact(show False from r).elim
  |some _=>rfl
theorem RelO.getD{o:Option V}{u:Option AH}{d:V}{d':AH}(r:RelO o u)(rd:RelV d d'):RelV (o.getD d) (u.getD d'):=by
 cases o with
 |none=>cases u with
  |none=>exact rd
  |some _=>exact(show False from r).elim
 |some _=>cases u with
  |none=>exact(show False from r).elim
  |some _=>exact r
theorem KV.val{kvs:List (κ×V)}{vs:List (κ×AH)}(r:KV kvs vs)(k:κ):RelO (QH kvs k) (TW vs k):=by
 unfold KV at r
 induction r with
 |nil=>exact G7
 |@cons p q ps qs h t ih =>
  obtain⟨h1,h2⟩:=h
  by_cases e:p.1=k
  .have e':q.1=k:=h1.symm.trans e
   have b:TW (q::qs) k=AA q.2:=by simp[TW,DU,e']
   rw[Eg e,b];exact h2
  .have e':¬q.1=k:=λz=>e (h1.trans z)
   have b:TW (q::qs) k=TW qs k:=by simp[TW,DU,e']
   rw[Ee e,b];exact ih
theorem KV.any{kvs:List (κ×V)}{vs:List (κ×AH)}(r:KV kvs vs)(k:κ):(kvs.any λkv=>decide (kv.1=k))=vs.any λkv=>decide (kv.1=k):=by
 unfold KV at r
 induction r with
 |nil=>rfl
 |cons h t ih=>rw[FP,FP,ih,h.1]
theorem KV.repl{kvs:List (κ×V)}{vs:List (κ×AH)}(r:KV kvs vs)(k:κ)(ry:RelV y u) :
  KV (kvs.map λkv=>if kv.1=k then(kv.1,y) else kv) (vs.map λkv=>if kv.1=k then(kv.1,u) else kv):=by
 unfold KV at r ⊢
 induction r with
 |nil=>exact .nil
 |@cons p q ps qs h t ih =>
  rw[AV,AV];refine .cons ?_ ih;obtain⟨h1,h2⟩:=h
  by_cases e:p.1=k
  .rw[if_pos e,if_pos (h1.symm.trans e)];exact{h1,ry}
  .rw[if_neg e,if_neg (λz=>e (h1.trans z))];exact{h1,h2}
theorem KV.put{kvs:List (κ×V)}{vs:List (κ×AH)}(r:KV kvs vs)(k:κ)(ry:RelV y u):KV (QS kvs k y) (stored vs k u):=by
 unfold QS stored;rw[r.any k]
 by_cases e:(vs.any λkv=>decide (kv.1=k))=AL
 .rw[if_pos e,if_pos e];exact r.repl k ry
 .rw[if_neg e,if_neg e];exact Paired.snoc r {rfl,ry}
theorem KV.keys{kvs:List (κ×V)}{vs:List (κ×AH)}(r:KV kvs vs):kvs.map (·.1)=vs.map (·.1):=by
 unfold KV at r
 induction r with
 |nil=>rfl
 |cons h t ih=>rw[AV,AV,ih,h.1]
theorem KV.length{kvs:List (κ×V)}{vs:List (κ×AH)}(r:KV kvs vs):kvs.length=vs.length:=Paired.length r
end
theorem j4{k:Key}(r:RelV (kV k) u):(TD P w).is k u=AL:=by
 cases k with
 |inl i=>obtain⟨t,e⟩:=(show ∃t,u=MV i t from r);subst e;exact zMO P w i t
 |inr x=>obtain⟨t,e⟩:=(show ∃t,u=WE x t from r);subst e;exact zMP P w x t
theorem Rv{P:CQ}{w:D3}:∀{ks:List Key} {us:List AH},Vals (ks.map kV) us->ItemsAre (TD P w) ks us
 |[],_,r=>by rw[NH] at r;cases r;exact .nil
 |k::ks,_,r=>by
  rw[AV] at r
  cases r with
  |cons h t=>exact .cons (j4 h) (Rv t)
abbrev KT(H:Hp):List (List Key×V)->List (List Key×AQ×AH)->Prop:=Paired λp q=>p.1=q.1/\H q.2.1=AA (.tup (p.1.map kV))/\RelV p.2 q.2.2
theorem KT.val{xs:List (List Key×AQ×AH)}(r:KT H kvs xs)(k:List Key):RelO (QH kvs k) ((YM xs k).map (·.2)):=by
 induction r with
 |nil=>exact G7
 |@cons p q ps qs h t ih =>
  obtain⟨h1,_,h2⟩:=h
  by_cases e:p.1=k
  .have e':q.1=k:=h1.symm.trans e
   have b:YM (q::qs) k=AA q.2:=by simp[YM,DU,e']
   rw[Eg e,b];exact h2
  .have e':¬q.1=k:=λz=>e (h1.trans z)
   have b:YM (q::qs) k=YM qs k:=by simp[YM,DU,e']
   rw[Ee e,b];exact ih
theorem KT.repl{xs:List (List Key×AQ×AH)}(r:KT H kvs xs)(k:List Key)(ry:RelV y u) :
  KT H (kvs.map λkv=>if kv.1=k then(kv.1,y) else kv) (xs.map (putAt k u)):=by
 induction r with
 |nil=>exact .nil
 |@cons p q ps qs h t ih =>
  rw[AV,AV];refine .cons ?_ ih;obtain⟨h1,h2,h3⟩:=h;unfold putAt
  by_cases e:p.1=k
  .rw[if_pos e,if_pos (h1.symm.trans e)];exact{h1,h2,ry}
  .rw[if_neg e,if_neg (λz=>e (h1.trans z))];exact{h1,h2,h3}
theorem KT.put{xs:List (List Key×AQ×AH)}(r:KT H kvs xs)(k:List Key){b:AQ}(hb:H b=AA (.tup (k.map kV)))(ry:RelV y u) :
  KT H (QS kvs k y) (storedH xs k b u):=by
 have e:(kvs.any λkv=>decide (kv.1=k))=(YM xs k).isSome:=by
  rw[Qv,(r.val k).isSome_eq,PR]
 unfold QS storedH;rw[e]
 by_cases q:(YM xs k).isSome=AL
 .rw[if_pos q,if_pos q];exact r.repl k ry
 .rw[if_neg q,if_neg q];exact Paired.snoc r {rfl,hb,ry}
theorem KT.keeps{xs:List (List Key×AQ×AH)}(r:KT H kvs xs)(ht:∀b ys,H b=AA (.tup ys)->H' b=AA (.tup ys)):KT H' kvs xs :=
 pA0 r λ_ _ z=>{z.1,ht _ _ z.2.1,z.2.2}
theorem Wh{u:HO}(ok:HOk P w H h)(e:Rd H a u):ObjOk P w H h a u:=e.ok ok
theorem hZ{kvs:List (Key×V)}(ok:HOk P w H h)(e:Rd H a (.dK kvs)):kvs.length<=sizeLine/\(a==GY)=AD/\∃vs,KV kvs vs/\h.DictOf (TD P w) a vs :=
 show ObjOk P w H h a (.dK kvs) from Wh ok e
theorem Bz{kvs:List (Key×V)}(ok:HOk P w H h)(e:H a=AA (.dK kvs)):kvs.length<=sizeLine/\(a==GY)=AD/\∃vs,KV kvs vs/\h.DictOf (TD P w) a vs:=hZ ok (.inl e)
theorem pL{ks:List Key}(ok:HOk P w H h)(e:H a=AA (.tup (ks.map kV))):(N8 (TD P w)).is h ks a:=by
 obtain⟨_,BZ,r,o,h1,h2,_,n,h3⟩:=(show ObjOk P w H h a (.tup (ks.map kV)) from ok a _ e);exact{o,BZ.toArray,n,h1,h2,h3,by simpa using Rv r}
theorem mG(ok:HOk P w H h)(e:Rd H a (.dT kvs)):kvs.length<=sizeLine/\(a==GY)=AD /\
  ∃xs,KT H kvs xs/\h.DictOfH (N8 (TD P w)) a xs:=by
 obtain⟨z,y,xs,r,o,es,ep,h1,h2,h3,h4,h5⟩:=(show ObjOk P w H h a (.dT kvs) from Wh ok e);refine{z,y,xs,r,o,es,ep,h1,h2,h3,h4,λx hx=>?_,h5}
 have all:∀{l:List (List Key×V)} {m:List (List Key×AQ×AH)},KT H l m->∀x∈m,(N8 (TD P w)).is h x.1 x.2.1:=by
  intro l m q
  induction q with
  |nil=>intro x hx;exact nomatch hx
  |@cons p q ps qs hq t ih =>
   intro x hx;rcases BC.mp hx with e|hx
   .subst e
    exact pL ok (by rw[<-hq.1];exact hq.2.1)
   .exact ih x hx
 exact all r x hx
theorem yE6(ok:HOk P w H h)(e:H a=AA (.dT kvs)):kvs.length<=sizeLine/\(a==GY)=AD /\
  ∃xs,KT H kvs xs/\h.DictOfH (N8 (TD P w)) a xs:=mG ok (.inl e)
def gZ(H:Hp)(a:AQ)(y:V)(r:Option V):Prop :=
 (∃kvs k,Rd H a (.dK kvs)/\y=kV k/\r=QH kvs k)\/∃kvs k b,Rd H a (.dT kvs)/\y=.ref b/\H b=AA (.tup (k.map kV))/\r=QH kvs k
def DPut(H:Hp)(a:AQ)(y v:V)(H':Hp):Prop :=
 (∃kvs k,H a=AA (.dK kvs)/\y=kV k/\kvs.length<sizeLine/\H'=D6 H a (.dK (QS kvs k v))) \/
 ∃kvs k b,H a=AA (.dT kvs)/\y=.ref b/\H b=AA (.tup (k.map kV))/\kvs.length<sizeLine/\H'=D6 H a (.dT (QS kvs k v))
theorem DPut.kk{kvs:List (Key×V)}{k:Key}(e:H a=AA (.dK kvs))(hl:kvs.length<sizeLine):DPut H a (kV k) v (D6 H a (.dK (QS kvs k v))):=.inl {kvs,k,e,rfl,hl,rfl}
theorem DPut.t{b:AQ}{k:List Key}(e:H a=AA (.dT kvs))(eb:H b=AA (.tup (k.map kV)))(hl:kvs.length<sizeLine) :
  DPut H a (.ref b) v (D6 H a (.dT (QS kvs k v))):=.inr {kvs,k,b,e,rfl,eb,hl,rfl}
section
variable{r:AH}{o:Option V}
theorem Inv.big(I:Inv X AE σ H s):GY<s.heap.objs.size:=by
 have h:BK<s.heap.objs.size:=(I.mod.glob.keeps I.bk).lt;exact DB 'd' h
theorem zQF(hu:A.units+1<GZ)(I:Inv X AE σ H s)(g:gZ H a y (AA v))(ry:RelV y u)(h:∀w' s',Inv X AE σ H s'->RelV v w'->Q w' s') :
  A0 (A1 X.prog X.w) A (K4 (.ref a) u) Q E s:=by
 rcases g with⟨kvs,k,e,ey,l⟩|⟨kvs,k,b,e,ey,eb,l⟩
 .subst ey
  obtain⟨z,hd,vs,NC,dd⟩:=hZ I.hok e;obtain⟨w',hw,LN⟩:=RelO.some_of (v:=v) (o:=TW vs k) (by rw[l];exact NC.val k);exact wpAny_getItem_of (j4 ry) dd.mapOf hw (h w' _ (I.tok _) LN)
 .subst ey
  cases(show u=DP b from ry);obtain⟨z,hd,xs,NC,dd⟩:=mG I.hok e;obtain⟨w',hw,LN⟩:=RelO.some_of (v:=v) (o:=(YM xs k).map (·.2)) (by rw[l];exact NC.val k);obtain⟨p,hp,YB⟩:=BR.mp hw;refine wpAny_getItem_heap (JX hu) (pL I.hok eb) dd hp ?_;rw[YB];exact h w' _ (I.tok _) LN
theorem yHS(hu:A.units+1<GZ)(I:Inv X AE σ H s)(g:gZ H a y o)(ry:RelV y u)(h:∀s',Inv X AE σ H s'->Q (.bool o.isSome) s') :
  A0 (A1 X.prog X.w) A (EU .In u (.ref a)) Q E s:=by
 rcases g with⟨kvs,k,e,ey,l⟩|⟨kvs,k,b,e,ey,eb,l⟩
 .subst ey
  obtain⟨z,hd,vs,NC,dd⟩:=hZ I.hok e;refine wpAny_in_of (j4 ry) hd dd.mapOf ?_;rw[<-(NC.val k).isSome_eq,<-l];exact h _ (I.tok _)
 .subst ey
  cases(show u=DP b from ry);obtain⟨z,hd,xs,NC,dd⟩:=mG I.hok e;refine wpAny_in_heap (JX hu) (pL I.hok eb) hd dd ?_;have q:=(NC.val k).isSome_eq;rw[PR] at q;rw[<-q,<-l];exact h _ (I.tok _)
theorem zXS(hu:A.units+1<GZ)(I:Inv X AE σ H s)(g:gZ H a y o)(ry:RelV y u)(h:∀s',Inv X AE σ H s'->Q (.bool (!o.isSome)) s') :
  A0 (A1 X.prog X.w) A (EU .NotIn u (.ref a)) Q E s:=by
 rcases g with⟨kvs,k,e,ey,l⟩|⟨kvs,k,b,e,ey,eb,l⟩
 .subst ey
  obtain⟨z,hd,vs,NC,dd⟩:=hZ I.hok e;refine wpAny_notIn_of (j4 ry) hd dd.mapOf ?_;rw[<-(NC.val k).isSome_eq,<-l];exact h _ (I.tok _)
 .subst ey
  cases(show u=DP b from ry);obtain⟨z,hd,xs,NC,dd⟩:=mG I.hok e;refine wpAny_notIn_heap (JX hu) (pL I.hok eb) hd dd ?_;have q:=(NC.val k).isSome_eq;rw[PR] at q;rw[<-q,<-l];exact h _ (I.tok _)
theorem yB{ob:HO}(I:Inv X AE σ H s)(mu:tY (H a))(hs:DM a s.heap h')(he:∃q,h'.get? a=AA q)(new:ObjOk X.prog X.w (D6 H a ob) h' a ob) :
  Inv X AE σ (D6 H a ob) { s with heap:=h',toks:=t' } :=
 I.write (x:=a) (e:=a) mu (.inl rfl) (λb q hb z=>(hs.2 b hb).trans z) he new
theorem Ct{kvs:List (Key×V)}{vs:List (Key×AH)}(z:kvs.length<=sizeLine)(hd:(a==GY)=AD)(NC:KV kvs vs)(dd:h'.DictOf (TD P w) a vs) :
  ObjOk P w H' h' a (.dK kvs):={z,hd,vs,NC,dd}
theorem zQH{Q:Unit->AT->Prop}(hu:A.units+1<GZ)(I:Inv X AE σ H s)(g:DPut H a y v H')(ry:RelV y u)(rv:RelV v r)(h:∀s',Inv X AE σ H' s'->Q () s') :
  A0 (A1 X.prog X.w) A (setItem (.ref a) u r) Q E s:=by
 rcases g with⟨kvs,k,e,ey,l,eH⟩|⟨kvs,k,b,e,ey,eb,l,eH⟩
 .subst ey eH
  obtain⟨z,hd,vs,NC,dd⟩:=Bz I.hok e;have hz:vs.length<=sizeLine:=by rw[<-NC.length];exact z
  have hl:(QS kvs k v).length<=sizeLine:=by have:=zH kvs k v;lia
  refine wpAny_setItem_pairs (hsz:=hz) (j4 ry) dd λh' gD hs=>h _ ?_;have he:∃q,h'.get? a=AA q:=let ⟨q,_,_,hq,_⟩:=gD;{q,hq};exact yB I (by rw[e];exact G7) hs he (Ct hl hd (NC.put k rv) gD)
 .subst ey eH
  cases(show u=DP b from ry);obtain⟨z,hd,xs,NC,dd⟩:=yE6 I.hok e;have hz:xs.length<=sizeLine:=by rw[<-Paired.length NC];exact z
  have hl:(QS kvs k v).length<=sizeLine:=by have:=zH kvs k v;lia
  refine wpAny_setItem_heap (hsz:=hz) (JX hu) (pL I.hok eb) dd λh' gD hs=>h _ ?_;obtain⟨q,es,ep,hq,h2,h3,h4,_,h5⟩:=gD;refine yB I (by rw[e];exact G7) hs {q,hq} {hl,hd,_,(NC.put k eb rv).keeps λc ys ec=>?_,q,es,ep,hq,h2,h3,h4,h5};rw[EV (yEM ec e (λz=>nomatch z))];exact ec
end
section
variable{kvs:List (Key×V)}{k:Key}
theorem yE7(I:Inv X AE σ H s)(e:Rd H a (.dK kvs))(h:∀t s',Inv X AE σ H s'->Q (.int kvs.length t) s'):A0 (A1 X.prog X.w) A (call (.builtin "len") [.ref a]) Q E s:=by
 obtain⟨z,hd,vs,NC,dd⟩:=hZ I.hok e;refine call_len_dict hd dd (by rw[<-NC.length];rw[GE] at z;lia) ?_;rw[<-NC.length];exact h _ _ (I.tok _)
end
theorem zMV{o:Option V}(I:Inv X AE σ H s)(g:gZ H a y o):s.TypeIs (.ref a) "dict":=by
 rcases g with⟨kvs,k,e,_,_⟩|⟨kvs,k,b,e,_,_,_⟩
 .obtain⟨_,_,vs,_,dd⟩:=hZ I.hok e
  exact dd.typeIs
 .obtain⟨_,_,xs,_,dd⟩:=mG I.hok e
  exact dd.typeIs
def Wg(td ty tv:TE):TS:=λD σ H=>tv σ H λv H1=>td σ H1 λx H2=>ty σ H2 λy H3=>∃a H4,x=.ref a/\DPut H3 a y v H4/\D.nx σ H4
section
variable{o i:C8}{td ty:TE}
theorem Dk(hu:X.A.units+1<GZ)(ho:PE X o td)(hi:PE X i ty)(hv:PE X JS tv)(hs:IL JS (AA (.Subscript o i N5)) pos.line X.env=pure AD) :
  PS X (.Assign [.Subscript o i N5] JS pos) (Wg td ty tv):=by
 intro AE s σ H D I h;refine wpAny_Assign_Subscript (GV (hv AE s σ H _ I h) λr s1 ⟨v,H1,I1,rv,q1⟩=>GV (ho AE s1 σ H1 _ I1 q1) λu s2 ⟨x,H2,I2,rx,q2⟩=>GV (hi AE s2 σ H2 _ I2 q2) λiv s3 ⟨y,H3,I3,ry,a,H4,ex,g,q3⟩=>?_) hs;subst ex;obtain rfl:u=DP a:=rx;exact zQH hu I3 g ry rv λs4 I4=>{σ,H4,I4,q3}
end
theorem Ed(h:D4)(hb:GY<h.objs.size):ObjOk P w H (h.push { cls:=.type "dict",data:=.dict #[] }) h.objs.size (.dK []) :=
 {BS _,beq_eq_false_iff_ne.mpr (E8 (CA hb)),[],.nil,Heap.DictOf.new h}
theorem zTV(h:D4)(hb:GY<h.objs.size):ObjOk P w H (h.push { cls:=.type "dict",data:=.dict #[] }) h.objs.size (.dT []) :=
 {BS _,beq_eq_false_iff_ne.mpr (E8 (CA hb)),[],.nil,_,#[],0,AX _ rfl,{rfl,rfl,rfl},rfl,rfl,FV}
def yBT:TE:=λ_ H Q=>∀p,H p=AK->Q (.ref p) (D6 H p (.dK []))
def yBU:TE:=λ_ H Q=>∀p,H p=AK->Q (.ref p) (D6 H p (.dT []))
theorem cM:PE X (.Dict [] [] pos) yBT:=λAE s σ H Q I h =>
 wpAny_Dict_empty {.ref s.heap.objs.size,_,I.laid (a:=s.heap.objs.size) (o:=.dK []) (t':=s.toks) (λ_ _ q=>AF _ q) (AM _) (Ed s.heap I.big),rfl,h _ (I.hok.fresh (AM _))}
theorem cL:PE X (.Dict [] [] pos) yBU:=λAE s σ H Q I h =>
 wpAny_Dict_empty {.ref s.heap.objs.size,_,I.laid (a:=s.heap.objs.size) (o:=.dT []) (t':=s.toks) (λ_ _ q=>AF _ q) (AM _) (zTV s.heap I.big),rfl,h _ (I.hok.fresh (AM _))}
def Cs:List (TE×TE)->St->Hp->(List (V×V)->Hp->Prop)->Prop
 |[],_,H,Q=>Q [] H
 |(tk,tv)::r,σ,H,Q=>tk σ H λx H1=>tv σ H1 λy H2=>Cs r σ H2 λps H3=>Q ((x,y)::ps) H3
abbrev VV:List (V×V)->List (AH×AH)->Prop:=Paired λp q=>RelV p.1 q.1/\RelV p.2 q.2
def Ah(X:Cx)(pos:gK)(WY:List (Option C8))(RY:List C8)(kM:List (TE×TE)):Prop :=
 ∀(AE:List (AQ×IE)) (s:AT) (σ:St) (H:Hp) (Q:List (V×V)->Hp->Prop),Inv X AE σ H s->Cs kM σ H Q ->
  A0 (A1 X.prog X.w) X.A (evalPairs (pairTrees WY RY X.env pos)) (λvs s'=>∃ps H',Inv X AE σ H' s'/\VV ps vs/\Q ps H') X.xe s
theorem zXT:Ah X pos [] [] []:=λAE s σ H Q I h=>pairTrees_nil_walk {[],H,I,.nil,h}
theorem zTW{k v:C8}{ks:List (Option C8)}{vs:List C8}{tk:TE}(hk:PE X k tk)(hv:PE X v tv)(hr:Ah X pos ks vs kM) :
  Ah X pos (AA k::ks) (v::vs) ((tk,tv)::kM):=λAE s σ H Q I h =>
 pairTrees_cons_walk (GV (hk AE s σ H _ I h) λu s1 ⟨x,H1,I1,rx,q1⟩=>GV (hv AE s1 σ H1 _ I1 q1) λw2 s2 ⟨y,H2,I2,ry,q2⟩ =>
  GV (hr AE s2 σ H2 _ I2 q2) (λws s3 q0=>by obtain⟨ps,H3,I3,NC,q3⟩:=q0;exact{(x,y)::ps,H3,I3,.cons {rx,ry} NC,q3}))
def sF(kvs QW:List (Key×V)):List (Key×V):=QW.foldl (λacc kv=>QS acc kv.1 kv.2) kvs
theorem KV.merge:∀{QW:List (Key×V)} {rs:List (Key×AH)} {kvs:List (Key×V)} {vs:List (Key×AH)},KV QW rs->KV kvs vs->KV (sF kvs QW) (merged vs rs):=by
 intro QW rs kvs vs r;unfold KV at r
 induction r generalizing kvs vs with
 |nil=>intro q;exact q
 |@cons p q ps qs h t ih =>
  intro r0
  have e:KV (QS kvs p.1 p.2) (stored vs q.1 q.2):=by
   have:=r0.put p.1 h.2;rw[<-h.1];exact this
  exact ih e
theorem Ue:∀(QW kvs:List (Key×V)),(sF kvs QW).length<=kvs.length+QW.length
 |[],kvs=>by show kvs.length<=kvs.length+0;lia
 |p::r,kvs=>by
  have h1:=Ue r (QS kvs p.1 p.2);have h2:=zH kvs p.1 p.2;show(sF (QS kvs p.1 p.2) r).length<=_;rw[BB];lia
theorem Ta{P:CQ}{w:D3}:∀{kvs:List (Key×V)} {ws:List (AH×AH)},VV (kvs.map λkv=>(kV kv.1,kv.2)) ws->∃rs,Carries (TD P w) ws rs/\KV kvs rs
 |[],_,r=>by rw[NH] at r;cases r;exact{[],G7,.nil}
 |p::kvs,_,r=>by
  rw[AV] at r
  cases r with
  |@cons a b as bs h t =>
   obtain⟨rs,c,q⟩:=Ta (P:=P) (w:=w) t;obtain⟨b1,b2⟩:=b;exact{(p.1,b2)::rs,{j4 h.1,rfl,c},.cons {rfl,h.2} q}
def yE8(kM:List (TE×TE)):TE:=λσ H Q=>∀p,H p=AK->Cs kM σ (D6 H p (.dK [])) λps H2=>H2 p=AA (.dK [])/\∃kvs:List (Key×V),ps=kvs.map (λkv=>(kV kv.1,kv.2))/\kvs.length<=15/\Q (.ref p) (D6 H2 p (.dK (sF [] kvs)))
theorem zXU{WY:List (Option C8)}{RY:List C8}(h:Ah X pos WY RY kM)(SD:WY.all (·.isSome)=AL)(hl:WY.length=RY.length)(h0:WY≠[])
  (h15:WY.length<=15):PE X (.Dict WY RY pos) (yE8 kM):=by
 intro AE s σ H Q I q;have hn:=I.hok.fresh (AM s.heap.objs.size);have I1:=I.laid (a:=s.heap.objs.size) (o:=.dK []) (h':=s.heap.push { cls:=.type "dict",data:=.dict #[] }) (t':=s.toks) (λ_ _ q=>AF _ q) (AM _) (Ed s.heap I.big);refine wpAny_Dict_walk (knd:=TD X.prog X.w) SD hl h0 h15 (GV (h AE _ σ _ _ I1 (q _ hn)) λws s2 ⟨ps,H2,I2,NC,e,kvs,ep,lk,q2⟩=>?_);subst ep;obtain⟨rs,c,rk⟩:=Ta (P:=X.prog) (w:=X.w) NC;obtain⟨z,hd,Xm,r0,dd⟩:=Bz I2.hok e;cases r0;refine{rs,c,dd,λh' gD hs=>{.ref s.heap.objs.size,_,?_,rfl,q2}}
 have hz:(sF [] kvs).length<=sizeLine:=by
  have h1:=Ue kvs [];rw[JC] at h1;rw[GE];lia
 have he:∃q,h'.get? s.heap.objs.size=AA q:=let ⟨q,_,_,hq,_⟩:=gD;{q,hq};exact yB I2 (by rw[e];exact G7) hs he (Ct hz hd (rk.merge .nil) gD)
structure M2(X:Cx)(o:C8)(m:CT)(MQ:gK)(e f:C8)(GW:gK):Prop where
 base:K5 o m X.env (eval o X.env)=eval o X.env
 few:((DO GW (AO [e,f] X.env)).all (λx=>!x.1)&&(jI GW (WD [] X.env)).all (λx=>x.1.isSome)
  && decide (([e,f]:List C8).length+([]:List OS).length+(if([]:List OS).isEmpty then 0 else 1)<30))=AL
 line:(MQ.endLine==GW.line)=AL
 trees:DO GW (AO [e,f] X.env)=[(AD,eval e X.env),(AD,eval f X.env)]
def Hd(H:Hp)(a:AQ):Prop:=(∃kvs,Rd H a (.dK kvs))\/∃kvs,Rd H a (.dT kvs)
theorem yBV(I:Inv X AE σ H s)(d:Hd H a) :
  s.TypeIs (.ref a) "dict"/\(∀b,DP a=.ref b->∃ob,s.heap.get? b=AA ob/\ob.dict=AK)/\(a==GY)=AD:=by
 rcases d with⟨kvs,e⟩|⟨kvs,e⟩
 .obtain⟨_,hd,vs,_,dd⟩:=hZ I.hok e
  refine{dd.typeIs,λb q=>?_,hd};cases q;obtain⟨ob,_,_,h1,h2,_⟩:=dd;exact{ob,h1,h2.2.1}
 .obtain⟨_,hd,xs,_,dd⟩:=mG I.hok e
  refine{dd.typeIs,λb q=>?_,hd};cases q;obtain⟨ob,_,_,h1,h2,_⟩:=dd;exact{ob,h1,h2.2.1}
section
variable{d:V}{r:AH}{o:Option V}
theorem yBW(hu:A.units+1<GZ)(I:Inv X AE σ H s)(g:gZ H a y o)(ry:RelV y u)(rd:RelV d r)(h:∀w' s',Inv X AE σ H s'->RelV (o.getD d) w'->Q w' s') :
  A0 (A1 X.prog X.w) A (call (.builtin "dict.get") [.ref a,u,r]) Q E s:=by
 rcases g with⟨kvs,k,e,ey,l⟩|⟨kvs,k,b,e,ey,eb,l⟩
 .subst ey
  obtain⟨z,hd,vs,NC,dd⟩:=hZ I.hok e;refine call_meetsIn M7 dd.typeIs VR (UO _ _ _) (meets_dict_get_default (TD X.prog X.w) a (j4 ry) hd r) {_,dd.mapOf,h _ _ (I.tok _) ?_};rw[l];exact(NC.val k).getD rd
 .subst ey
  cases(show u=DP b from ry);obtain⟨z,hd,xs,NC,dd⟩:=mG I.hok e;refine call_meetsIn M7 dd.typeIs VR (UO _ _ _) (meetsH_dict_get_default (N8 (TD X.prog X.w)) a b hd r) {JX hu,k,xs,pL I.hok eb,dd,h _ _ (I.tok _) ?_};rw[l];exact(NC.val k).getD rd
end
def yBX(td ty tx:TE):TE:=λσ H Q=>td σ H λx H1=>∃a,x=.ref a/\Hd H1 a/\ty σ H1 λy H2=>tx σ H2 λz H3=>∃o,gZ H3 a y o/\Q (o.getD z) H3
section
variable{o f:C8}{td ty tx:TE}
theorem zTX(hu:X.A.units+1<GZ)(ho:PE X o td)(he:PE X e ty)(hf:PE X f tx)(m:M2 X o "get" MQ e f GW):PE X (.Call (.Attribute o "get" MQ) [e,f] [] GW) (yBX td ty tx):=by
 intro AE s σ H Q I h;refine wpAny_Call_method m.base m.few m.line PySem.F.plainAttrs_dict M7 PySem.F.type_dict_get (GV (ho AE s σ H _ I h) λu s1 ⟨x,H1,I1,rx,a,ex,d,q1⟩=>?_);subst ex;obtain rfl:u=DP a:=rx;obtain⟨t1,t2,_⟩:=yBV I1 d;refine{t1,t2,?_};rw[m.trees]
 refine NA rfl (OC (PL (GV (he AE s1 σ H1 _ I1 q1) λiv s2 ⟨y,H2,I2,ry,q2⟩ =>
  PL (GV (hf AE s2 σ H2 _ I2 q2) λfv s3 ⟨z,H3,I3,rz,ov,g,q3⟩=>bU ?_))))
 exact yBW hu I3 g ry rz λw' s4 I4 LN=>{_,H3,I4,LN,q3}
end
section
variable{kvs:List (Key×V)}
end
end L2
variable{Y8:List CT}{XP:(CT->Option AH)->D4->Prop}{YP:D3->D4->Prop}{q:CQ}
namespace Att
open PySem PySem.W PySem.Calls PyProof.Rows
theorem zGK{P:Params}:∀(ns:List Int) (vs:List AH),WellAll P h vs (ns.map WData.int)->GP vs ns:=by
 intro ns
 induction ns with
 |nil =>
  intro vs w;rw[NH] at w;cases w;exact .nil
 |cons n ns ih =>
  intro vs w;rw[AV] at w
  cases w with
  |cons a b =>
   cases a;exact .cons _ _ (ih _ b)
theorem zQJ{l:OpenLaw}(hn:l.most=AA n){P:Params}{args:List WData}{nI:List AH}
  (TQ:l.row.toRowW.claim.pre args=AL) (Ji:WellAll P h nI args) :
  ∃a vs ns,nI=[DP a]/\args=[WData.list (ns.map WData.int)]/\h.get? a=AA { cls:=.type "list",data:=.seq vs.toArray }/\GP vs ns/\ns.length<=n:=by
 have hsh:WShape.hasAll [] args [.list .int]=AL:=(pre_splitW TQ).1;have hc:l.pre.holds [] { args:=args }=AL:=(pre_splitW TQ).2;obtain⟨d,r,rfl,h1,h2⟩:=hasAllW_cons hsh;obtain rfl:=hasAllW_nil h2;obtain⟨xs,rfl,h3⟩:=hasW_list h1;obtain⟨ns,rfl⟩:=items_int h3
 have EX:ns.length<=n:=by
  unfold OpenLaw.pre at hc
  have h4:(WTm.not (.lt (.lit (.int (n:Int))) (.len (.arg 0)))).holds [] { args:=[.list (ns.map .int)] }=AL:=by
   have h4:=(holds_andW hc).1;rw[hn] at h4;exact h4
  have h5:=condW_of h4 (w_not (w_lt w_lit (w_len_list (w_arg rfl))));rw[AJ] at h5;refine E4 λq=>?_;have q':(n:Int)<((ns.length:Nat):Int):=by lia
  first
   |(rw[decide_eq_true q'] at h5;exact absurd h5 'd')
   |(simp at h5;lia)
 cases Ji with
 |cons w1 w2 =>
  cases w2
  cases w1 with
  |list ho SD=>exact{_,_,ns,rfl,rfl,ho,zGK ns _ SD,EX}
theorem zQK(l:OpenLaw)(args:List WData):l.row.toRowW.claim.post args (.bool AL) args=AL :=
 postW_of (r:=l.row.toRowW) (X:=(AL==AL))
  (show WShape.has [] (.bool AL) .bool=AL by first|rfl|decide|simp[WShape.has,WShape.arms,WShape.armsAll])
  (show(WTm.eq .res (.lit (.bool AL))).value [] { args:=args,res:=AA (.bool AL),after:=args }=AA (.bool (AL==AL)) from w_eq_bool (w_res rfl) w_lit) rfl
theorem attach_call{l:OpenLaw}{d:DefRec}
  (hn:l.most=AA n) (wE:d.params.defaults=[])
  (call:∀(w:D3) (s₀ FC:AT) (mg mb:CT->Option AH) (fa:AQ) (o:IE) (pm cd SF:AH) (a:AQ) (vs:List AH) (ns:List Int),
   Ground q Y8 [] XP w s₀ mg mb FC.heap->YP w FC.heap ->
   FC.heap.get? fa=AA o->o.data=.func (docDef d.name d.params d.body d.scope pm cd SF)->FC.heap.CodeRec cd d.name->mg d.name=AA (.ref fa) ->
   FC.heap.get? a=AA { cls:=.type "list",data:=.seq vs.toArray }->GP vs ns->ns.length<=n->FC.gens=#[] ->
   HN (A1 l.prog w) QN (.call (.ref fa) {[.ref a],[]}) (λr s'=>r=.ok (.ret (.bool AL))/\OldK FC.heap s'.heap/\s'.os=FC.os/\NJ s'.gens) FC) :
  WalkO q Y8 XP YP l.row.toRowW d [] (λf vs=>aI f vs):=by
 intro w s₀ FC mg mb G Y fa o pm cd SF dV kV ho hd L9 hD vX hg args nI as TQ hlay hrd Ji hlo;obtain rfl:dV=.none:=Dflts.none hD wE;obtain rfl:kV=.none:=Dflts.noKw hD;obtain⟨a,vs,ns,rfl,rfl,dH,dM,EX⟩:=zQJ hn TQ Ji;refine enter_call (MA (call w s₀ FC mg mb fa o pm cd SF a vs ns G Y ho (fd_plain hd) L9 vX dH dM EX hg) λr s' hq=>?_);obtain⟨rfl,h2,h3,h4⟩:=hq;exact{.inl {.bool AL,.bool AL,[],rfl,λ_=>rfl,.bool AL,zQK l _,λ_=>{N0,λ_ hm=>(nomatch hm)}},h2,h3,h4}
section
variable{K:Frag}
noncomputable def yGW(h:D4)(L d:AQ):List (AQ×IE):=(CI h.objs.size).filterMap λa=>if a=L\/a=d then AK else(h.get? a).map λo=>(a,o)
end
end Att
variable{CX:L2.CXT}{sp:L2.Sp}{B:Prop}
namespace L2
open PySem PySem.Spec PyProof.Rows
theorem Ru:∀{vs:List AH} {ns:List Int},GP vs ns->Vals (ns.map V.int) vs
 |_,_,.nil=>.nil
 |_,_,.cons n t h=>.cons {t,rfl} (Ru h)
def Gh(H:Hp):Prop:=∀b,H b=AK\/(∃o xs,H b=AA (.frz o (.lst xs)))\/∃q,H b=AA (.tbl q #[])
structure Tabs(K:AC)(q:CQ):Prop where
 rcs:∀x∈iG,∀c T,EN K x=AA (c,T)->∃d,(PyProof.Rows.recsOf q).find? (λe=>e.name==x)=AA d
 out:∀x∈iG,∀c T,EN K x=AA (c,T)->K.lookup T=AK
 uni:∀x∈iG,∀y∈iG,∀c c' T,EN K x=AA (c,T)->EN K y=AA (c',T)->x=y
def CB(K:AC)(base:D4):Prop:=∀x∈iG,∀c T,EN K x=AA (c,T)->JH base c T
theorem Tabs.uq{K:AC}(t:Tabs K q){T:AQ}{u v:CT}(a:TB K T u)(b:TB K T v):u=v:=by
 obtain⟨x,c,h1,h2,rfl⟩:=a;obtain⟨y,c',g1,g2,rfl⟩:=b;rw[t.uni x h1 y g1 c c' T h2 g2]
open Classical in
noncomputable def j3(K:AC)(H:Hp):Hp:=λb=>if h:∃q,TB K b q then AA (.tbl h.choose #[]) else H b
theorem zXV{K:AC}(t:Tabs K q){T:AQ}{u:CT}(a:TB K T u):j3 K H T=AA (.tbl u #[]):=by
 have h:∃q,TB K T q:={u,a};unfold j3;rw[dif_pos h,t.uq h.choose_spec a]
theorem zXW{K:AC}{b:AQ}(a:∀q,¬TB K b q):j3 K H b=H b:=by
 unfold j3;rw[dif_neg (λq0=>by obtain⟨q,z⟩:=q0;exact a q z)]
theorem zTY{K:AC}{mb:CT->Option AH}{fa:AQ}{FC:AT}{vs:List AH}
  (KX:K.In FC.heap) (i4:FC.heap.Ns BK mg) (hb:FC.heap.Ns MT mb) (hbb:∀x:CT,x≠"__name__"->mb x=GL x) (Kh:FC.heap.NoLimit) (Bb:∃bm ob,mg "__builtins__"=AA (.ref bm)/\bm≠MT/\FC.heap.get? bm=AA ob/\ob.cls=.type "module"/\ob.dict=AA MT/\ob.data=.plain) (hg:FC.gens=#[])
  (tK:Tabs K q) (tT:∀x∈iG,∀c T,EN K x=AA (c,T)->JH FC.heap c T/\FC.heap.get? T=AA (KZ #[]))
  (ha:FC.heap.get? a=AA { cls:=.type "list",data:=.seq vs.toArray }) (hi:GP vs ns) (hl:ns.length<=sizeLine) (hr:Room k QN)
  (F:∀base:D4,K.In base->base.Ns BK mg->CB K base->FnOk P w K mg base CX k fa fd [x] sp) (O9:∀(s:AT) (u:AH),UB s fd {[u],[]} [(x,u)])
  (bB:∀H:Hp,Gh H->SqL K H a (ns.map V.int)->sp [.ref a] H (λv _=>v=.bl AL) λ_ _ _=>False)
  (Lj:∀H e s',CX [] H FC (λ_ _ _=>False) e s'->False) :
  HN (A1 P w) QN (.call (.ref fa) {[.ref a],[]}) (λr s'=>r=.ok (.ret (.bool AL))/\OldK FC.heap s'.heap/\s'.os=FC.os/\NJ s'.gens) FC:=by
 have rv:=Ru hi;have Ja:=hi.length
 have WV:∀{T u},TB K T u->FC.heap.get? T=AA (KZ #[])/\bM FC.heap T/\K.lookup T=AK:=λ{T u} h=>by
  obtain⟨x,c,h1,h2,_⟩:=h;obtain⟨z1,z2⟩:=tT x h1 c T h2;exact{z2,(z1.tab z2).isCodeTable,tK.out x h1 c T h2}
 have qW:∀{u},¬TB K a u:=λ{u} h=>by
  have e:=(WV h).1;rw[ha] at e;cases e
 -- from an abstract heap in which nothing but the script and the tables is U6
 have wS:∀H0:Hp,(∀b,H0 b=AK\/∃o xs,H0 b=AA (.frz o (.lst xs)))->SqL K H0 a (ns.map V.int)->HOk P w H0 FC.heap->(∀b,H0 b≠AK->b=a)->(H0 a≠AK->K.lookup a=AK) ->
   HN (A1 P w) QN (.call (.ref fa) {[.ref a],[]}) (λr s'=>r=.ok (.ret (.bool AL))/\OldK FC.heap s'.heap/\s'.os=FC.os/\NJ s'.gens) FC:=by
  intro H0 Zh hS0 Ka Zk hK0;have hT:∀{T u},TB K T u->j3 K H0 T=AA (.tbl u #[]):=λh=>zXV tK h;have hN:∀b,(∀u,¬TB K b u)->j3 K H0 b=H0 b:=λb h=>zXW h
  have gr:∀b u,H0 b=AA u->j3 K H0 b=AA u:=λb u e=>by
   have:b=a:=Zk b (by rw[e];simp);rw[hN b λu=>by rw[this];exact qW,e]
  generalize hH:j3 K H0=H at hT hN gr
  have hO:Gh H:=λb=>by
   by_cases h:∃u,TB K b u
   .obtain⟨u,h⟩:=h;exact .inr (.inr {u,hT h})
   .rw[hN b λu z=>h {u,z}]
    exact(Zh b).imp_right .inl
  have hS:SqL K H a (ns.map V.int):=hS0.imp (λz=>z.imp (gr _ _) (λq0=>by obtain⟨o,z⟩:=q0;exact{o,gr _ _ z})) id
  have hok:HOk P w H FC.heap:=λb u e=>by
   by_cases h:∃u,TB K b u
   .obtain⟨v,h⟩:=h
    rw[hT h] at e;cases e;exact{(WV h).1,trivial,λpos cv z=>by cases z}
   .rw[hN b λu z=>h {u,z}] at e
    refine(Ka b u e).stay (λc v _ q=>q) (λc q=>gr _ _ q) (λc xs q=>gr _ _ q) λc o x q=>gr _ _ q
  have hA:∀b,H b≠AK->b=a\/∃u,TB K b u:=λb z=>by
   by_cases h:∃u,TB K b u
   .exact .inr h
   .rw[hN b λu z=>h {u,z}] at z
    exact .inl (Zk b z)
  have hK:H a≠AK->K.lookup a=AK:=λz=>hK0 (by rw[<-hN a λu=>qW];exact z);have RE:∀{b:AQ} {o:IE},FC.heap.get? b=AA o->H b=AK->(eW FC.heap H).get? b=AA o:=λe n=>zTH e n
  have uZ:∀{b:AQ} {o:IE} {es:Array J4} {ep:Nat},FC.heap.get? b=AA o->o.data=.dict es ep->H b=AK:=λ{b o es ep} e d=>by
   cases q:H b with
   |none=>rfl
   |some u =>
    rcases hA b (by rw[q];simp) with e'|⟨v,h⟩
    .subst e'
     rw[ha] at e;cases e;have d':lS vs.toArray _=Data.dict es ep:=d;cases d'
    .rw[(WV h).1] at e;cases e
     have d':SL #[]=Data.dict es ep:=d;cases d'
  have Ao:∀{b:AQ} {m:CT->Option AH},FC.heap.Ns b m->(eW FC.heap H).Ns b m:=λ{b m} ⟨o,es,ep,e,d,r⟩=>{o,es,ep,RE e (uZ e d),d,r}
  have Zi:K.In (eW FC.heap H):=λb o e=>RE (KX b o e) (by
   cases q:H b with
   |none=>rfl
   |some u =>
    rcases hA b (by rw[q];simp) with e'|⟨v,h⟩
    .subst e'
     rw[hK (by rw[q];simp)] at e;cases e
    .rw[(WV h).2.2] at e;cases e)
  have hM:Mod K mg (eW FC.heap H):={Zi,Ao i4,{mb,Ao hb,hbb},let ⟨mc,h1,h2⟩:=Kh;{mc,Ao h1,h2},by
   obtain⟨bm,ob,b1,b2,b3,b4,b5,b6⟩:=Bb;refine{bm,ob,b1,b2,RE b3 ?_,b4,b5,b6}
   cases q:H bm with
   |none=>rfl
   |some u =>
    rcases hA bm (by rw[q];simp) with e'|⟨v,h⟩
    .subst e';rw[ha] at b3;cases b3;injection b4 with z;exact absurd z 'd'
    .rw[(WV h).1] at b3;cases b3;cases b4}
  have e0:Env0 P w K mg (eW FC.heap H) QN [] FC H:={λT u h=>{_,hT h},rfl,hM,λb o e=>zXC e,CY (zPY _ _),trivial,λb hb=>absurd (show b∈([]:List AQ) from hb) 's',hok,.of_eq hg}
  have hCB:CB K (eW FC.heap H):=λx hx c T e=>by
   obtain⟨⟨o,kL,Lm,tf,wN,tg,inF,Ho,tt,e1,e2,r⟩,_⟩:=tT x hx c T e;refine{o,kL,Lm,tf,wN,tg,inF,Ho,tt,RE e1 ?_,e2,r}
   cases q:H c with
   |none=>rfl
   |some u =>
    rcases hA c (by rw[q];simp) with e'|⟨v,h⟩
    .subst e';rw[ha] at e1;cases e1;injection e2 with z;exact absurd z 'd'
    .rw[(WV h).1] at e1;cases e1;cases e2
  refine MA ((F _ Zi (Ao i4) hCB).run QN [] FC H {[.ref a],[]} [.ref a] [.ref a] _ _ hr e0 (O9 FC (.ref a)) (.cons rfl .nil) (bB H hO hS)) λr s' h=>?_
  cases r with
  |error e=>exact(Lj H e s' h).elim
  |ok fl =>
   cases fl with
   |next=>exact HL h
   |brk=>exact HL h
   |cont=>exact HL h
   |ret u =>
    obtain⟨v,H',os,bare,un,vV,r',q⟩:=h;have q':v=.bl AL:=q;subst q';obtain rfl:u=JA AL:=r'
    have H9:∀b o,FC.heap.get? b=AA o->s'.heap.get? b=AA o\/(bM FC.heap b/\o=KZ #[]/\∃ps,s'.heap.get? b=AA (KZ ps)):=λb o e=>by
     cases q:H b with
     |none=>exact .inl (un.keep b o e q (by intro z;exact absurd (show b∈([]:List AQ) from z) 's') 's')
     |some u =>
      rcases hO b with z|⟨ob,xs,z⟩|⟨v,z⟩
      .rw[q] at z;cases z
      .have z2:=un.frzs b ob _ z
       obtain⟨e1,_⟩:=hok b _ z;obtain⟨e2,_⟩:=vV b _ z2;rw[e] at e1;cases e1;exact .inl e2
      .obtain⟨m,z2⟩:=un.tbls b v _ z
       obtain⟨e2,_⟩:=vV b _ z2
       by_cases h:∃u,TB K b u
       .obtain⟨w',h⟩:=h
        rw[(WV h).1] at e;cases e;exact .inr {(WV h).2.1,rfl,_,e2}
       .rw[hN b λu z=>h {u,z}] at z
        rcases Zh b with y|⟨ob,xs,y⟩
        .rw[z] at y;cases y
        .rw[z] at y;cases y
    refine{rfl,{λb o e=>?_,λb o e=>?_},os,bare}
    .rcases H9 b o e with z|⟨ht,rfl,ps,hP⟩
     .exact .inl z
     .exact .inr (.inl {ht,rfl,#[],ps,rfl,by rw[Array.empty_append];exact hP})
    .rcases H9 b o e with z|⟨_,_,ps,hP⟩
     .exact{o,z}
     .exact{_,hP}
 cases hk:K.lookup a with
 |some o =>
  -- the script is LO of the module's own objects
  have e:=KX a o hk;rw[ha] at e;cases e;refine wS (λ_=>AK) (λ_=>.inl rfl) (.inr {_,vs.toArray,_,hk,rfl,rfl,rfl,by rw[AW,Ja];exact hl,by simpa using rv}) (λb u z=>by have z':(AK:Option HO)=AA u:=z;cases z') (λb z=>absurd rfl z) λz=>absurd rfl z
 |none =>
  refine wS (λb=>if b=a then AA (.frz { cls:=.type "list",data:=.seq vs.toArray } (.lst (ns.map V.int))) else AK) (λb=>?_) (.inl (.inr {{ cls:=.type "list",data:=.seq vs.toArray },if_pos rfl})) (λb u z=>?_) (λb z=>?_) λ_=>hk
  .by_cases hb:b=a
   .exact .inr {_,_,if_pos hb}
   .exact .inl (if_neg hb)
  .by_cases hb:b=a
   .have z':=(if_pos hb).symm.trans z
    cases z';subst hb;exact{ha,by rw[AJ];exact hl,vs,_,rv,ha}
   .have z':=(if_neg hb).symm.trans z
    cases z'
  .by_cases hb:b=a
   .exact hb
   .exact absurd (if_neg hb) z
theorem walk_of{l:Q1}{d:DefRec}{K:Params->AC}{CX:D3->CXT}{sp:D3->Sp}
  (hn:l.most=AA n) (Z6:n<=sizeLine) (wE:d.params.defaults=[]) (hr:Room k QN)
  (hY:∀(w:D3) (h:D4),YP w h->(K w.params).In h) (tK:∀w:D3,Tabs (K w.params) q)
  (F:∀(w:D3) (mg:CT->Option AH) (fa:AQ) (h:D4),(K w.params).In h->h.Ns BK mg->mg d.name=AA (.ref fa) ->
   ∃fd:JR,(∀(s:AT) (u:AH),UB s fd {[u],[]} [(x,u)]) /\
    ∀base:D4,(K w.params).In base->base.Ns BK mg->CB (K w.params) base->FnOk l.prog w (K w.params) mg base (CX w) k fa fd [x] (sp w))
  (bB:∀(w:D3) (H:Hp) (a:AQ) (ns:List Int),ns.length<=n->Gh H->SqL (K w.params) H a (ns.map V.int)->sp w [.ref a] H (λv _=>v=.bl AL) λ_ _ _=>False)
  (Lj:∀(w:D3) (H:Hp) (s:AT) (e:AH) (s':AT),CX w [] H s (λ_ _ _=>False) e s'->False) :
  gH q Y8 XP YP l.row.toRowW d [] (λf vs=>aI f vs):=by
 refine Att.attach_call hn wE λw s₀ FC mg mb fa o pm cd SF a vs ns G Y ho hd L9 vX dH dM EX hg=>?_;have KX:=hY w _ Y;obtain⟨fd,hb,hF⟩:=F w mg fa _ KX G.T.g vX;exact zTY KX G.T.g G.T.b G.T.builtins G.T.nolimit G.T.bmain hg (tK w) (λx hx c T e=>let ⟨d,hd⟩:=(tK w).rcs x hx c T e;PySem.W.tab_of G.T KX hd e) dH dM (AZ EX Z6) hr hF hb (λH hO hS=>bB w H a ns EX hO hS) λH e s'=>Lj w H FC e s'
noncomputable def cD(s:E6):Arguments:=match s with
 |.FunctionDef _ a _ _ _ _ _ _ _ _=>a
 |_=>{ posonlyargs:=[],args:=[],vararg:=AK,kwonlyargs:=[],kw_defaults:=[],kwarg:=AK,defaults:=[] }
noncomputable def V6(s:E6):List E6:=match s with
 |.FunctionDef _ _ b _ _ _ _ _ _ _=>b
 |_=>[]
noncomputable def J1(s:E6):NG:=match s with
 |.FunctionDef _ _ _ _ _ _ sc _ _ _=>sc
 |_=>{ kind:=.function,names:=[],isGenerator:=AD,isCoroutine:=AD }
abbrev LM:CXT:=λ_ _ _ _ _ _=>False
abbrev E0:XK:=λ_ _ _=>False
theorem xF:xK LM X E0:=λ_ _ _ _ _ _ _ h=>h.elim
structure Fun(K:AC)(x qual:CT)(st:E6)(f:AQ)(fd:JR):Prop where
 ex:∃(oc:AH) (od:Option AQ) (kV SF pm:AH) (an:Option AQ) (G6 ct:AH) (Z4:Array (Option AH)),
  fd=E7 x qual (cD st) (V6 st) (J1 st) .none kV SF pm an G6 ct/\K.lookup f=AA {oc,od,.func fd,Z4}/\ID K G6 qual=AL
 kp:EO K (.ref f)=AL
section
variable{K:AC}
theorem Fun.ok{st:E6}(F:Fun K x qual st f fd)(S:FnScope N ps (J1 st))(len:∀vs H Q E,sp vs H Q E->vs.length=ps.length)
  (KR:∀(G6:AH) (A:DQ) (outer:List XC) (s:AT) (H:Hp) (vs:List V) (Q:VK) (E:XK),Room k (A.deeper (FY qual (J1 st) s.heap.objs.size f G6))->sp vs H Q E ->
   ∃t,PSs (O1 LM P w K mg base N qual (J1 st) f G6 A outer s H E).nox (V6 st) t/\t { nx:=λ_ H'=>Q .non H',rt:=Q } (start N vs) H):FnOk P w K mg base LM (k+1) f fd ps sp:=by
 obtain⟨oc,od,kV,SF,pm,an,G6,ct,Z4,rfl,lk,L9⟩:=F.ex;refine Cb lk L9 S len λA outer s H vs Q E hr bB=>?_;obtain⟨t,h,q⟩:=KR G6 A outer s H vs Q E hr bB;exact{t,h.nox,q}
theorem Fun.binds{st:E6}(F:Fun K x qual st f fd)
  (h:∀(kV SF pm:AH) (an:Option AQ) (G6 ct:AH) (us:List AH),us.length=ps.length->OA (E7 x qual (cD st) (V6 st) (J1 st) .none kV SF pm an G6 ct) {us,[]}=pure (ps.zip us)):Binds K fd ps []:=by
 obtain⟨oc,od,kV,SF,pm,an,G6,ct,Z4,rfl,lk,L9⟩:=F.ex;exact .all (h kV SF pm an G6 ct)
theorem xM{st:E6}{Z4:Array (Option AH)}{kV SF G6:AH}(l:K.lookup f=AA {oc,od,.func (E7 x qual (cD st) (V6 st) (J1 st) .none kV SF pm an G6 ct),Z4})
  (c:ID K G6 qual=AL) (k:EO K (.ref f)=AL):Fun K x qual st f (E7 x qual (cD st) (V6 st) (J1 st) .none kV SF pm an G6 ct):={{oc,od,kV,SF,pm,an,G6,ct,Z4,rfl,l,c},k}
end
theorem Ek(h:n<=1000):n<sizeLine:=AS h 'd'
theorem pv(i:Nat)(hN:X.N[i]?=AA x:=by rfl)(hv:Z2 X.env.scope x:=by first|exact BN rfl|exact EF (BN rfl)|exact EF (EF rfl))(hd:(x==("__debug__":CT))=AD:=by decide)
  (L9:(x==("__classdict__":CT))=AD:=by decide):PE X (.Name x pos) (eV i):=iD hN hv hd L9
theorem Um{A:Prop}(h:B):if AD=AL then A else B:=by
 rw[if_neg CN];exact h
theorem Ul{A:Prop}(h:A):if AL=AL then A else B:=by
 rw[if_pos rfl];exact h
end L2
namespace TS
open PySem PyProof.Rows
section
variable{prog:CQ}{w:D3}{A:DQ}{E:AH->AT->Prop}{s:AT}{BU:Array BA}{kd:FK}
structure SB(BU:Array BA)(kd:FK)(st:BP):Prop where
 perm:(AY st).Perm BU
 kind:kindOf st=kd
 failed:jE st=AK
theorem SB.size{st:BP}(h:SB BU kd st):(AY st).size=BU.size:=h.perm.size_eq
theorem SB.setArr{st:BP}(h:SB BU kd st){xs:Array BA}(hp:xs.Perm (AY st)):SB BU kd (setArr st xs):={hp.trans h.perm,h.kind,h.failed}
theorem SB.mem{st:BP}(h:SB BU kd st){i:Nat}(hi:i<(AY st).size):(AY st)[i]∈BU:=h.perm.mem_iff.mp (AG hi)
theorem pV{st:BP}{HC:Array BA}{i:Nat}{Q:BA->BP->Prop}(hi:i<HC.size)(h:Q HC[i] st):NV (A1 prog w) A E s (elem' HC i) Q st:=by
 rw[elem'_eq,getElem?_pos HC i hi];exact BD h
theorem LK{α:Type}{c:Prop}[Decidable c]{x y:StateT BP SJ α}{Q:α->BP->Prop}{st:BP}(h1:c->NV (A1 prog w) A E s x Q st)(h2:¬c->NV (A1 prog w) A E s y Q st) :
  NV (A1 prog w) A E s (if c then x else y) Q st:=by
 by_cases h:c
 .rw[if_pos h];exact h1 h
 .rw[if_neg h];exact h2 h
end
section
variable{prog:CQ}{w:D3}{A:DQ}{E:AH->AT->Prop}{s:AT}{BU:Array BA}{kd:FK}
theorem yF{st:BP}{i j:Nat}{Q:PUnit->BP->Prop}(h:Q ⟨⟩ (setArr st (OO (AY st) i j ((j-i) / 2)))):NV (A1 prog w) A E s (reverseSlice' i j) Q st:=by
 rw[reverseSlice'_eq];exact MR h
def Kp(BU:Array BA)(kd:FK)(st CU:BP):Prop:=SB BU kd CU/\DK CU=DK st
theorem Kp.rev{st CU:BP}{i j d:Nat}(h:Kp BU kd st CU):Kp BU kd st (setArr CU (OO (AY CU) i j d)):={h.1.setArr (mirror_perm _ _ _ _),h.2}
end
noncomputable def sN:Bool->BA->Array BA->Nat->Nat->Nat->StateT BP SJ (Option Nat):=sortPriv% PySem.Builtin.gallop
section
variable{prog:CQ}{w:D3}{A:DQ}{E:AH->AT->Prop}{s:AT}{BU:Array BA}{kd:FK}
end
noncomputable def Fm:Nat->StateT BP SJ Unit:=sortPriv% PySem.Builtin.setMinGallop
abbrev sE(st:BP)(g:Nat):BP:=SS (kindOf st) (AY st) (DK st) g (jE st)
theorem zFY(g:Nat):Fm g=modify λs=>sE s g:=rfl
noncomputable def zT0:Array BA->Array BA->StateT BP SJ (Array BA):=sortPriv% PySem.Builtin.mergeLo
noncomputable def zT1:Array BA->Array BA->StateT BP SJ (Array BA):=sortPriv% PySem.Builtin.mergeHi
structure Mid(a b out:Array BA)(ia ib:Nat):Prop where
 perm:(out.toList++a.toList.drop ia++b.toList.drop ib).Perm (a.toList++b.toList)
 la:ia<=a.size
 lb:ib<=b.size
 sz:out.size=ia+ib
theorem Mid.pushB{a b out:Array BA}{ia ib:Nat}(m:Mid a b out ia ib)(h:ib<b.size):Mid a b (out.push b[ib]) ia (ib+1):=by
 refine{?_,m.la,h,by rw[EH,m.sz];lia}
 have e:b.toList.drop ib=b[ib]::b.toList.drop (ib+1):=by
  rw[FL (by simpa using h)];simp
 have p:=m.perm;rw[e] at p;refine KA ?_ p;rw[FD];simp only[CM,J9];exact JM _ (gR.symm)
theorem Mid.pushA{a b out:Array BA}{ia ib:Nat}(m:Mid a b out ia ib)(h:ia<a.size):Mid a b (out.push a[ia]) (ia+1) ib:=by
 refine{?_,h,m.lb,by rw[EH,m.sz];lia}
 have e:a.toList.drop ia=a[ia]::a.toList.drop (ia+1):=by
  rw[FL (by simpa using h)];simp
 have p:=m.perm;rw[e] at p;refine KA ?_ p;rw[FD];simp only[CM,J9,M3];exact G4 _
theorem Pf(a:Array BA)(i:Nat):(a.extract i a.size).toList=a.toList.drop i:=by
 rw[KL];exact JT 's'
theorem Mid.done{a b out:Array BA}{ia ib:Nat}(m:Mid a b out ia ib):(out++a.extract ia a.size++b.extract ib b.size).Perm (a++b):=by
 rw[EG];simp only[EL,Pf];exact m.perm
theorem Mid.lastA{a b out:Array BA}{ia ib:Nat}(m:Mid a b out ia ib):(out++b.extract ib b.size++a.extract ia a.size).Perm (a++b):=by
 rw[EG];simp only[EL,Pf];refine KA ?_ m.perm;simp only[CM];exact JM _ YU
section
variable{prog:CQ}{w:D3}{A:DQ}{E:AH->AT->Prop}{s:AT}{BU:Array BA}{kd:FK}
def Gal(st CU:BP):Prop:=∃g,CU=sE st g
theorem Gal.refl(st:BP):Gal st st:={gallopOf st,rfl}
theorem Gal.set{st CU:BP}(h:Gal st CU)(g:Nat):Gal st (sE CU g):=by
 obtain⟨g',rfl⟩:=h;exact{g,rfl}
theorem Gal.kind{st CU:BP}(h:Gal st CU)(hk:kindOf st=kd):kindOf CU=kd:=by
 obtain⟨g',rfl⟩:=h;exact hk
theorem zXX{st:BP}{g:Nat}{Q:Unit->BP->Prop}(h:Q () (sE st g)):NV (A1 prog w) A E s (Fm g) Q st:=by
 rw[zFY];exact MR h
end
structure MidH(a b out:Array BA)(na nb:Nat):Prop where
 perm:(a.toList.take na++b.toList.take nb++out.toList.reverse).Perm (a.toList++b.toList)
 la:na<=a.size
 lb:nb<=b.size
 sz:out.size+na+nb=a.size+b.size
theorem Rt(a:Array BA)(n:Nat)(h:n-1<a.size)(h0:1<=n):a.toList.take n=a.toList.take (n-1)++[a[n-1]]:=by
 obtain⟨m,rfl⟩:∃m,n=m+1:={n-1,by lia};have h':m<a.toList.length:=by simpa using h
 simp only[Nat.add_sub_cancel];rw[BE h'];simp
theorem MidH.pushA{a b out:Array BA}{na nb:Nat}(m:MidH a b out na nb)(h0:1<=na)(h:na-1<a.size):MidH a b (out.push a[na-1]) (na-1) nb:=by
 refine{?_,CW h,m.lb,by rw[EH];have:=m.sz;lia};have p:=m.perm;rw[Rt a na h h0] at p;refine KA ?_ p;rw[FD,aM];simp only[CM,J9,IF,gQ,GC,M3];exact JM _ gR
theorem MidH.pushB{a b out:Array BA}{na nb:Nat}(m:MidH a b out na nb)(h0:1<=nb)(h:nb-1<b.size):MidH a b (out.push b[nb-1]) na (nb-1):=by
 refine{?_,m.la,CW h,by rw[EH];have:=m.sz;lia};have p:=m.perm;rw[Rt b nb h h0] at p;rw[FD,aM];simpa only[CM,J9,IF,gQ,GC,M3] using p
theorem Dj(a:Array BA)(i n:Nat)(h:i<=n):a.toList.take i++(a.extract i n).toList=a.toList.take n:=by
 rw[KL];show a.toList.take i++(a.toList.drop i).take (n-i)=_
 conv=>rhs;rw[show n=i+(n-i) by lia]
 rw[List.take_add]
theorem Qu(a:Array BA)(i:Nat):(a.extract 0 i).toList=a.toList.take i:=by
 have:=Dj a 0 i (BS _);simpa using this
theorem MidH.done{a b out:Array BA}{na nb:Nat}(m:MidH a b out na nb):(a.extract 0 na++b.extract 0 nb++out.reverse).Perm (a++b):=by
 rw[EG];simp only[EL,Qu,OD];exact m.perm
theorem MidH.firstB{a b out:Array BA}{na nb:Nat}(m:MidH a b out na nb):(b.extract 0 nb++a.extract 0 na++out.reverse).Perm (a++b):=by
 rw[EG];simp only[EL,Qu,OD];refine KA ?_ m.perm;exact T9 _ YU
section
variable{prog:CQ}{w:D3}{A:DQ}{E:AH->AT->Prop}{s:AT}{BU:Array BA}{kd:FK}
end
theorem Pe(c:List BA):∀(a:Array BA) (sa k:Nat),sa+k+c.length<=a.size ->
  ((c.zipIdx k).foldl (λa (p:BA×Nat)=>a.setIfInBounds (sa+p.2) p.1) a).toList=a.toList.take (sa+k)++c++a.toList.drop (sa+k+c.length):=by
 induction c with
 |nil=>intro a sa k h;simp
 |cons x r ih =>
  intro a sa k h;rw[KC,SU];have hl:(x::r).length=r.length+1:=rfl;rw[ih (a.setIfInBounds (sa+k) x) sa (k+1) (by rw[MH];lia)];have JL:sa+k<a.toList.length:=by simp;lia
  rw[UC];rw[show sa+(k+1)=(sa+k)+1 by lia];rw[BE (by simpa using JL),List.take_set_of_le (AM _),List.getElem_set_self,List.drop_set_of_lt (GB (A2 _ _))];rw[show sa+k+1+r.length=sa+k+(x::r).length by rw[hl];lia];simp
theorem zQN{a c:Array BA}{sa sb nb:Nat}(h1:sa<=sb)(h2:sb+nb<=a.size)(hp:c.Perm (a.extract sa sb++a.extract sb (sb+nb))) :
  (c.toList.zipIdx.foldl (λa (p:BA×Nat)=>a.setIfInBounds (sa+p.2) p.1) a).Perm a:=by
 have hl:c.toList.length=(sb-sa)+nb:=by
  have:=hp.size_eq;rw[HY,JD,JD] at this;simp;lia
 rw[EG,Pe c.toList a sa 0 'l'];have bD:=EG.mp hp;rw[EL] at bD;have e1:=Dj a sa sb h1;have e2:=Dj a sb (sb+nb) (A2 _ _);have e3:=List.take_append_drop (sb+nb) a.toList
 have q:(a.toList.take (sa+0)++c.toList++a.toList.drop (sa+0+c.toList.length)).Perm (a.toList.take sa++((a.extract sa sb).toList++(a.extract sb (sb+nb)).toList)++a.toList.drop (sb+nb)):=by
  rw[show sa+0=sa from Nat.add_zero _,show sa+c.toList.length=sb+nb by lia];exact T9 _ (JM _ bD)
 refine q.trans ?_;rw[<-CM,e1,e2,e3]
section
variable{prog:CQ}{w:D3}{A:DQ}{E:AH->AT->Prop}{s:AT}{BU:Array BA}{kd:FK}
theorem zXY{st st2:BP}{Q:PUnit->BP->Prop}(h:Q ⟨⟩ st2):NV (A1 prog w) A E s (set st2:StateT BP SJ PUnit) Q st:=by
 unfold NV;rw[StateT.run_set];exact wpAny_pure {rfl,h}
end
abbrev Run:=Nat×Nat×Nat
section
variable{prog:CQ}{w:D3}{A:DQ}{E:AH->AT->Prop}{s:AT}{BU:Array BA}{kd:FK}
theorem yBY{c:Prop}[Decidable c]{a b n:Nat}(h1:a<=n)(h2:b<=n):(if c then a else b)<=n:=by
 split
 .exact h1
 .exact h2
end
end TS
variable{cl:List (CT×AQ)}{own CV:List CT}{js:List Nat}{JF:D4}{ifs:List C8}{pp WX:gK}{J:L2.It}{R:Result->AT->Prop}{H1:L2.Hp}{o:L2.HO}{N7 kx vx:C8}{wi:L2.TI}
namespace L2
open PySem PySem.Spec PyProof.Rows
def PTs(X:Cx)(ifs:List C8)(t:TT):Prop :=
 ∀(AE:List (AQ×IE)) (s:AT) (σ:St) (H:Hp) (Q:Bool->Hp->Prop),Inv X AE σ H s->t σ H Q ->
  A0 (A1 X.prog X.w) X.A (forIn ifs AL λc r=>if r=AL then do let ok <-VQ c X.env (eval c X.env);pure (QG ok) else pure (QG r)) (TP X AE σ Q) X.xe s
def Uk:TT:=λ_ H Q=>Q AL H
theorem Y5:PTs X [] Uk:=λ_ _ _ H _ I h=>wpAny_tests_nil {H,I,h}
theorem zXZ{t:TT}(h:PT X c t):PTs X [c] t:=λAE s σ H Q I hw=>wpAny_tests_one (h AE s σ H Q I hw)
noncomputable def MI(X:Cx)(scope:NG)(cl:List (CT×AQ))(nm:List CT)(C:AQ)(s:AT)(H:Hp)(fp:List AQ):Cx where
 prog:=X.prog
 w:=X.w
 K:=X.K
 mg:=X.mg
 base:=X.base
 A:=X.A
 N:=nm
 s₀:=s
 H₀:=H
 env:=jG scope cl C X.env
 outer:=X.stack
 stack:=X.stack
 ex:=fp
 fn:=λ_=>AD
 calm:=X.calm
 pn:=[]
 xe:=λ_ _=>False
noncomputable def V5(k:Nat)(js:List Nat)(σ:St):St:=BG k AK++js.map λj=>(σ[j]?).getD AK
structure CompNm(X:Cx)(scope:NG)(cl:List (CT×AQ))(own CV:List CT)(js:List Nat):Prop where
 clos:YL scope X.env=pure cl
 kind:scope.kind=.function
 nocell:∀y∈scope.names,y.2≠.cell
 loc:∀y∈scope.names,y.2=.local->scope.names.lookup y.1=AA .local
 dom:∀y∈scope.names,y.2=.free->y.1∈CV
 nm:cl.map (·.1)=CV
 cells:∀p∈cl,X.env.cells.lookup p.1=AA p.2
 slot:CV.map AA=js.map λj=>X.N[j]?
 vis:∀x∈CV,X.env.kindOf x=AA .cell\/X.env.kindOf x=AA .free
 fr:∀x∈CV,(TY scope X.env).names.lookup x=AA .cell\/(TY scope X.env).names.lookup x=AA .free
 no:∀x∈own,x∉CV
 dis:∀x∈own,scope.names.lookup x=AA .local
theorem sX{α β:Type}[BEq α][LawfulBEq α]:∀{l:List (α×β)} {x:α} {c:β},l.lookup x=AA c->(x,c)∈l
 |[],_,_,h=>by simp at h
 |(a,b)::r,x,c,h=>by
  rw[M1] at h
  cases e:x==a with
  |true=>rw[e] at h;cases h;have:=eq_of_beq e;subst this;exact A8
  |false=>rw[e] at h;exact A4 _ (sX h)
theorem Fp{α β:Type}[BEq α][LawfulBEq α]:∀{l:List (α×β)} {x:α},x∈l.map (·.1)->∃c,l.lookup x=AA c
 |[],_,h=>by simp at h
 |(a,b)::r,x,h=>by
  rw[M1]
  cases e:x==a with
  |true=>exact{b,rfl}
  |false =>
   refine Fp ?_;rcases BC.mp h with q|q
   .have q:x=a:=q
    subst q;simp at e
   .exact q
theorem zG{env:XC}:∀{names:List (CT×T8)} {x:CT} {k:T8},(names.map λ(n,k)=>if(k==eK&&env.scope.kind==.function&&env.kindOf n==AA .cell) then(n,NameKind.cell) else(n,k)).lookup x=AA k ->
  (k=.cell\/k=.free)->∃k',(x,k')∈names/\(k'=.cell\/k'=.free)
 |[],_,_,h,_=>by simp at h
 |(n,k0)::r,x,k,h,hk=>by
  rw[AV,M1] at h
  by_cases hc:(k0==eK&&env.scope.kind==.function&&env.kindOf n==AA .cell)=AL
  .simp only[hc,if_true] at h
   cases e:x==n with
   |true =>
    have:=eq_of_beq e;subst this
    have hf:k0=.free:=by
     have:=(ZM.mp (ZM.mp hc).1).1;exact eq_of_beq this
    exact{k0,A8,.inr hf}
   |false =>
    rw[e] at h;obtain⟨k',h1,h2⟩:=zG h hk;exact{k',A4 _ h1,h2}
  .simp only[hc,if_false,D7] at h
   cases e:x==n with
   |true =>
    rw[e] at h;have:=eq_of_beq e;subst this;cases h;exact{k0,A8,hk}
   |false =>
    rw[e] at h;obtain⟨k',h1,h2⟩:=zG h hk;exact{k',A4 _ h1,h2}
theorem CompNm.cl_of(n:CompNm X scope cl own CV js){c:AQ}(h:cl.lookup x=AA c):X.env.cells.lookup x=AA c:=n.cells _ (sX h)
theorem CompNm.has(n:CompNm X scope cl own CV js)(h:x∈CV):∃c,cl.lookup x=AA c:=Fp (by rw[n.nm];exact h)
theorem Inv.stk_of{b:AQ}(I:Inv X AE σ H s)(hf:FpOk X AE H b):b∉RA X.stack:=λz=>by
 rcases BC.mp (I.stkSub b z) with e|e
 .exact hf.2.1 e
 .exact hf.2.2.1 e
theorem zO5{m:CT->Option AH}{tk:Nat}{own':List CT}(n:CompNm X scope cl own CV js)(I:Inv X AE σ H s)(hf:∀b∈fp,FpOk X AE H b)
  (JL:∀b∈fp,b<s.heap.objs.size) (i4:JF.Ns s.heap.objs.size m) (H9:∀b o,s.heap.get? b=AA o->JF.get? b=AA o) :
  Inv (MI X scope cl (own++CV) s.heap.objs.size s H fp) [] (V5 own.length js σ) H { s with heap:=JF,toks:=tk }:=by
 have hl:js.length=CV.length:=by
  have:=congrArg MD n.slot;simpa using this.symm
 refine{{I.tab,I.ok.mod,n.kind,I.ok.glob,I.ok.blt,AM _,λx y c h1 h2=>I.ok.inj x y c (n.cl_of h1) (n.cl_of h2),λx hx=>?_,(λx c h=>nomatch h),I.ok.hd,I.ok.frames,.inl rfl,λb hb=>{CA (JL b hb),λx c e=>(hf b hb).2.2.2.2.1 x c (n.cl_of e)},
   I.bs,AZ I.ok.bsz I.sz,λb o e hb=>?_,λb hb=>I.stk_of (hf b hb),I.stack,I.stkFree},
  rfl,I.bare,Un.kept H9,{m,i4,λi x v e1 e2 e3=>?_},λx c e=>?_,I.hok.fresh (AM _),λx c e=>I.freeC x c (n.cl_of e),(λp hp=>nomatch hp),I.hok.kept H9,?_}
 .have hx:(TY scope X.env).names.lookup x=AA .cell\/(TY scope X.env).names.lookup x=AA .free:=hx
  have J2:∃k',(x,k')∈scope.names/\(k'=.cell\/k'=.free):=by
   rcases hx with h|h
   .exact zG h (.inl rfl)
   .exact zG h (.inr rfl)
  obtain⟨k',h1,h2⟩:=J2;rcases h2 with h2|h2
  .exact absurd h2 (n.nocell _ h1)
  .exact n.has (n.dom _ h1 h2)
 .obtain⟨_,_,_,h4,_⟩:=hf b hb
  rcases h4 with h4|h4
  .exact I.ok.noex b o e h4
  .exact absurd (AN (A9 e) I.ok.bsz) (VX.mpr h4)
 ·-- a captured name
  have hi:own.length<=i:=by
   rcases Nat.lt_or_ge i own.length with h|h
   .unfold V5 at e2
    rw[CC (by simpa using h),DW,if_pos h] at e2;cases e2
   .exact h
  have e1:(own++CV)[i]?=AA x:=e1;rw[B0 hi] at e1;unfold V5 at e2;rw[B0 (by simpa using hi),DC,AU] at e2
  cases ej:js[i-own.length]? with
  |none=>rw[ej] at e2;cases e2
  |some j =>
   rw[ej] at e2;have e2:AA ((σ[j]?).getD AK)=AA (AA v):=e2
   have hj:X.N[j]?=AA x:=by
    have q:=congrArg (λl=>l[i-own.length]?) n.slot;simp only[AU,e1,ej,GT] at q;exact(BL q).symm
   have hv:σ[j]?=AA (AA v):=by
    cases es:σ[j]? with
    |none=>rw[es] at e2;cases e2
    |some o=>rw[es] at e2;exact e2
   have a8:x∈CV:=C4 e1;obtain⟨m0,hn0,rG⟩:=I.loc
   have vis:Z2 X.env.scope x:=by
    rcases n.vis x a8 with k|k
    .exact .inr (.inl k)
    .exact .inr (.inr k)
   obtain⟨u,r,lk⟩:=rG j x v hj hv vis;refine{u,r,.inr {n.fr x a8,?_}};obtain⟨c,hc⟩:=n.has a8;refine{c,hc,?_};rcases lk with⟨k,_⟩|⟨_,c',ZC,z⟩
   .rcases n.vis x a8 with k'|k'
    .rw[k] at k';cases k'
    .rw[k] at k';cases k'
   .rw[n.cl_of hc] at ZC
    cases ZC;obtain⟨o,ho,hd⟩:=z;exact{o,H9 _ _ ho,hd}
 .obtain⟨v,o,ho,hd⟩:=I.cell x c (n.cl_of e)
  exact{v,o,H9 _ _ ho,hd}
 .show(V5 own.length js σ).length=(own++CV).length
  unfold V5;rw[BH,BH,DC,AJ,hl]
abbrev TM:=St->Hp->(St->Hp->Prop)->Prop
def PM(X:Cx)(m:SJ Unit)(t:TM):Prop :=
 ∀(AE:List (AQ×IE)) (s:AT) (σ:St) (H:Hp) (N:St->Hp->Prop),Inv X AE σ H s->t σ H N->A0 (A1 X.prog X.w) X.A m (λ_ s'=>∃σ' H',Inv X AE σ' H' s'/\N σ' H') (λ_ _=>False) s
def tWalkC(J:It)(g:TG)(tt:TT)(tm:TM):TM:=λσ H N=>∃W:Nat->Nat->St->Hp->Prop,(∃m,W 0 m σ H)/\∀i m σ H,W i m σ H ->
 (J.stop i H/\N σ H)\/(J.go i H/\∀x H',J.yld i H x H'->g x σ H' λσ2 H2=>tt σ2 H2 λb H3 =>
  if b=AL then tm σ2 H3 (λσ4 H4=>∃m',m'<m/\W (i+1) m' σ4 H4) else ∃m',m'<m/\W (i+1) m' σ2 H3)
theorem Na{Y:Cx}{d:Nat}{acc:AH}{m:SJ Unit}{g:TG}{tt:TT}{tm:TM}{tn:Nat->D4->Prop}{N:St->Hp->Prop}
  (nQ:Y.A.under (.compLoop e d (.ref it) acc Y.env)=Y.A) (oF:(A1 Y.prog Y.w).den (.compLoop e d (.ref it) acc Y.env)=(YK e d (.ref it) acc Y.env).onRaise (λx=>do bI x Y.env;theTreesLotGoes x))
  (dD:YK e d (.ref it) acc Y.env=(do
   IZ pp
   match <-JY (.ref it) with
   |none=>pure (.done .next)
   |some v =>
    FO tg (.ref it) v
    KY tg Y.env v
    let mut ok:=AL
    for c in ifs do
     if ok then ok <-VQ c Y.env (eval c Y.env)
    if ok then m
    YN (.compLoop e d (.ref it) acc Y.env)))
  (hx:Y.xe=λ_ _=>False) (hc:Y.calm=AL) (hg:PG Y tg g) (ht:PTs Y ifs tt) (hm:PM Y m tm) (T:Turn Y.prog Y.w Y.K tg J fp it tn)
  {AE:List (AQ×IE)} {σ:St} {H:Hp} {s:AT} (I:Inv Y AE σ H s) (st:tn 0 s.heap) (f:∀b∈fp,FpOk Y AE H b) (h:tWalkC J g tt tm σ H N)
  (hR:∀σ' H' s',Inv Y AE σ' H' s'->N σ' H'->R (.ok .next) s') :
  HN (A1 Y.prog Y.w) Y.A (.compLoop e d (.ref it) acc Y.env) R s:=by
 obtain⟨W,⟨m0,w0⟩,turn⟩:=h;have U8:∀{H':Hp},(∀b∈fp,H' b=AK)->∀b∈fp,FpOk Y AE H' b:=λhn b hb=>{hn b hb,(f b hb).2};have vP:∀{α:Type} {t:SJ α} {Q:α->AT->Prop} {s:AT} {E:AH->AT->Prop},A0 (A1 Y.prog Y.w) Y.A t Q Y.xe s->A0 (A1 Y.prog Y.w) Y.A t Q E s:=λh=>C7 h (λ_ _ q=>q) λ_ _ z=>by rw[hx] at z;exact z.elim
 refine codeAny_loop rfl (λk s'=>∃i σ' H',Inv Y AE σ' H' s'/\tn i s'.heap/\(∀b∈fp,H' b=AK)/\W i k σ' H') (λn s3 hI=>?_) m0 {0,σ,H,I,st,λb hb=>(f b hb).1,w0};obtain⟨i,σ3,H3,I3,KN,wM,w3⟩:=hI;rw[nQ,oF];refine wpAny_noted ?_;rw[dD];refine AB (IK (AB ?_));rcases turn i n σ3 H3 w3 with⟨stop,qn⟩|⟨go,step⟩
 .refine GV (T.done Y rfl rfl rfl hc i AE s3 σ3 H3 _ I3 (U8 wM) KN stop) λr s4 q0=>?_;obtain⟨hr,I4⟩:=q0
  subst hr;exact wpAny_pure (hR _ _ _ I4 qn)
 .refine GV (T.item Y rfl rfl rfl hc i AE s3 σ3 H3 _ I3 (U8 wM) KN go) λr s4 q0=>?_;obtain⟨u,hr,h4⟩:=q0
  subst hr;refine AB (GV h4 λ_ s5 ⟨x,H5,I5,r5,y5,iR,Lk⟩=>?_);have Mf:=I5.pinned (U8 Lk) (T.obj _ _ iR);refine AB (GV (vP (hg _ s5 σ3 H5 x u _ Mf r5 (step x H5 y5))) λ_ s6 ⟨σ6,H6,I6,q6⟩=>?_)
  have YN:∀{σ7:St} {H7:Hp} {s7:AT},Inv Y (AE++sG fp s5.heap) σ7 H7 s7->(∃m',m'<n/\W (i+1) m' σ7 H7)->∃m,m<n/\∃i σ' H',Inv Y AE σ' H' s7/\tn i s7.heap/\(∀b∈fp,H' b=AK)/\W i m σ' H':=λ{σ7 H7 s7} I7 ⟨m',hm,w7⟩=>by
   refine{m',hm,i+1,σ7,H7,I7.unpinned,T.keep _ _ _ iR λb hb o e=>(I7.pin (b,o) (BM _ (BM _ (zA hb e)))).1,λb hb=>?_,w7};obtain⟨o,e,d⟩:=T.obj _ _ iR b hb;exact(I7.pin (b,o) (BM _ (BM _ (zA hb e)))).2.1
  refine AB (GV (vP (ht _ s6 σ6 H6 _ I6 q6)) λb s7 ⟨H7,I7,q7⟩=>?_)
  cases b with
  |false=>exact wpAny_pure {rfl,YN I7 q7}
  |true =>
   exact AB (C7 (hm _ s7 σ6 H7 _ I7 q7) ((λ_ s8 q0=>by obtain⟨σ8,H8,I8,q8⟩:=q0;exact wpAny_pure {rfl,YN I8 q8})) λ_ _ z=>z.elim)
def pK(wi:TI)(k:Nat)(js:List Nat)(o:HO)(g:Hp->TG)(tt:Hp->TT)(tm:Hp->AQ->TM):TE:=λσ H Q=>wi σ H λJ H1=>∀acc,H1 acc=AK ->
 tWalkC J (g (D6 H1 acc o)) (tt (D6 H1 acc o)) (tm (D6 H1 acc o) acc) (V5 k js σ) (D6 H1 acc o) λ_ H'=>Q (.ref acc) H'
theorem yZ{s2:AT}{cS:SJ AH}{obj:IE}{m:AQ->XC->SJ Unit}{g:Hp->TG}{tt:Hp->TT}{tm:Hp->AQ->TM}{tn:Nat->D4->Prop}{Q:VK}
  {RR:AH->AQ->Result->AT->Prop}
  (oB:∀{Q:AH->AT->Prop} {s:AT},Q (.ref s.heap.objs.size) { s with heap:=s.heap.push obj }->A0 (A1 X.prog X.w) X.A cS Q E s)
  (dH:ObjOk X.prog X.w (D6 H1 s2.heap.objs.size o) (s2.heap.push obj) s2.heap.objs.size o)
  (nQ:∀acc env,X.A.under (.compLoop e 0 (.ref it) acc env)=X.A) (oF:∀acc env,(A1 X.prog X.w).den (.compLoop e 0 (.ref it) acc env)=(YK e 0 (.ref it) acc env).onRaise (λx=>do bI x env;theTreesLotGoes x))
  (dD:∀acc env,YK e 0 (.ref it) (.ref acc) env=(do
   IZ pp
   match <-JY (.ref it) with
   |none=>pure (.done .next)
   |some v =>
    FO tg (.ref it) v
    KY tg env v
    let mut ok:=AL
    for c in ifs do
     if ok then ok <-VQ c env (eval c env)
    if ok then m acc env
    YN (.compLoop e 0 (.ref it) (.ref acc) env)))
  (nU:∀{acc:AH} {env:XC} {R:Result->AT->Prop} {s:AT},HN (A1 X.prog X.w) X.A (.compLoop e 0 (.ref it) acc env) R s->A0 (A1 X.prog X.w) X.A (ON (.ref it)) (λvJ s'=>HN (A1 X.prog X.w) X.A (.compLoop e 0 vJ acc env) R s')
   (notedBy (A1 X.prog X.w) X.A env λx s'=>R (.error x) s') s->HN (A1 X.prog X.w) X.A (.compStart e 0 (.ref it) acc env) R s)
  (n:CompNm X scope cl own CV js) (hc:X.calm=AL) (hg:∀C s H fp,PG (MI X scope cl (own++CV) C s H fp) tg (g H)) (ht:∀C s H fp,PTs (MI X scope cl (own++CV) C s H fp) ifs (tt H))
  (hm:∀C s H fp acc,PM (MI X scope cl (own++CV) C s H fp) (m acc (jG scope cl C X.env)) (tm H acc))
  (I2:Inv X AE σ H1 s2) (T:Turn X.prog X.w X.K tg J fp it tn) (st2:tn 0 s2.heap) (f2:∀b∈fp,FpOk X AE H1 b)
  (hW:∀acc,H1 acc=AK->tWalkC J (g (D6 H1 acc o)) (tt (D6 H1 acc o)) (tm (D6 H1 acc o) acc) (V5 own.length js σ) (D6 H1 acc o) λ_ H'=>Q (.ref acc) H')
  (hRR:∀acc C H' s' m,Inv X AE σ H' s'->H' C=AK->C≠X.env.locals->X.s₀.heap.objs.size<=C->(∀x c,X.env.cells.lookup x=AA c->c≠C)->(∀p∈X.pn++AE,p.1≠C)->s'.heap.Ns C m->Q (.ref acc) H'->RR (.ref acc) C (.ok .next) s') :
  A0 (A1 X.prog X.w) X.A cS (λacc U7=>A0 (A1 X.prog X.w) X.A (newFunctionEnv scope X.env.globals cl [] X.env.qual AK .none (AA X.env)) (λwV Hq =>
   HN (A1 X.prog X.w) X.A (.compStart e 0 (.ref it) acc { wV with scope:=TY scope X.env }) (RR acc wV.locals) Hq) E U7) E s2:=by
 refine oB (jA n.nocell (by intro y hy;simp at hy) (λJF YC X9=>?_) n.kind);dsimp only at YC X9 ⊢;have vW:H1 s2.heap.objs.size=AK:=I2.hok.fresh (AM _)
 have I3:Inv X AE σ (D6 H1 s2.heap.objs.size o) { s2 with heap:=s2.heap.push obj } :=
  I2.laid (t':=s2.toks) (λb u e=>AF _ e) (AM _) dH
 have hWa:=hW s2.heap.objs.size vW;generalize At:({ s2 with heap:=s2.heap.push obj }:AT)=s3 at I3;have Kq:s2.heap.push obj=s3.heap:=by rw[<-At]
 have Ij:∀b o,s2.heap.get? b=AA o->s3.heap.get? b=AA o:=λb o e=>by rw[<-Kq];exact AF _ e
 rw[Kq] at YC X9 ⊢;have oC:∀b∈fp,b<s2.heap.objs.size:=λb hb=>by obtain⟨o,ho,_⟩:=T.obj _ _ st2 b hb;exact A9 ho
 have hsz:s3.heap.objs.size=s2.heap.objs.size+1:=by rw[<-Kq,FX]
 have f3:∀b∈fp,FpOk X AE (D6 H1 s2.heap.objs.size o) b:=λb hb=>by
  obtain⟨q,r⟩:=f2 b hb;exact{by rw[EV (CA (oC b hb))];exact q,r}
 have uW:∀b o,s3.heap.get? b=AA o->JF.get? b=AA o:=λb o e=>X9.extBut b o (CA (A9 e)) (AF _ e);have e4:({ s2 with heap:=JF,toks:=s2.toks+([]:List (CT×AH)).length }:AT)={ s3 with heap:=JF,toks:=s2.toks+([]:List (CT×AH)).length }:=by rw[<-At]
 have IY:=zO5 (own':=[]) (tk:=s2.toks+([]:List (CT×AH)).length) n I3 f3 (λb hb=>by rw[hsz];exact JZ (oC b hb)) YC uW;have Xs:tn 0 JF:=T.keep _ _ _ st2 λb hb o e=>uW b o (Ij b o e)
 have U8:∀b∈fp,FpOk (MI X scope cl (own++CV) s3.heap.objs.size s3 (D6 H1 s2.heap.objs.size o) fp) [] (D6 H1 s2.heap.objs.size o) b:=λb hb =>
   {(f3 b hb).1,CA (by show b<s3.heap.objs.size;rw[hsz];exact JZ (oC b hb)),I3.stk_of (f3 b hb),.inl hb,λx c e=>(f3 b hb).2.2.2.2.1 x c (n.cl_of e),(λp hp=>nomatch hp)}
 have nM:∀s4:AT,s4={ s3 with heap:=JF,toks:=s2.toks+([]:List (CT×AH)).length } ->
   HN (A1 X.prog X.w) X.A (.compLoop e 0 (.ref it) (.ref s2.heap.objs.size) (jG scope cl s3.heap.objs.size X.env)) (RR (.ref s2.heap.objs.size) s3.heap.objs.size) s4:=by
  rintro s4 rfl;refine Na (Y:=MI X scope cl (own++CV) s3.heap.objs.size s3 (D6 H1 s2.heap.objs.size o) fp) (nQ _ _) (oF _ _) (dD _ _) rfl hc (hg _ _ _ _) (ht _ _ _ _) (hm _ _ _ _ _) T IY Xs U8 hWa ?_;intro σ6 H6 s6 I6 q
  have I7:Inv X AE σ H6 s6:=I3.call' I6.os I6.base I6.hok I6.bare λb hb=>by
   obtain⟨_,g1,_,g3,g4,g5⟩:=f3 b hb;exact{g3,g1,g4,g5}
  obtain⟨mC,hnC,_⟩:=I6.loc
  exact hRR _ _ H6 s6 mC I7 I6.free (FR I3.lt) I3.sz (λx c e z=>by
    obtain⟨v,zc⟩:=I3.cell x c e
    exact absurd zc.lt (by rw[z];exact GJ _))
   (λp hp z=>absurd (A9 (I3.pin p hp).1) (by rw[z];exact GJ _)) hnC q
 rw[e4];exact nU (nM _ rfl) (T.self _ 0 _ _ _ Xs (nM _ rfl))
def j2(acc:AQ)(te:TE):TM:=λσ H N=>te σ H λy H4=>∃ys,H4 acc=AA (.lst ys)/\ys.length<sizeLine/\N σ (D6 H4 acc (.lst (ys++[y])))
theorem Di{acc:AQ}(hx:X.xe=λ_ _=>False)(he:PE X N7 te):PM X (do let _ <-call (.builtin "list.append") [.ref acc,<-eval N7 X.env]) (j2 acc te):=by
 intro AE s σ H N I h;have h1:=he AE s σ H _ I h;rw[hx] at h1;refine AB (GV h1 λyv Ia ⟨y,Zz,wX,r10,ys,ha,hz,q⟩=>?_);have:=yU (X:=X) _ Ia σ Zz (.ref acc) [y] (.ref acc) [yv] (λv H'=>v=.non/\H'=D6 Zz acc (.lst (ys++[y]))) wX rfl (.cons r10 .nil) {_,ys,y,rfl,rfl,ha,hz,rfl,rfl};refine AB (C7 this (λ_ s11 ⟨v,H11,I11,_,_,eH⟩=>wpAny_pure {σ,H11,I11,?_}) λ_ _ z=>by rw[hx] at z;exact z);subst eH;exact q
theorem zQO{k:Key}{r:AH}{kvs:List (Key×V)}{Q:Unit->AT->Prop}(I:Inv X AE σ H s)(e:H a=AA (.dK kvs))(l:kvs.length<sizeLine)(ry:RelV (kV k) u)(rv:RelV v r)
  (h:∀s',Inv X AE σ (D6 H a (.dK (QS kvs k v))) s'->Q () s'):A0 (A1 X.prog X.w) A (dictSet a u r) Q E s:=by
 obtain⟨z,hd,vs,NC,dd⟩:=Bz I.hok e;have hz:vs.length<=sizeLine:=by rw[<-NC.length];exact z
 have hl:(QS kvs k v).length<=sizeLine:=by have:=zH kvs k v;lia
 refine wpAny_dictSet_pairs (hsz:=hz) (j4 ry) dd λh' gD hs=>h _ ?_;have he:∃q,h'.get? a=AA q:=let ⟨q,_,_,hq,_⟩:=gD;{q,hq};exact yB I (by rw[e];exact G7) hs he (Ct hl hd (NC.put k rv) gD)
def Cr(acc:AQ)(tk tv:TE):TM:=λσ H N=>tk σ H λx H3=>tv σ H3 λy H4=>∃kvs k,H4 acc=AA (.dK kvs)/\x=kV k/\kvs.length<sizeLine/\N σ (D6 H4 acc (.dK (QS kvs k y)))
theorem zT2{acc:AQ}{tk:TE}(hx:X.xe=λ_ _=>False)(hk:PE X kx tk)(hv:PE X vx tv):PM X (do
 let kv <-eval kx X.env
 let vv <-I0 [kv] (eval vx X.env)
 IZ pp
 I0 [kv,vv] (dictSet acc kv vv)) (Cr acc tk tv):=by
 intro AE s σ H N I h;have h1:=hk AE s σ H _ I h;rw[hx] at h1;refine AB (GV h1 λkv s3 ⟨x,H3,I3,r3,q3⟩=>?_);have h2:=hv AE s3 σ H3 _ I3 q3;rw[hx] at h2;refine AB (CZ (GV h2 λvv s4 ⟨y,H4,I4,r4,kvs,k,e,ek,hz,q⟩=>?_));subst ek;exact AB (IK (CZ (zQO I4 e hz r3 r4 λs' I'=>{σ,_,I',q})))
def Mz(wi:TI)(g:TG)(tt:TT)(tm:TM):TM:=λσ H N=>wi σ H λJ H1=>tWalkC J g tt tm σ H1 N
theorem zDB{N7 g0 P1 iter ifs rest scope pos it acc env}
  (h0:HN (A1 prog w) A (.compLoop (.ListComp N7 (g0::{P1,iter,ifs,0}::rest) scope pos) 1 it acc env) R s)
  (h:A0 (A1 prog w) A (ON it) (λvJ s'=>HN (A1 prog w) A (.compLoop (.ListComp N7 (g0::{P1,iter,ifs,0}::rest) scope pos) 1 vJ acc env) R s')
   (notedBy (A1 prog w) A env λx s'=>R (.error x) s') s) :
  HN (A1 prog w) A (.compStart (.ListComp N7 (g0::{P1,iter,ifs,0}::rest) scope pos) 1 it acc env) R s:=by
 refine codeAny_of_tree ?_;show A0 _ A ((compStart (.ListComp N7 (g0::{P1,iter,ifs,0}::rest) scope pos) 1 it acc env).onRaise (λx=>do bI x env;IZ theWindowsPlace)) _ _ s;refine wpAny_notedAt ?_;unfold compStart;show A0 _ A (ask >>= _) _ _ s;refine AB (wpAny_askSetting (wpAny_ite ?_));split
 .first
   |exact AB (wpAny_pure (wpAny_pure (XV rfl h0)))
   |exact wpAny_pure (XV rfl h0)
 .first
   |exact AB (FJ (AB (IK (AB (C7 h (λvJ s' h'=>wpAny_pure (XV rfl h')) λ_ _ x=>x)))))
   |(refine AB (FJ ?_);show A0 _ _ (IZ iter.pos >>= _) _ _ s;exact AB (IK (AB (C7 h (λvJ s' h'=>wpAny_pure (XV rfl h')) λ_ _ x=>x))))
theorem zX0{acc:AQ}{iter:C8}{g0:Comprehension}{g:TG}{tt:TT}{sc:NG}(hx:X.xe=λ_ _=>False)(hc:X.calm=AL)(hi:PI X tg iter wi)(hg:PG X tg g)(ht:PTs X ifs tt)(he:PE X N7 te)
  (hs:∀x,DF iter X.env x=pure x):PM X (do
    let x <-eval iter X.env
    IZ iter.pos
    let x <-DF iter X.env x
    let _ <-runOwn (.compStart (.ListComp N7 [g0,⟨tg,iter,ifs,0⟩] sc pos) 1 (<-I0 [x] (ON x)) (.ref acc) X.env) X.env) (Mz wi g tt (j2 acc te)):=by
 intro AE s σ H N I h;have h1:=hi AE s σ H _ I h;rw[hx] at h1;refine AB (GV h1 λv s1 h2=>AB (IK (AB (i9 (hs v) (AB (CZ (GV h2 λnN s2 h3=>?_)))))));obtain⟨it,fp,tn,J,H2,e,I2,T,st2,f2,hW⟩:=h3;subst e;refine AB (wpAny_runOwn (zDB ?_ (T.self _ 0 _ _ _ st2 ?_)))
 all_goals
  refine Na (Y:=X) (pp:=iter.pos) (m:=(do let _ <-call (.builtin "list.append") [.ref acc,<-eval N7 X.env])) rfl rfl rfl hx hc hg ht (Di hx he) T I2 st2 f2 hW ?_;intro σ' H' s' I' n';exact wpAny_pure {σ',H',I',n'}
theorem zK0(N7 tg iter kN LD:C8)(ifs X7:List C8)(scope:NG)(pos:gK)(it acc:AH)(env:XC) :
  YK (.ListComp N7 [{tg,iter,ifs,0},{kN,LD,X7,0}] scope pos) 0 it acc env=(do
   IZ iter.pos
   match <-JY it with
   |none=>pure (.done .next)
   |some v =>
    FO tg it v
    KY tg env v
    let mut ok:=AL
    for c in ifs do
     if ok then ok <-VQ c env (eval c env)
    if ok then(do
     let x <-eval LD env
     IZ LD.pos
     let x <-DF LD env x
     let _ <-runOwn (.compStart (.ListComp N7 [⟨tg,iter,ifs,0⟩,⟨kN,LD,X7,0⟩] scope pos) 1 (<-I0 [x] (ON x)) acc env) env)
    YN (.compLoop (.ListComp N7 [{tg,iter,ifs,0},{kN,LD,X7,0}] scope pos) 0 it acc env)):=by
 simp only[bind_assoc,pure_bind]
 rfl
theorem yEA{iter kN LD:C8}{X7:List C8}{Xj:Hp->TI}{g g2:Hp->TG}{tt Xo:Hp->TT}{te:Hp->TE}(n:CompNm X scope cl own CV js)(hc:X.calm=AL)(hi:PI X tg iter wi)
  (hg:∀C s H fp,PG (MI X scope cl (own++CV) C s H fp) tg (g H)) (ht:∀C s H fp,PTs (MI X scope cl (own++CV) C s H fp) ifs (tt H))
  (hi2:∀C s H fp,PI (MI X scope cl (own++CV) C s H fp) kN LD (Xj H)) (hg2:∀C s H fp,PG (MI X scope cl (own++CV) C s H fp) kN (g2 H)) (ht2:∀C s H fp,PTs (MI X scope cl (own++CV) C s H fp) X7 (Xo H))
  (he:∀C s H fp,PE (MI X scope cl (own++CV) C s H fp) N7 (te H))
  (hs:∀x,DF iter X.env x=pure x:=by intro _;rfl) (M6:∀C x,DF LD (jG scope cl C X.env) x=pure x:=by intro _ _;rfl) :
  PE X (.ListComp N7 [{tg,iter,ifs,0},{kN,LD,X7,0}] scope pos) (pK wi own.length js (.lst []) g tt λH acc=>Mz (Xj H) (g2 H) (Xo H) (j2 acc (te H))):=by
 intro AE s σ H Q I h;rw[eval_ListComp];refine JQ (use:=AK) rfl hs n.clos n.kind n.loc (C7 (hi AE s σ H _ I h) (λxv FC JF=>C7 JF (λnN O4 L8=>?_) λ_ _ e=>e) λ_ _ e=>e);obtain⟨it,fp,tn,J,H2,e,I2,T,st2,f2,hW⟩:=L8;subst e
 refine yZ (obj:={ cls:=.type "list",dict:=AK,data:=.seq ([]:List AH).toArray }) (pp:=iter.pos) (ifs:=ifs) (tg:=tg) (RR:=λacc C=>jF (A1 X.prog X.w) X.A X.xe AK (EP X AE σ Q) acc C)
  (m:=λacc env=>(do
    let x <-eval LD env
    IZ LD.pos
    let x <-DF LD env x
    let _ <-runOwn (.compStart (.ListComp N7 [⟨tg,iter,ifs,0⟩,⟨kN,LD,X7,0⟩] scope pos) 1 (<-I0 [x] (ON x)) (.ref acc) env) env))
  (o:=.lst []) (λ{Q s} h=>BY h) (show ObjOk _ _ _ _ _ (.lst []) from{BS _,[],0,.nil,AX _ rfl}) (λ_ _=>rfl) (λ_ _=>rfl) (λ_ _=>zK0 _ _ _ _ _ _ _ _ _ _ _ _) (λh0 h1=>OP h0 h1) n hc hg ht
  (λC s H fp acc=>zX0 (X:=MI X scope cl (own++CV) C s H fp) rfl hc (hi2 C s H fp) (hg2 C s H fp) (ht2 C s H fp) (he C s H fp) (M6 C)) I2 T st2 f2 hW ?_
 intro acc C H' s' m I' hC h1 h2 h3 h4 hn q;exact{m,hn,λh' sb=>{.ref acc,H',I'.turned (t':=s'.toks) (λb o hb e=>sb.extBut b o hb e) hC h1 (.inr h2) h3 h4,rfl,q}}
theorem zT3{iter:C8}{g:Hp->TG}{tt:Hp->TT}{tk tv:Hp->TE}(n:CompNm X scope cl own CV js)(hc:X.calm=AL)(hi:PI X tg iter wi)
  (hg:∀C s H fp,PG (MI X scope cl (own++CV) C s H fp) tg (g H)) (ht:∀C s H fp,PTs (MI X scope cl (own++CV) C s H fp) ifs (tt H))
  (hk:∀C s H fp,PE (MI X scope cl (own++CV) C s H fp) kx (tk H)) (hv:∀C s H fp,PE (MI X scope cl (own++CV) C s H fp) vx (tv H))
  (hs:∀x,DF iter X.env x=pure x:=by intro _;rfl) :
  PE X (.DictComp kx vx [{tg,iter,ifs,0}] scope pos) (pK wi own.length js (.dK []) g tt λH acc=>Cr acc (tk H) (tv H)):=by
 intro AE s σ H Q I h;rw[arm_eval_DictComp];refine JQ (use:=AK) rfl hs n.clos n.kind n.loc (C7 (hi AE s σ H _ I h) (λxv FC JF=>C7 JF (λnN O4 L8=>?_) λ_ _ e=>e) λ_ _ e=>e);obtain⟨it,fp,tn,J,H2,e,I2,T,st2,f2,hW⟩:=L8;subst e
 refine yZ (obj:={ cls:=.type "dict",dict:=AK,data:=.dict #[] }) (pp:=iter.pos) (ifs:=ifs) (tg:=tg) (RR:=λacc C=>jF (A1 X.prog X.w) X.A X.xe AK (EP X AE σ Q) acc C)
  (m:=λacc env=>(do
   let kv <-eval kx env
   let vv <-I0 [kv] (eval vx env)
   IZ { kx.pos with endLine:=vx.pos.endLine,endCol:=vx.pos.endCol }
   I0 [kv,vv] (dictSet acc kv vv)))
  (λ{Q s} h=>BY h) (Ed O4.heap I2.big) (λ_ _=>rfl) (λ_ _=>rfl) (λ_ _=>rfl) (λh0 h1=>codeAny_compStart_dict h0 h1) n hc hg ht
  (λC s H fp acc=>zT2 (X:=MI X scope cl (own++CV) C s H fp) rfl (hk C s H fp) (hv C s H fp)) I2 T st2 f2 hW ?_
 intro acc C H' s' m I' hC h1 h2 h3 h4 hn q;exact{m,hn,λh' sb=>{.ref acc,H',I'.turned (t':=s'.toks) (λb o hb e=>sb.extBut b o hb e) hC h1 (.inr h2) h3 h4,rfl,q}}
theorem zX1{iter:C8}{g:Hp->TG}{tt:Hp->TT}{te:Hp->TE}(n:CompNm X scope cl own CV js)(hc:X.calm=AL)(hi:PI X tg iter wi)
  (hg:∀C s H fp,PG (MI X scope cl (own++CV) C s H fp) tg (g H)) (ht:∀C s H fp,PTs (MI X scope cl (own++CV) C s H fp) ifs (tt H)) (he:∀C s H fp,PE (MI X scope cl (own++CV) C s H fp) N7 (te H))
  (hs:∀x,DF iter X.env x=pure x:=by intro _;rfl):PE X (.ListComp N7 [{tg,iter,ifs,0}] scope pos) (pK wi own.length js (.lst []) g tt λH acc=>j2 acc (te H)):=by
 intro AE s σ H Q I h;rw[eval_ListComp];refine JQ (use:=AK) rfl hs n.clos n.kind n.loc (C7 (hi AE s σ H _ I h) (λxv FC JF=>C7 JF (λnN O4 L8=>?_) λ_ _ e=>e) λ_ _ e=>e);obtain⟨it,fp,tn,J,H2,e,I2,T,st2,f2,hW⟩:=L8;subst e
 refine yZ (obj:={ cls:=.type "list",dict:=AK,data:=.seq ([]:List AH).toArray }) (pp:=iter.pos) (ifs:=ifs) (tg:=tg) (RR:=λacc C=>jF (A1 X.prog X.w) X.A X.xe AK (EP X AE σ Q) acc C)
  (m:=λacc env=>(do let _ <-call (.builtin "list.append") [.ref acc,<-eval N7 env]))
  (o:=.lst []) (λ{Q s} h=>BY h) (show ObjOk _ _ _ _ _ (.lst []) from{BS _,[],0,.nil,AX _ rfl}) (λ_ _=>rfl) (λ_ _=>rfl) (λ_ _=>rfl) (λh0 h1=>OP h0 h1) n hc hg ht
  (λC s H fp acc=>Di (X:=MI X scope cl (own++CV) C s H fp) rfl (he C s H fp)) I2 T st2 f2 hW ?_
 intro acc C H' s' m I' hC h1 h2 h3 h4 hn q;exact{m,hn,λh' sb=>{.ref acc,H',I'.turned (t':=s'.toks) (λb o hb e=>sb.extBut b o hb e) hC h1 (.inr h2) h3 h4,rfl,q}}
theorem Sz{iter:C8}{g:Hp->TG}{tt:Hp->TT}{te:Hp->TE}(n:CompNm X scope cl own CV js)(hc:X.calm=AL)(hi:PI X tg iter wi)
  (hg:∀C s H fp,PG (MI X scope cl (own++CV) C s H fp) tg (g H)) (ht:∀C s H fp,PTs (MI X scope cl (own++CV) C s H fp) ifs (tt H)) (he:∀C s H fp,PE (MI X scope cl (own++CV) C s H fp) N7 (te H))
  (hN:X.N.Nodup) (hx:X.N[i]?=AA x) (hl:X.env.scope.names.lookup x=AA .local)
  (nS:IL (.ListComp N7 [{tg,iter,ifs,0}] scope pos) (AA (.Name x N5)) WX.line X.env=pure AL)
  (hs:∀x,DF iter X.env x=pure x:=by intro _;rfl):PS X (.Assign [.Name x N5] (.ListComp N7 [{tg,iter,ifs,0}] scope pos) WX) (l6 (pK wi own.length js (.lst []) g tt λH acc=>j2 acc (te H)) (b9 i)):=by
 intro AE s σ H D I h;rw[exec_Assign_Name_used _ _ _ _ nS];refine AB (IK (AB ?_));show A0 _ X.A (do let _ <-comprehension (.ListComp N7 [⟨tg,iter,ifs,0⟩] scope pos) scope X.env _ (newList []) AD (eval iter X.env) (AA (KY (.Name x N5) X.env))) _ _ s
 refine AB (C7 (JQ (use:=AA (KY (.Name x N5) X.env)) (Q:=λ_ s'=>SP X AE D .next s') rfl hs n.clos n.kind n.loc
  (C7 (hi AE s σ H _ I h) (λxv FC JF=>C7 JF (λnN O4 L8=>?_) λ_ _ e=>e) λ_ _ e=>e)) (λ_ s' hq=>wpAny_pure (wpAny_pure hq)) λ_ _ e=>e)
 obtain⟨it,fp,tn,J,H2,e,I2,T,st2,f2,hW⟩:=L8;subst e
 refine yZ (obj:={ cls:=.type "list",dict:=AK,data:=.seq ([]:List AH).toArray }) (pp:=iter.pos) (ifs:=ifs) (tg:=tg) (Q:=λx H1=>b9 i x σ H1 D.nx) (RR:=λacc C=>jF (A1 X.prog X.w) X.A X.xe (AA (KY (.Name x N5) X.env)) (λ_ s'=>SP X AE D .next s') acc C)
  (m:=λacc env=>(do let _ <-call (.builtin "list.append") [.ref acc,<-eval N7 env]))
  (o:=.lst []) (λ{Q s} h=>BY h) (show ObjOk _ _ _ _ _ (.lst []) from{BS _,[],0,.nil,AX _ rfl}) (λ_ _=>rfl) (λ_ _=>rfl) (λ_ _=>rfl) (λh0 h1=>OP h0 h1) n hc hg ht
  (λC s H fp acc=>Di (X:=MI X scope cl (own++CV) C s H fp) rfl (he C s H fp)) I2 T st2 f2 hW ?_
 intro acc C H' s' m I' hC h1 h2 h3 h4 hn q;show A0 _ X.A (KY (.Name x N5) X.env (.ref acc)) _ _ _;refine wpAny_assign_Name (Em I' hN hx (.inl hl) (v:=.ref acc) rfl (λfP I'' sb=>?_) (.inr hl));obtain⟨a,sb,ha⟩:=sb
 have hCa:C≠a:=by
  rcases ha with ha|ha
  .rw[ha];exact h1
  .exact λz=>h3 x a ha z.symm
 exact{m,hn.sameBut sb hCa,λh' Hz=>{_,H',I''.turned (t':=fP.toks) (λb o hb e=>Hz.extBut b o hb e) hC h1 (.inr h2) h3 h4,q}}
end L2
namespace TS
open PySem PySem.W PyProof.Rows
section
variable{prog:CQ}{w:D3}{A:DQ}{E:AH->AT->Prop}{s:AT}
theorem zK1{vs:List AH}{xs:Array BA}(h:xs.Perm (IB vs)):(xs.map (·.2)).toList.Perm vs:=by
 have p:=(EG.mp h).map (·.2);rw[QC] at p;have e:(vs.zip vs).map (·.2)=vs:=List.map_snd_zip (AM _);rw[e] at p;simpa using p
end
end TS
variable{ep:Nat}{l1 l2:AQ}{H2:L2.Hp}
namespace L2
open PySem PySem.Spec PyProof.Rows
theorem Vals.perm(p:ws.Perm us):∀{xs:List V},Vals xs us->∃ys,ys.Perm xs/\Vals ys ws:=by
 induction p with
 |nil=>intro xs r;cases r;exact{[],G4 _,.nil}
 |cons a _ ih =>
  intro xs r
  cases r with
  |cons h t =>
   obtain⟨ys,q,r'⟩:=ih t;exact{_::ys,q.cons _,.cons h r'}
 |swap a b l =>
  intro xs r
  cases r with
  |cons h t =>
   cases t with
   |cons h' t'=>exact{_::_::_,HW _ _ _,.cons h' (.cons h t')}
 |trans _ _ a7 ih2 =>
  intro xs r;obtain⟨ys,q,r'⟩:=ih2 r;obtain⟨zs,q',uN⟩:=a7 r';exact{zs,q'.trans q,uN}
def Mx(H:Hp)(y:V):Prop:=∃(p:AQ) (n:Int) (ns:List Int),y=.ref p/\H p=AA (.tup ((n::ns).map V.int))
theorem Pd{X:Cx}{AE:List (AQ×IE)}{σ:St}{H:Hp}{s:AT}(I:Inv X AE σ H s):∀{ys:List V} {us:List AH},Vals ys us->(∀y∈ys,Mx H y) ->
  ∃fs:List AH,fs.length=us.length/\Q2 s.heap us fs/\(∀v∈fs,∃n t,v=.int n t)/\∀u∈us,∃(p:AQ) (BZ:List AH) (ns:List Int),u=.ref p/\QE s.heap p BZ.toArray/\GP BZ ns
 |_,_,.nil,_=>{[],rfl,RJ,(λv hv=>nomatch hv),(λu hu=>nomatch hu)}
 |_,_,.cons r t,h=>by
  obtain⟨fs,e1,e2,e3,e4⟩:=Pd I t λy hy=>h y (A4 _ hy);obtain⟨p,n,ns,ey,hp⟩:=h _ A8;subst ey;cases r;obtain⟨BZ,rv,tp,_⟩:=I.tuple (SqT.of (K:=X.K) hp);have hi:GP BZ (n::ns):=pY rv;have Ko:=hi
  cases hi with
  |cons _ tk r' =>
   obtain⟨o,ho,hc,k,hd⟩:=id tp;refine{.int n tk::fs,by rw[BB,BB,e1],PySem.W.KatTups.cons ho hc hd 's' e2,λv hv=>?_,λu hu=>?_}
   .rcases BC.mp hv with rfl|hv
    .exact{_,_,rfl}
    .exact e3 v hv
   .rcases BC.mp hu with rfl|hu
    .exact{p,_,n::ns,rfl,tp,Ko}
    .exact e4 u hu
theorem Si{h h':D4}(k:∀b o,h.get? b=AA o->h'.get? b=AA o):∀{us fs:List AH},Q2 h us fs->Q2 h' us fs
 |[],[],_=>RJ
 |[],_::_,t=>t.elim
 |_::_,[],t=>t.elim
 |_::_,_::_,t=>by
  obtain⟨⟨a,o,xs,n,e,ho,r⟩,t⟩:=t;exact{{a,o,xs,n,e,k _ _ ho,r},Si k t}
structure RawD(h:D4)(d:AQ)(es:Array J4)(ep:Nat):Prop where
 ex:∃o,h.get? d=AA o/\o.ExactDict/\o.data=.dict es ep
 ns:(d==GY)=AD
theorem RawD.ty{d:AQ}{es:Array J4}(r:RawD s.heap d es ep):s.TypeIs (.ref d) "dict":=let ⟨o,h1,h2,_⟩:=r.ex;{o,h1,h2.1}
theorem zX2{d:AQ}{es:Array J4}(r:RawD s.heap d es ep)(hf:(es.size:Int)<2 ^ 63)(h:∀t tk,Q (.int es.size t) { s with toks:=tk }) :
  A0 (A1 prog w) A (call (.builtin "len") [.ref d]) Q E s:=by
 obtain⟨o,ho,hc,hd⟩:=r.ex;refine UR kind_len plain_len entry_len (args_len1 _) ?_;unfold FG.«len»;refine AB (m:=oneArg "len" _) (wpAny_pure ?_);refine AB (m:=callSpecial? (.ref d) (EE "__len__")) (CJ (name:=EE "__len__") r.ty F.slot_dict_len (C3 F.slot_dict_len r.ty F.entry_dict_len ?_ (F.args_dict_len_1 _)));show A0 _ _ (dictSize d >>= _) _ _ s;unfold dictSize;refine AB (AB (NF ho hd (wpAny_pure ?_)));show A0 _ _ (Builtin.Dict.pendingCount d >>= _) _ _ s;refine AB (wpAny_pendingCount_other r.ns ?_);refine AB (jB (wpAny_pure {_,rfl,?_}));refine AB (CZ (wpAny_pure (AB (P9 ?_))));show A0 _ _ (if((es.size:Int)+((0:Nat):Int))<0 then _ else _) _ _ _;rw[if_neg 'l'];show A0 _ _ (if((es.size:Int)+((0:Nat):Int))>=2 ^ 63 then _ else _) _ _ _;rw[if_neg 'l'];have e0:((es.size:Int)+((0:Nat):Int))=(es.size:Int):=by simp
 show A0 _ _ (retInt ((es.size:Int)+((0:Nat):Int))) _ _ _;rw[e0];exact AB (jB (wpAny_pure {_,rfl,h _ _}))
theorem yP{d:AQ}{es:Array J4}(r:RawD s.heap d es ep)
  (h:∀h',(∀b o,s.heap.get? b=AA o->h'.get? b=AA o)->h'.IsKeyIter s.heap.objs.size d 0 es.size ep->Q (.ref s.heap.objs.size) { s with heap:=h' }):A0 (A1 prog w) A (ON (.ref d)) Q E s:=by
 obtain⟨o,ho,hc,hd⟩:=r.ex;refine TU r.ty F.slot_dict_iter (C3 F.slot_dict_iter r.ty F.entry_dict_iter ?_ (F.args_dict_iter_1 _));unfold FG.«dict.__iter__» Builtin.Dict.dictSlotNone;refine AB (AB (wpAny_notOrdered_dict r.ty (wpAny_pure ?_)));unfold Builtin.Dict.showsAll;show A0 _ _ ((if _ then _ else _) >>= _) _ _ s;rw[if_neg (by rw[r.ns];exact CN)];refine AB (wpAny_pure (AB (NF ho hd (AB (W9 ho hd ?_)))));refine AB (BY (wpAny_pure {_,rfl,"dict_keyiterator",_,{_,AX _ rfl,rfl},F.slot_dict_keyiterator_next.lookup,?_}));exact h _ (λb o e=>AF _ e) {_,AX _ rfl,rfl,by simp[EY]}
theorem Qt{d:AQ}{es:Array J4}{Q:Option AH->AT->Prop}(k:s.heap.IsKeyIter it d i es.size ep)(r:RawD s.heap d es ep)(hi:i<es.size)
  (h:∀h',h'.IsKeyIter it d (i+1) es.size ep->DM it s.heap h'->Q (AA es[i].key) { s with heap:=h' }):A0 (A1 prog w) A (JY (.ref it)) Q E s:=by
 obtain⟨oi,kZ,Ze,i7⟩:=id k;obtain⟨o,ho,hc,hd⟩:=r.ex;unfold JY;refine AB (GR (CJ (name:=EE "__next__") k.typeIs F.slot_dict_keyiterator_next (C3 F.slot_dict_keyiterator_next k.typeIs F.entry_dict_keyiterator_next ?_ (F.args_dict_keyiterator_next_1 _))));refine AB (wpAny_pure (AB (AB ?_)))
 first
  |refine AB (HX k.typeIs (wpAny_pure (AB (QA kZ i7 ?_))))
  |refine AB (JO k.typeIs (wpAny_pure (AB (QA kZ i7 ?_))))
 simp only[show NI "dict_keyiterator"=AD by decide,D7,if_false];show A0 _ _ (if(DP d==GK)=AL then _ else _) _ _ s;rw[if_neg (show ¬((DP d==GK)=AL) from CN)];refine AB (wpAny_pure (AB (NF ho hd ?_)));rw[if_neg 's'];refine AB (wpAny_pure (AB (W9 ho hd ?_)));rw[if_neg 's'];refine wpAny_pure ?_;simp only[show ¬((i:Int)<0) from by lia,if_false,MK,Array.getElem?_eq_getElem hi];refine AB ?_
 first
  |refine AB (HX k.typeIs (wpAny_pure (AB (PF k.typeIs ?_))))
  |refine AB (JO k.typeIs (wpAny_pure (AB (PF k.typeIs ?_))))
 show A0 _ _ (N9 (.ref it) 1 (EY ((i:Int)+1)) >>= _) _ _ s;refine AB (P8 kZ i7 's' ?_)
 have k':(s.heap.update it (Obj.mapFields (·.setIfInBounds 1 (EY ((i:Int)+1))))).IsKeyIter it d (i+1) es.size ep :=
  {_,N3 _ kZ (ZH (LU i7 _)),(gM ..).trans Ze,by rw[LU i7];simp[EY]}
 refine AB (CZ (AB (PF (s:={ s with heap:=s.heap.update it (Obj.mapFields (·.setIfInBounds 1 (EY ((i:Int)+1)))) }) k'.typeIs ?_)));show A0 _ _ (pure es[i].key) _ _ _;exact wpAny_pure (wpAny_pure {_,rfl,wpAny_pure (h _ k' (GU ..))})
theorem Pc{d:AQ}{es:Array J4}{Q:Option AH->AT->Prop}(hh:A.handled=AK)(k:s.heap.IsKeyIter it d i es.size ep)(r:RawD s.heap d es ep)(hi:es.size<=i)
  (h:∀h',ZL it s.heap h'->Q AK { s with heap:=h' }):A0 (A1 prog w) A (JY (.ref it)) Q E s:=by
 obtain⟨oi,kZ,Ze,i7⟩:=id k;obtain⟨o,ho,hc,hd⟩:=r.ex;unfold JY;refine AB (GR (CJ (name:=EE "__next__") k.typeIs F.slot_dict_keyiterator_next (C3 F.slot_dict_keyiterator_next k.typeIs F.entry_dict_keyiterator_next ?_ (F.args_dict_keyiterator_next_1 _))));refine AB (wpAny_pure (AB (AB ?_)))
 first
  |refine AB (HX k.typeIs (wpAny_pure (AB (QA kZ i7 ?_))))
  |refine AB (JO k.typeIs (wpAny_pure (AB (QA kZ i7 ?_))))
 simp only[show NI "dict_keyiterator"=AD by decide,D7,if_false];show A0 _ _ (if(DP d==GK)=AL then _ else _) _ _ s;rw[if_neg (show ¬((DP d==GK)=AL) from CN)];refine AB (wpAny_pure (AB (NF ho hd ?_)));rw[if_neg 's'];refine AB (wpAny_pure (AB (W9 ho hd ?_)));rw[if_neg 's'];refine wpAny_pure ?_;simp only[show ¬((i:Int)<0) from by lia,if_false,MK,Array.getElem?_eq_none hi];refine AB ?_
 first
  |refine AB (HX k.typeIs (wpAny_pure ?_))
  |refine AB (JO k.typeIs (wpAny_pure ?_))
 show A0 _ _ (N9 (.ref it) 0 .none >>= _) _ _ s;refine AB (P8 kZ i7 's' ?_);show A0 _ _ (newExc (.type "StopIteration") [] >>= _) _ _ _;refine AB ?_;simp only[newExc,newTuple];refine AB (BY ?_ (by size_fits));refine AB (m:=QD _ _) (i9 (a:=GK) (by first|rfl|(simp only[QD];rfl)) (BY ?_ (by size_fits)));simp only[raiseNew];refine AB (wpAny_handled ?_);rw[show A.in1.handled=AK from hh];refine AB (wpAny_pure (wpAny_throw ?_));refine AB (VM (T:="StopIteration") (b:=AL) {_,AX _ rfl,rfl} YJ ?_);exact wpAny_pure (h _ (((GU ..).extBut.push _).push _))
theorem pJ(x:ObjOk P w H h a (.dT kvs)):∃es ep,RawD h a es ep/\es.size=kvs.length/\kvs.length<=sizeLine /\
  ∀(i:Nat) (hi:i<es.size),∃(p:AQ) (k:List Key),es[i].key=.ref p/\(kvs.map (·.1))[i]?=AA k/\H p=AA (.tup (k.map kV)):=by
 obtain⟨z,y,xs,r,o,es,ep,h1,h2,h3,h4,h5⟩:=x
 have hl:es.size=xs.length:=by
  have:=congrArg MD h4;simpa using this
 have bE:kvs.length=xs.length:=Paired.length r;refine{es,ep,{{o,h1,h2,h3},y},by lia,z,λi hi=>?_}
 have J2:∀{l:List (List Key×V)} {m:List (List Key×AQ×AH)},Paired (λ(p:List Key×V) (q:List Key×AQ×AH)=>p.1=q.1/\H q.2.1=AA (.tup (p.1.map kV))/\RelV p.2 q.2.2) l m ->
   ∀(i:Nat) q,m[i]?=AA q->∃k,(l.map (·.1))[i]?=AA k/\H q.2.1=AA (.tup (k.map kV)):=by
  intro l m q
  induction q with
  |nil=>intro i q e;simp at e
  |@cons p q ps qs hq t ih =>
   intro i z e
   cases i with
   |zero=>simp at e;subst e;exact{p.1,by simp,hq.2.1}
   |succ i=>obtain⟨k,e1,e2⟩:=ih i z (by simpa using e);exact{k,by simpa using e1,e2}
 have SQ:i<xs.length:=AN hi (CY hl);obtain⟨k,e1,e2⟩:=J2 r i xs[i] (by simp[SQ])
 have e3:es[i]=entryOfKey (N8 (TD P w)) xs[i]:=by
  have q:es.toList[i]?=AA es[i]:=by simp[hi]
  rw[h4] at q;simp[SQ] at q;exact q.symm
 exact{xs[i].2.1,k,by rw[e3];rfl,e1,e2}
def Xd(d:AQ)(o:IE)(kvs:List (List Key×V)):It :=
 {λi H=>i<kvs.length/\H d=AA (.frz o (.dT kvs)),λi H x H'=>H'=H/\∃p k,x=.ref p/\(kvs.map (·.1))[i]?=AA k/\H p=AA (.tup (k.map kV)),λi H=>kvs.length<=i/\H d=AA (.frz o (.dT kvs))}
theorem Sh{K:AC}(d it:AQ)(o:IE)(kvs:List (List Key×V))(es:Array J4)(ep:Nat)(hd:o.data=.dict es ep)(hz:es.size=kvs.length) :
  Turn P w K tg (Xd d o kvs) [it] it (λi h=>h.IsKeyIter it d i es.size ep) where
 mem:=by simp
 obj:=λi h st b hb=>by
  have e:b=it:=by simpa using hb
  subst e;obtain⟨o,e,c,d⟩:=st;exact{o,e,λv z=>by rw[d] at z;cases z}
 keep:=λi h h' st k=>let ⟨o,e,r⟩:=st;{o,k it 's' o e,r}
 item:=by
  intro X hP hw hK hc i AE s σ H E I hf st hg;subst hP hw hK;obtain⟨hi,hk⟩:=hg;obtain⟨ho,hx⟩:=I.hok d _ hk;obtain⟨lG,lH,LN,e1,e2,e3⟩:=pJ hx;obtain⟨o',q1,q2,q3⟩:=LN.ex;rw[ho] at q1;cases q1;rw[hd] at q3;injection q3 with q4 q5;subst q4;subst q5;obtain⟨f0,f1,f2,f3,f4,f5⟩:=hf it 's';refine Qt st LN 'l' λh' CU sb=>?_;obtain⟨p,k,p1,p2,p3⟩:=e3 i 'l';have I1:Inv X AE σ H { s with heap:=h' }:=I.turned (t':=s.toks) (λb ob hb e=>(sb.2 b hb).trans e) f0 f1 f3 f4 f5;obtain⟨oi,e,c,dd⟩:=id CU;refine{_,rfl,rW (s:={ s with heap:=h' }) e c dd 'd' {.ref p,H,I1,p1,{rfl,p,k,rfl,p2,p3},CU,λb hb=>(hf b hb).1}}
 done:=by
  intro X hP hw hK hc i AE s σ H E I hf st hg;subst hP hw hK;obtain⟨hi,hk⟩:=hg;obtain⟨ho,hx⟩:=I.hok d _ hk;obtain⟨lG,lH,LN,e1,e2,e3⟩:=pJ hx;obtain⟨o',q1,q2,q3⟩:=LN.ex;rw[ho] at q1;cases q1;rw[hd] at q3;injection q3 with q4 q5;subst q4;subst q5;obtain⟨f0,f1,f2,f3,f4,f5⟩:=hf it 's';exact Pc (I.ok.hd hc) st LN (AZ (CY hz) hi) λh' eb=>{rfl,I.turned (t':=s.toks) (λb ob hb e=>eb b ob hb e) f0 f1 f3 f4 f5}
 self:=λ_ _ _ _ _ st h=>i8 st h
theorem Inv.freeze(I:Inv X AE σ H s)(ha:H a=AA (.dT kvs)) :
  ∃o,s.heap.get? a=AA o/\Inv X AE σ (D6 H a (.frz o (.dT kvs))) s:=by
 have x:=I.hok a _ ha;obtain⟨es,ep,⟨⟨o,h1,h2,h3⟩,_⟩,_⟩:=pJ x;have kt:∀b ys,H b=AA (.tup ys)->b≠a:=λb ys e z=>by rw[z,ha] at e;cases e
 have ko:∀b y,H b=AA (.own y)->b≠a:=λb y e z=>by rw[z,ha] at e;cases e
 have kf:∀b ob u,H b=AA (.frz ob u)->b≠a:=λb ob u e z=>by rw[z,ha] at e;cases e
 have kb:∀b t ps,H b=AA (.tbl t ps)->b≠a:=λb t ps e z=>by rw[z,ha] at e;cases e
 have kn:∀b,H b=AK->b≠a:=λb e z=>by rw[z,ha] at e;cases e
 refine{o,h1,I.un (t':=s.toks) (h':=s.heap) {λb ob e _ _ _=>e,λb ob e _ _ _=>{ob.slots,e},λb ob e n _=>by rw[EV (kn b n)];exact n,λb ob e _=>{ob,e},λb ys e=>by rw[EV (kt b ys e)];exact e,λb ob u e=>by rw[EV (kf b ob u e)];exact e,λb t ps e=>{#[],by rw[EV (kb b t ps e),e];simp}} λb u e=>?_}
 by_cases hb:b=a
 .subst hb
  rw[HB] at e;cases e;exact{h1,x.stay (λc v _ q=>q) (λc q=>by rw[EV (ko c _ q)];exact q) (λc ys q=>by rw[EV (kt c ys q)];exact q) λc ob x q=>by rw[EV (kf c ob _ q)];exact q}
 .rw[EV hb] at e
  exact(I.hok b u e).stay (λc v _ q=>q) (λc q=>by rw[EV (ko c _ q)];exact q) (λc ys q=>by rw[EV (kt c ys q)];exact q) λc ob x q=>by rw[EV (kf c ob _ q)];exact q
theorem zT4:CallR X (.type "range") (λxs H Q=>∃j:Int,xs=[.int j]/\∀p,H p=AK->Q (.ref p) (D6 H p (.rng 0 j))):=by
 intro AE s σ H xs us Q I r h;obtain⟨j,rfl,q⟩:=h;obtain⟨u,rfl,ru⟩:=ZV r;obtain⟨t,rfl⟩:=ru;exact call_range_1 {.ref s.heap.objs.size,_,I.laid (o:=.rng 0 j) (λb o e=>AF _ e) (AM _) {_,_,_,AX _ rfl},rfl,q _ I.fresh}
theorem zO6:∀(n:Nat) (us:List AH),us.length=n->(∀(i:Nat) v,us[i]?=AA v->∃t,v=MV (i:Int) t)->Vals ((CI n).map λi:Nat=>V.int (i:Int)) us:=by
 intro n
 induction n with
 |zero=>intro us hl _;have:=List.length_eq_zero_iff.mp hl;subst this;exact .nil
 |succ n ih =>
  intro us hl h
  have e:us=us.take n++[us[n]'(by lia)]:=by
   rw[<-BE 'l',JT (CY hl)]
  rw[e,jM,GD];refine Vals.append (ih _ (by rw[EZ];lia) λi v hv=>?_) (.cons ?_ .nil)
  .rw[List.getElem?_take] at hv
   split at hv
   .exact h i v hv
   .cases hv
  .obtain⟨t,et⟩:=h n (us[n]'(by lia)) 's'
   exact{t,et}
theorem zI1(hc:X.calm=AL):CallR X (.type "list") (λxs H Q=>∃(p:AQ) (n:Nat),xs=[.ref p]/\H p=AA (.rng 0 (n:Int))/\n<=1000/\∀l,H l=AK->Q (.ref l) (D6 H l (.lst ((CI n).map λi:Nat=>V.int (i:Int))))):=by
 intro AE s σ H xs us Q I r h;obtain⟨p,n,rfl,hp,hn,q⟩:=h;obtain⟨u,rfl,ru⟩:=ZV r;cases ru;obtain⟨t,u,v,e⟩:=(show ObjOk X.prog X.w H s.heap p (.rng 0 (n:Int)) from I.hok p _ hp);refine call_list_range (I.ok.hd hc) (show IsRange s.heap p 0 (n:Int) 1 t u v from e) (small_one 'd' 'd' 'l' 'l') (n:=n) (by rw[rangeSize_one];first|lia|(split<;>lia)) (AZ hn (DR _ _)) λh' tk acc c k hS hI=>?_;obtain⟨hz,hi⟩:=hI
 have rv:Vals ((CI n).map λi:Nat=>V.int (i:Int)) acc.toList:=zO6 n _ (by simpa using hz) λi v hv=>by
  obtain⟨t,et⟩:=hi i v (by rw[<-DA];exact hv);exact{t,by rw[et];simp}
 refine{.ref s.heap.objs.size,_,I.laid (o:=.lst ((CI n).map λi:Nat=>V.int (i:Int))) k (AM _) {?_,acc.toList,c,rv,by simpa using hS},rfl,q _ I.fresh};rw[AJ,JU,GE];exact AZ hn (DR _ _)
theorem Sg{Q:Option IE->AT->Prop}(h:Q (s.heap.get? a) s):A0 (A1 prog w) A (jD a) Q E s:=λΓ p hΓ=>by
 show Sem.wp _ Γ (.loadIfAlive a .pure) _ _ p s;rw[Sem.wp_loadIfAlive];exact(wpAny_pure h:A0 (A1 prog w) A (pure _) Q E s) Γ p hΓ
theorem pT{t:AQ}{x:AH}(k:s.heap.IsTupleIter it t i)(ht:s.heap.IsTuple t items)(hx:items[i]?=AA x)
  (h:∀h',h'.IsTupleIter it t (i+1)->DM it s.heap h'->Q x { s with heap:=h' }):A0 (A1 prog w) A (CF (.ref it)) Q E s:=by
 obtain⟨o,ho,hc,hd⟩:=id k;obtain⟨ol,Jz,_,nl,Lb⟩:=ht;unfold CF;refine AB (CJ (name:=EE "__next__") k.typeIs F.slot_tuple_iterator_next (C3 F.slot_tuple_iterator_next k.typeIs F.entry_tuple_iterator_next ?_ (F.args_tuple_iterator_next_1 _)));show A0 _ _ (RI (.ref it) 0 >>= _) _ _ s;refine AB (CG ho hd (x:=.ref t) rfl ?_);show A0 _ _ (if(DP t==GK)=AL then _ else _) _ _ s;rw[if_neg (show ¬((DP t==GK)=AL) from CN)];show A0 _ _ (RI (.ref it) 1 >>= _) _ _ s;refine AB (CG ho hd (x:=.int i 0) rfl ?_);show A0 _ _ (seqItems? (.ref t) >>= _) _ _ s;refine AB (HR Jz Lb ?_);simp only[MK,hx];refine AB (P8 ho hd 's' (wpAny_pure {x,rfl,wpAny_pure (h _ ?_ (GU ..))}));exact{_,N3 _ ho (ZH (LU hd _)),(gM ..).trans hc,by rw[LU hd];simp[EY]}
theorem yE{t:AQ}(hh:A.handled=AK)(k:s.heap.IsTupleIter it t i)(ht:s.heap.IsTuple t items)(hx:items[i]?=AK)
  (h:∀h' e,ZL it s.heap h'->(∃o,h'.get? e=AA o/\o.cls=.type "StopIteration")->E (.ref e) { s with heap:=h' }):A0 (A1 prog w) A (CF (.ref it)) Q E s:=by
 obtain⟨o,ho,hc,hd⟩:=id k;obtain⟨ol,Jz,_,nl,Lb⟩:=ht;unfold CF;refine AB (CJ (name:=EE "__next__") k.typeIs F.slot_tuple_iterator_next (C3 F.slot_tuple_iterator_next k.typeIs F.entry_tuple_iterator_next ?_ (F.args_tuple_iterator_next_1 _)));show A0 _ _ (RI (.ref it) 0 >>= _) _ _ s;refine AB (CG ho hd (x:=.ref t) rfl ?_);show A0 _ _ (if(DP t==GK)=AL then _ else _) _ _ s;rw[if_neg (show ¬((DP t==GK)=AL) from CN)];show A0 _ _ (RI (.ref it) 1 >>= _) _ _ s;refine AB (CG ho hd (x:=.int i 0) rfl ?_);show A0 _ _ (seqItems? (.ref t) >>= _) _ _ s;refine AB (HR Jz Lb ?_);simp only[MK,hx];refine AB (FJ (AB (P8 ho hd 's' ?_)));show A0 _ _ (newExc (.type "StopIteration") [] >>= _) _ _ _;refine AB ?_;simp only[newExc,newTuple];refine AB (BY ?_ (by size_fits));refine AB (m:=QD _ _) (i9 (a:=GK) (by first|rfl|(simp only[QD];rfl)) (BY ?_ (by size_fits)));simp only[raiseNew];refine AB (wpAny_handled ?_)
 first|rw[show A.in1.handled=AK from hh]|rw[hh]
 exact AB (wpAny_pure (wpAny_throw (h _ _ (((GU ..).extBut.push _).push _) {_,AX _ rfl,rfl})))
structure ZipSt(h:D4)(n l1 l2:AQ)(i:Nat):Prop where
 zo:∃f0 f1,h.get? (n+4)=AA { cls:=.type "zip",dict:=AK,data:=.fields #[f0,.bool f1,.bool AD,.ref (n+2),.ref (n+3)],slots:=#[] }/\(f0=.none\/∃T:Nat,f0=EY T)
 ti:KH h (n+2) (.ref n) (.ref (n+1))
 to:∃a b,KH h (n+3) a b
 k1:h.IsTupleIter n l1 i
 k2:h.IsTupleIter (n+1) l2 i
theorem sJ{t:AQ}(x:h.IsTupleIter it t i)(k:∀o,h.get? it=AA o->h'.get? it=AA o):h'.IsTupleIter it t i:=let ⟨o,e,r⟩:=x;{o,k o e,r}
theorem Mw{t:AQ}{BZ:Array AH}(x:h.IsTuple t BZ)(k:∀o,h.get? t=AA o->h'.get? t=AA o):h'.IsTuple t BZ:=let ⟨o,e,r⟩:=x;{o,k o e,r}
theorem ZipSt.keep{n:AQ}(z:ZipSt h n l1 l2 i)(k:∀b∈[n,n+1,n+2,n+3,n+4],∀o,h.get? b=AA o->h'.get? b=AA o):ZipSt h' n l1 l2 i:=by
 obtain⟨f0,f1,e,r⟩:=z.zo;obtain⟨a,b,to⟩:=z.to;exact{{f0,f1,k _ 's' _ e,r},k _ 's' _ z.ti,{a,b,k _ 's' _ to},sJ z.k1 (k _ 's'),sJ z.k2 (k _ 's')}
def Dh(n:AQ)(h h':D4):Prop:=∀c o,c≠n->c≠n+1->c≠n+3->c≠n+4->h.get? c=AA o->h'.get? c=AA o
abbrev fO(h:D4)(n:AQ)(f0:AH)(f1:Bool):Prop:=h.get? (n+4)=AA { cls:=.type "zip",dict:=AK,data:=.fields #[f0,.bool f1,.bool AD,.ref (n+2),.ref (n+3)],slots:=#[] }
def F0(f0:AH):Prop:=f0=.none\/∃T:Nat,f0=EY T
theorem kD(a:AQ)(h:D4):DM a h h:={rfl,λ_ _=>rfl}
theorem To{n:AQ}{f0:AH}{f1:Bool}{Q:Bool->AT->Prop}(hz:fO s.heap n f0 f1)(hf:F0 f0)
  (h:∀b h' f1,fO h' n f0 f1->DM (n+4) s.heap h'->Q b { s with heap:=h' }):A0 (A1 prog w) A (C6 (.ref (n+4))) Q E s:=by
 unfold C6;rcases hf with rfl|⟨T,rfl⟩
 .exact AB (CG hz rfl (x:=.none) rfl (wpAny_pure (h AL s.heap f1 hz (kD _ _))))
 .refine AB (CG hz rfl (x:=EY T) rfl ?_)
  show A0 _ _ (jD (T:Int).toNat >>= _) _ _ _;refine AB (Sg ?_)
  cases e:(s.heap.get? (T:Int).toNat).isNone with
  |true=>exact wpAny_pure (h AL s.heap f1 hz (kD _ _))
  |false =>
   simp only[D7,if_false];refine AB (CG hz rfl (x:=.bool f1) rfl ?_)
   cases f1 with
   |true =>
    exact wpAny_pure (h AD s.heap AL hz (kD _ _))
   |false =>
    show A0 _ _ (N9 (.ref (n+4)) 1 (.bool AL) >>= _) _ _ _;exact AB (C2 hz 's' λh' fQ R7=>wpAny_pure (h AD h' AL fQ R7))
def tH(n l:AQ):Prop:=l≠n/\l≠n+1/\l≠n+3/\l≠n+4
theorem XZ{t:AQ}{BZ:Array AH}(k:h.IsTuple t BZ)(hs:DM a h h')(ne:t≠a):h'.IsTuple t BZ:=Mw k λo e=>hs.extBut _ _ ne e
theorem SN{t:AQ}(k:h.IsTupleIter t l i)(hs:DM a h h')(ne:t≠a):h'.IsTupleIter t l i:=sJ k λo e=>hs.extBut _ _ ne e
theorem ZW(h:j≠k):n+j≠n+k:=by lia
theorem fG(h:k≠0):n≠n+k:=by lia
theorem zT5{n:AQ}{xs ys:Array AH}{x y:AH}{Q:Option AH->AT->Prop}(z:ZipSt s.heap n l1 l2 i)(o1:tH n l1)(o2:tH n l2)
  (dJ:s.heap.IsTuple l1 xs) (bE:s.heap.IsTuple l2 ys) (hx:xs[i]?=AA x) (hy:ys[i]?=AA y)
  (hQ:∀h',ZipSt h' n l1 l2 (i+1)->KH h' s.heap.objs.size x y->h'.objs.size=s.heap.objs.size+1->Dh n s.heap h'->Q (AA (.ref s.heap.objs.size)) { s with heap:=h' }) :
  A0 (A1 prog w) A (JY (.ref (n+4))) Q E s:=by
 obtain⟨f0,f1,hz,hf⟩:=z.zo;obtain⟨a,b,rJ⟩:=z.to;have rK:=z.ti;have k1:=z.k1;have k2:=z.k2;obtain⟨p1,p2,p3,p4⟩:=o1;obtain⟨q1,q2,q3,q4⟩:=o2;have hT:s.TypeIs (.ref (n+4)) "zip":={_,hz,rfl};have gE:n+3≠n+4:=ZW 'd';have wQ:n+2≠n+4:=ZW 'd';have dY:n+1≠n+4:=ZW 'd';have dZ:n≠n+4:=fG 'd';have lL:n+1≠n+3:=ZW 'd';have rM:n≠n+3:=fG 'd';have Z9:n≠n+1:=fG 'd';have d23:n+2≠n+3:=ZW 'd';have Zs:n+2≠n+1:=ZW 'd';have Bh:n+2≠n:=(fG 'd').symm;unfold JY;refine AB (GR (CJ (name:=EE "__next__") hT F.slot_zip_next (C3 F.slot_zip_next hT F.entry_zip_next ?_ (F.args_zip_next_1 _))));show A0 _ _ (RI (.ref (n+4)) 2 >>= _) _ _ _;refine AB (CG hz rfl (x:=.bool AD) rfl ?_);show A0 _ _ (RI (.ref (n+4)) 3 >>= _) _ _ _;refine AB (CG hz rfl (x:=.ref (n+2)) rfl ?_);refine AB (HR rK rfl ?_);show A0 _ _ (C6 (.ref (n+4)) >>= _) _ _ _;refine AB (To hz hf λfr h₀ g1 UK IX=>?_);have YD:KH h₀ (n+3) a b:=IX.extBut _ _ gE rJ;have R0:=SN k1 IX dZ;have WZ:=SN k2 IX dY;have RZ:=XZ dJ IX p4;have WW:=XZ bE IX q4;have hTI₀:KH h₀ (n+2) (.ref n) (.ref (n+1)):=IX.extBut _ _ wQ rK
 cases fr with
 |true =>
  simp only[if_true];refine AB (FJ ?_);refine AB (CG UK rfl (x:=.ref (n+3)) rfl ?_);refine AB (C2 UK 's' λJF QK J8=>?_);replace QK:fO JF n .ellipsis g1:=QK;refine AB ?_;simp only[KC,jL,NZ,OF];refine AB (AB (NW ?_));show A0 _ _ (CF (.ref n) >>= _) _ _ _;refine AB (pT (SN R0 J8 dZ) (XZ RZ J8 p4) hx λL8 W0 G8=>wpAny_pure ?_);have SE:KH L8 (n+3) a b:=G8.extBut _ _ rM.symm (J8.extBut _ _ gE YD);refine AB (HR SE rfl ?_);refine AB (P7 SE λOL VD LG=>?_);replace VD:KH OL (n+3) x b:=VD;refine AB (P9 (wpAny_pure ?_));refine AB (AB (NW ?_));show A0 _ _ (CF (.ref (n+1)) >>= _) _ _ _;refine AB (pT (SN (SN (SN WZ J8 dY) G8 Z9.symm) LG lL) (XZ (XZ (XZ WW J8 q4) G8 q1) LG q3) hy λNQ cW KQ=>wpAny_pure ?_);have dW:KH NQ (n+3) x b:=KQ.extBut _ _ lL.symm VD;refine AB (HR dW rfl ?_);refine AB (P7 dW λKP VC QL=>?_);replace VC:KH KP (n+3) x y:=VC;refine AB (P9 (wpAny_pure (wpAny_pure ?_)));refine AB (HR VC rfl ?_);refine AB (MS ?_);have hsz:KP.objs.size=s.heap.objs.size:=by rw[QL.1,KQ.1,LG.1,G8.1,J8.1,IX.1]
  have kT:fO KP n .ellipsis g1:=QL.extBut _ _ gE.symm (KQ.extBut _ _ dY.symm (LG.extBut _ _ gE.symm (G8.extBut _ _ dZ.symm QK)))
  have k6:∀c o,c≠n+4->c≠n+3->c≠n->c≠n+1->s.heap.get? c=AA o->KP.get? c=AA o:=λc o c1 c2 c3 c4 e =>
   QL.extBut _ _ c2 (KQ.extBut _ _ c4 (LG.extBut _ _ c2 (G8.extBut _ _ c3 (J8.extBut _ _ c1 (IX.extBut _ _ c1 e)))))
  have vH:KP.IsTupleIter n l1 (i+1):=SN (SN (SN W0 LG rM) KQ Z9) QL rM;have vG:KP.IsTupleIter (n+1) l2 (i+1):=SN cW QL lL;have vL:n+4<KP.objs.size:=A9 kT;show A0 _ _ (HK (.ref (n+4)) (.ref KP.objs.size) >>= _) _ _ _;refine AB ?_;unfold HK;have vK:fO (KP.push { cls:=.type "tuple",data:=.seq #[x,y] }) n .ellipsis g1:=AF _ kT;refine AB (C2 vK 's' λcY dA dF=>?_);replace dA:fO cY n (EY KP.objs.size) g1:=dA;refine C2 dA 's' λR1 cZ dE=>?_;replace cZ:fO R1 n (EY KP.objs.size) AD:=cZ;have up:∀c o,c≠n+4->KP.get? c=AA o->R1.get? c=AA o:=λc o c1 e=>dE.extBut _ _ c1 (dF.extBut _ _ c1 (AF _ e));have lC:KH R1 KP.objs.size x y:=dE.extBut _ _ (FR vL) (dF.extBut _ _ (FR vL) (AX _ rfl));have Yn:R1.objs.size=KP.objs.size+1:=by rw[dE.1,dF.1,FX]
  have zs:ZipSt R1 n l1 l2 (i+1):={{_,_,cZ,.inr {_,rfl}},up _ _ wQ (k6 _ _ wQ d23 Bh Zs rK),{x,y,up _ _ gE VC},sJ vH λo e=>up _ o dZ e,sJ vG λo e=>up _ o dY e};rw[hsz] at lC Yn;refine wpAny_pure {_,rfl,wpAny_pure ?_};show Q (AA (.ref KP.objs.size)) _;rw[hsz];exact hQ R1 zs lC Yn λc o c1 c2 c3 c4 e=>up c o c4 (k6 c o c4 c3 c1 c2 e)
 |false =>
  simp only[D7,if_false];refine AB ?_;rw[<-LB];simp only[NZ,OF];refine AB (AB (CZ ?_));show A0 _ _ (CF (.ref n) >>= _) _ _ _;refine AB (pT R0 RZ hx λL8 W0 G8=>wpAny_pure (wpAny_pure ?_));refine AB (AB (CZ ?_));show A0 _ _ (CF (.ref (n+1)) >>= _) _ _ _;refine AB (pT (SN WZ G8 Z9.symm) (XZ WW G8 q1) hy λNQ cW KQ=>wpAny_pure (wpAny_pure (wpAny_pure ?_)));refine AB (MS (items:=[x,y]) ?_);have hsz:NQ.objs.size=s.heap.objs.size:=by rw[KQ.1,G8.1,IX.1]
  have dL:∀c o,c≠n+4->c≠n->c≠n+1->s.heap.get? c=AA o->NQ.get? c=AA o:=λc o c1 c3 c4 e=>KQ.extBut _ _ c4 (G8.extBut _ _ c3 (IX.extBut _ _ c1 e))
  have zs:ZipSt (NQ.push { cls:=.type "tuple",data:=.seq #[x,y] }) n l1 l2 (i+1):=ZipSt.keep (h:=NQ) {{f0,g1,KQ.extBut _ _ dY.symm (G8.extBut _ _ dZ.symm UK),hf},dL _ _ wQ Bh Zs rK,{a,b,dL _ _ gE rM.symm lL.symm rJ},SN W0 KQ Z9,cW}
   λb _ o e=>AF _ e
  refine wpAny_pure {_,rfl,wpAny_pure ?_};show Q (AA (.ref NQ.objs.size)) _;have hP:KH (NQ.push { cls:=.type "tuple",data:=.seq #[x,y] }) NQ.objs.size x y:=AX _ rfl;have R7:(NQ.push { cls:=.type "tuple",data:=.seq #[x,y] }).objs.size=NQ.objs.size+1:=FX ..;rw[hsz] at hP R7 ⊢;exact hQ _ zs hP R7 λc o c1 c2 c3 c4 e=>AF _ (dL c o c4 c1 c2 e)
theorem zX3{n:AQ}{xs ys:Array AH}{Q:Option AH->AT->Prop}(hh:A.handled=AK)(z:ZipSt s.heap n l1 l2 i)(o1:tH n l1)(o2:tH n l2)
  (dJ:s.heap.IsTuple l1 xs) (bE:s.heap.IsTuple l2 ys) (i6:xs[i]?=AK\/ys[i]?=AK)
  (hQ:∀h',Dh n s.heap h'->Q AK { s with heap:=h' }):A0 (A1 prog w) A (JY (.ref (n+4))) Q E s:=by
 obtain⟨f0,f1,hz,hf⟩:=z.zo;obtain⟨a,b,rJ⟩:=z.to;have rK:=z.ti;have k1:=z.k1;have k2:=z.k2;obtain⟨p1,p2,p3,p4⟩:=o1;obtain⟨q1,q2,q3,q4⟩:=o2;have hT:s.TypeIs (.ref (n+4)) "zip":={_,hz,rfl};have gE:n+3≠n+4:=ZW 'd';have wQ:n+2≠n+4:=ZW 'd';have dY:n+1≠n+4:=ZW 'd';have dZ:n≠n+4:=fG 'd';have lL:n+1≠n+3:=ZW 'd';have rM:n≠n+3:=fG 'd';have Z9:n≠n+1:=fG 'd'
 have fin:∀{h':D4} {e:AQ},(∃o,h'.get? e=AA o/\o.cls=.type "StopIteration")->Dh n s.heap h' ->
   A0 (A1 prog w) A (isInstance (.ref e) (.type "StopIteration") >>= λb=>if b=AL then pure AK else throw (.ref e)) Q E { s with heap:=h' }:=λ{h' e} he hk=>by
  obtain⟨o,ho,hc⟩:=he;exact AB (VM (T:="StopIteration") (b:=AL) {o,ho,hc} YJ (wpAny_pure (hQ _ hk)))
 unfold JY;refine AB (GR (CJ (name:=EE "__next__") hT F.slot_zip_next (C3 F.slot_zip_next hT F.entry_zip_next ?_ (F.args_zip_next_1 _))));show A0 _ _ (RI (.ref (n+4)) 2 >>= _) _ _ _;refine AB (CG hz rfl (x:=.bool AD) rfl ?_);show A0 _ _ (RI (.ref (n+4)) 3 >>= _) _ _ _;refine AB (CG hz rfl (x:=.ref (n+2)) rfl ?_);refine AB (HR rK rfl ?_);show A0 _ _ (C6 (.ref (n+4)) >>= _) _ _ _;refine AB (To hz hf λfr h₀ g1 UK IX=>?_);have YD:KH h₀ (n+3) a b:=IX.extBut _ _ gE rJ;have R0:=SN k1 IX dZ;have WZ:=SN k2 IX dY;have RZ:=XZ dJ IX p4;have WW:=XZ bE IX q4
 cases fr with
 |true =>
  simp only[if_true];refine AB (FJ ?_);refine AB (CG UK rfl (x:=.ref (n+3)) rfl ?_);refine AB (C2 UK 's' λJF QK J8=>?_);replace QK:fO JF n .ellipsis g1:=QK;refine AB ?_;simp only[KC,jL,NZ,OF];refine AB (AB (NW ?_));show A0 _ _ (CF (.ref n) >>= _) _ _ _
  cases hx:xs[i]? with
  |none =>
   refine AB (yE hh (SN R0 J8 dZ) (XZ RZ J8 p4) hx λL8 e G8 he=>?_);obtain⟨oe,oA,wH⟩:=he;have kW:fO L8 n .ellipsis g1:=G8 _ _ dZ.symm QK;have Kx:e≠n+4:=λx=>by subst x;rw[kW] at oA;cases oA;simp at wH
   exact C2 kW 's' λOL _ LG=>fin {oe,LG.extBut _ _ Kx oA,wH} λc o c1 c2 c3 c4 x=>LG.extBut _ _ c4 (G8 _ _ c1 (J8.extBut _ _ c4 (IX.extBut _ _ c4 x)))
  |some x =>
   have hy:ys[i]?=AK:=by rcases i6 with h|h;rw[hx] at h;cases h;exact h
   refine AB (pT (SN R0 J8 dZ) (XZ RZ J8 p4) hx λL8 W0 G8=>wpAny_pure ?_);have SE:KH L8 (n+3) a b:=G8.extBut _ _ rM.symm (J8.extBut _ _ gE YD);refine AB (HR SE rfl ?_);refine AB (P7 SE λOL VD LG=>?_);refine AB (P9 (wpAny_pure ?_));refine AB (AB (NW ?_));show A0 _ _ (CF (.ref (n+1)) >>= _) _ _ _;refine AB (yE hh (SN (SN (SN WZ J8 dY) G8 Z9.symm) LG lL) (XZ (XZ (XZ WW J8 q4) G8 q1) LG q3) hy λNQ e KQ he=>?_);obtain⟨oe,oA,wH⟩:=he;have kU:fO NQ n .ellipsis g1:=KQ _ _ dY.symm (LG.extBut _ _ gE.symm (G8.extBut _ _ dZ.symm QK));have Kx:e≠n+4:=λx=>by subst x;rw[kU] at oA;cases oA;simp at wH
   exact C2 kU 's' λKP _ QL=>fin {oe,QL.extBut _ _ Kx oA,wH} λc o c1 c2 c3 c4 x=>QL.extBut _ _ c4 (KQ _ _ c2 (LG.extBut _ _ c3 (G8.extBut _ _ c1 (J8.extBut _ _ c4 (IX.extBut _ _ c4 x)))))
 |false =>
  simp only[D7,if_false];refine AB ?_;rw[<-LB];simp only[NZ,OF];refine AB (AB (CZ ?_));show A0 _ _ (CF (.ref n) >>= _) _ _ _
  cases hx:xs[i]? with
  |none =>
   refine AB (yE hh R0 RZ hx λL8 e G8 he=>?_);exact fin he λc o c1 c2 c3 c4 x=>G8 _ _ c1 (IX.extBut _ _ c4 x)
  |some x =>
   have hy:ys[i]?=AK:=by rcases i6 with h|h;rw[hx] at h;cases h;exact h
   refine AB (pT R0 RZ hx λL8 W0 G8=>wpAny_pure (wpAny_pure ?_));refine AB (AB (CZ ?_));show A0 _ _ (CF (.ref (n+1)) >>= _) _ _ _;refine AB (yE hh (SN WZ G8 Z9.symm) (XZ WW G8 q1) hy λNQ e KQ he=>?_);exact fin he λc o c1 c2 c3 c4 x=>KQ _ _ c2 (G8.extBut _ _ c1 (IX.extBut _ _ c4 x))
theorem Inv.turnedL(I:Inv X AE σ H s)(hf:∀b∈fp,FpOk X AE H b)(k:∀b o,b∉fp->s.heap.get? b=AA o->h'.get? b=AA o):Inv X AE σ H { s with heap:=h',toks:=t' }:=by
 have u0:∀b u,H b=AA u->b∉fp:=λb u e z=>by rw[(hf b z).1] at e;cases e
 refine I.step (g':=s.gens) (d':=s.drawn) (ch:=fp) (λb hb=>?_) (λb o _ _ hc e _=>k b o hc e) (λb o _ _ hc e _=>{o.slots,k b o hc e}) (λ_ _ _ _ n=>n)
  (λb o hc e=>{o,k b o hc e}) (λ_ _ e=>e) (λ_ _ _ e=>e) (λb t ps e=>{#[],by rw[e];simp}) (λm hm=>?_) (λb u e=>?_) I.bare
 .obtain⟨f0,f1,f2,f3,f4,f5⟩:=hf b hb
  exact{f3,f1,f4,f5}
 .obtain⟨o,es,ep,ho,r⟩:=hm
  exact{o,es,ep,k _ o (λz=>(hf _ z).2.1 rfl) ho,r}
 .refine(I.hok b u e).stay (λc v hc q=>k c v ?_ q) (λ_ q=>q) (λ_ _ q=>q) λ_ _ _ q=>q
  rcases hc with z|z
  .rw[z];exact u0 b u e
  .exact u0 c _ z
theorem FpOk.off(I:Inv X AE σ H s)(hf:∀b∈fp,FpOk X AE H b)(h:SqT X.K H a xs):a∉fp:=λz=>by
 obtain⟨f0,f1,f2,f3,f4,f5⟩:=hf a z;rcases h with h|⟨o,BZ,n,hk,_⟩
 .rcases h with h|⟨o,h⟩
  .rw[f0] at h;cases h
  .rw[f0] at h;cases h
 .have hb:=I.ok.mod.kin a o hk
  rcases f3 with f3|f3
  .exact I.ok.noex a o hb f3
  .exact absurd (AN (A9 hb) I.ok.bsz) (VX.mpr f3)
theorem yB0{n:AQ}{Q:Unit → AT → Prop}(z : ZipSt s.heap n l1 l2 i)(h : ∀ h', ZipSt h' n l1 l2 i → DM (n + 4) s.heap h' → Q () { s with heap := h' }) :
    A0 (A1 prog w) A (FO tg (.ref (n + 4)) u) Q E s := by
  have hz := h s.heap z (kD _ _);obtain ⟨f0, f1, e, hf⟩ := id z.zo;unfold FO
  cases tg <;> first
    | exact wpAny_pure hz
    | (cases u <;> first
        | exact wpAny_pure hz
        | (
          refine AB (wpAny_load e ?_);dsimp only;split
          · refine AB (FJ ?_)
            show A0 _ _ (N9 (.ref (n + 4)) 0 .none) Q E s;refine C2 e 's' fun h' fQ R7 => h h' ?_ R7
            obtain ⟨a, b, rJ⟩ := z.to;exact {{.none, f1, fQ, .inl rfl}, R7.extBut _ _ (ZW 'd') z.ti, {a, b, R7.extBut _ _ (ZW 'd') rJ}, SN z.k1 R7 (fG 'd'), SN z.k2 R7 (ZW 'd')}
          · exact wpAny_pure hz))
theorem Qs{n:AQ}(z:ZipSt s.heap n l1 l2 i)(h:Q (.ref (n+4)) s):A0 (A1 prog w) A (ON (.ref (n+4))) Q E s:=by
 obtain⟨f0,f1,e,hf⟩:=z.zo;have hT:s.TypeIs (.ref (n+4)) "zip":={_,e,rfl};refine TU hT F.slot_zip_iter (C3 F.slot_zip_iter hT F.entry_zip_iter ?_ (F.args_zip_iter_1 _));show A0 _ _ (ret (.ref (n+4))) _ _ s;exact wpAny_pure {_,rfl,"zip",_,hT,F.slot_zip_next.lookup,h}
noncomputable abbrev yJ(h:D4)(l1:AQ):D4:=h.push { cls:=.type "tuple_iterator",data:=.fields #[.ref l1,.int 0 0] }
abbrev yI(h:D4)(l1 l2:AQ):D4:=(yJ h l1).push { cls:=.type "tuple_iterator",data:=.fields #[.ref l2,.int 0 0] }
abbrev yH(h:D4)(l1 l2:AQ):D4:=(yI h l1 l2).push { cls:=.type "tuple",data:=.seq #[.ref h.objs.size,.ref (yJ h l1).objs.size] }
abbrev yG(h:D4)(l1 l2:AQ):D4:=(yH h l1 l2).push { cls:=.type "tuple",data:=.seq #[.none,.none] }
abbrev mJ(h:D4)(l1 l2:AQ):D4:=(yG h l1 l2).push { cls:=.type "zip",data:=.fields #[.none,.bool AD,.bool AD,.ref (yI h l1 l2).objs.size,.ref (yH h l1 l2).objs.size] }
theorem zO7(l1 l2:AQ)(xs ys:Array AH) :
  Meets (FG.«zip.__new__» {[.type "zip",.ref l1,.ref l2],[]}) (λ_ R s=>s.heap.IsTuple l1 xs/\s.heap.IsTuple l2 ys /\
   R (.ok (.ret (.ref (yG s.heap l1 l2).objs.size))) { s with heap:=mJ s.heap l1 l2 }) :=
 .of_wp λprog w A R s h=>by
  obtain⟨hp,g,d,tk,os⟩:=s;obtain⟨dJ,bE,h⟩:=h;have Jq:=sub_zip;have hL1:Heap.IsTuple (XR {hp,g,d,tk,os}) l1 xs:=dJ;have hL2:Heap.IsTuple (XR {hp.push { cls:=.type "tuple_iterator",data:=.fields #[.ref l1,.int 0 0] },g,d,tk,os}) l2 ys:=Mw bE λo e=>AF _ e
  wp_walk using SH hL1,SH hL2
  exact{_,rfl,h}
theorem zQS{xs ys:Array AH}(dJ:s.heap.IsTuple l1 xs)(bE:s.heap.IsTuple l2 ys)
  (h:∀h',ZipSt h' s.heap.objs.size l1 l2 0->h'.objs.size=s.heap.objs.size+5->(∀c o,s.heap.get? c=AA o->h'.get? c=AA o)->Q (.ref (s.heap.objs.size+4)) { s with heap:=h' }) :
  A0 (A1 prog w) A (call (.type "zip") [.ref l1,.ref l2]) Q E s:=by
 refine callType_new F.called_zip 'd' (F.typeCall_zip_2 _ _) (F.newCall_zip_2 _ _) (λobj=>F.args_object_init_3 obj _ _) F.entry_zip_new
  (zO7 l1 l2 xs ys) {dJ,bE,?_}
 have z1:(yJ s.heap l1).objs.size=s.heap.objs.size+1:=FX ..;have z2:(yI s.heap l1 l2).objs.size=s.heap.objs.size+2:=by rw[FX,z1]
 have z3:(yH s.heap l1 l2).objs.size=s.heap.objs.size+3:=by rw[FX,z2]
 have z4:(yG s.heap l1 l2).objs.size=s.heap.objs.size+4:=by rw[FX,z3]
 have z5:(mJ s.heap l1 l2).objs.size=s.heap.objs.size+5:=by rw[FX,z4]
 have g5:(mJ s.heap l1 l2).get? (yG s.heap l1 l2).objs.size=AA _:=AX _ rfl;have g4:(mJ s.heap l1 l2).get? (yH s.heap l1 l2).objs.size=AA _:=AF _ (AX _ rfl);have g3:(mJ s.heap l1 l2).get? (yI s.heap l1 l2).objs.size=AA _:=AF _ (AF _ (AX _ rfl));have g2:(mJ s.heap l1 l2).get? (yJ s.heap l1).objs.size=AA _:=AF _ (AF _ (AF _ (AX _ rfl)));have g1:(mJ s.heap l1 l2).get? s.heap.objs.size=AA _:=AF _ (AF _ (AF _ (AF _ (AX _ rfl))));show _/\_;rw[z2,z3,z4] at g5;rw[z1,z2] at g3;rw[z3] at g4;rw[z1] at g2;rw[z4]
 exact{{_,g5,rfl},h _ {{.none,AD,g5,.inl rfl},g3,{_,_,g4},{_,g1,rfl,rfl},{_,g2,rfl,rfl}} z5 λc o x =>
  AF _ (AF _ (AF _ (AF _ (AF _ x))))}
def Xc(K:AC)(a b:AQ):It :=
 {λi H=>∃xs ys x y,SqT K H a xs/\SqT K H b ys/\xs[i]?=AA x/\ys[i]?=AA y,
  λi H v H'=>∃p x y,v=.ref p/\H p=AK/\H'=D6 H p (.tup [x,y])/\(∀xs,SqT K H a xs->xs[i]?=AA x)/\(∀ys,SqT K H b ys->ys[i]?=AA y),
  λi H=>∃xs ys,SqT K H a xs/\SqT K H b ys/\(xs.length<=i\/ys.length<=i)}
abbrev iK(n:AQ):List AQ:=[n,n+1,n+2,n+3,n+4]
theorem lt5{c S:Nat}(h:c∈[n,n+1,n+2,n+3,n+4])(JL:n+4<S):c<S:=by
 simp only[BC,C9,or_false] at h;lia
theorem Wu{c:Nat}(h:c∈[n,n+1,n+2,n+3,n+4]):n<=c:=by
 simp only[BC,C9,or_false] at h;lia
theorem qO{n:AQ}(h:a∉iK n):tH n a:=by
 simp only[iK,BC,C9,or_false,not_or] at h;exact{h.1,h.2.1,h.2.2.2.1,h.2.2.2.2}
theorem zT6{K:AC}(a b n:AQ):Turn P w K tg (Xc K a b) (iK n) (n+4) (λi h=>ZipSt h n a b i) where
 mem:=by simp
 obj:=λi h st c hc=>by
  obtain⟨f0,f1,e,_⟩:=st.zo;obtain⟨u,v,e3⟩:=st.to;obtain⟨o0,e0,_,d0⟩:=st.k1;obtain⟨o1,e1,_,d1⟩:=st.k2;simp only[iK,BC,C9,or_false] at hc;rcases hc with rfl|rfl|rfl|rfl|rfl
  .exact{_,e0,λv z=>by rw[d0] at z;cases z}
  .exact{_,e1,λv z=>by rw[d1] at z;cases z}
  .exact{_,st.ti,λv z=>by have z':lS _ _=RN v:=z;cases z'}
  .exact{_,e3,λv z=>by have z':lS _ _=RN v:=z;cases z'}
  .exact{_,e,λv z=>by have z':SL _=RN v:=z;cases z'}
 keep:=λi h h' st k=>st.keep k
 item:=by
  intro X hP hw hK hc i AE s σ H E I hf st hg;subst hP hw hK;obtain⟨xs,ys,x,y,XM,bC,hx,hy⟩:=hg;obtain⟨X6,uK,p1,kX⟩:=I.tuple XM;obtain⟨L7,Am,p2,X8⟩:=I.tuple bC;obtain⟨u1,tR,ru1⟩:=uK.get hx;obtain⟨u2,hu2,ru2⟩:=Am.get hy;refine zT5 st (qO (FpOk.off I hf XM)) (qO (FpOk.off I hf bC)) (show s.heap.IsTuple a X6.toArray from p1) (show s.heap.IsTuple b L7.toArray from p2) (x:=u1) (y:=u2) (by simpa using tR) (by simpa using hu2) λh' CU hp hsz hk=>?_;refine{_,rfl,yB0 (s:={ s with heap:=h' }) CU λh2 st2 M6=>?_};obtain⟨f0,f1,e4,_⟩:=id st.zo;have JL:∀c∈iK n,c<s.heap.objs.size:=λc hc=>lt5 hc (A9 e4);have nin:s.heap.objs.size∉iK n:=λz=>GJ _ (JL _ z)
  have I1:Inv X AE σ (D6 H s.heap.objs.size (.tup [x,y])) { s with heap:=s.heap.push { cls:=.type "tuple",data:=.seq #[u1,u2] } } :=
   I.laid (t':=s.toks) (λb u e=>AF _ e) (AM _) {by show 2<=sizeLine;decide,[u1,u2],.cons ru1 (.cons ru2 .nil),{_,AX _ rfl,rfl,rfl,0,rfl}}
  have wC:∀c∈iK n,FpOk X AE (D6 H s.heap.objs.size (.tup [x,y])) c:=λc hc=>{by rw[EV (CA (JL c hc))];exact(hf c hc).1,(hf c hc).2};have n4:n+4∈iK n:=by simp
  have I2:Inv X AE σ (D6 H s.heap.objs.size (.tup [x,y])) { s with heap:=h2 }:=I1.turnedL (t':=s.toks) wC λc o hc e=>by
   have c4:c≠n+4:=λz=>hc (by rw[z];exact n4);refine M6.extBut _ _ c4 ?_
   by_cases UN:c=s.heap.objs.size
   .subst UN
    rw[AX _ rfl] at e;cases e;exact hp
   .have e':s.heap.get? c=AA o:=by
     rw[MF _ _ _ UN] at e;exact e
    obtain⟨q0,q1,q3,q4⟩:=qO hc;exact hk c o q0 q1 q3 q4 e'
  exact{.ref s.heap.objs.size,_,I2,rfl,{_,x,y,rfl,I.fresh,rfl,λzs hz=>by rw[I.tuple_inj hz XM];exact hx,λzs hz=>by rw[I.tuple_inj hz bC];exact hy},st2,λc hc=>(wC c hc).1}
 done:=by
  intro X hP hw hK hc i AE s σ H E I hf st hg;subst hP hw hK;obtain⟨xs,ys,XM,bC,hx⟩:=hg;obtain⟨X6,uK,p1,kX⟩:=I.tuple XM;obtain⟨L7,Am,p2,X8⟩:=I.tuple bC;have l1:=uK.length;have l2:=Am.length;refine zX3 (I.ok.hd hc) st (qO (FpOk.off I hf XM)) (qO (FpOk.off I hf bC)) (show s.heap.IsTuple a X6.toArray from p1) (show s.heap.IsTuple b L7.toArray from p2) (hx.imp (λh=>by simp;lia) (λh=>by simp;lia)) λh' hk=>{rfl,I.turnedL (t':=s.toks) hf λc o hc e=>?_};obtain⟨q0,q1,q3,q4⟩:=qO hc;exact hk c o q0 q1 q3 q4 e
 self:=λ_ _ _ _ _ st h=>Qs st h
def yHT(K:AC)(ta:TA):TI:=λσ H R=>ta σ H λvs H1=>∃a b,vs=[.ref a,.ref b]/\(∃xs,SqT K H1 a xs)/\(∃ys,SqT K H1 b ys)/\R (Xc K a b) H1
theorem yB1{a b:C8}{ta:TA}(hg:Gl X "zip")(hm:X.mg "zip"=AK)(ha:PA X [a,b] ta)(hs:AO [a,b] X.env=[(AD,eval a X.env),(AD,eval b X.env)]:=by rfl)(M6:AO [b] X.env=[(AD,eval b X.env)]:=by rfl) :
  PI X tg (.Call (.Name "zip" p) [a,b] [] pos) (yHT X.K ta):=by
 intro AE s σ H R I h;refine Call_ (j9 I hg hm (u:=.type "zip") (by decide +kernel) (FT (GV (ha pos AE s σ H _ I h) λus s1 ⟨vs,H1,I1,r1,q1⟩=>?_) (by rw[hs,M6]) (by rw[M6];rfl)));obtain⟨c,d,e,⟨xs,XM⟩,⟨ys,bC⟩,q⟩:=q1;subst e
 cases r1 with
 |cons r rr =>
  cases rr with
  |cons r' rr =>
   cases rr;cases r;cases r';obtain⟨X6,uK,p1,kX⟩:=I1.tuple XM;obtain⟨L7,Am,p2,X8⟩:=I1.tuple bC;refine zQS (show s1.heap.IsTuple c X6.toArray from p1) (show s1.heap.IsTuple d L7.toArray from p2) λh' st hsz k=>?_;refine Qs (s:={ s1 with heap:=h' }) st ?_;refine{s1.heap.objs.size+4,iK s1.heap.objs.size,_,_,H1,rfl,I1.kept (t':=s1.toks) k,zT6 c d _,st,λb hb=>?_,q};exact I1.fpOk (Wu hb) (I1.hok.fresh (Wu hb))
mutual
inductive DV(K:AC)(H:Hp):V->HA->Prop
 |non:DV K H .non .none
 |bl (b:Bool):DV K H (.bl b) (.bool b)
 |int (i:Int):DV K H (.int i) (.int i)
 |str (x:CT):K6 (.str x)=AL->DV K H (.str x) (.str x)
 |tup {a:AQ} {xs:List V} {ds:List HA}:SqT K H a xs->DVs K H xs ds->DV K H (.ref a) (.tuple ds)
 |lst {a:AQ} {xs:List V} {ds:List HA}:SqL K H a xs->DVs K H xs ds->DV K H (.ref a) (.list ds)
inductive DVs(K:AC)(H:Hp):List V->List HA->Prop
 |nil:DVs K H [] []
 |cons {x:V} {d:HA} {xs:List V} {ds:List HA}:DV K H x d->DVs K H xs ds->DVs K H (x::xs) (d::ds)
end
theorem DV.ind{K:AC}{P:V->HA->Prop}{Q:List V->List HA->Prop}(h1:P .non .none)(h2:∀b,P (.bl b) (.bool b))(h3:∀i,P (.int i) (.int i))(h4:∀x,K6 (.str x)=AL->P (.str x) (.str x))
  (h5:∀{a xs ds},SqT K H a xs->DVs K H xs ds->Q xs ds->P (.ref a) (.tuple ds)) (h6:∀{a xs ds},SqL K H a xs->DVs K H xs ds->Q xs ds->P (.ref a) (.list ds))
  (q1:Q [] []) (q2:∀{x d xs ds},DV K H x d->DVs K H xs ds->P x d->Q xs ds->Q (x::xs) (d::ds)):(∀{v d},DV K H v d->P v d)/\∀{v d},DVs K H v d->Q v d :=
 {λh=>DV.rec (motive_1:=λv d _=>P v d) (motive_2:=λv d _=>Q v d) h1 h2 h3 h4 h5 h6 q1 q2 h,λh=>DVs.rec (motive_1:=λv d _=>P v d) (motive_2:=λv d _=>Q v d) h1 h2 h3 h4 h5 h6 q1 q2 h}
theorem pA1{K:AC}:(∀{v d},DV K H v d->d.canLay0=AL)/\∀{v d},DVs K H v d->FZ d=AL :=
 DV.ind (P:=λ_ d=>d.canLay0=AL) (Q:=λ_ d=>FZ d=AL) rfl (λ_=>rfl) (λ_=>rfl) (λ_ h=>h) (λ_ _ h=>by rw[K6];exact h) (λ_ _ h=>by rw[K6];exact h) rfl (λ_ _ h t=>by rw[FZ,h,t];rfl)
theorem DV.can{K:AC}{d:HA}(h:DV K H v d):d.canLay0=AL:=pA1.1 h
theorem DVs.can{K:AC}{v:List V}{d:List HA}(h:DVs K H v d):FZ d=AL:=pA1.2 h
theorem pA2(I:Inv X AE σ H s):(∀{v d},DV X.K H v d->∀u,RelV v u->∃as,bL s.heap u d as)/\∀{v d},DVs X.K H v d->∀u,Vals v u->∃as,YQ s.heap u d as:=by
 refine DV.ind (P:=λv d=>∀u,RelV v u->∃as,bL s.heap u d as) (Q:=λv d=>∀u,Vals v u->∃as,YQ s.heap u d as) ?_ ?_ ?_ ?_ ?_ ?_ ?_ ?_
 .intro _ r;cases r;exact{_,.none}
 .intro b _ r;cases r;exact{_,.bool b}
 .intro i _ r;obtain⟨t,rfl⟩:=r;exact{_,.int i t}
 .intro x _ _ r;obtain⟨t,rfl⟩:=r;exact{_,.str x t}
 .intro a xs ds hq _ ih _ r
  cases r;obtain⟨BZ,rv,⟨o,ho,hc,n,hd⟩,hz⟩:=I.tuple hq;obtain⟨as,ra⟩:=ih _ rv;exact{as,.tuple ho hc hd (by simpa using ra)}
 .intro a xs ds hq _ ih _ r
  cases r;obtain⟨BZ,rv,pl,hz⟩:=I.list hq;obtain⟨o,ho,hc,n,hd⟩:=pl.isList;obtain⟨as,ra⟩:=ih _ rv;exact{_,.list ho hc hd (by simpa using ra)}
 .intro _ r;cases r;exact{_,.nil}
 .intro x d xs ds _ _ h t _ r
  cases r with
  |cons r1 r2 =>
   obtain⟨as,ra⟩:=h _ r1;obtain⟨bs,rb⟩:=t _ r2;exact{_,.cons ra rb}
theorem DV.reads(I:Inv X AE σ H s){d:HA}(h:DV X.K H v d)(r:RelV v u):∃as,bL s.heap u d as:=(pA2 I).1 h u r
theorem DVs.reads(I:Inv X AE σ H s){v:List V}{d:List HA}(h:DVs X.K H v d){u:List AH}(r:Vals v u):∃as,YQ s.heap u d as:=(pA2 I).2 h u r
def zV(K:AC)(cT:Bool):R2:=λx y H Q=>∃d e,DV K H x d/\DV K H y e/\min d.depth e.depth<=60/\Q (.bl (if cT then !EJ d e else EJ d e)) H
theorem Mv(hu:X.A.units+64<GZ):OpR X (EU .Eq) (zV X.K AD):=by
 intro AE s σ H x y v u Q I rx ry h;obtain⟨d,e,hd,he,hm,q⟩:=h;obtain⟨as,ra⟩:=hd.reads I rx;obtain⟨bs,rb⟩:=he.reads I ry;exact SeqAt.compareEq_reads ra rb hd.can he.can 'l' {.bl _,H,I,rfl,q}
theorem yB2(hu:X.A.units+64<GZ):OpR X (EU .NotEq) (zV X.K AL):=by
 intro AE s σ H x y v u Q I rx ry h;obtain⟨d,e,hd,he,hm,q⟩:=h;obtain⟨as,ra⟩:=hd.reads I rx;obtain⟨bs,rb⟩:=he.reads I ry;exact SeqAt.compareNe_reads ra rb hd.can he.can 'l' {.bl _,H,I,rfl,q}
open Classical in
noncomputable def X1(h:D4)(e:HA)(y:AH):Bool:=if z:∃(d:HA) (as:List AQ),bL h y d as then EJ z.choose e else AD
theorem sI{e d:HA}{y:AH}{as:List AQ}(r:bL h y d as):X1 h e y=EJ d e:=by
 have z:∃(d:HA) (as:List AQ),bL h y d as:={d,as,r};unfold X1;rw[dif_pos z];obtain⟨as',r'⟩:=z.choose_spec;rw[(bL.unique r _ _ r').1]
theorem zF:∀{us:List AH} {ds:List HA} {as:List AQ},YQ h us ds as->∀u∈us,∃d∈ds,∃bs,bL h u d bs:=by
 intro us
 induction us with
 |nil=>intro _ _ _ u hu;cases hu
 |cons v us ih =>
  intro ds as h u hu
  cases h with
  |cons r t =>
  rcases BC.mp hu with rfl|hu
  .exact{_,A8,_,r}
  .obtain⟨d,hd,bs,q⟩:=ih t u hu
   exact{d,A4 _ hd,bs,q}
theorem zE{e:HA}:∀{us:List AH} {ds:List HA} {as:List AQ},YQ h us ds as->us.any (X1 h e)=ds.any λd=>EJ d e:=by
 intro us
 induction us with
 |nil=>intro ds as h;cases h;rfl
 |cons v us ih =>
  intro ds as h
  cases h with
  |cons r t=>rw[FP,FP,sI r,ih t]
theorem sM:∀{ds:List HA},FZ ds=AL->∀d∈ds,d.canLay0=AL
 |[],_,d,hd=>by cases hd
 |x::ds,h,d,hd=>by
  rw[FZ,EB] at h;rcases BC.mp hd with rfl|hd
  .exact h.1
  .exact sM h.2 d hd
def qN(K:AC)(cT:Bool):R2:=λx y H Q=>∃p xs ds e,y=.ref p/\(SqL K H p xs\/SqT K H p xs)/\DVs K H xs ds/\DV K H x e/\e.depth<=60 /\
 Q (.bl (if cT then !(ds.any λd=>EJ d e) else ds.any λd=>EJ d e)) H
theorem Mu(hu:X.A.units+64<GZ):OpR X (EU .In) (qN X.K AD):=by
 intro AE s σ H x y v u Q I rx ry h;obtain⟨p,xs,ds,e,rfl,hq,RC,hx,hm,q⟩:=h;cases ry;obtain⟨bs,rb⟩:=hx.reads I rx
 have tR:X.A.in1.units+61<GZ:=by
  have:X.A.in1.units<=X.A.units+1:=by first|exact AM _|simp[Around.in1]
  lia
 rcases hq with hq|hq
 .obtain⟨BZ,r,pl,hz⟩:=I.list hq
  obtain⟨as,ra⟩:=RC.reads I r;refine SeqAt.in_listAt (X1 s.heap e) pl.isList (λw hw=>?_) {.bl _,H,I,rfl,?_}
  .obtain⟨d,hd,cs,rd⟩:=zF ra w (by simpa using hw)
   rw[sI rd];exact MW d e _ s w v cs bs rd rb (sM RC.can d hd) hx.can 'l'
  .rw[show BZ.toArray.any (X1 s.heap e)=BZ.any (X1 s.heap e) by simp,zE ra]
   exact q
 .obtain⟨BZ,r,pl,hz⟩:=I.tuple hq
  obtain⟨as,ra⟩:=RC.reads I r;refine SeqAt.in_tupleAt (X1 s.heap e) pl (λw hw=>?_) {.bl _,H,I,rfl,?_}
  .obtain⟨d,hd,cs,rd⟩:=zF ra w (by simpa using hw)
   rw[sI rd];exact MW d e _ s w v cs bs rd rb (sM RC.can d hd) hx.can 'l'
  .rw[show BZ.toArray.any (X1 s.heap e)=BZ.any (X1 s.heap e) by simp,zE ra]
   exact q
theorem zQT(hu:X.A.units+64<GZ):OpR X (EU .NotIn) (qN X.K AL):=by
 intro AE s σ H x y v u Q I rx ry h;obtain⟨p,xs,ds,e,rfl,hq,RC,hx,hm,q⟩:=h;cases ry;obtain⟨bs,rb⟩:=hx.reads I rx
 have tR:X.A.in1.units+61<GZ:=by
  have:X.A.in1.units<=X.A.units+1:=by first|exact AM _|simp[Around.in1]
  lia
 rcases hq with hq|hq
 .obtain⟨BZ,r,pl,hz⟩:=I.list hq
  obtain⟨as,ra⟩:=RC.reads I r;refine SeqAt.notIn_listAt (X1 s.heap e) pl.isList (λw hw=>?_) {.bl _,H,I,rfl,?_}
  .obtain⟨d,hd,cs,rd⟩:=zF ra w (by simpa using hw)
   rw[sI rd];exact MW d e _ s w v cs bs rd rb (sM RC.can d hd) hx.can 'l'
  .rw[show BZ.toArray.any (X1 s.heap e)=BZ.any (X1 s.heap e) by simp,zE ra]
   exact q
 .obtain⟨BZ,r,pl,hz⟩:=I.tuple hq
  obtain⟨as,ra⟩:=RC.reads I r;refine SeqAt.notIn_tupleAt (X1 s.heap e) pl (λw hw=>?_) {.bl _,H,I,rfl,?_}
  .obtain⟨d,hd,cs,rd⟩:=zF ra w (by simpa using hw)
   rw[sI rd];exact MW d e _ s w v cs bs rd rb (sM RC.can d hd) hx.can 'l'
  .rw[show BZ.toArray.any (X1 s.heap e)=BZ.any (X1 s.heap e) by simp,zE ra]
   exact q
theorem DVs.ints{K:AC}{H:Hp}:∀ns:List Int,DVs K H (ns.map V.int) (ns.map ZG)
 |[]=>.nil
 |n::ns=>.cons (.int n) (DVs.ints ns)
theorem Ei(x:Int):∀ns:List Int,((ns.map ZG).any λd=>EJ d (.int x))=decide (x∈ns)
 |[]=>rfl
 |n::ns=>by
  rw[AV,FP,Ei x ns,EJ]
  by_cases h:n=x
  .subst h;simp
  .have h':¬x=n:=λz=>h z.symm
   simp[h,h']
def Gr(H H':Hp):Prop:=∀b u,H b=AA u->H' b=AA u
theorem Gr.trans(g:Gr H H1)(g':Gr H1 H2):Gr H H2:=λb u e=>g' b u (g b u e)
theorem Gr.new{p:AQ}(hp:H p=AK):Gr H (D6 H p o):=λb u e=>by rw[EV (UX e hp)];exact e
theorem SqT.gr{K:AC}(h:SqT K H a xs)(g:Gr H H'):SqT K H' a xs:=by
 rcases h with h|h
 .rcases h with h|⟨o,h⟩
  .exact .inl (.inl (g _ _ h))
  .exact .inl (.inr {o,g _ _ h})
 .exact .inr h
theorem zED{t sl:AQ}{lo:Option Int}(ht:QE s.heap t items)(hs:s.heap.IsSliceOf sl vl vu .none)(pl:QF vl lo)(pu:QF vu hi)
  (hw:HT.sIx items.size 0 lo=0/\HT.sIx items.size items.size hi=items.size) (h:Q (.ref t) s):A0 (A1 prog w) A (K4 (.ref t) (.ref sl)) Q E s:=by
 obtain⟨os,V9,UN,RC⟩:=id hs;have oN:s.TypeIs (.ref sl) "slice":={os,V9,UN};unfold K4
 try with_reducible refine CZ ?_
 first|refine AB (wpAny_pure ?_)|skip
 refine AB (NE ht.typeIs 'd' ?_)
 refine AB (CJ (name:=EE "__getitem__") ht.typeIs CD
  (C3 CD ht.typeIs LY ?_ (MU _ _)))
 show A0 _ _ (HM (.ref t) >>= _) _ _ s;refine AB (RG ht ?_);refine AB (OM oN ?_);rw[if_pos 'd'];refine AB (HT.sliceApplied_gen hs pl pu ?_);rw[hw.1,hw.2];have e:(((0:Nat):Int)==0&&(1:Int)==1&&(items.size-0)==items.size)=AL:=by simp
 show A0 _ _ (if(((0:Nat):Int)==0&&(1:Int)==1&&(items.size-0)==items.size)=AL then _ else _) _ _ s;rw[if_pos e];show A0 _ _ (PN (.ref t) >>= _) _ _ s;unfold PN;refine AB (AB (OM ht.typeIs (wpAny_pure ?_)));show A0 _ _ (if(T4 "tuple"==T4 "tuple")=AL then _ else _) _ _ s;rw[if_pos 'd'];exact AB (FJ (wpAny_pure {_,rfl,wpAny_pure h}))
theorem zT7(xs:List AH):((CI xs.length).filterMap λ(m:Nat)=>xs.toArray[(((xs.length:Int)-1)+(m:Int) * (-1)).toNat]?)=xs.reverse:=by
 have e:∀m∈CI xs.length,xs.toArray[(((xs.length:Int)-1)+(m:Int) * (-1)).toNat]?=xs.reverse[m]?:=λm hm=>by
  have hm:=FW.mp hm;have:(((xs.length:Int)-1)+(m:Int) * (-1)).toNat=xs.length-1-m:=by lia
  rw[this,N1 hm];simp
 have cg:∀(l:List Nat) (f g:Nat->Option AH),(∀m∈l,f m=g m)->l.filterMap f=l.filterMap g:=by
  intro l f g
  induction l with
  |nil=>intro _;rfl
  |cons x l ih=>intro h;rw[DN,DN,h x A8,ih λm hm=>h m (A4 _ hm)]
 rw[cg _ _ _ e]
 have J2:∀(ys:List AH) (n:Nat),n=ys.length->(CI n).filterMap (λm=>ys[m]?)=ys:=by
  intro ys n hn;subst hn
  apply QQ
  intro i
  have:(CI ys.length).filterMap (λm=>ys[m]?)=ys:=by
   have h1:(CI ys.length).map (λm=>ys[m]?)=ys.map AA:=by
    apply QQ
    intro j
    by_cases hj:j<ys.length
    .simp[hj]
    .simp[hj]
   have h2:=congrArg (λl=>l.filterMap id) h1;simpa[LJ,Function.comp_def] using h2
  rw[this]
 exact J2 _ _ 's'
theorem places_rev(n:Nat):C5 ((n:Int)-1) (-1) (-1)=n:=by
 unfold C5;have h1:¬((-1:Int)>0):=by decide
 simp only[h1,if_false,Int.neg_neg,Y0];split<;>lia
theorem getItem_tuple_rev{t sl:AQ}{vs:List AH}{tk:eE}(ht:QE s.heap t vs.toArray)(hs:s.heap.IsSliceOf sl .none .none (.int (-1) tk))
  (h:Q (.ref s.heap.objs.size) { s with heap:=s.heap.push { cls:=.type "tuple",data:=.seq vs.reverse.toArray } }) (hsz:vs.length<=sizeLine):A0 (A1 prog w) A (K4 (.ref t) (.ref sl)) Q E s:=by
 obtain⟨os,V9,UN,RC⟩:=id hs;have oN:s.TypeIs (.ref sl) "slice":={os,V9,UN};unfold K4
 try with_reducible refine CZ ?_
 first|refine AB (wpAny_pure ?_)|skip
 refine AB (NE ht.typeIs 'd' ?_)
 refine AB (CJ (name:=EE "__getitem__") ht.typeIs CD
  (C3 CD ht.typeIs LY ?_ (MU _ _)))
 show A0 _ _ (HM (.ref t) >>= _) _ _ s;refine AB (RG ht ?_);refine AB (OM oN ?_);rw[if_pos 'd'];refine AB (m:=ET (.ref sl) (pure (vs.toArray.size:Int))) ?_;unfold ET KI;refine AB (AB (CG V9 RC (x:=.none) rfl (AB (CG V9 RC (x:=.none) rfl (AB (CG V9 RC (x:=.int (-1) tk) rfl (wpAny_pure ?_)))))));refine AB (HT.slicePart_ (.int (-1) tk) ?_);show A0 _ _ (if((-1:Int)==0)=AL then _ else _) _ _ s;rw[if_neg 'd'];refine AB (HT.slicePart_ .none (AB (HT.slicePart_ .none (AB (wpAny_pure ?_)))));show A0 _ _ (pure (((vs.toArray.size:Nat):Int)-1,(-1:Int),C5 (((vs.toArray.size:Nat):Int)-1) (-1) (-1))) _ _ s;rw[places_rev];refine wpAny_pure ?_
 have e:¬((((vs.toArray.size:Int)-1)==0&&(-1:Int)==1&&vs.toArray.size==vs.toArray.size)=AL):=by
  intro q;rw[EB,EB] at q;exact absurd (eq_of_beq q.1.2) 'd'
 show A0 _ _ (if(((vs.toArray.size:Int)-1)==0&&(-1:Int)==1&&vs.toArray.size==vs.toArray.size)=AL then _ else _) _ _ s;rw[if_neg e];simp only[AW];rw[zT7 vs]
 have LF:sizeOk (.seq vs.reverse.toArray):=by
  show vs.reverse.toArray.size<=sizeLine;rw[AW,FH];exact hsz
 first
  |exact AB (m:=CH _) (BY (wpAny_pure {_,rfl,wpAny_pure h}) LF)
  |exact AB (m:=CH _) (BY (AB (wpAny_pure (wpAny_pure {_,rfl,wpAny_pure h}))) LF)
  |exact AB (AB (m:=CH _) (BY (wpAny_pure (wpAny_pure {_,rfl,wpAny_pure h})) LF))
  |exact AB (AB (m:=CH _) (BY (wpAny_pure {_,rfl,wpAny_pure h}) LF))
theorem zX4{t b:AQ}{vs:List AH}(ht:QE s.heap t vs.toArray)(hb:QE s.heap b ws.toArray)
  (h0:vs=[]->Q (.ref b) s) (h1:vs≠[]->ws=[]->Q (.ref t) s) (h2:vs≠[]->ws≠[]->Q (.ref s.heap.objs.size) { s with heap:=s.heap.push { cls:=.type "tuple",data:=.seq (vs++ws).toArray } })
  (hsz:vs.length+ws.length<=sizeLine):A0 (A1 prog w) A (HE .Add (.ref t) (.ref b)) Q E s:=by
 by_cases hv:vs=[]
 .obtain⟨⟨cls,dd,data,sl⟩,ho,hc,n,hd⟩:=id ht
  obtain⟨⟨wU,lK,data2,kO⟩,ZA,dR,n2,fW⟩:=id hb;simp only at hc hd dR fW;subst hc hd dR fW
  exact TZ {_,ho,rfl} {_,ZA,rfl} VP aF MY MB (LS _ _)
   (tuple_addW0 t b vs.toArray ws.toArray n n2 dd lK sl kO (by simp[hv])) {ho,ZA,h0 hv}
 .exact HT.cat_tup ht hb hv (h1 hv) (h2 hv) hsz
theorem zQU{lo:Option Int}(h:HT.sIx xs.length 0 lo=0/\HT.sIx xs.length xs.length hi=xs.length):Y1 xs lo hi=xs:=by
 unfold Y1;rw[h.1,h.2,OG,Nat.sub_zero,EA]
section
variable(K:AC)
end
theorem zT8{c:AH}{b:Bool}(I:Inv X AE σ H s)(ha:SqT X.K H a xs)
  (e:BQ X.K (.type "tuple") c=AA b) (h:∀tk,Q (.bool b) { s with toks:=tk }):A0 (A1 X.prog X.w) A (call (.builtin "isinstance") [.ref a,c]) Q E s:=by
 obtain⟨BZ,r,p,_⟩:=I.tuple ha;obtain⟨o,h1,h2,_⟩:=p;exact DG YS I.kIn {o,h1,h2} e (λz=>nomatch z) h
theorem zX5{bs:List Bool}:∀{us:List AH},Vals (bs.map V.bl) us->us=bs.map JA:=by
 induction bs with
 |nil=>intro us r;rw[NH] at r;cases r;rfl
 |cons b bs ih =>
  intro us r;rw[AV] at r
  cases r with
  |cons r1 r2=>cases r1;rw[ih r2];rfl
theorem zQV(bs:List Bool):(CI bs.length).all (λi=>bs.getD i AD)=bs.all id:=by
 rw[Bool.eq_iff_iff,gT,gT];constructor
 .intro h b hb
  obtain⟨i,hi,e⟩:=ZI.mp hb;have:=h i (FW.mpr hi);rw[LI,BO hi] at this;rw[<-e];exact this
 .intro h i hi
  have hi:=FW.mp hi;rw[LI,BO hi];exact h _ (HH hi)
theorem zT9(bs:List Bool):TruthOf prog w A (λi v=>(bs.map JA).toArray[i]?=AA v) (λi=>bs.getD i AD):=by
 intro i v s Q E hP hQ;have hP:(bs.map JA)[i]?=AA v:=by simpa using hP
 rw[AU] at hP
 cases e:bs[i]? with
 |none=>rw[e] at hP;cases hP
 |some b =>
  rw[e] at hP;cases hP;refine IP ?_;have e3:bs.getD i AD=b:=by rw[LI,e];rfl
  have hQ:Q (bs.getD i AD) s:=hQ;rw[e3] at hQ;exact hQ
def Vj(K:AC):List V->Hp->VK->Prop:=λxs H Q=>∃(p:AQ) (bs:List Bool),xs=[.ref p]/\SqL K H p (bs.map V.bl)/\Q (.bl (bs.all id)) H
theorem zUA(hc:X.calm=AL):CallR X (.builtin "all") (Vj X.K):=by
 intro AE s σ H xs us Q I r h;obtain⟨p,bs,rfl,hp,q⟩:=h;obtain⟨u,rfl,ru⟩:=ZV r;cases ru;obtain⟨BZ,rv,pl,hz⟩:=I.list hp;have e:=zX5 rv;subst e;have JL:p<s.heap.objs.size:=by obtain⟨o,ho,_⟩:=pl.isList;exact A9 ho
 refine call_all_walk (KG pl.isList ?_);refine{_,_,_,_,_,_,λi=>bs.getD i AD,rfl,Walks.list (by have:=I.ok.hd hc;simp[this]) _ p (CA JL) (bs.map JA).toArray,{{_,AX _ rfl,rfl,rfl},pl.isList.push _},zT9 bs,λh' tk hk=>?_};have e2:(CI (bs.map JA).toArray.size).all (λi=>bs.getD i AD)=bs.all id:=by simpa using zQV bs
 refine{.bl (bs.all id),H,I.kept (t':=tk) λb o e=>hk b o ?_ (AF _ e),by rw[e2];rfl,q};simp only[A3];exact CA (A9 e)
abbrev eU(h:D4)(n:AQ)(f0:AH)(f1:Bool)(i:Int)(H9:AH):Prop :=
 h.get? (n+1)=AA { cls:=.type "enumerate",dict:=AK,data:=.fields #[f0,.bool f1,.ref n,EY i,.none,H9],slots:=#[] }
theorem zQW{n:AQ}{f0 H9:AH}{f1:Bool}{i:Int}{Q:Bool->AT->Prop}(hz:eU s.heap n f0 f1 i H9)(hf:F0 f0)
  (h:∀b h' f1,eU h' n f0 f1 i H9->DM (n+1) s.heap h'->Q b { s with heap:=h' }):A0 (A1 prog w) A (C6 (.ref (n+1))) Q E s:=by
 unfold C6;rcases hf with rfl|⟨T,rfl⟩
 .exact AB (CG hz rfl (x:=.none) rfl (wpAny_pure (h AL s.heap f1 hz (kD _ _))))
 .refine AB (CG hz rfl (x:=EY T) rfl ?_)
  show A0 _ _ (jD (T:Int).toNat >>= _) _ _ _;refine AB (Sg ?_)
  cases e:(s.heap.get? (T:Int).toNat).isNone with
  |true=>exact wpAny_pure (h AL s.heap f1 hz (kD _ _))
  |false =>
   simp only[D7,if_false];refine AB (CG hz rfl (x:=.bool f1) rfl ?_)
   cases f1 with
   |true=>exact wpAny_pure (h AD s.heap AL hz (kD _ _))
   |false =>
    show A0 _ _ (N9 (.ref (n+1)) 1 (.bool AL) >>= _) _ _ _;exact AB (C2 hz 's' λh' fQ R7=>wpAny_pure (h AD h' AL fQ R7))
theorem lt2{c S:Nat}(h:c∈[n,n+1])(JL:n+1<S):c<S:=by
 simp only[BC,C9,or_false] at h;lia
theorem Wv{c:Nat}(h:c∈[n,n+1]):n<=c:=by
 simp only[BC,C9,or_false] at h;lia
def PairsAt(K:AC)(H:Hp)(zs:List V)(ps:List (Int×Int)):Prop:=Paired (λ(z:V) (p:Int×Int)=>∃q,z=.ref q/\SqT K H q [.int p.1,.int p.2]) zs ps
theorem PairsAt.gr{K:AC}{H H':Hp}{zs:List V}{ps:List (Int×Int)}(h:PairsAt K H zs ps)(g:Gr H H'):PairsAt K H' zs ps:=pA0 h (λ_ _ q0=>by obtain⟨q,e,k⟩:=q0;exact{q,e,k.gr g})
section
variable{a b x:AH}{T I S:AQ}
end
theorem zQX{l1 l2:List V}(pp:l1.Perm l2):∀ns:List Int,l2=ns.map V.int->∃ms:List Int,l1=ms.map V.int/\ms.Perm ns:=by
 induction pp with
 |nil=>intro ns e;cases ns with|nil=>exact{[],rfl,G4 _}|cons _ _=>cases e
 |cons a _ ih =>
  intro ns e
  cases ns with
  |nil=>cases e
  |cons b ns =>
   rw[AV] at e;injection e with e1 e2;obtain⟨ms,h1,h2⟩:=ih ns e2;exact{b::ms,by rw[AV,e1,h1],h2.cons b}
 |swap a b l =>
  intro ns e
  match ns,e with
  |c::d::ns,e =>
   rw[AV,AV] at e;injection e with e1 e2;injection e2 with e2 e3;exact{d::c::ns,by rw[AV,AV,e1,e2,e3],HW _ _ _}
 |trans _ _ a7 ih2 =>
  intro ns e;obtain⟨ms,h1,h2⟩:=ih2 ns e;obtain⟨ks,h3,h4⟩:=a7 ms h1;exact{ks,h3,h4.trans h2}
theorem sL{kvs:List (Key×V)}(x:ObjOk P w H h a (.dK kvs)):∃es ep,RawD h a es ep/\es.size=kvs.length/\kvs.length<=sizeLine /\
  ∀(i:Nat) (hi:i<es.size),∃k:Key,(kvs.map (·.1))[i]?=AA k/\RelV (kV k) es[i].key:=by
 obtain⟨z,y,vs,r,o,es,ep,h1,h2,h3,h4,h5,h6⟩:=x;have hl:es.size=vs.length:=by rw[<-h5.length];simp
 have bE:kvs.length=vs.length:=r.length;refine{es,ep,{{o,h1,h2,h3},y},by lia,z,λi hi=>?_};have SQ:i<vs.length:=AN hi (CY hl);obtain⟨e1,_⟩:=h5.get? (i:=i) (e:=es[i]) (k:=vs[i].1) (v:=vs[i].2) (by simp[hi]) (by simp[SQ]);refine{vs[i].1,by rw[r.keys];simp[SQ],?_};rw[Td] at e1;rcases cF e1 with⟨j,t,z1,z2⟩|⟨y,t,z1,z2⟩
 .rw[z1,z2];exact{t,rfl}
 .rw[z1,z2];exact{t,rfl}
def Xe(d:AQ)(o:IE)(kvs:List (Key×V)):It :=
 {λi H=>i<kvs.length/\H d=AA (.frz o (.dK kvs)),λi H x H'=>H'=H/\∃k,x=kV k/\(kvs.map (·.1))[i]?=AA k,λi H=>kvs.length<=i/\H d=AA (.frz o (.dK kvs))}
theorem Tl{K:AC}(d it:AQ)(o:IE)(kvs:List (Key×V))(es:Array J4)(ep:Nat)(hd:o.data=.dict es ep)(hz:es.size=kvs.length) :
  Turn P w K tg (Xe d o kvs) [it] it (λi h=>h.IsKeyIter it d i es.size ep) where
 mem:=by simp
 obj:=λi h st b hb=>by
  have e:b=it:=by simpa using hb
  subst e;obtain⟨o,e,c,d⟩:=st;exact{o,e,λv z=>by rw[d] at z;cases z}
 keep:=λi h h' st k=>let ⟨o,e,r⟩:=st;{o,k it 's' o e,r}
 item:=by
  intro X hP hw hK hc i AE s σ H E I hf st hg;subst hP hw hK;obtain⟨hi,hk⟩:=hg;obtain⟨ho,hx⟩:=I.hok d _ hk;obtain⟨lG,lH,LN,e1,e2,e3⟩:=sL hx;obtain⟨o',q1,q2,q3⟩:=LN.ex;rw[ho] at q1;cases q1;rw[hd] at q3;injection q3 with q4 q5;subst q4;subst q5;obtain⟨f0,f1,f2,f3,f4,f5⟩:=hf it 's';refine Qt st LN 'l' λh' CU sb=>?_;obtain⟨k,p2,p3⟩:=e3 i 'l';have I1:Inv X AE σ H { s with heap:=h' }:=I.turned (t':=s.toks) (λb ob hb e=>(sb.2 b hb).trans e) f0 f1 f3 f4 f5;obtain⟨oi,e,c,dd⟩:=id CU;refine{_,rfl,rW (s:={ s with heap:=h' }) e c dd 'd' {kV k,H,I1,p3,{rfl,k,rfl,p2},CU,λb hb=>(hf b hb).1}}
 done:=by
  intro X hP hw hK hc i AE s σ H E I hf st hg;subst hP hw hK;obtain⟨hi,hk⟩:=hg;obtain⟨ho,hx⟩:=I.hok d _ hk;obtain⟨lG,lH,LN,e1,e2,e3⟩:=sL hx;obtain⟨o',q1,q2,q3⟩:=LN.ex;rw[ho] at q1;cases q1;rw[hd] at q3;injection q3 with q4 q5;subst q4;subst q5;obtain⟨f0,f1,f2,f3,f4,f5⟩:=hf it 's';exact Pc (I.ok.hd hc) st LN (AZ (CY hz) hi) λh' eb=>{rfl,I.turned (t':=s.toks) (λb ob hb e=>eb b ob hb e) f0 f1 f3 f4 f5}
 self:=λ_ _ _ _ _ st h=>i8 st h
theorem Inv.freezeK{kvs:List (Key×V)}(I:Inv X AE σ H s)(ha:H a=AA (.dK kvs)) :
  ∃o,s.heap.get? a=AA o/\Inv X AE σ (D6 H a (.frz o (.dK kvs))) s:=by
 have x:=I.hok a _ ha;obtain⟨es,ep,⟨⟨o,h1,h2,h3⟩,_⟩,_⟩:=sL x;have kt:∀b ys,H b=AA (.tup ys)->b≠a:=λb ys e z=>by rw[z,ha] at e;cases e
 have ko:∀b y,H b=AA (.own y)->b≠a:=λb y e z=>by rw[z,ha] at e;cases e
 have kf:∀b ob u,H b=AA (.frz ob u)->b≠a:=λb ob u e z=>by rw[z,ha] at e;cases e
 have kb:∀b t ps,H b=AA (.tbl t ps)->b≠a:=λb t ps e z=>by rw[z,ha] at e;cases e
 have kn:∀b,H b=AK->b≠a:=λb e z=>by rw[z,ha] at e;cases e
 refine{o,h1,I.un (t':=s.toks) (h':=s.heap) {λb ob e _ _ _=>e,λb ob e _ _ _=>{ob.slots,e},λb ob e n _=>by rw[EV (kn b n)];exact n,λb ob e _=>{ob,e},λb ys e=>by rw[EV (kt b ys e)];exact e,λb ob u e=>by rw[EV (kf b ob u e)];exact e,λb t ps e=>{#[],by rw[EV (kb b t ps e),e];simp}} λb u e=>?_}
 by_cases hb:b=a
 .subst hb
  rw[HB] at e;cases e;exact{h1,x.stay (λc v _ q=>q) (λc q=>by rw[EV (ko c _ q)];exact q) (λc ys q=>by rw[EV (kt c ys q)];exact q) λc ob x q=>by rw[EV (kf c ob _ q)];exact q}
 .rw[EV hb] at e
  exact(I.hok b u e).stay (λc v _ q=>q) (λc q=>by rw[EV (ko c _ q)];exact q) (λc ys q=>by rw[EV (kt c ys q)];exact q) λc ob x q=>by rw[EV (kf c ob _ q)];exact q
end L2
namespace TS
open PySem PyProof.Rows
section
variable{prog:CQ}{w:D3}{A:DQ}{E:AH->AT->Prop}{s:AT}{BU:Array BA}{kd:FK}{L:BA->BA->Bool}
def WL(prog:CQ)(w:D3)(A:DQ)(s:AT)(kd:FK)(BU:Array BA)(L:BA->BA->Bool):Prop :=
 ∀x y:BA,x∈BU->y∈BU->∀(Q:Bool->AT->Prop) (E:AH->AT->Prop),Q (L x y) s->A0 (A1 prog w) A (keyLt' kd x.1 y.1) Q E s
theorem yD{st:BP}{x y:BA}{Q:Option Bool->BP->Prop}(hA:WL prog w A s kd BU L)(hk:kindOf st=kd)(hx:x∈BU)(hy:y∈BU)(h:Q (AA (L x y)) st) :
  NV (A1 prog w) A E s (lt' x y) Q st:=by
 rw[lt'_eq];refine BJ (ND ?_);rw[hk];refine BJ (P6 (GR (hA x y hx hy _ _ {rfl,?_})));exact BD h
def Xg(B:Nat->Bool)(n k:Nat):Prop:=k<=n/\(∀i<k,B i=AL)/\∀i,k<=i->i<n->B i=AD
theorem Gj{α β γ:Type}{T:β->γ->StateT BP SJ α}{M:Model}{A:DQ}{E:AH->AT->Prop}{s:AT}{Q:α->BP->Prop}{st:BP}{NT:Prop}(P:β->γ->Prop)(h1:(∀x y,P x y->NV M A E s (T x y) Q st)->NT)(h2:∀x y,P x y->NV M A E s (T x y) Q st):NT:=h1 h2
theorem Tk{st:BP}{left:Bool}{J2:BA}{HC:Array BA}{base n FQ:Nat}{Q:Option Nat->BP->Prop}{B:Nat->Bool}(hA:WL prog w A s kd BU L)(hk:kindOf st=kd)(NS:J2∈BU)(P2:∀x∈HC,x∈BU)
  (hb:base+n<=HC.size) (hh:FQ<n) (hB:∀i (hi:base+i<HC.size),B i=if left then L HC[base+i] J2 else !L J2 HC[base+i]) (mono:∀i j,i<=j->j<n->B j=AL->B i=AL)
  (h:∀k,Xg B n k->Q (AA k) st):NV (A1 prog w) A E s (sN left J2 HC base n FQ) Q st:=by
 have hm:∀(i:Nat) (hi:base+i<HC.size),HC[base+i]∈BU:=λi hi=>P2 _ (AG hi)
 have o8:∀i j,i<=j->j<n->B i=AD->B j=AD:=λi j LX hj hi=>by
  cases e:B j with
  |false=>rfl
  |true=>rw[mono i j LX hj e] at hi;cases hi
 have Bj:∀(i:Nat) (hi:i<n) {Q:Option Bool->BP->Prop},Q (AA (B i)) st->NV (A1 prog w) A E s (do let x <-elem' HC (base+i);if left=AL then lt' x J2 else return (<-lt' J2 x).map (!·)) Q st:=λi hi {Q} q=>by
  have SQ:base+i<HC.size:=AN (A7 hi _) hb;have eB:=hB i SQ;refine BJ (pV SQ (LK (λhl=>yD hA hk (hm _ SQ) NS ?_) λhl=>BJ (yD hA hk NS (hm _ SQ) (BD ?_))))
  .rw[if_pos hl] at eB;rw[<-eB];exact q
  .rw[if_neg hl] at eB;show Q (AA (!_)) st;rw[<-eB];exact q
 clear hB
 refine Gj (M:=A1 prog w) (A:=A) (E:=E) (s:=s) (λlo hi:Nat=>lo<=hi/\hi<=n/\(∀i<lo,B i=AL)/\∀i,hi<=i->i<n->B i=AD) (λK=>by
  refine BJ (Bj FQ hh ?_)
  cases e:B FQ with
  |true =>
   refine BJ (JN (F7 (I:=λx c CU=>CU=st/\∃l o,c=(AK,l,o)/\B (FQ+l)=AL/\FQ+l<n/\l<o/\x+1<=o)
    (Q:=λc CU=>CU=st/\∃l o,c=(AK,l,o)/\B (FQ+l)=AL/\FQ+l<n/\l<o/\(n-FQ<=o\/FQ+o<n/\B (FQ+o)=AD)) ?step ((λc CU q0=>by obtain⟨e,l,o,e1,e2,e3,e4,e5⟩:=q0;exact{e,l,o,e1,e2,e3,e4,.inl 'o'})) {rfl,0,1,rfl,e,hh,DX _,AM _}) ?post)
   case step =>
    rintro x c CU _ _ ⟨rfl,l,o,rfl,h1,h2,h3,h4⟩
    try dsimp only
    refine LK (λq=>BD {rfl,l,o,rfl,h1,h2,h3,.inl q}) (λq=>?_);refine BJ (Bj (FQ+o) 'o' ?_)
    cases e:B (FQ+o) with
    |true=>exact BD {rfl,o,2 * o+1,rfl,e,by omega,by omega,by omega}
    |false=>exact BD {rfl,l,o,rfl,h1,h2,h3,.inr {by omega,e}}
   case post =>
    rintro c CU ⟨rfl,l,o,rfl,h1,h2,h3,h4⟩
    have hP:FQ+l+1<=FQ+min o (n-FQ)/\FQ+min o (n-FQ)<=n/\(∀i<FQ+l+1,B i=AL)/\∀i,FQ+min o (n-FQ)<=i->i<n->B i=AD:={by omega,by omega,λi hi=>mono i (FQ+l) (IG hi) h2 h1,λi hi hn=>by
     rcases h4 with h4|⟨h4,h5⟩
     .omega
     .exact o8 (FQ+o) i 'o' hn h5}
    revert hP
    dsimp only;generalize FQ+l+1=lo',FQ+min o (n-FQ)=SQ;exact λhP=>K lo' SQ hP
  |false =>
   refine BJ (JN (F7 (I:=λx c CU=>CU=st/\∃l o,c=(AK,l,o)/\B (FQ-l)=AD/\l<=FQ/\l<o/\x+1<=o)
    (Q:=λc CU=>CU=st/\∃l o,c=(AK,l,o)/\B (FQ-l)=AD/\l<=FQ/\l<o/\(FQ+1<=o\/o<=FQ/\B (FQ-o)=AL)) ?step ((λc CU q0=>by obtain⟨e,l,o,e1,e2,e3,e4,e5⟩:=q0;exact{e,l,o,e1,e2,e3,e4,.inl 'o'})) {rfl,0,1,rfl,e,BS _,DX _,AM _}) ?post)
   case step =>
    rintro x c CU _ _ ⟨rfl,l,o,rfl,h1,h2,h3,h4⟩
    try dsimp only
    refine LK (λq=>BD {rfl,l,o,rfl,h1,h2,h3,.inl q}) (λq=>?_);refine BJ (Bj (FQ-o) (AS (DE _ _) hh) ?_)
    cases e:B (FQ-o) with
    |true=>exact BD {rfl,l,o,rfl,h1,h2,h3,.inr {IG (jK q),e}}
    |false=>exact BD {rfl,o,2 * o+1,rfl,e,IG (jK q),by omega,by omega}
   case post =>
    rintro c CU ⟨rfl,l,o,rfl,h1,h2,h3,h4⟩
    exact K (FQ+1-min o (FQ+1)) (FQ-l) {by omega,CW (AS (DE _ _) hh),λi hi=>by
     rcases h4 with h4|⟨h4,h5⟩
     .omega
     .exact mono i (FQ-o) 'o' (AS (DE _ _) hh) h5,λi hi hn=>o8 (FQ-l) i hi hn h1}) ?_
 rintro lo hi ⟨p1,p2,p3,p4⟩
 refine BJ (JN (F7 (I:=λx c st2=>st2=st/\∃l r,c=(AK,l,r)/\l<=r/\r<=n/\(∀i<l,B i=AL)/\(∀i,r<=i->i<n->B i=AD)/\r-l+x<=n)
  (Q:=λc st2=>st2=st/\∃l r,c=(AK,l,r)/\Xg B n r) ?st2 ((λc st2 q0=>by obtain⟨e,l,r,e1,e2,e3,e4,e5,e6⟩:=q0;exact{e,l,r,e1,e3,λi hi=>e4 i 'o',e5})) {rfl,lo,hi,rfl,p1,p2,p3,p4,by omega}) ?po2)
 case po2 =>
  rintro c st2 ⟨rfl,l,r,rfl,hr⟩;exact BD (h r hr)
 case st2 =>
  rintro x c st2 _ _ ⟨rfl,l,r,rfl,q1,q2,q3,q4,q5⟩
  try dsimp only
  refine LK (λq=>BD {rfl,l,r,rfl,q2,λi hi=>q3 i 'o',q4}) (λq=>?_);refine BJ (Bj (l+(r-l) / 2) 'o' ?_)
  cases e:B (l+(r-l) / 2) with
  |true=>exact BD {rfl,l+(r-l) / 2+1,r,rfl,by omega,q2,λi hi=>mono i (l+(r-l) / 2) (IG hi) 'o' e,q4,by omega}
  |false=>exact BD {rfl,l,l+(r-l) / 2,rfl,A2 _ _,by omega,q3,λi hi hn=>o8 (l+(r-l) / 2) i hi hn e,by omega}
end
structure Ord(L:BA->BA->Bool)(BU:Array BA):Prop where
 asym:∀x y,x∈BU->y∈BU->L x y=AL->L y x=AD
 trans:∀x y z,x∈BU->y∈BU->z∈BU->L y x=AD->L z y=AD->L z x=AD
def SA(L:BA->BA->Bool)(a:Array BA):Prop:=∀(i j:Nat) (hj:j<a.size) (LX:i<j),L a[j] (a[i]'(DB LX hj))=AD
theorem Ord.refl{L:BA->BA->Bool}{BU:Array BA}(O:Ord L BU){x:BA}(hx:x∈BU):L x x=AD:=by
 cases e:L x x with
 |false=>rfl
 |true=>rw[O.asym x x hx hx e] at e;cases e
theorem SA.le{L:BA->BA->Bool}{BU a:Array BA}(O:Ord L BU)(ha:∀x∈a,x∈BU)(s:SA L a){i j:Nat}(hj:j<a.size)(LX:i<=j):L a[j] (a[i]'(AS LX hj))=AD:=by
 rcases DL LX with h|h
 .exact s i j hj h
 .subst h;exact O.refl (ha _ (AG _))
section
variable{prog:CQ}{w:D3}{A:DQ}{E:AH->AT->Prop}{s:AT}{BU:Array BA}{kd:FK}{L:BA->BA->Bool}
theorem Sf{st:BP}{J2:BA}{HC:Array BA}{base n FQ:Nat}{Q:Option Nat->BP->Prop}(hA:WL prog w A s kd BU L)(O:Ord L BU)(hk:kindOf st=kd)(NS:J2∈BU)(P2:∀x∈HC,x∈BU)
  (hb:base+n<=HC.size) (hh:FQ<n) (sl:∀(i j:Nat) (hj:base+j<HC.size) (LX:i<j),j<n->L HC[base+j] (HC[base+i]'(DB (A7 LX _) hj))=AD)
  (h:∀k,k<=n->(∀(i:Nat) (hi:base+i<HC.size),i<k->L J2 HC[base+i]=AD)->(∀(i:Nat) (hi:base+i<HC.size),k<=i->i<n->L J2 HC[base+i]=AL)->Q (AA k) st):NV (A1 prog w) A E s (sN AD J2 HC base n FQ) Q st:=by
 refine Tk (B:=λi=>if hi:base+i<HC.size then !L J2 HC[base+i] else AD) hA hk NS P2 hb hh (λi hi=>by simp[hi]) (λi j LX hj e=>?_) λk ⟨c1,c2,c3⟩=>h k c1 (λi hi dN=>?_) (λi hi Kl XQ=>?_)
 .rcases DL LX with h'|h'
  .have bF:base+j<HC.size:=AN (A7 hj _) hb
   have SQ:base+i<HC.size:=AS (EI (AM _) LX) bF;rw[dif_pos bF] at e;show(if hi:base+i<HC.size then !L J2 HC[base+i] else AD)=AL;rw[dif_pos SQ];have e':L J2 HC[base+j]=AD:=by simpa using e
   rw[O.trans _ _ _ (P2 _ (AG SQ)) (P2 _ (AG bF)) NS (sl i j bF h' hj) e']
   rfl
  .subst h';exact e
 .have:=c2 i dN
  simpa[hi] using this
 .have:=c3 i Kl XQ
  simpa[hi] using this
theorem Se{st:BP}{J2:BA}{HC:Array BA}{base n FQ:Nat}{Q:Option Nat->BP->Prop}(hA:WL prog w A s kd BU L)(O:Ord L BU)(hk:kindOf st=kd)(NS:J2∈BU)(P2:∀x∈HC,x∈BU)
  (hb:base+n<=HC.size) (hh:FQ<n) (sl:∀(i j:Nat) (hj:base+j<HC.size) (LX:i<j),j<n->L HC[base+j] (HC[base+i]'(DB (A7 LX _) hj))=AD)
  (h:∀k,k<=n->(∀(i:Nat) (hi:base+i<HC.size),i<k->L HC[base+i] J2=AL)->(∀(i:Nat) (hi:base+i<HC.size),k<=i->i<n->L HC[base+i] J2=AD)->Q (AA k) st):NV (A1 prog w) A E s (sN AL J2 HC base n FQ) Q st:=by
 refine Tk (B:=λi=>if hi:base+i<HC.size then L HC[base+i] J2 else AD) hA hk NS P2 hb hh (λi hi=>by simp[hi]) (λi j LX hj e=>?_) λk ⟨c1,c2,c3⟩=>h k c1 (λi hi dN=>?_) (λi hi Kl XQ=>?_)
 .rcases DL LX with h'|h'
  .have bF:base+j<HC.size:=AN (A7 hj _) hb
   have SQ:base+i<HC.size:=AS (EI (AM _) LX) bF;rw[dif_pos bF] at e;show(if hi:base+i<HC.size then L HC[base+i] J2 else AD)=AL;rw[dif_pos SQ]
   cases ei:L HC[base+i] J2 with
   |true=>rfl
   |false =>
    rw[O.trans _ _ _ NS (P2 _ (AG SQ)) (P2 _ (AG bF)) ei (sl i j bF h' hj)] at e;cases e
  .subst h';exact e
 .have:=c2 i dN
  simpa[hi] using this
 .have:=c3 i Kl XQ
  simpa[hi] using this
end
structure MidO(L:BA->BA->Bool)(a b out:Array BA)(ia ib:Nat):Prop where
 m:Mid a b out ia ib
 so:out.toList.Pairwise λx y=>L y x=AD
 oa:∀x∈out,∀(i:Nat) (hi:i<a.size),ia<=i->L a[i] x=AD
 ob:∀x∈out,∀(i:Nat) (hi:i<b.size),ib<=i->L b[i] x=AD
section
variable{L:BA->BA->Bool}{a b out:Array BA}{ia ib:Nat}
theorem Pb{x:BA}(h:out.toList.Pairwise λx y=>L y x=AD)(hx:∀y∈out,L x y=AD):(out.push x).toList.Pairwise λx y=>L y x=AD:=by
 rw[FD,G1];refine{h,JI _ _,λy hy z hz=>?_};rw[A3.mp hz];exact hx y (G0.mp hy)
theorem MidO.pushB(m:MidO L a b out ia ib)(sb:SA L b)(h:ib<b.size)(UL:∀(i:Nat) (hi:i<a.size),ia<=i->L a[i] b[ib]=AD):MidO L a b (out.push b[ib]) ia (ib+1) where
 m:=m.m.pushB h
 so:=Pb m.so λy hy=>m.ob y hy ib h (AM _)
 oa:=λx hx i hi O8=>by
  rcases HF.mp hx with hx|rfl
  .exact m.oa x hx i hi O8
  .exact UL i hi O8
 ob:=λx hx i hi RB=>by
  rcases HF.mp hx with hx|rfl
  .exact m.ob x hx i hi (AZ (A2 _ _) RB)
  .exact sb ib i hi (GB RB)
theorem MidO.pushA(m:MidO L a b out ia ib)(sa:SA L a)(h:ia<a.size)(UL:∀(i:Nat) (hi:i<b.size),ib<=i->L b[i] a[ia]=AD):MidO L a b (out.push a[ia]) (ia+1) ib where
 m:=m.m.pushA h
 so:=Pb m.so λy hy=>m.oa y hy ia h (AM _)
 oa:=λx hx i hi O8=>by
  rcases HF.mp hx with hx|rfl
  .exact m.oa x hx i hi (AZ (A2 _ _) O8)
  .exact sa ia i hi (GB O8)
 ob:=λx hx i hi RB=>by
  rcases HF.mp hx with hx|rfl
  .exact m.ob x hx i hi RB
  .exact UL i hi RB
theorem Eh(a:Array BA){i k:Nat}(h:i+k<a.size):out++a.extract i (i+(k+1))=(out++a.extract i (i+k)).push a[i+k]:=by
 apply Array.ext'
 rw[EL,FD,EL,KL,KL,CM]
 congr 1
 show(a.toList.drop i).take (i+(k+1)-i)=(a.toList.drop i).take (i+k-i)++[a[i+k]];rw[show i+(k+1)-i=k+1 from M9 _ _,show i+k-i=k from M9 _ _,BE (by simp;lia)];simp
theorem MidO.manyA(sa:SA L a):∀{k:Nat},MidO L a b out ia ib->ia+k<=a.size->(∀(i:Nat) (hi:i<a.size),ia<=i->i<ia+k->∀(j:Nat) (hj:j<b.size),ib<=j->L b[j] a[i]=AD)->MidO L a b (out++a.extract ia (ia+k)) (ia+k) ib
 |0,m,_,_=>by
  have e:out++a.extract ia (ia+0)=out:=by simp<;>lia
  rw[e];exact m
 |k+1,m,h,UL=>by
  have z:=MidO.manyA sa (k:=k) m 'l' λi hi h1 h2=>UL i hi h1 (DB h2 (A7 (DX _) _));rw[Eh a (show ia+k<a.size from AN (A7 (DX _) _) h)];exact z.pushA sa (AN (A7 (DX _) _) h) λj hj v7=>UL (ia+k) (AN (A7 (DX _) _) h) (A2 _ _) (A7 (DX _) _) j hj v7
theorem MidO.manyB(sb:SA L b):∀{k:Nat},MidO L a b out ia ib->ib+k<=b.size->(∀(i:Nat) (hi:i<b.size),ib<=i->i<ib+k->∀(j:Nat) (hj:j<a.size),ia<=j->L a[j] b[i]=AD)->MidO L a b (out++b.extract ib (ib+k)) ia (ib+k)
 |0,m,_,_=>by
  have e:out++b.extract ib (ib+0)=out:=by simp<;>lia
  rw[e];exact m
 |k+1,m,h,UL=>by
  have z:=MidO.manyB sb (k:=k) m 'l' λi hi h1 h2=>UL i hi h1 (DB h2 (A7 (DX _) _));rw[Eh b (show ib+k<b.size from AN (A7 (DX _) _) h)];exact z.pushB sb (AN (A7 (DX _) _) h) λj hj v8=>UL (ib+k) (AN (A7 (DX _) _) h) (A2 _ _) (A7 (DX _) _) j hj v8
theorem MidO.doneB(m:MidO L a b out ia ib)(sa:SA L a)(h:ib=b.size):(out++a.extract ia a.size++b.extract ib b.size).toList.Pairwise λx y=>L y x=AD:=by
 have la:=m.m.la;have z:=m.manyA sa (k:=a.size-ia) 'l' λi hi h1 h2 j hj v7=>by lia
 rw[show ia+(a.size-ia)=a.size by lia] at z;have e:b.extract ib b.size=#[]:=by rw[h];simp
 rw[e,aO];exact z.so
theorem MidO.doneA(m:MidO L a b out ia ib)(sb:SA L b)(h:ia=a.size):(out++a.extract ia a.size++b.extract ib b.size).toList.Pairwise λx y=>L y x=AD:=by
 have lb:=m.m.lb;have z:=m.manyB sb (k:=b.size-ib) 'l' λi hi h1 h2 j hj v8=>by lia
 rw[show ib+(b.size-ib)=b.size by lia] at z;have e:a.extract ia a.size=#[]:=by rw[h];simp
 rw[e,aO];exact z.so
theorem MidO.lastA(m:MidO L a b out ia ib)(sa:SA L a)(sb:SA L b)(h:ia+1=a.size)(hl:∀(j:Nat) (hj:j<b.size),L (a[a.size-1]'(by lia)) b[j]=AD):(out++b.extract ib b.size++a.extract ia a.size).toList.Pairwise λx y=>L y x=AD:=by
 have lb:=m.m.lb
 have z:=m.manyB sb (k:=b.size-ib) 'l' λi hi h1 h2 j hj v8=>by
  have e:j=a.size-1:=by lia
  subst e;exact hl i hi
 rw[show ib+(b.size-ib)=b.size by lia] at z;have z2:=z.manyA sa (k:=1) (CY h) λi hi h1 h2 j hj v7=>by lia
 rw[h] at z2;exact z2.so
end
@[elab_as_elim] theorem zU{K:Prop}{α0 α1 α2 α3 γ:Type}{f:α0->α1->α2->α3->γ}{P:α0->α1->α2->α3->Prop}{G:γ->Prop}{c:γ}(H:K/\∃x0 x1 x2 x3,c=f x0 x1 x2 x3/\P x0 x1 x2 x3)(k:K->∀x0 x1 x2 x3,P x0 x1 x2 x3->G (f x0 x1 x2 x3)):G c:=by
 obtain⟨g,x0,x1,x2,x3,rfl,p⟩:=H;exact k g x0 x1 x2 x3 p
@[elab_as_elim] theorem qM{K:Prop}{α0 α1 α2 α3 α4 γ:Type}{f:α0->α1->α2->α3->α4->γ}{P:α0->α1->α2->α3->α4->Prop}{G:γ->Prop}{c:γ}(H:K/\∃x0 x1 x2 x3 x4,c=f x0 x1 x2 x3 x4/\P x0 x1 x2 x3 x4)(k:K->∀x0 x1 x2 x3 x4,P x0 x1 x2 x3 x4->G (f x0 x1 x2 x3 x4)):G c:=by
 obtain⟨g,x0,x1,x2,x3,x4,rfl,p⟩:=H;exact k g x0 x1 x2 x3 x4 p
@[elab_as_elim] theorem qL{K:Prop}{α0 α1 α2 α3 α4 α5 γ:Type}{f:α0->α1->α2->α3->α4->α5->γ}{P:α0->α1->α2->α3->α4->α5->Prop}{G:γ->Prop}{c:γ}(H:K/\∃x0 x1 x2 x3 x4 x5,c=f x0 x1 x2 x3 x4 x5/\P x0 x1 x2 x3 x4 x5)(k:K->∀x0 x1 x2 x3 x4 x5,P x0 x1 x2 x3 x4 x5->G (f x0 x1 x2 x3 x4 x5)):G c:=by
 obtain⟨g,x0,x1,x2,x3,x4,x5,rfl,p⟩:=H;exact k g x0 x1 x2 x3 x4 x5 p
@[elab_as_elim] theorem Vi{K:Prop}{α0 α1 α2 α3 α4 α5 α6 γ:Type}{f:α0->α1->α2->α3->α4->α5->α6->γ}{P:α0->α1->α2->α3->α4->α5->α6->Prop}{G:γ->Prop}{c:γ}(H:K/\∃x0 x1 x2 x3 x4 x5 x6,c=f x0 x1 x2 x3 x4 x5 x6/\P x0 x1 x2 x3 x4 x5 x6)(k:K->∀x0 x1 x2 x3 x4 x5 x6,P x0 x1 x2 x3 x4 x5 x6->G (f x0 x1 x2 x3 x4 x5 x6)):G c:=by
 obtain⟨g,x0,x1,x2,x3,x4,x5,x6,rfl,p⟩:=H;exact k g x0 x1 x2 x3 x4 x5 x6 p
section
variable{prog:CQ}{w:D3}{A:DQ}{E:AH->AT->Prop}{s:AT}{BU:Array BA}{kd:FK}{L:BA->BA->Bool}{β:Type}{Q:β->BP->Prop}{st:BP}
theorem V4{HC:Array BA}{i:Nat}{f:BA->StateT BP SJ β}(hi:i<HC.size)(h:NV (A1 prog w) A E s (f HC[i]) Q st):NV (A1 prog w) A E s (elem' HC i >>= f) Q st:=BJ (pV hi h)
theorem zT{g:Nat}{f:Unit->StateT BP SJ β}(h:NV (A1 prog w) A E s (f ()) Q (sE st g)):NV (A1 prog w) A E s (Fm g >>= f) Q st:=BJ (zXX h)
theorem Vh{x y:BA}{f:Option Bool->StateT BP SJ β}(hA:WL prog w A s kd BU L)(hk:kindOf st=kd)(hx:x∈BU)(hy:y∈BU)(h:NV (A1 prog w) A E s (f (AA (L x y))) Q st):NV (A1 prog w) A E s (lt' x y >>= f) Q st:=BJ (yD hA hk hx hy h)
theorem pN{γ:Type}{a b:Nat}{f:Nat->γ->StateT BP SJ (ForInStep γ)}{k:γ->StateT BP SJ β}(I:Nat->γ->BP->Prop)(R:γ->BP->Prop)
  (vQ:∀i c st,a<=i->i<b->I i c st->NV (A1 prog w) A E s (f i c) (λr CU=>match r with|.done c'=>R c' CU|.yield c'=>I (i+1) c' CU) st)
  (i6:∀c st,I (max a b) c st->R c st) {c:γ} (h:I a c st) (hp:∀c CU,R c CU->NV (A1 prog w) A E s (k c) Q CU):NV (A1 prog w) A E s (forIn [a:b] c f >>= k) Q st:=BJ (JN (F7 I vQ i6 h) hp)
theorem Vg{J2:BA}{HC:Array BA}{base n FQ:Nat}{f:Option Nat->StateT BP SJ β}(hA:WL prog w A s kd BU L)(O:Ord L BU)(hk:kindOf st=kd)(NS:J2∈BU)(P2:∀x∈HC,x∈BU)
  (hb:base+n<=HC.size) (hh:FQ<n) (sl:∀(i j:Nat) (hj:base+j<HC.size) (LX:i<j),j<n->L HC[base+j] (HC[base+i]'(DB (A7 LX _) hj))=AD)
  (h:∀k,k<=n->(∀(i:Nat) (hi:base+i<HC.size),i<k->L J2 HC[base+i]=AD)->(∀(i:Nat) (hi:base+i<HC.size),k<=i->i<n->L J2 HC[base+i]=AL)->NV (A1 prog w) A E s (f (AA k)) Q st):NV (A1 prog w) A E s (sN AD J2 HC base n FQ >>= f) Q st:=BJ (Sf hA O hk NS P2 hb hh sl h)
theorem Vf{J2:BA}{HC:Array BA}{base n FQ:Nat}{f:Option Nat->StateT BP SJ β}(hA:WL prog w A s kd BU L)(O:Ord L BU)(hk:kindOf st=kd)(NS:J2∈BU)(P2:∀x∈HC,x∈BU)
  (hb:base+n<=HC.size) (hh:FQ<n) (sl:∀(i j:Nat) (hj:base+j<HC.size) (LX:i<j),j<n->L HC[base+j] (HC[base+i]'(DB (A7 LX _) hj))=AD)
  (h:∀k,k<=n->(∀(i:Nat) (hi:base+i<HC.size),i<k->L HC[base+i] J2=AL)->(∀(i:Nat) (hi:base+i<HC.size),k<=i->i<n->L HC[base+i] J2=AD)->NV (A1 prog w) A E s (f (AA k)) Q st):NV (A1 prog w) A E s (sN AL J2 HC base n FQ >>= f) Q st:=BJ (Se hA O hk NS P2 hb hh sl h)
end
section
variable{prog:CQ}{w:D3}{A:DQ}{E:AH->AT->Prop}{s:AT}{BU:Array BA}{kd:FK}{L:BA->BA->Bool}
theorem Ve{α β:Type}{T:β->StateT BP SJ α}{M:Model}{A:DQ}{E:AH->AT->Prop}{s:AT}{Q:α->BP->Prop}{st:BP}{NT:Prop}(h1:(∀x,NV M A E s (T x) Q st)->NT)(h2:∀x,NV M A E s (T x) Q st):NT:=h1 h2
theorem zM0{st:BP}{a b:Array BA}{Q:Array BA->BP->Prop}(hA:WL prog w A s kd BU L)(O:Ord L BU)(hk:kindOf st=kd)(ha:∀x∈a,x∈BU)(hb:∀x∈b,x∈BU)(na:1<=a.size)(nb:1<=b.size)(sa:SA L a)(sb:SA L b)(hf:∀(i:Nat) (hi:i<a.size),L a[i] (b[0]'(GB nb))=AD)(hl:∀(j:Nat) (hj:j<b.size),L (a[a.size-1]'(by lia)) b[j]=AD)
  (h:∀c CU,Gal st CU->c.Perm (a++b)->(c.toList.Pairwise λx y=>L y x=AD)->Q c CU):NV (A1 prog w) A E s (zT0 a b) Q st:=by
 refine BJ (P6 (FJ {rfl,?_}));dsimp only;refine V4 (GB nb) ?_
 have m0:MidO L a b #[b[0]] 0 1:=by
  have z:MidO L a b #[] 0 0:={{by simp,BS _,BS _,rfl},N0,λx hx=>by simp at hx,λx hx=>by simp at hx};exact z.pushB sb (GB nb) λi hi _=>hf i hi
 refine LK (λe1=>BD (h _ _ (Gal.refl st) m0.m.done (m0.doneB sa (beq_iff_eq.mp e1)))) (λe1=>?_);replace e1:¬1=b.size:=λz=>e1 (beq_iff_eq.mpr z);refine LK (λe2=>BD (h _ _ (Gal.refl st) m0.m.lastA (m0.lastA sa sb (beq_iff_eq.mp e2) hl))) (λe2=>?_);replace e2:¬0+1=a.size:=λz=>e2 (beq_iff_eq.mpr z);refine BJ (ND ?_)
 refine pN
  (I:=λi c CU=>Gal st CU/\∃out ia ib g,c=(AK,out,ia,ib,g)/\MidO L a b out ia ib/\ia+1<a.size/\ib<b.size/\i+1<=out.size)
  (R:=λc CU=>Gal st CU/\∃r out ia ib g,c=(AA r,out,ia,ib,g)/\(r.Perm (a++b)/\r.toList.Pairwise λx y=>L y x=AD)) ?step ?fin ?init ?post
 case init=>exact{Gal.refl st,_,_,_,_,rfl,m0,GN na e2,GN nb e1,by simp}
 case post =>
  intro c CU H;refine qM (c:=c) H λg r out ia ib gg p=>?_;clear H;exact BD (h _ _ g p.1 p.2)
 case fin =>
  intro c CU H;refine zU (c:=c) H λg out ia ib gg P=>?_;clear H;have m:=P.1;have h1:=P.2.1;have h2:=P.2.2.1;have h3:=P.2.2.2;clear P;exfalso;have:=m.m.sz;lia
 case step =>
  intro i c CU _ hi H;refine zU (c:=c) H λg out ia ib gg P=>?_;clear H;have m:=P.1;have h1:=P.2.1;have h2:=P.2.2.1;have h3:=P.2.2.2;clear P;dsimp only;have Hn:0<a.size+b.size:=AS (BS _) hi
  -- LO by LO
  refine pN
   (I:=λ_ c st2=>Gal st st2/\∃out ia ib ac bc,c=(AK,out,ia,ib,ac,bc)/\MidO L a b out ia ib/\ia+1<a.size/\ib<b.size/\i+1<=out.size)
   (R:=λc st2=>Gal st st2/\∃r out ia ib ac bc,c=(r,out,ia,ib,ac,bc)/\(match r with
    |some r=>(r.Perm (a++b)/\r.toList.Pairwise λx y=>L y x=AD)
    |none=>MidO L a b out ia ib/\ia+1<a.size/\ib<b.size/\i+1<=out.size)) ?step1 ?fin1 {g,_,_,_,_,_,rfl,m,h1,h2,h3} ?post1
  case fin1 =>
   intro c st2 H;refine qM (c:=c) H λg2 out ia ib ac bc P=>?_;clear H;have m:=P.1;have h1:=P.2.1;have h2:=P.2.2.1;have h3:=P.2.2.2;clear P;exact{g2,AK,_,_,_,_,_,rfl,m,h1,h2,h3}
  case step1 =>
   intro j c st2 _ hj H;refine qM (c:=c) H λg2 out ia ib ac bc P=>?_;clear H;have m:=P.1;have h1:=P.2.1;have h2:=P.2.2.1;have h3:=P.2.2.2;clear P;dsimp only;refine V4 h2 (V4 (AS (A2 _ _) h1) (Vh hA (g2.kind hk) (hb _ (AG h2)) (ha _ (AG _)) ?_));have O8:ia<a.size:=AS (A2 _ _) h1;refine LK (λew=>?_) (λew=>?_)
   .refine V4 h2 ?_
    have m2:=m.pushB sb h2 λi hi v9=>O.trans _ _ _ (hb _ (AG h2)) (ha _ (AG O8)) (ha _ (AG hi)) (O.asym _ _ (hb _ (AG h2)) (ha _ (AG O8)) ew) (sa.le O ha hi v9);have M6:i+1<=(out.push b[ib]).size:=by rw[EH];lia
    refine LK (λq=>BD {g2,AA _,_,_,_,_,_,rfl,m2.m.done,m2.doneB sa (beq_iff_eq.mp q)}) (λq=>?_);have VF:ib+1<b.size:=GN h2 λz=>q (beq_iff_eq.mpr z);refine LK (λ_=>?_) (λ_=>?_)
    .exact BD {g2,AK,_,_,_,_,_,rfl,m2,h1,VF,M6}
    .exact BD {g2,_,_,_,_,_,rfl,m2,h1,VF,M6}
   .refine V4 O8 ?_
    have m2:=m.pushA sa O8 λi hi v9=>O.trans _ _ _ (ha _ (AG O8)) (hb _ (AG h2)) (hb _ (AG hi)) (QR.mpr ew) (sb.le O hb hi v9);have M6:i+1<=(out.push a[ia]).size:=by rw[EH];lia
    refine LK (λq=>BD {g2,AA _,_,_,_,_,_,rfl,m2.m.lastA,m2.lastA sa sb (beq_iff_eq.mp q) hl}) (λq=>?_);have YE:ia+1+1<a.size:=GN h1 λz=>q (beq_iff_eq.mpr z);refine LK (λ_=>?_) (λ_=>?_)
    .exact BD {g2,AK,_,_,_,_,_,rfl,m2,YE,h2,M6}
    .exact BD {g2,_,_,_,_,_,rfl,m2,YE,h2,M6}
  case post1 =>
   intro c st2 H;refine qL (c:=c) H λg2 r out ia ib ac bc hr=>?_;clear H
   cases r with
   |some r=>exact BD {g2,r,_,_,_,_,rfl,hr}
   |none =>
    have m:=hr.1;have h1:=hr.2.1;have h2:=hr.2.2.1;have h3:=hr.2.2.2;clear hr;dsimp only;refine BJ (P6 (FJ {rfl,?_}))
    refine pN
     (I:=λj c KN=>Gal st KN/\∃out ia ib gg ac bc,c=(AK,out,ia,ib,gg,ac,bc)/\MidO L a b out ia ib/\ia+1<a.size/\ib<b.size/\i+1+(if j=0 then 0 else 1)<=out.size)
     (R:=λc KN=>Gal st KN/\∃r out ia ib gg ac bc,c=(r,out,ia,ib,gg,ac,bc)/\(match r with
      |some r=>(r.Perm (a++b)/\r.toList.Pairwise λx y=>L y x=AD)
      |none=>MidO L a b out ia ib/\ia+1<a.size/\ib<b.size/\i+2<=out.size)) ?step2 ?fin2 {g2,_,_,_,_,_,_,rfl,m,h1,h2,by simpa using h3} ?post2
    case fin2 =>
     intro c KN H;refine qL (c:=c) H λg3 out ia ib gg ac bc P=>?_;clear H;have m:=P.1;have h1:=P.2.1;have h2:=P.2.2.1;have h3:=P.2.2.2;clear P;rw[if_neg (FR (AN Hn (M8 _ _)))] at h3;exact{g3,AK,_,_,_,_,_,_,rfl,m,h1,h2,h3}
    case step2 =>
     intro j c KN _ hj H;refine qL (c:=c) H λg3 out ia ib gg ac bc P=>?_;clear H;have m:=P.1;have h1:=P.2.1;have h2:=P.2.2.1;have h3:=P.2.2.2;clear P
     replace h3:i+1<=out.size:=by
      split at h3<;>lia
     dsimp only
     refine Ve (M:=A1 prog w) (A:=A) (E:=E) (s:=s) (λK=>by
      refine LK (λhg=>?gpos) (λhg=>?gneg)
      case gneg =>
       generalize gg=g';exact K g'
      case gpos=>exact K (gg-1)) (λgg=>?_)
     refine zT ?_;refine V4 h2 (Vg hA O ((g3.set _).kind hk) (hb _ (AG h2)) ha 'l' 'l' (λi j hj LX _=>sa (ia+i) (ia+j) hj (A7 LX _)) λk XO c1 c2=>?_)
     have lN:∀(i:Nat) (hi:i<a.size),ia+k<=i->L a[i] b[ib]=AD:=λi hi dN=>O.asym _ _ (hb _ (AG h2)) (ha _ (AG hi)) (by
      have z:=c2 (i-ia) 'l' 'l' 'l'
      simpa[show ia+(i-ia)=i by lia] using z)
     dsimp only
     refine Gj (λ(out:Array BA) (ia:Nat)=>MidO L a b out ia ib/\ia+1<a.size/\i+1<=out.size/\∀(i:Nat) (hi:i<a.size),ia<=i->L a[i] b[ib]=AD) (λK=>by
      by_cases i5:¬(k>0)
      .rw[if_neg i5]
       have hP:MidO L a b out ia ib/\ia+1<a.size/\i+1<=out.size/\∀(i:Nat) (hi:i<a.size),ia<=i->L a[i] b[ib]=AD:={m,h1,h3,λi hi dN=>lN i hi 'l'}
       revert hP
       generalize out=X5,ia=ia';exact λhP=>K X5 ia' hP
      .rw[if_pos (K7.mp i5)]
       replace m:=m.manyA sa (k:=k) 'l' λi hi YE VF j hj v7=>O.trans _ _ _ (ha _ (AG hi)) (hb _ (AG h2)) (hb _ (AG hj)) (by
        have z:=c1 (i-ia) 'l' 'l'
        simpa[show ia+(i-ia)=i by lia] using z) (sb.le O hb hj v7)
       refine LK (λq1=>BD {g3.set _,AA _,_,_,_,_,_,_,rfl,m.m.lastA,m.lastA sa sb (beq_iff_eq.mp q1) hl}) (λq1=>?_);replace q1:¬(ia+k+1=a.size):=λz=>q1 (beq_iff_eq.mpr z);refine LK (λq2=>BD {g3.set _,AA _,_,_,_,_,_,_,rfl,m.m.done,m.doneA sb (beq_iff_eq.mp q2)}) (λq2=>?_);replace q2:¬(ia+k=a.size):=λz=>q2 (beq_iff_eq.mpr z)
       exact K _ _ {m,by lia,by rw[HY];lia,lN}) ?_
     clear c1 c2 lN m h1 h3 XO;intro out ia P;have m:=P.1;have h1:=P.2.1;have h3:=P.2.2.1;have lN:=P.2.2.2;clear P;refine V4 h2 ?_;have Y9:=m.m.sz;replace m:=m.pushB sb h2 lN;have hs:=m.m.sz;refine LK (λq3=>BD {g3.set _,AA _,_,_,_,_,_,_,rfl,m.m.done,m.doneB sa (beq_iff_eq.mp q3)}) (λq3=>?_);replace q3:¬(ib+1=b.size):=λz=>q3 (beq_iff_eq.mpr z);refine V4 (AS (A2 _ _) h1) (Vf hA O ((g3.set _).kind hk) (ha _ (AG _)) hb 'l' 'l' (λi j hj LX _=>sb (ib+1+i) (ib+1+j) hj (A7 LX _)) λk2 k7 d1 d2=>?_);dsimp only
     refine Gj (λ(out:Array BA) (ib:Nat)=>MidO L a b out ia ib/\ib<b.size/\i+2<=out.size/\∀(i:Nat) (hi:i<b.size),ib<=i->L b[i] (a[ia]'(AS (A2 _ _) h1))=AD) (λK=>by
      by_cases v4:¬(k2>0)
      .rw[if_neg v4]
       have hP:MidO L a b (out.push b[ib]) ia (ib+1)/\ib+1<b.size/\i+2<=(out.push b[ib]).size/\∀(i:Nat) (hi:i<b.size),ib+1<=i->L b[i] (a[ia]'(AS (A2 _ _) h1))=AD:={m,GN (MJ h2) q3,by rw[EH];lia,λi hi v9=>by
        have z:=d2 (i-(ib+1)) 'l' 'l' 'l'
        simpa[show ib+1+(i-(ib+1))=i by lia] using z}
       revert hP
       generalize out.push b[ib]=X5,ib+1=ib';exact λhP=>K X5 ib' hP
      .rw[if_pos (K7.mp v4)]
       replace m:=m.manyB sb (k:=k2) 'l' λi hi YE VF j hj v8=>O.trans _ _ _ (hb _ (AG hi)) (ha _ (AG _)) (ha _ (AG hj)) (O.asym _ _ (hb _ (AG hi)) (ha _ (AG _)) (by
        have z:=d1 (i-(ib+1)) 'l' 'l'
        simpa[show ib+1+(i-(ib+1))=i by lia] using z)) (sa.le O ha hj v8)
       refine LK (λq4=>BD {g3.set _,AA _,_,_,_,_,_,_,rfl,m.m.done,m.doneB sa (beq_iff_eq.mp q4)}) (λq4=>?_);replace q4:¬(ib+1+k2=b.size):=λz=>q4 (beq_iff_eq.mpr z)
       exact K _ _ {m,by lia,by rw[HY];lia,λi hi v9=>by
        have z:=d2 (i-(ib+1)) 'l' 'l' 'l'
        simpa[show ib+1+(i-(ib+1))=i by lia] using z}) ?_
     clear d1 d2 k7 m q3 hs Y9 h3 lN;intro out ib P;have m:=P.1;have h2:=P.2.1;have h3:=P.2.2.1;have d2:=P.2.2.2;clear P;refine V4 (AS (A2 _ _) h1) ?_;have M6:=m.m.sz;replace m:=m.pushA sa (AS (A2 _ _) h1) d2;have At:=m.m.sz;refine LK (λq5=>?_) (λq5=>?_)
     .exact BD {g3.set _,AA _,_,_,_,_,_,_,rfl,m.m.lastA,m.lastA sa sb (beq_iff_eq.mp q5) hl}
     .have Xx:¬(_=_):=λz=>q5 (beq_iff_eq.mpr z)
      refine LK (λq6=>?_) (λq6=>?_)
      .exact BD {g3.set _,AK,_,_,_,_,_,_,rfl,m,GN (MJ h1) Xx,h2,by lia}
      .exact BD {g3.set _,_,_,_,_,_,_,rfl,m,GN (MJ h1) Xx,h2,by rw[if_neg (FR (Nat.succ_pos _))];lia}
    case post2 =>
     intro c KN H;refine Vi (c:=c) H λg3 r out ia ib gg ac bc hr=>?_;clear H
     cases r with
     |some r=>exact BD {g3,r,_,_,_,_,rfl,hr}
     |none =>
      have m:=hr.1;have h1:=hr.2.1;have h2:=hr.2.2.1;have h3:=hr.2.2.2;clear hr;exact zT (BD {g3.set _,_,_,_,_,rfl,m,h1,h2,h3})
end
structure MidHO(L:BA->BA->Bool)(a b out:Array BA)(na nb:Nat):Prop where
 m:MidH a b out na nb
 so:out.toList.Pairwise λx y=>L x y=AD
 oa:∀x∈out,∀(i:Nat) (hi:i<a.size),i<na->L x a[i]=AD
 ob:∀x∈out,∀(i:Nat) (hi:i<b.size),i<nb->L x b[i]=AD
section
variable{L:BA->BA->Bool}{a b out:Array BA}{na nb:Nat}
theorem Qr{x:BA}(h:out.toList.Pairwise λx y=>L x y=AD)(hx:∀y∈out,L y x=AD):(out.push x).toList.Pairwise λx y=>L x y=AD:=by
 rw[FD,G1];refine{h,JI _ _,λy hy z hz=>?_};rw[A3.mp hz];exact hx y (G0.mp hy)
theorem MidHO.pushA(m:MidHO L a b out na nb)(sa:SA L a)(h0:1<=na)(h:na-1<a.size)(UL:∀(j:Nat) (hj:j<b.size),j<nb->L a[na-1] b[j]=AD):MidHO L a b (out.push a[na-1]) (na-1) nb where
 m:=m.m.pushA h0 h
 so:=Qr m.so λy hy=>m.oa y hy (na-1) h 'l'
 oa:=λx hx i hi O8=>by
  rcases HF.mp hx with hx|rfl
  .exact m.oa x hx i hi (AN O8 (DE _ _))
  .exact sa i (na-1) h (O8)
 ob:=λx hx i hi RB=>by
  rcases HF.mp hx with hx|rfl
  .exact m.ob x hx i hi RB
  .exact UL i hi RB
theorem MidHO.pushB(m:MidHO L a b out na nb)(sb:SA L b)(h0:1<=nb)(h:nb-1<b.size)(UL:∀(j:Nat) (hj:j<a.size),j<na->L b[nb-1] a[j]=AD):MidHO L a b (out.push b[nb-1]) na (nb-1) where
 m:=m.m.pushB h0 h
 so:=Qr m.so λy hy=>m.ob y hy (nb-1) h 'l'
 oa:=λx hx i hi O8=>by
  rcases HF.mp hx with hx|rfl
  .exact m.oa x hx i hi O8
  .exact UL i hi O8
 ob:=λx hx i hi RB=>by
  rcases HF.mp hx with hx|rfl
  .exact m.ob x hx i hi (AN RB (DE _ _))
  .exact sb i (nb-1) h (RB)
theorem Pa(a:Array BA){i n:Nat}(h:i<n)(hn:n-1<a.size):out++(a.extract i n).reverse=(out.push a[n-1])++(a.extract i (n-1)).reverse:=by
 have e:a.extract i n=(a.extract i (n-1)).push a[n-1]:=by
  have z:=Eh (out:=#[]) a (i:=i) (k:=n-1-i) 'l';rw[show i+(n-1-i+1)=n by lia] at z;simpa[show i+(n-1-i)=n-1 by lia] using z
 rw[e];generalize a.extract i (n-1)=x;generalize a[n-1]=y
 apply Array.ext'
 simp
theorem MidHO.manyA(sa:SA L a){i0:Nat}(m:MidHO L a b out na nb)(h:i0<=na)(UL:∀(i:Nat) (hi:i<a.size),i0<=i->i<na->∀(j:Nat) (hj:j<b.size),j<nb->L a[i] b[j]=AD):MidHO L a b (out++(a.extract i0 na).reverse) i0 nb:=by
 obtain⟨d,hd⟩:∃d,na=i0+d:={na-i0,by lia}
 induction d generalizing na out with
 |zero =>
  have e0:na=i0:=by lia
  subst e0
  have e:out++(a.extract na na).reverse=out:=by
   have:a.extract na na=#[]:=by simp<;>lia
   rw[this];simp
  rw[e];exact m
 |succ d ih =>
  have la:=m.m.la;rw[Pa a (show i0<na by lia) 'l'];exact ih (m.pushA sa 'l' 'l' λj hj R9=>UL (na-1) 'l' 'l' 'l' j hj R9) 'l' (λi hi h1 h2=>UL i hi h1 (AN h2 (DE _ _))) 'l'
theorem MidHO.manyB(sb:SA L b){i0:Nat}(m:MidHO L a b out na nb)(h:i0<=nb)(UL:∀(i:Nat) (hi:i<b.size),i0<=i->i<nb->∀(j:Nat) (hj:j<a.size),j<na->L b[i] a[j]=AD):MidHO L a b (out++(b.extract i0 nb).reverse) na i0:=by
 obtain⟨d,hd⟩:∃d,nb=i0+d:={nb-i0,by lia}
 induction d generalizing nb out with
 |zero =>
  have e0:nb=i0:=by lia
  subst e0
  have e:out++(b.extract nb nb).reverse=out:=by
   have:b.extract nb nb=#[]:=by simp<;>lia
   rw[this];simp
  rw[e];exact m
 |succ d ih =>
  have lb:=m.m.lb;rw[Pa b (show i0<nb by lia) 'l'];exact ih (m.pushB sb 'l' 'l' λj hj R9=>UL (nb-1) 'l' 'l' 'l' j hj R9) 'l' (λi hi h1 h2=>UL i hi h1 (AN h2 (DE _ _))) 'l'
theorem Cw(h:out.toList.Pairwise λx y=>L x y=AD):out.reverse.toList.Pairwise λx y=>L y x=AD:=by
 rw[OD,YV];exact h
theorem MidHO.doneA(m:MidHO L a b out na nb)(sb:SA L b)(h:na=0):(a.extract 0 na++b.extract 0 nb++out.reverse).toList.Pairwise λx y=>L y x=AD:=by
 have z:=Cw (m.manyB sb (i0:=0) (BS _) λi hi h1 h2 j hj R9=>by lia).so;subst h;simpa using z
theorem MidHO.doneB(m:MidHO L a b out na nb)(sa:SA L a)(h:nb=0):(a.extract 0 na++b.extract 0 nb++out.reverse).toList.Pairwise λx y=>L y x=AD:=by
 have z:=Cw (m.manyA sa (i0:=0) (BS _) λi hi h1 h2 j hj R9=>by lia).so;subst h;simpa using z
theorem MidHO.firstB(m:MidHO L a b out na nb)(sa:SA L a)(sb:SA L b)(h:nb=1)(hf:∀(i:Nat) (hi:i<a.size),L a[i] (b[0]'(by have:=m.m.lb;lia))=AD):(b.extract 0 nb++a.extract 0 na++out.reverse).toList.Pairwise λx y=>L y x=AD:=by
 have z1:=m.manyA sa (i0:=0) (BS _) λi hi h1 h2 j hj R9=>by
  have e:j=0:=by lia
  subst e;exact hf i hi
 have z:=Cw (z1.manyB sb (i0:=0) (BS _) λi hi h1 h2 j hj R9=>by lia).so;simpa using z
end
section
variable{prog:CQ}{w:D3}{A:DQ}{E:AH->AT->Prop}{s:AT}{BU:Array BA}{kd:FK}{L:BA->BA->Bool}
theorem Vd{α β γ δ:Type}{T:β->γ->δ->StateT BP SJ α}{M:Model}{A:DQ}{E:AH->AT->Prop}{s:AT}{Q:α->BP->Prop}{st:BP}{NT:Prop}(P:β->γ->Prop)(h1:(∀x y z,P x y->NV M A E s (T x y z) Q st)->NT)(h2:∀x y z,P x y->NV M A E s (T x y z) Q st):NT:=h1 h2
theorem zM1{st:BP}{a b:Array BA}{Q:Array BA->BP->Prop}(hA:WL prog w A s kd BU L)(O:Ord L BU)(hk:kindOf st=kd)(ha:∀x∈a,x∈BU)(hb:∀x∈b,x∈BU)(na:1<=a.size)(nb:1<=b.size)(sa:SA L a)(sb:SA L b)(hf:∀(i:Nat) (hi:i<a.size),L a[i] (b[0]'(GB nb))=AD)(hl:∀(j:Nat) (hj:j<b.size),L (a[a.size-1]'(by lia)) b[j]=AD)
  (h:∀c CU,Gal st CU->c.Perm (a++b)->(c.toList.Pairwise λx y=>L y x=AD)->Q c CU):NV (A1 prog w) A E s (zT1 a b) Q st:=by
 refine BJ (P6 (FJ {rfl,?_}));dsimp only;refine V4 'l' ?_
 have m0:MidHO L a b #[a[a.size-1]] (a.size-1) b.size:=by
  have z:MidHO L a b #[] a.size b.size:={{by rw[JT 's',JT 's'];simp,AM _,AM _,by simp},N0,λx hx=>by simp at hx,λx hx=>by simp at hx};exact z.pushA sa (na) 'l' λj hj _=>hl j hj
 refine LK (λe1=>?_) (λe1=>?_)
 .exact BD (h _ _ (Gal.refl st) m0.m.done (m0.doneA sb (beq_iff_eq.mp e1)))
 refine LK (λe2=>?_) (λe2=>?_)
 .exact BD (h _ _ (Gal.refl st) m0.m.firstB (m0.firstB sa sb (beq_iff_eq.mp e2) hf))
 have Ls:¬(a.size-1=0):=λz=>e1 (beq_iff_eq.mpr z);have Lr:¬(b.size=1):=λz=>e2 (beq_iff_eq.mpr z);refine BJ (ND ?_)
 refine pN
  (I:=λi c CU=>Gal st CU/\∃na nb out g,c=(AK,na,nb,out,g)/\MidHO L a b out na nb/\1<=na/\2<=nb/\i+1<=out.size)
  (R:=λc CU=>Gal st CU/\∃r na nb out g,c=(AA r,na,nb,out,g)/\(r.Perm (a++b)/\r.toList.Pairwise λx y=>L y x=AD)) ?step ?fin ?init ?post
 case init=>exact{Gal.refl st,_,_,_,_,rfl,m0,by lia,by lia,by simp}
 case post =>
  intro c CU H;refine qM (c:=c) H λg r ia ib out gg p=>?_;clear H;exact BD (h _ _ g p.1 p.2)
 case fin =>
  intro c CU H;refine zU (c:=c) H λg na nb out gg P=>?_;clear H;have m:=P.1;have h1:=P.2.1;have h2:=P.2.2.1;have h3:=P.2.2.2;clear P;exfalso;have:=m.m.sz;lia
 case step =>
  intro i c CU _ hi H;refine zU (c:=c) H λg na nb out gg P=>?_;clear H;have m:=P.1;have h1:=P.2.1;have h2:=P.2.2.1;have h3:=P.2.2.2;clear P;dsimp only;have Hn:0<a.size+b.size:=AS (BS _) hi
  refine pN
   (I:=λ_ c st2=>Gal st st2/\∃na nb out ac bc,c=(AK,na,nb,out,ac,bc)/\MidHO L a b out na nb/\1<=na/\2<=nb/\i+1<=out.size)
   (R:=λc st2=>Gal st st2/\∃r na nb out ac bc,c=(r,na,nb,out,ac,bc)/\(match r with
    |some r=>(r.Perm (a++b)/\r.toList.Pairwise λx y=>L y x=AD)
    |none=>MidHO L a b out na nb/\1<=na/\2<=nb/\i+1<=out.size)) ?step1 ?fin1 {g,_,_,_,_,_,rfl,m,h1,h2,h3} ?post1
  case fin1 =>
   intro c st2 H;refine qM (c:=c) H λg2 na nb out ac bc P=>?_;clear H;have m:=P.1;have h1:=P.2.1;have h2:=P.2.2.1;have h3:=P.2.2.2;clear P;exact{g2,AK,_,_,_,_,_,rfl,m,h1,h2,h3}
  case step1 =>
   intro j c st2 _ hj H;refine qM (c:=c) H λg2 na nb out ac bc P=>?_;clear H;have m:=P.1;have h1:=P.2.1;have h2:=P.2.2.1;have h3:=P.2.2.2;clear P;dsimp only;have la:=m.m.la;have lb:=m.m.lb;refine V4 'l' (V4 'l' (Vh hA (g2.kind hk) (hb _ (AG _)) (ha _ (AG _)) ?_));have O8:na-1<a.size:=by lia
   have RB:nb-1<b.size:=by lia
   refine LK (λew=>?_) (λew=>?_)
   .refine V4 O8 ?_
    have m2:=m.pushA sa h1 O8 λj hj R9=>O.trans _ _ _ (hb _ (AG hj)) (hb _ (AG RB)) (ha _ (AG O8)) (sb.le O hb RB 'l') (O.asym _ _ (hb _ (AG RB)) (ha _ (AG O8)) ew);have M6:i+1<=(out.push a[na-1]).size:=by rw[EH];lia
    refine LK (λq=>BD {g2,AA _,_,_,_,_,_,rfl,m2.m.done,m2.doneA sb (beq_iff_eq.mp q)}) (λq=>?_);have YE:1<=na-1:=Nat.pos_of_ne_zero λz=>q (beq_iff_eq.mpr z);refine LK (λq=>?_) (λq=>?_)
    .exact BD {g2,AK,_,_,_,_,_,rfl,m2,YE,h2,M6}
    .exact BD {g2,_,_,_,_,_,rfl,m2,YE,h2,M6}
   .refine V4 RB ?_
    have m2:=m.pushB sb (AZ (DR _ _) h2) RB λj hj R9=>O.trans _ _ _ (ha _ (AG hj)) (ha _ (AG O8)) (hb _ (AG RB)) (sa.le O ha O8 'l') (QR.mpr ew);have M6:i+1<=(out.push b[nb-1]).size:=by rw[EH];lia
    refine LK (λq=>BD {g2,AA _,_,_,_,_,_,rfl,m2.m.firstB,m2.firstB sa sb (beq_iff_eq.mp q) hf}) (λq=>?_)
    have VF:2<=nb-1:=by
     have q':¬(nb-1=1):=λz=>q (beq_iff_eq.mpr z);lia
    refine LK (λq=>?_) (λq=>?_)
    .exact BD {g2,AK,_,_,_,_,_,rfl,m2,h1,VF,M6}
    .exact BD {g2,_,_,_,_,_,rfl,m2,h1,VF,M6}
  case post1 =>
   intro c st2 H;refine qL (c:=c) H λg2 r na nb out ac bc hr=>?_;clear H
   cases r with
   |some r=>exact BD {g2,r,_,_,_,_,rfl,hr}
   |none =>
    have m:=hr.1;have h1:=hr.2.1;have h2:=hr.2.2.1;have h3:=hr.2.2.2;clear hr;dsimp only;refine BJ (P6 (FJ {rfl,?_}))
    refine pN
     (I:=λj c KN=>Gal st KN/\∃na nb out gg ac bc,c=(AK,na,nb,out,gg,ac,bc)/\MidHO L a b out na nb/\1<=na/\2<=nb/\i+1+(if j=0 then 0 else 1)<=out.size)
     (R:=λc KN=>Gal st KN/\∃r na nb out gg ac bc,c=(r,na,nb,out,gg,ac,bc)/\(match r with
      |some r=>(r.Perm (a++b)/\r.toList.Pairwise λx y=>L y x=AD)
      |none=>MidHO L a b out na nb/\1<=na/\2<=nb/\i+2<=out.size)) ?step2 ?fin2 {g2,_,_,_,_,_,_,rfl,m,h1,h2,by simpa using h3} ?post2
    case fin2 =>
     intro c KN H;refine qL (c:=c) H λg3 na nb out gg ac bc P=>?_;clear H;have m:=P.1;have h1:=P.2.1;have h2:=P.2.2.1;have h3:=P.2.2.2;clear P;rw[if_neg (FR (AN Hn (M8 _ _)))] at h3;exact{g3,AK,_,_,_,_,_,_,rfl,m,h1,h2,h3}
    case step2 =>
     intro j c KN _ hj H;refine qL (c:=c) H λg3 na nb out gg ac bc P=>?_;clear H;have m:=P.1;have h1:=P.2.1;have h2:=P.2.2.1;have h3:=P.2.2.2;clear P
     replace h3:i+1<=out.size:=by
      split at h3<;>lia
     dsimp only;have la:=m.m.la;have lb:=m.m.lb
     refine Ve (λK=>by
      refine LK (λhg=>?gpos) (λhg=>?gneg)
      case gneg =>
       generalize gg=g';exact K g'
      case gpos=>exact K (gg-1)) (λgg=>?_)
     refine zT ?_;refine V4 'l' (Vg hA O ((g3.set _).kind hk) (hb _ (AG _)) ha (AZ (CY (ES _)) la) 'l' (λi j hj LX _=>sa (0+i) (0+j) hj (A7 LX _)) λk XO c1 c2=>?_);have RB:nb-1<b.size:=by lia
     have gF:∀(i:Nat) (hi:i<a.size),i<k->L b[nb-1] a[i]=AD:=λi hi dN=>by
      have z:=c1 i (AS (CY (ES _)) hi) dN;simpa using z
     dsimp only
     refine Vd (λ(out:Array BA) (na:Nat)=>MidHO L a b out na nb/\1<=na/\i+1<=out.size/\∀(i:Nat) (hi:i<a.size),i<na->L b[nb-1] a[i]=AD) (λK=>by
      by_cases i5:¬(na-k>0)
      .rw[if_neg i5]
       have hP:MidHO L a b out na nb/\1<=na/\i+1<=out.size/\∀(i:Nat) (hi:i<a.size),i<na->L b[nb-1] a[i]=AD:={m,h1,h3,λi hi dN=>gF i hi 'l'}
       revert hP
       generalize na-k=ac';generalize out=X5,na=rB;exact λhP=>K X5 rB ac' hP
      .rw[if_pos (K7.mp i5)]
       replace m:=m.manyA sa XO λi hi YE VF j hj R9=>O.trans _ _ _ (hb _ (AG hj)) (hb _ (AG RB)) (ha _ (AG hi)) (sb.le O hb RB 'l') (O.asym _ _ (hb _ (AG RB)) (ha _ (AG hi)) (by
        have z:=c2 i (AS (CY (ES _)) hi) YE VF
        simpa using z))
       refine LK (λq1=>BD {g3.set _,AA _,_,_,_,_,_,_,rfl,m.m.done,m.doneA sb (beq_iff_eq.mp q1)}) (λq1=>?_);replace q1:¬(k=0):=λz=>q1 (beq_iff_eq.mpr z)
       exact K _ _ _ {m,by lia,by rw[HY];lia,gF}) ?_
     clear c1 c2 gF m h1 h3 XO la;intro out na ac P;have m:=P.1;have h1:=P.2.1;have h3:=P.2.2.1;have gF:=P.2.2.2;clear P;refine V4 (RB) ?_;have Y9:=m.m.sz;have la:=m.m.la;replace m:=m.pushB sb (AZ (DR _ _) h2) (RB) gF;have hs:=m.m.sz;refine LK (λq3=>BD {g3.set _,AA _,_,_,_,_,_,_,rfl,m.m.firstB,m.firstB sa sb (beq_iff_eq.mp q3) hf}) (λq3=>?_);have q3':¬(nb-1=1):=λz=>q3 (beq_iff_eq.mpr z);refine V4 'l' (Vf hA O ((g3.set _).kind hk) (ha _ (AG _)) hb 'l' 'l' (λi j hj LX _=>sb (0+i) (0+j) hj (A7 LX _)) λk2 k7 d1 d2=>?_);have O8:na-1<a.size:=by lia
     have oX:∀(j:Nat) (hj:j<b.size),j<k2->L a[na-1] b[j]=AD:=λj hj R9=>O.asym _ _ (hb _ (AG hj)) (ha _ (AG _)) (by
      have z:=d1 j (AS (CY (ES _)) hj) R9
      simpa using z)
     dsimp only
     refine Vd (λ(out:Array BA) (nb:Nat)=>MidHO L a b out na nb/\2<=nb/\i+2<=out.size/\∀(j:Nat) (hj:j<b.size),j<nb->L a[na-1] b[j]=AD) (λK=>by
      by_cases v4:¬(nb-1-k2>0)
      .rw[if_neg v4]
       have hP:MidHO L a b (out.push b[nb-1]) na (nb-1)/\2<=nb-1/\i+2<=(out.push b[nb-1]).size/\∀(j:Nat) (hj:j<b.size),j<nb-1->L a[na-1] b[j]=AD:={m,by lia,by rw[EH];lia,λj hj R9=>oX j hj 'l'}
       revert hP
       generalize nb-1-k2=bc';generalize out.push b[nb-1]=X5;generalize nb-1=Yi;exact λhP=>K X5 Yi bc' hP
      .rw[if_pos (K7.mp v4)]
       replace m:=m.manyB sb k7 λi hi YE VF j hj R9=>O.trans _ _ _ (ha _ (AG hj)) (ha _ (AG O8)) (hb _ (AG hi)) (sa.le O ha O8 'l') (by
        have z:=d2 i (AS (CY (ES _)) hi) YE VF
        simpa using z)
       refine LK (λq4=>BD {g3.set _,AA _,_,_,_,_,_,_,rfl,m.m.firstB,m.firstB sa sb (beq_iff_eq.mp q4) hf}) (λq4=>?_);replace q4:¬(k2=1):=λz=>q4 (beq_iff_eq.mpr z);refine LK (λq5=>BD {g3.set _,AA _,_,_,_,_,_,_,rfl,m.m.done,m.doneB sa (beq_iff_eq.mp q5)}) (λq5=>?_);replace q5:¬(k2=0):=λz=>q5 (beq_iff_eq.mpr z)
       exact K _ _ _ {m,by lia,by rw[HY,EH];lia,oX}) ?_
     clear d1 d2 oX k7 m hs Y9 h3 gF;intro out Yi bc P;have m:=P.1;have VF:=P.2.1;have h3:=P.2.2.1;have oX:=P.2.2.2;clear P;refine V4 (O8) ?_;have M6:=m.m.sz;replace m:=m.pushA sa (h1) (O8) oX;have At:=m.m.sz;refine LK (λq6=>BD {g3.set _,AA _,_,_,_,_,_,_,rfl,m.m.done,m.doneA sb (beq_iff_eq.mp q6)}) (λq6=>?_);have q6':¬(na-1=0):=λz=>q6 (beq_iff_eq.mpr z);refine LK (λq7=>?_) (λq7=>?_)
     .exact BD {g3.set _,AK,_,_,_,_,_,_,rfl,m,by lia,VF,by lia}
     .exact BD {g3.set _,_,_,_,_,_,_,rfl,m,by lia,VF,by rw[if_neg (FR (Nat.succ_pos _))];lia}
    case post2 =>
     intro c KN H;refine Vi (c:=c) H λg3 r na nb out gg ac bc hr=>?_;clear H
     cases r with
     |some r=>exact BD {g3,r,_,_,_,_,rfl,hr}
     |none =>
      have m:=hr.1;have h1:=hr.2.1;have h2:=hr.2.2.1;have h3:=hr.2.2.2;clear hr;exact zT (BD {g3.set _,_,_,_,_,rfl,m,h1,h2,h3})
end
def Seg(L:BA->BA->Bool)(a:Array BA)(i n:Nat):Prop:=∀(p q:Nat) (hq:q<a.size) (NR:p<q),i<=p->q<i+n->L a[q] (a[p]'(DB NR hq))=AD
theorem zX6{a c:Array BA}{sa:Nat}(h:sa+c.size<=a.size):(c.toList.zipIdx.foldl (λa (p:BA×Nat)=>a.setIfInBounds (sa+p.2) p.1) a).size=a.size /\
  ∀(p:Nat) (hp:p<(c.toList.zipIdx.foldl (λa (p:BA×Nat)=>a.setIfInBounds (sa+p.2) p.1) a).size) (bD:p<a.size),
   (c.toList.zipIdx.foldl (λa (p:BA×Nat)=>a.setIfInBounds (sa+p.2) p.1) a)[p]=if h:sa<=p/\p-sa<c.size then c[p-sa]'h.2 else a[p]:=by
 have e:=Pe c.toList a sa 0 (by simpa using h);generalize c.toList.zipIdx.foldl (λa (p:BA×Nat)=>a.setIfInBounds (sa+p.2) p.1) a=r at e ⊢;rw[show sa+0=sa from Nat.add_zero _] at e
 have hs:r.size=a.size:=by
  have:=congrArg MD e;simp at this;lia
 refine{hs,λp hp bD=>?_};have e2:r.toList[p]?=(a.toList.take sa++c.toList++a.toList.drop (sa+c.toList.length))[p]?:=by rw[e]
 rw[DA,getElem?_pos r p hp] at e2;have hl:(a.toList.take sa).length=sa:=by simp;lia
 by_cases h1:p<sa
 .rw[dif_neg 'l']
  rw[CM,CC 'l',WI h1,DA,getElem?_pos a p bD] at e2;exact BL e2
 .by_cases h2:p-sa<c.size
  .rw[dif_pos {E4 h1,h2}]
   rw[CM,B0 'l',hl,CC (by simpa using h2),DA,getElem?_pos c (p-sa) h2] at e2;exact BL e2
  .rw[dif_neg 'l']
   rw[CM,B0 'l',hl,B0 (by simp;lia),List.getElem?_drop] at e2;rw[show sa+c.toList.length+(p-sa-c.toList.length)=p by simp;lia,DA,getElem?_pos a p bD] at e2;exact BL e2
section
variable{prog:CQ}{w:D3}{A:DQ}{E:AH->AT->Prop}{s:AT}{BU:Array BA}{kd:FK}{L:BA->BA->Bool}
theorem Dr{a:Array BA}{i j:Nat}{x:BA}(hx:x∈a.extract i j):∃(p:Nat) (hp:p<a.size),i<=p/\p<j/\x=a[p]:=by
 rw[Array.mem_iff_getElem] at hx;obtain⟨k,hk,rfl⟩:=hx;rw[JD] at hk;exact{i+k,by lia,A2 _ _,by lia,by simp}
theorem yHU{P NT:Prop}(h1:P->NT)(h2:P):NT:=h1 h2
theorem zM3{st:BP}{i sa na sb nb pa pb:Nat}{Q:Bool->BP->Prop}(hA:WL prog w A s kd BU L)(O:Ord L BU)(hB:SB BU kd st)(e1:(DK st)[i]?=AA (sa,na,pa))(e2:(DK st)[i+1]?=AA (sb,nb,pb))
  (h1:1<=na) (h2:1<=nb) (vR:sb=sa+na) (hz:sb+nb<=BU.size) (ga:Seg L (AY st) sa na) (gb:Seg L (AY st) sb nb)
  (h:∀CU,SB BU kd CU->DK CU=((DK st).setIfInBounds i (sa,na+nb,pa)).eraseIdxIfInBounds (i+1)->Seg L (AY CU) sa (na+nb) ->
   (∀(p:Nat) (hp:p<(AY CU).size) (bD:p<(AY st).size),p<sa\/sa+(na+nb)<=p->(AY CU)[p]=(AY st)[p])->Q AL CU) :
  NV (A1 prog w) A E s (mergeAt' i) Q st:=by
 refine BJ (ND ?_);rw[e1,e2];dsimp only;have hsz:=hB.size;have SD:∀x∈AY st,x∈BU:=λx hx=>hB.perm.mem_iff.mp hx;have mm:∀(p:Nat) (hp:p<(AY st).size),(AY st)[p]∈BU:=λp hp=>SD _ (AG hp);refine BJ (zXY ?_);have rL:SB BU kd (setPending st (((DK st).setIfInBounds i (sa,na+nb,pa)).eraseIdxIfInBounds (i+1))):={hB.perm,hB.kind,hB.failed};have dG:sb<(AY st).size:=by lia
 -- b's first is at DZ the others of b;a's last is at least the others of a
 have b0:∀(q:Nat) (hq:q<(AY st).size),sb<=q->q<sb+nb->L (AY st)[q] (AY st)[sb]=AD:=λq hq h3 h4=>by
  rcases DL h3 with z|z
  .exact gb sb q hq z (AM _) h4
  .subst z;exact O.refl (mm _ _)
 have Bc:sa+na-1<(AY st).size:=by lia
 have aL:∀(p:Nat) (hp:p<(AY st).size),sa<=p->p<sa+na->L (AY st)[sa+na-1] (AY st)[p]=AD:=λp hp h3 h4=>by
  rcases DL (show p<=sa+na-1 by lia) with z|z
  .exact ga p (sa+na-1) Bc z h3 'l'
  .subst z;exact O.refl (mm _ _)
 refine BJ (pV (HC:=AY st) (dG) (BJ (Sf (HC:=AY st) hA O rL.kind (SD _ (AG _)) SD 'l' (GB h1) (λi j hj LX R9=>ga (sa+i) (sa+j) hj (A7 LX _) (A2 _ _) (A7 R9 _)) λk hk c1 c2=>?_)))
 have gF:∀(p:Nat) (hp:p<(AY st).size),sa<=p->p<sa+k->L (AY st)[sb] (AY st)[p]=AD:=λp hp h3 h4=>by
  have z:=c1 (p-sa) 'l' 'l';simpa[show sa+(p-sa)=p by lia] using z
 have lN:∀(p:Nat) (hp:p<(AY st).size),sa+k<=p->p<sa+na->L (AY st)[sb] (AY st)[p]=AL:=λp hp h3 h4=>by
  have z:=c2 (p-sa) 'l' 'l' 'l';simpa[show sa+(p-sa)=p by lia] using z
 dsimp only;refine LK (λq=>?_) (λq=>?_)
 .have q':na-k=0:=beq_iff_eq.mp q
  refine BD (h _ rL rfl (λp r hr V8 h3 h4=>?_) λp hp bD _=>rfl)
  by_cases wL:r<sa+na
  .exact ga p r hr V8 h3 wL
  .by_cases dS:sb<=p
   .exact gb p r hr V8 dS 'l'
   .exact O.trans _ _ _ (mm p (DB V8 hr)) (mm sb dG) (mm r hr) (gF p (DB V8 hr) h3 'l') (b0 r hr 'l' 'l')
 have q':¬(na-k=0):=λz=>q (beq_iff_eq.mpr z);refine BJ (pV (HC:=AY st) 'l' (BJ (Se (HC:=AY st) hA O rL.kind (SD _ (AG _)) SD 'l' 'l' (λi j hj LX R9=>gb (sb+i) (sb+j) hj (A7 LX _) (A2 _ _) (A7 R9 _)) λm hm d1 d2=>?_)));have Zq:sa+k+(na-k)-1=sa+na-1:=by lia
 have oX:∀(r:Nat) (hr:r<(AY st).size),sb<=r->r<sb+m->L (AY st)[r] (AY st)[sa+na-1]=AL:=λr hr h3 h4=>by
  have z:=d1 (r-sb) 'l' 'l';simpa[show sb+(r-sb)=r by lia,Zq] using z
 have Zt:∀(r:Nat) (hr:r<(AY st).size),sb+m<=r->r<sb+nb->L (AY st)[r] (AY st)[sa+na-1]=AD:=λr hr h3 h4=>by
  have z:=d2 (r-sb) 'l' 'l' 'l';simpa[show sb+(r-sb)=r by lia,Zq] using z
 dsimp only;refine LK (λr=>?_) (λr=>?_)
 .have r':m=0:=beq_iff_eq.mp r
  refine BD (h _ rL rfl (λp r hr V8 h3 h4=>?_) λp hp bD _=>rfl)
  by_cases wL:r<sa+na
  .exact ga p r hr V8 h3 wL
  .by_cases dS:sb<=p
   .exact gb p r hr V8 dS 'l'
   .exact O.trans _ _ _ (mm p (DB V8 hr)) (mm _ Bc) (mm r hr) (aL p (DB V8 hr) h3 'l') (Zt r hr 'l' 'l')
 have r':¬(m=0):=λz=>r (beq_iff_eq.mpr z)
 have ex:∀i j x,x∈(AY st).extract i j->x∈BU:=λi j x hx=>by
  obtain⟨p,hp,_,_,rfl⟩:=Dr hx;exact mm p hp
 have zx:((AY st).extract (sa+k) sb).size=na-k:=by rw[JD];lia
 have zy:((AY st).extract sb (sb+m)).size=m:=by rw[JD];lia
 have sx:SA L ((AY st).extract (sa+k) sb):=λi j hj LX=>by
  rw[zx] at hj;simpa using ga (sa+k+i) (sa+k+j) 'l' (A7 LX _) 'l' 'l'
 have sy:SA L ((AY st).extract sb (sb+m)):=λi j hj LX=>by
  rw[zy] at hj;simpa using gb (sb+i) (sb+j) 'l' (A7 LX _) (A2 _ _) (A7 (AN hj hm) _)
 have hf:∀(i:Nat) (hi:i<((AY st).extract (sa+k) sb).size),L ((AY st).extract (sa+k) sb)[i] (((AY st).extract sb (sb+m))[0]'(by lia))=AD:=λi hi=>by
  have z:=O.asym _ _ (mm sb dG) (mm (sa+k+i) 'l') (lN (sa+k+i) 'l' (A2 _ _) 'l');simpa using z
 have hl:∀(j:Nat) (hj:j<((AY st).extract sb (sb+m)).size),L (((AY st).extract (sa+k) sb)[((AY st).extract (sa+k) sb).size-1]'(by lia)) ((AY st).extract sb (sb+m))[j]=AD:=λj hj=>by
  have z:=O.asym _ _ (mm (sb+j) 'l') (mm (sa+na-1) Bc) (oX (sb+j) 'l' (A2 _ _) 'l');simpa[zx,show sa+k+(na-k-1)=sa+na-1 by lia] using z
 refine yHU (λK=>LK (λ_=>BJ (zM0 (a:=(AY st).extract (sa+k) sb) (b:=(AY st).extract sb (sb+m)) hA O rL.kind (ex _ _) (ex _ _) 'l' 'l' sx sy hf hl K)) (λ_=>BJ (zM1 (a:=(AY st).extract (sa+k) sb) (b:=(AY st).extract sb (sb+m)) hA O rL.kind (ex _ _) (ex _ _) 'l' 'l' sx sy hf hl K))) ?_;rintro c CU ⟨g,rfl⟩ hp n8;refine BJ (MR (BJ (ND (BD ?_))));have hn:(jE st).isNone=AL:=by rw[hB.failed];rfl
 show Q (jE st).isNone _;rw[hn];have UN:c.size=na-k+m:=by rw[hp.size_eq,HY,zx,zy]
 obtain⟨os,Iw⟩:=zX6 (a:=AY st) (c:=c) (sa:=sa+k) 'l'
 have wT:∀(j:Nat) (hj:j<c.size),(∃(p:Nat) (hp:p<(AY st).size),sa+k<=p/\p<sb/\c[j]=(AY st)[p])\/∃(p:Nat) (hp:p<(AY st).size),sb<=p/\p<sb+m/\c[j]=(AY st)[p]:=λj hj=>by
  have hx:c[j]∈(AY st).extract (sa+k) sb++(AY st).extract sb (sb+m):=hp.mem_iff.mp (AG hj);rcases Array.mem_append.mp hx with hx|hx
  .exact .inl (Dr hx)
  .exact .inr (Dr hx)
 refine h _ {(zQN 'l' 'l' hp).trans hB.perm,hB.kind,hB.failed} rfl (λp r hr V8 h3 h4=>?_) λp hpp Jv Av=>?_
 .have W1:r<(AY st).size:=by rw[<-os];exact hr
  show L (_:Array BA)[r] (_:Array BA)[p]=AD;rw[Iw r hr W1,Iw p (DB V8 hr) (DB V8 W1)]
  by_cases fT:p<sa+k
  .rw[dif_neg (show ¬(sa+k<=p/\p-(sa+k)<c.size) by lia)]
   by_cases Yt:r<sa+k
   .rw[dif_neg (show ¬(sa+k<=r/\r-(sa+k)<c.size) by lia)]
    exact ga p r W1 V8 h3 (AN Yt (EI (AM _) hk))
   .by_cases nZ:r-(sa+k)<c.size
    .rw[dif_pos (show sa+k<=r/\r-(sa+k)<c.size from{E4 Yt,nZ})]
     rcases wT _ nZ with⟨u,hu,u1,u2,eu⟩|⟨u,hu,u1,u2,eu⟩
     .rw[eu];exact ga p u hu (AN fT u1) h3 (AN u2 (CY vR))
     .rw[eu];exact O.trans _ _ _ (mm p (DB V8 W1)) (mm sb dG) (mm u hu) (gF p (DB V8 W1) h3 fT) (b0 u hu u1 (AN u2 (EI (AM _) hm)))
    .rw[dif_neg (show ¬(sa+k<=r/\r-(sa+k)<c.size) by lia)]
     exact O.trans _ _ _ (mm p (DB V8 W1)) (mm sb dG) (mm r W1) (gF p (DB V8 W1) h3 fT) (b0 r W1 'l' 'l')
  .by_cases YB:p-(sa+k)<c.size
   .rw[dif_pos (show sa+k<=p/\p-(sa+k)<c.size from{E4 fT,YB})]
    by_cases nZ:r-(sa+k)<c.size
    .rw[dif_pos (show sa+k<=r/\r-(sa+k)<c.size from{by lia,nZ})]
     have z:=EK.mp n8 (p-(sa+k)) (r-(sa+k)) (by simpa using YB) (by simpa using nZ) 'l';simpa using z
    .rw[dif_neg (show ¬(sa+k<=r/\r-(sa+k)<c.size) by lia)]
     rcases wT _ YB with⟨u,hu,u1,u2,eu⟩|⟨u,hu,u1,u2,eu⟩
     .rw[eu];exact O.trans _ _ _ (mm u hu) (mm _ Bc) (mm r W1) (aL u hu (AZ (A2 _ _) u1) (AN u2 (CY vR))) (Zt r W1 'l' 'l')
     .rw[eu];exact gb u r W1 'l' u1 'l'
   .rw[dif_neg (show ¬(sa+k<=p/\p-(sa+k)<c.size) by lia),dif_neg (show ¬(sa+k<=r/\r-(sa+k)<c.size) by lia)]
    exact gb p r W1 V8 'l' 'l'
 .show(_:Array BA)[p]=_
  rw[Iw p hpp Jv,dif_neg (show ¬(sa+k<=p/\p-(sa+k)<c.size) by lia)]
end
theorem seg_iff{L:BA->BA->Bool}{a:Array BA}{i n:Nat}:Seg L a i n↔∀p q x y,p<q->i<=p->q<i+n->a[p]?=AA x->a[q]?=AA y->L y x=AD:=by
 constructor
 .intro h p q x y NR hi hq ex ey
  obtain⟨h1,rfl⟩:=CK.mp ex;obtain⟨h2,rfl⟩:=CK.mp ey;exact h p q h2 NR hi hq
 .intro h p q hq NR hi hn
  exact h p q _ _ NR hi hn (getElem?_pos a p (DB NR hq)) (getElem?_pos a q hq)
section
variable{prog:CQ}{w:D3}{A:DQ}{E:AH->AT->Prop}{s:AT}{BU:Array BA}{kd:FK}{L:BA->BA->Bool}
theorem pW{st:BP}{i j:Nat}{Q:Option Bool->BP->Prop}(hA:WL prog w A s kd BU L)(hB:SB BU kd st)(hi:i<(AY st).size)(hj:j<(AY st).size)(h:Q (AA (L (AY st)[i] (AY st)[j])) st) :
  NV (A1 prog w) A E s (ltAt' i j) Q st:=by
 rw[ltAt'_eq];refine BJ (ND ?_);exact BJ (pV hi (BJ (pV hj (yD hA hB.kind (hB.mem hi) (hB.mem hj) h))))
theorem zHJ{st:BP}{lo n ok:Nat}{Q:Bool->BP->Prop}(hA:WL prog w A s kd BU L)(O:Ord L BU)(hn:lo+n<=BU.size)(hok:ok<=n)(h1:1<=n)(hB:SB BU kd st)(hs:Seg L (AY st) lo ok)
  (h:∀CU,SB BU kd CU->DK CU=DK st->Seg L (AY CU) lo n->(∀p,p<lo->(AY CU)[p]?=(AY st)[p]?)->Q AL CU):NV (A1 prog w) A E s (binarySort' lo n ok) Q st:=by
 rw[binarySort'_eq]
 refine BJ (JN (F7 (I:=λk c CU=>c=(AK,())/\SB BU kd CU/\DK CU=DK st/\Seg L (AY CU) lo k/\∀p,p<lo->(AY CU)[p]?=(AY st)[p]?)
  (Q:=λc CU=>c=(AK,())/\SB BU kd CU/\DK CU=DK st/\Seg L (AY CU) lo n/\∀p,p<lo->(AY CU)[p]?=(AY st)[p]?) ?step ?fin {rfl,hB,rfl,?ini,λ_ _=>rfl}) ?post)
 case ini =>
  intro p q hq NR hp n6;exact hs p q hq NR hp 'o'
 case fin =>
  rintro c CU ⟨e,lF,hp,R7,ho⟩;refine{e,lF,hp,λp q hq NR hp n6=>R7 p q hq NR hp ?_,ho};omega
 case post =>
  rintro c CU ⟨rfl,lF,hp,R7,ho⟩;exact BD (h CU lF hp R7 ho)
 case step =>
  rintro k c CU hak hkn ⟨rfl,lF,hp,R7,ho⟩;have hsz:=lF.size;have XO:lo+k<(AY CU).size:=by omega
  have mm:∀(p:Nat) (hp:p<(AY CU).size),(AY CU)[p]∈BU:=λp hp=>lF.mem hp
  refine BJ (JN (F7 (I:=λx c O5=>O5=CU/\∃l r,c=(AK,l,r)/\l<=r/\r<=k/\(∀(p:Nat) (hp:lo+p<(AY CU).size),p<l->L (AY CU)[lo+k] (AY CU)[lo+p]=AD)/\(∀(p:Nat) (hp:lo+p<(AY CU).size),r<=p->p<k->L (AY CU)[lo+k] (AY CU)[lo+p]=AL)/\r-l+x<=k)
   (Q:=λc O5=>O5=CU/\∃l r,c=(AK,l,r)/\l<=k/\(∀(p:Nat) (hp:lo+p<(AY CU).size),p<l->L (AY CU)[lo+k] (AY CU)[lo+p]=AD)/\(∀(p:Nat) (hp:lo+p<(AY CU).size),l<=p->p<k->L (AY CU)[lo+k] (AY CU)[lo+p]=AL)) ?istep
   ((λc O5 q0=>by obtain⟨e,l,r,e2,q1,q2,q3,q4,q5⟩:=q0;exact{e,l,r,e2,AZ q1 q2,q3,λp hp h1 h2=>q4 p hp 'o' h2})) {rfl,0,k,rfl,BS _,AM _,λp hp h=>by omega,λp hp h1 h2=>by omega,by omega}) ?ipost)
  case istep =>
   rintro x c O5 _ hxk ⟨rfl,l,r,rfl,q1,q2,q3,q4,q5⟩;dsimp only
   by_cases k8:l>=r
   .rw[if_pos k8]
    exact BD {rfl,l,r,rfl,AZ q1 q2,q3,λp hp h1 h2=>q4 p hp 'o' h2}
   .rw[if_neg k8]
    have hm:lo+(l+r) / 2<(AY O5).size:=by omega
    refine BJ (pW hA lF XO hm ?_)
    cases e:L (AY O5)[lo+k] (AY O5)[lo+(l+r) / 2] with
    |true =>
     refine BD {rfl,l,(l+r) / 2,rfl,by omega,by omega,q3,λp hp h1 h2=>?_,by omega}
     cases e3:L (AY O5)[lo+k] (AY O5)[lo+p] with
     |true=>rfl
     |false =>
      rcases DL h1 with z|z
      .rw[O.trans _ _ _ (mm _ hm) (mm _ hp) (mm _ XO) (R7 (lo+(l+r) / 2) (lo+p) hp (A7 z _) (A2 _ _) (A7 h2 _)) e3] at e
       cases e
      .subst z;rw[e] at e3;cases e3
    |false =>
     refine BD {rfl,(l+r) / 2+1,r,rfl,by omega,q2,λp hp h1=>?_,q4,by omega};rcases DL (show p<=(l+r) / 2 from IG h1) with z|z
     .exact O.trans _ _ _ (mm _ hp) (mm _ hm) (mm _ XO) (R7 (lo+p) (lo+(l+r) / 2) hm (A7 z _) (A2 _ _) 'o') e
     .subst z;exact e
  case ipost =>
   rintro c O5 ⟨rfl,l,r,rfl,hl,q3,q4⟩;show NV _ _ _ _ (do moveDown' (lo+k) (lo+l);pure (QG (AK,()))) _ _;rw[moveDown'_eq];have bu:=getElem?_bubble (xs:=AY O5) XO (lo+k-(lo+l)) (DE _ _);refine BJ (MR (BD {rfl,lF.setArr (bubble_perm _ _ _),hp,?_,λp YB=>?_}))
   .show Seg L (bubble (AY O5) (lo+k) (lo+k-(lo+l))) lo (k+1)
    have Ju:=seg_iff.mp R7;rw[seg_iff];intro p q x y NR Yy n6 ex ey;rw[bu] at ex ey;rw[show lo+k-(lo+k-(lo+l))=lo+l by omega] at ex ey
    by_cases fT:p=lo+l
    .rw[if_pos fT] at ex
     rw[if_neg 'o',if_pos 'o'] at ey;obtain⟨z1,rfl⟩:=CK.mp ex;obtain⟨z2,rfl⟩:=CK.mp ey;have z:=q4 (q-1-lo) 'o' 'o' 'o';have e:lo+(q-1-lo)=q-1:=by omega
     simp only[e] at z;exact O.asym _ _ (mm _ z1) (mm _ z2) z
    .rw[if_neg fT] at ex
     by_cases XM:q=lo+l
     .rw[if_pos XM] at ey
      rw[if_neg 'o'] at ex;obtain⟨z1,rfl⟩:=CK.mp ex;obtain⟨z2,rfl⟩:=CK.mp ey;have z:=q3 (p-lo) 'o' 'o';have e:lo+(p-lo)=p:=by omega
      simp only[e] at z;exact z
     .rw[if_neg XM] at ey
      by_cases YB:lo+l<p/\p<=lo+k
      .rw[if_pos YB] at ex
       rw[if_pos 'o'] at ey;exact Ju (p-1) (q-1) x y 'o' 'o' 'o' ex ey
      .rw[if_neg YB] at ex
       by_cases bC:lo+l<q/\q<=lo+k
       .rw[if_pos bC] at ey
        exact Ju p (q-1) x y 'o' (Yy) 'o' ex ey
       .rw[if_neg bC] at ey
        exact Ju p q x y (NR) (Yy) 'o' ex ey
   .show(bubble (AY O5) (lo+k) (lo+k-(lo+l)))[p]?=_
    rw[bu,if_neg 'o',if_neg 'o'];exact ho p YB
end
section
variable{L:BA->BA->Bool}{a BU:Array BA}
def Desc(L:BA->BA->Bool)(a:Array BA)(i n:Nat):Prop:=∀p q x y,p<q->i<=p->q<i+n->a[p]?=AA x->a[q]?=AA y->L x y=AD
def Blk(L:BA->BA->Bool)(a:Array BA)(i j:Nat):Prop:=∀p q x y,i<=p->p<j->i<=q->q<j->a[p]?=AA x->a[q]?=AA y->L x y=AD
theorem mir{xs:Array BA}{i j:Nat}(hj:j<=xs.size)(k:Nat):(OO xs i j ((j-i) / 2))[k]?=if i<=k/\k<j then xs[i+j-1-k]? else xs[k]?:=getElem?_mirror_all hj k
theorem Desc.blk{lo n i:Nat}(d:Desc L a lo n)(hi:lo<=i)(hj:lo+n<=a.size)(b:Blk L a i (lo+n)):Desc L (OO a i (lo+n) ((lo+n-i) / 2)) lo n:=by
 intro p q x y NR hp hq ex ey;rw[mir hj] at ex ey
 by_cases fT:i<=p/\p<lo+n
 .rw[if_pos fT] at ex
  rw[if_pos 'l'] at ey;exact b _ _ x y 'l' 'l' 'l' 'l' ex ey
 .rw[if_neg fT] at ex
  by_cases XM:i<=q/\q<lo+n
  .rw[if_pos XM] at ey
   exact d p _ x y 'l' hp 'l' ex ey
  .rw[if_neg XM] at ey
   exact d p q x y NR hp hq ex ey
theorem Desc.rev{lo n:Nat}(d:Desc L a lo n)(hj:lo+n<=a.size):Seg L (OO a lo (lo+n) ((lo+n-lo) / 2)) lo n:=by
 rw[seg_iff];intro p q x y NR hp hq ex ey;rw[mir hj] at ex ey;rw[if_pos 'l'] at ex ey;exact d _ _ y x 'l' 'l' 'l' ey ex
theorem Seg.more{lo n:Nat}(O:Ord L BU)(hm:∀x∈a,x∈BU)(s:Seg L a lo n)(h1:1<=n)(hs:lo+n<a.size)(h:L a[lo+n] (a[lo+n-1]'(AS (DE _ _) hs))=AD):Seg L a lo (n+1):=by
 intro p q hq NR hp n6;rcases DL (show q<=lo+n by lia) with z|z
 .exact s p q hq NR hp z
 .subst z
  rcases DL (show p<=lo+n-1 by lia) with z|z
  .exact O.trans _ _ _ (hm _ (AG _)) (hm _ (AG _)) (hm _ (AG hs)) (s p (lo+n-1) (AS (DE _ _) hs) z hp 'l') h
  .subst z;exact h
theorem Desc.snoc{lo n:Nat}{y:BA}(d:Desc L a lo n)(h:∀p z,lo<=p->p<lo+n->a[p]?=AA z->L z y=AD)(e:a[lo+n]?=AA y):Desc L a lo (n+1):=λp q x y' NR hp hq ex ey=>by
 rcases DL (show q<=lo+n by lia) with z|z
 .exact d p q x y' NR hp z ex ey
 .subst z
  rw[e] at ey;cases ey;exact h p x hp (NR) ex
theorem Pm{lo n i:Nat}{P:BA->Prop}(hj:lo+n<=a.size)(hi:lo<=i)(h:∀p z,lo<=p->p<lo+n->a[p]?=AA z->P z):∀p z,lo<=p->p<lo+n->(OO a i (lo+n) ((lo+n-i) / 2))[p]?=AA z->P z:=λp z h1 h2 e=>by
 rw[mir hj] at e;split at e
 .exact h _ z 'l' 'l' e
 .exact h p z h1 h2 e
theorem Blk.mir{i j:Nat}(b:Blk L a i j)(hj:j<=a.size):Blk L (OO a i j ((j-i) / 2)) i j:=λp q x y h1 h2 h3 h4 ex ey=>by
 rw[TS.mir hj,if_pos {h1,h2}] at ex;rw[TS.mir hj,if_pos {h3,h4}] at ey;exact b _ _ x y 'l' 'l' 'l' 'l' ex ey
theorem Blk.one{i:Nat}(O:Ord L BU)(hm:∀x∈a,x∈BU):Blk L a i (i+1):=λp q x y h1 h2 h3 h4 ex ey=>by
 have e1:p=i:=by lia
 have e2:q=i:=by lia
 subst e1;subst e2;rw[ex] at ey;cases ey;exact O.refl (hm _ (Array.mem_of_getElem? ex))
theorem Seg.one{lo:Nat}:Seg L a lo 1:=λp q hq NR hp n6=>by lia
end
section
variable{prog:CQ}{w:D3}{A:DQ}{E:AH->AT->Prop}{s:AT}{BU:Array BA}{kd:FK}{L:BA->BA->Bool}
def KpO(BU:Array BA)(kd:FK)(lo:Nat)(st CU:BP):Prop:=Kp BU kd st CU/\∀p,p<lo->(AY CU)[p]?=(AY st)[p]?
theorem KpO.rev{st CU:BP}{lo i j:Nat}(h:KpO BU kd lo st CU)(hi:lo<=i)(hj:j<=BU.size):KpO BU kd lo st (setArr CU (OO (AY CU) i j ((j-i) / 2))):=by
 refine{h.1.rev,λp hp=>?_};show(OO (AY CU) i j ((j-i) / 2))[p]?=_;rw[mir (by rw[h.1.1.size];exact hj),if_neg 'l'];exact h.2 p hp
theorem Vc{α:Type}{T:StateT BP SJ α}{M:Model}{A:DQ}{E:AH->AT->Prop}{s:AT}{Q:α->BP->Prop}{NT:Prop}(P:BP->Prop)(h1:(∀st,P st->NV M A E s T Q st)->NT)(h2:∀st,P st->NV M A E s T Q st):NT:=h1 h2
theorem zLA{st:BP}{lo QV:Nat}{Q:Option Nat->BP->Prop}(hA:WL prog w A s kd BU L)(O:Ord L BU)(hn:lo+QV<=BU.size)(h1:1<=QV)(hB:SB BU kd st)
  (h:∀m CU,KpO BU kd lo st CU->1<=m->m<=QV->Seg L (AY CU) lo m->Q (AA m) CU):NV (A1 prog w) A E s (countRun' lo QV) Q st:=by
 have k0:KpO BU kd lo st st:={{hB,rfl},λ_ _=>rfl};have hsz:=hB.size;have mm:∀x∈AY st,x∈BU:=λx hx=>hB.perm.mem_iff.mp hx;refine BJ (JN (F7 (I:=λx c CU=>CU=st/\c=(AK,x)/\Seg L (AY st) lo x) (Q:=λc CU=>CU=st/\∃n,c=(AK,n)/\1<=n/\n<=QV/\Seg L (AY st) lo n/\(n=QV\/∃(hx:lo+n<(AY st).size),L (AY st)[lo+n] ((AY st)[lo+n-1]'(AS (DE _ _) hx))=AL)) ?s1 ?f1 {rfl,rfl,Seg.one}) ?p1)
 case f1 =>
  rintro c CU ⟨rfl,rfl,sg⟩;have e:(if 1<=QV then QV else 1)=QV:=if_pos h1;exact{rfl,_,rfl,lR _ _,by lia,sg,.inl 'l'}
 case s1 =>
  rintro x c CU oM vO ⟨rfl,rfl,sg⟩;have QX:lo+x<(AY CU).size:=by lia
  refine BJ (pW hA hB QX (show lo+x-1<(AY CU).size from AS (DE _ _) QX) ?_)
  cases e:L (AY CU)[lo+x] ((AY CU)[lo+x-1]'(AS (DE _ _) QX)) with
  |true=>exact BD {rfl,x,rfl,oM,CW vO,sg,.inr {QX,e}}
  |false=>exact BD {rfl,rfl,sg.more O mm oM QX e}
 case p1 =>
  rintro c CU ⟨rfl,n,rfl,Yw,Z6,sg,Av⟩;refine LK (λq=>?_) (λq=>?_)
  .exact BD (h n _ k0 Yw Z6 sg)
  have q':¬(n=QV):=λz=>q (beq_iff_eq.mpr z)
  obtain⟨QX,vY⟩:∃(hx:lo+n<(AY CU).size),L (AY CU)[lo+n] ((AY CU)[lo+n-1]'(AS (DE _ _) hx))=AL:=by
   rcases Av with z|z
   .exact absurd z q'
   .exact z
  -- the first n are alike,and the next is below
  have start:∀st1,KpO BU kd lo CU st1->Blk L (AY st1) lo (lo+n)->(∀p x,lo<=p->p<lo+n->(AY st1)[p]?=AA x->L x (AY CU)[lo+n]=AD)->(AY st1)[lo+n]?=(AY CU)[lo+n]?->Desc L (AY st1) lo (n+1):=λst1 k1 bl SD he p q x y NR hp hq ex ey=>by
   rcases DL (show q<=lo+n by lia) with z|z
   .exact bl p q x y hp (DB NR z) (CW (AS hp NR)) z ex ey
   .subst z
    rw[he,getElem?_pos (AY CU) (lo+n) QX] at ey;cases ey;exact SD p x hp (NR) ex
  have Bi:∀(Yu:n=1\/L ((AY CU)[lo]'(AS (A2 _ _) QX)) ((AY CU)[lo+n-1]'(AS (DE _ _) QX))=AD),Blk L (AY CU) lo (lo+n):=λYu p q x y hp YB hq bC ex ey=>by
   obtain⟨z1,rfl⟩:=CK.mp ex;obtain⟨z2,rfl⟩:=CK.mp ey
   have le:∀(u v:Nat) (hv:v<(AY CU).size) (Jn:u<=v),lo<=u->v<lo+n->L (AY CU)[v] ((AY CU)[u]'(AS Jn hv))=AD:=λu v hv Jn h3 h4=>by
    rcases DL Jn with z|z
    .exact sg u v hv z h3 h4
    .subst z;exact O.refl (mm _ (AG _))
   rcases Yu with z|z
   .have e1:p=lo:=by lia
    have e2:q=lo:=by lia
    subst e1;subst e2;exact O.refl (mm _ (AG _))
   ·-- y<=last<=first<=x turned: y at DZ x
    have a1:=le q (lo+n-1) (AS (DE _ _) QX) 'l' hq 'l';have a2:=le lo p z1 hp (AM _) YB
    exact O.trans _ _ _ (mm _ (AG z2)) (mm _ (AG (show lo<(AY CU).size from AS (A2 _ _) QX))) (mm _ (AG z1))
     (O.trans _ _ _ (mm _ (AG z2)) (mm _ (AG (show lo+n-1<(AY CU).size from AS (DE _ _) QX))) (mm _ (AG (show lo<(AY CU).size from AS (A2 _ _) QX))) a1 z) a2
  have o9:Blk L (AY CU) lo (lo+n)->∀p x,lo<=p->p<lo+n->(AY CU)[p]?=AA x->L x (AY CU)[lo+n]=AD:=λbl p x hp YB ex=>by
   obtain⟨z1,rfl⟩:=CK.mp ex;have a1:=O.asym _ _ (mm _ (AG QX)) (mm _ (AG (show lo+n-1<(AY CU).size from AS (DE _ _) QX))) vY;have a2:=bl p (lo+n-1) _ _ hp YB 'l' 'l' (getElem?_pos (AY CU) p z1) (getElem?_pos (AY CU) (lo+n-1) (AS (DE _ _) QX));exact O.trans _ _ _ (mm _ (AG QX)) (mm _ (AG (show lo+n-1<(AY CU).size from AS (DE _ _) QX))) (mm _ (AG z1)) a1 a2
  refine Vc (λst1=>KpO BU kd lo CU st1/\Desc L (AY st1) lo (n+1)) (λK=>by
   refine LK (λq1=>?_) (λq1=>?_)
   case refine_2=>exact K _ {k0,start _ k0 (Bi (.inl 'l')) (o9 (Bi (.inl 'l'))) rfl}
   case refine_1 =>
    refine BJ (pW hA hB (show lo<(AY CU).size from AS (A2 _ _) QX) (show lo+n-1<(AY CU).size from AS (DE _ _) QX) ?_);cases eq1:L ((AY CU)[lo]'(AS (A2 _ _) QX)) ((AY CU)[lo+n-1]'(AS (DE _ _) QX))
    case true=>exact BD (h n _ k0 Yw Z6 sg)
    refine BJ (yF ?_);have bl:=Bi (.inr eq1);have k1:=k0.rev (i:=lo) (j:=lo+n) (AM _) (AZ (EI (AM _) Z6) hn)
    exact K _ {k1,start _ k1 (Blk.mir (i:=lo) (j:=lo+n) bl (CW QX)) (Pm (CW QX) (AM _) (o9 bl)) (by
     show(OO (AY CU) lo (lo+n) ((lo+n-lo) / 2))[lo+n]?=_
     rw[mir (CW QX),if_neg 'l'])}) ?_
  clear start Bi o9;rintro st1 ⟨k1,D1⟩;refine BJ (P6 (FJ {rfl,?_}));have mk:∀st2,KpO BU kd lo CU st2->∀x∈AY st2,x∈BU:=λst2 k x hx=>k.1.1.perm.mem_iff.mp hx
  refine BJ (JN (F7 (I:=λx c st2=>∃V7,c=(AK,x,V7)/\KpO BU kd lo CU st2/\Desc L (AY st2) lo x/\V7+1<=x/\Blk L (AY st2) (lo+x-(V7+1)) (lo+x))
   (Q:=λc st2=>∃m V7,c=(AK,m,V7)/\KpO BU kd lo CU st2/\n+1<=m/\m<=QV/\Desc L (AY st2) lo m/\V7+1<=m/\Blk L (AY st2) (lo+m-(V7+1)) (lo+m)) ?s2 ?f2 {0,rfl,k1,D1,DR _ _,Blk.one O (mk _ k1)}) ?p2)
  case f2 =>
   rintro c st2 ⟨V7,rfl,k,D,fV,bk⟩;exact{_,V7,rfl,k,lR _ _,by lia,D,fV,bk}
  case s2 =>
   rintro x c st2 oM vO ⟨V7,rfl,k,D,fV,bk⟩;have X8:=k.1.1.size;have m2:=mk _ k;have R6:lo+x<(AY st2).size:=by lia
   have nP:lo+x-1<(AY st2).size:=AS (DE _ _) R6
   have all1:L (AY st2)[lo+x-1] (AY st2)[lo+x]=AD->∀p z,lo<=p->p<lo+x->(AY st2)[p]?=AA z->L z (AY st2)[lo+x]=AD:=λe p z hp YB ez=>by
    obtain⟨z1,rfl⟩:=CK.mp ez;rcases DL (show p<=lo+x-1 by lia) with u|u
    .exact O.trans _ _ _ (m2 _ (AG R6)) (m2 _ (AG nP)) (m2 _ (AG z1)) e (D p (lo+x-1) _ _ u hp 'l' ez (getElem?_pos (AY st2) (lo+x-1) nP))
    .subst u;exact e
   refine BJ (pW hA k.1.1 R6 nP ?_)
   cases e:L (AY st2)[lo+x] (AY st2)[lo+x-1] with
   |true =>
    have al:=all1 (O.asym _ _ (m2 _ (AG R6)) (m2 _ (AG nP)) e);simp only[if_true];refine LK (λ_=>?_) (λ_=>?_)
    .have k':=k.rev (i:=lo+x-(V7+1)) (j:=lo+x) 'l' 'l'
     refine BJ (yF (BD {0,rfl,k',?_,DR _ _,Blk.one O (mk _ k')}));refine Desc.snoc (y:=(AY st2)[lo+x]) (D.blk 'l' (CW R6) bk) (Pm (CW R6) 'l' al) ?_;show(OO (AY st2) (lo+x-(V7+1)) (lo+x) ((lo+x-(lo+x-(V7+1))) / 2))[lo+x]?=_;rw[mir (CW R6),if_neg 'l'];exact getElem?_pos (AY st2) (lo+x) R6
    .exact BD {0,rfl,k,D.snoc al (getElem?_pos (AY st2) (lo+x) R6),DR _ _,Blk.one O m2}
   |false =>
    refine BJ (pW hA k.1.1 nP R6 ?_)
    cases e2:L (AY st2)[lo+x-1] (AY st2)[lo+x] with
    |true=>exact BD {x,V7,rfl,k,oM,CW vO,D,fV,bk}
    |false =>
     have al:=all1 e2;refine BD {V7+1,rfl,k,D.snoc al (getElem?_pos (AY st2) (lo+x) R6),EI fV (AM _),λp q u v YE VF h3' h4' eu ev=>?_}
     by_cases hp:p<lo+x
     .by_cases hq:q<lo+x
      .exact bk p q u v 'l' hp 'l' hq eu ev
      .have e3:q=lo+x:=by lia
       subst e3;rw[getElem?_pos (AY st2) (lo+x) R6] at ev;cases ev;exact al p u 'l' hp eu
     .have e3:p=lo+x:=by lia
      subst e3;rw[getElem?_pos (AY st2) (lo+x) R6] at eu;cases eu
      by_cases hq:q<lo+x
      .obtain⟨z1,rfl⟩:=CK.mp ev
       have a1:=bk (lo+x-1) q _ _ 'l' 'l' 'l' hq (getElem?_pos (AY st2) (lo+x-1) nP) ev;exact O.trans _ _ _ (m2 _ (AG z1)) (m2 _ (AG nP)) (m2 _ (AG R6)) a1 e
      .have e4:q=lo+x:=by lia
       subst e4;rw[getElem?_pos (AY st2) (lo+x) R6] at ev;cases ev;exact O.refl (m2 _ (AG R6))
  case p2 =>
   rintro c st2 ⟨m,V7,rfl,k2,W2,XN,D,fV,bk⟩;have X8:=k2.1.1.size;dsimp only
   refine Vc (λst1=>KpO BU kd lo CU st1/\Desc L (AY st1) lo m) (λK=>by
    refine LK (λ_=>?_) (λ_=>?_)
    case refine_2=>exact K _ {k2,D}
    case refine_1=>exact BJ (yF (K _ {k2.rev (i:=lo+m-(V7+1)) (j:=lo+m) 'l' (AZ (EI (AM _) XN) hn),D.blk (i:=lo+m-(V7+1)) 'l' 'l' bk}))) ?_
   clear k2 D bk X8;rintro st2 ⟨k2,D⟩;have Jf:=k2.1.1.size;refine BJ (yF ?_);have qY:=Desc.rev D (by first|exact AZ (AZ (EI (AM _) XN) hn) (CY Jf.symm)|lia);have k3:=k2.rev (i:=lo) (j:=lo+m) (AM _) (AZ (EI (AM _) XN) hn);refine BJ (JN (F7 (I:=λx c KN=>KpO BU kd lo CU KN/\c=(AK,x)/\Seg L (AY KN) lo x) (Q:=λc KN=>KpO BU kd lo CU KN/\∃n,c=(AK,n)/\1<=n/\n<=QV/\Seg L (AY KN) lo n) ?s3 ?f3 {k3,rfl,qY}) ?p3)
   case f3 =>
    rintro c KN ⟨k,rfl,sg⟩;exact{k,_,rfl,AZ h1 (M8 _ _),by lia,sg}
   case s3 =>
    rintro x c KN oM vO ⟨k,rfl,sg⟩;have hz4:=k.1.1.size;have R6:lo+x<(AY KN).size:=by lia
    refine BJ (pW hA k.1.1 R6 (show lo+x-1<(AY KN).size from AS (DE _ _) R6) ?_)
    cases e:L (AY KN)[lo+x] ((AY KN)[lo+x-1]'(AS (DE _ _) R6)) with
    |true=>exact BD {k,x,rfl,AZ (AZ (DR _ _) W2) oM,CW vO,sg}
    |false=>exact BD {k,rfl,sg.more O (mk _ k) (AZ (AZ (DR _ _) W2) oM) R6 e}
   case p3 =>
    rintro c KN ⟨k,z,rfl,kX,X8,sg⟩;exact BD (h z _ k kX X8 sg)
end
section
variable{L:BA->BA->Bool}{x x':Array BA}
theorem Seg.keep{i n:Nat}(s:Seg L x i n)(h:∀q,i<=q->q<i+n->x'[q]?=x[q]?):Seg L x' i n:=by
 rw[seg_iff] at s ⊢;intro p q u v NR hp hq eu ev;rw[h p hp (DB NR hq)] at eu;rw[h q (CW (AS hp NR)) hq] at ev;exact s p q u v NR hp hq eu ev
def CovO(L:BA->BA->Bool)(x:Array BA):List Run->Nat->Nat->Prop
 |[],a,b=>a=b
 |(st,len,_)::r,a,b=>st=a/\1<=len/\Seg L x a len/\CovO L x r (a+len) b
theorem CovO.le:∀{p:List Run} {a b:Nat},CovO L x p a b->a<=b
 |[],_,_,h=>CY h
 |(_,len,_)::r,a,b,h=>by have:=CovO.le h.2.2.2;lia
theorem CovO.len:∀{p:List Run} {a b:Nat},CovO L x p a b->p.length+a<=b
 |[],_,_,h=>by have h:_=_:=h;simp;lia
 |(_,len,_)::r,a,b,h=>by have:=CovO.len h.2.2.2;have:=h.2.1;rw[BB];lia
theorem CovO.keepIn:∀{p:List Run} {a b:Nat},CovO L x p a b->(∀q,a<=q->q<b->x'[q]?=x[q]?)->CovO L x' p a b
 |[],_,_,h,_=>h
 |(_,len,_)::r,a,b,h,hk=>by
  have:=CovO.le h.2.2.2;exact{h.1,h.2.1,h.2.2.1.keep λq h1 h2=>hk q h1 (AN h2 this),CovO.keepIn h.2.2.2 λq h1 h2=>hk q (AZ (A2 _ _) h1) h2}
theorem CovO.keep{p:List Run}{b:Nat}(h:CovO L x p 0 b)(hk:∀q,q<b->x'[q]?=x[q]?):CovO L x' p 0 b:=h.keepIn λq _ hq=>hk q hq
theorem CovO.snoc:∀{p:List Run} {a b n k:Nat},CovO L x p a b->1<=n->Seg L x b n->CovO L x (p++[(b,n,k)]) a (b+n)
 |[],a,b,n,k,h,hn,s=>by
  have h:a=b:=h;subst h;exact{rfl,hn,s,rfl}
 |(_,len,_)::r,a,b,n,k,h,hn,s=>{h.1,h.2.1,h.2.2.1,CovO.snoc h.2.2.2 hn s}
theorem CovO.modify:∀{p:List Run} {a b i pw:Nat},CovO L x p a b->CovO L x (p.modify i λ(st,len,_)=>(st,len,pw)) a b
 |[],a,b,i,pw,h=>by simpa using h
 |(_,len,_)::r,a,b,0,pw,h=>{h.1,h.2.1,h.2.2.1,h.2.2.2}
 |(_,len,_)::r,a,b,i+1,pw,h=>by
  rw[List.modify_succ_cons];exact{h.1,h.2.1,h.2.2.1,CovO.modify h.2.2.2}
theorem CovO.last{p:List Run}{b:Nat}(h:CovO L x p 0 b)(hl:p.length<=1):Seg L x 0 b:=by
 match p,h,hl with
 |[],h,_ =>
  have h:0=b:=h;subst h;intro p q hq NR hp n6;lia
 |[(st,len,k)],h,_ =>
  obtain⟨_,_,s,e⟩:=h;have e:0+len=b:=e;have e':b=len:=by lia
  subst e';exact s
theorem CovO.at:∀{p:List Run} {a b i sa na pa sb nb pb:Nat},CovO L x p a b->p[i]?=AA (sa,na,pa)->p[i+1]?=AA (sb,nb,pb) ->
  (1<=na/\1<=nb/\sb=sa+na/\sb+nb<=b/\a<=sa)/\Seg L x sa na/\Seg L x sb nb /\
  ((∀q,q<sa\/sa+(na+nb)<=q->x'[q]?=x[q]?)->Seg L x' sa (na+nb)->CovO L x' ((p.set i (sa,na+nb,pa)).eraseIdx (i+1)) a b)
 |[],a,b,i,_,_,_,_,_,_,h,e,_=>by simp at e
 |[y],a,b,0,_,_,_,_,_,_,h,e,e2=>by simp at e2
 |y::z::r,a,b,0,sa,na,pa,sb,nb,pb,h,e,e2=>by
  simp at e e2;subst e;subst e2;obtain⟨h1,h2,h3,h4,h5,h6,h7⟩:=h;have:=h7.le;refine{{h2,h5,by lia,by lia,by lia},by rw[h1];exact h3,by rw[h4];exact h6,λhk s=>?_};show CovO L x' ((sa,na+nb,pa)::r) a b;refine{h1,AZ h2 (A2 _ _),by rw[<-h1];exact s,?_};rw[<-Nat.add_assoc];exact h7.keepIn λq h8 _=>hk q 'l'
 |(_,len,_)::r,a,b,i+1,sa,na,pa,sb,nb,pb,h,e,e2=>by
  obtain⟨⟨q1,q2,q3,q4,q5⟩,s1,s2,q6⟩:=CovO.at h.2.2.2 (by simpa using e) (by simpa using e2);exact{{q1,q2,q3,q4,AZ (A2 _ _) q5},s1,s2,λhk s=>{h.1,h.2.1,h.2.2.1.keep λq h8 h9=>hk q 'l',q6 hk s}}
end
section
variable{prog:CQ}{w:D3}{A:DQ}{E:AH->AT->Prop}{s:AT}{BU:Array BA}{kd:FK}{L:BA->BA->Bool}
structure SRO(L:BA->BA->Bool)(BU:Array BA)(kd:FK)(lo:Nat)(st:BP):Prop where
 sb:SB BU kd st
 cov:CovO L (AY st) (DK st).toList 0 lo
 le:lo<=BU.size
theorem Ud{st:BP}{i lo:Nat}{Q:Bool->BP->Prop}(hA:WL prog w A s kd BU L)(O:Ord L BU)(R:SRO L BU kd lo st)(hi:i+1<(DK st).size)
  (h:∀CU,SRO L BU kd lo CU->(DK CU).size+1=(DK st).size->(∀q,lo<=q->(AY CU)[q]?=(AY st)[q]?)->Q AL CU) :
  NV (A1 prog w) A E s (mergeAt' i) Q st:=by
 have Ko:i<(DK st).size:=AS (A2 _ _) hi;obtain⟨⟨sa,na,pa⟩,e1⟩:∃r:Run,(DK st)[i]?=AA r:={_,getElem?_pos _ i Ko};obtain⟨⟨sb,nb,pb⟩,e2⟩:∃r:Run,(DK st)[i+1]?=AA r:={_,getElem?_pos _ (i+1) hi};obtain⟨⟨q1,q2,q3,q4,q5⟩,s1,s2,_⟩:=R.cov.at (x':=AY st) (i:=i) (by rw[DA];exact e1) (by rw[DA];exact e2);refine zM3 hA O R.sb e1 e2 q1 q2 q3 (AZ q4 R.le) s1 s2 λCU hB hp sg hk=>?_;have kX:=hB.size;have X8:=R.sb.size
 have XO:∀q,q<sa\/sa+(na+nb)<=q->(AY CU)[q]?=(AY st)[q]?:=λq hq=>by
  by_cases z:q<BU.size
  .rw[getElem?_pos (AY CU) q 'l',getElem?_pos (AY st) q 'l',hk q 'l' 'l' hq]
  .rw[getElem?_neg (AY CU) q 'l',getElem?_neg (AY st) q 'l']
 have hz:i+1<((DK st).setIfInBounds i (sa,na+nb,pa)).size:=by rw[MH];exact hi
 refine h CU {hB,?_,R.le} ?_ λq hq=>XO q (.inr 'l')
 .rw[hp,VZ,dif_pos hz,Array.toList_eraseIdx,UC]
  exact(R.cov.at (x':=AY CU) (i:=i) (by rw[DA];exact e1) (by rw[DA];exact e2)).2.2.2 XO sg
 .rw[hp,VZ,dif_pos hz,Array.size_eraseIdx,MH]
  lia
theorem yHV{α:Type}{T:Nat->StateT BP SJ α}{M:Model}{A:DQ}{E:AH->AT->Prop}{s:AT}{Q:α->BP->Prop}{NT:Prop}(P:Nat->BP->Prop)(h1:(∀n st,P n st->NV M A E s (T n) Q st)->NT)(h2:∀n st,P n st->NV M A E s (T n) Q st):NT:=h1 h2
theorem zLB{st:BP}{Q:Unit->BP->Prop}(hA:WL prog w A s kd BU L)(O:Ord L BU)(hB:SB BU kd st)(hp:DK st=#[])
  (h:∀CU,SB BU kd CU->Seg L (AY CU) 0 BU.size->Q () CU):NV (A1 prog w) A E s sortRuns' Q st:=by
 rw[sortRuns'_eq];refine BJ (ND ?_);dsimp only;rw[hB.size]
 refine BJ (JN (F7 (I:=λx c CU=>∃lo,c=(AK,lo)/\SRO L BU kd lo CU/\x<=lo)
  (Q:=λc CU=>∃lo,c=(AK,lo)/\SRO L BU kd lo CU/\BU.size<=lo) ?step ((λc CU q0=>by obtain⟨lo,e,R,hx⟩:=q0;exact{lo,e,R,AZ (M8 _ _) hx})) {0,rfl,{hB,by rw[hp];rfl,BS _},AM _}) ?post)
 case step =>
  rintro x c CU _ hx ⟨lo,rfl,R,fR⟩;dsimp only;refine LK (λq=>?_) (λq=>?_)
  .exact BD {lo,rfl,R,q}
  refine BJ (zLA hA O 'l' 'l' R.sb λm st2 k2 W2 XN Hy=>?_);have R2:SRO L BU kd lo st2:={k2.1.1,by rw[k2.1.2];exact R.cov.keep λq hq=>k2.2 q hq,R.le};dsimp only
  refine yHV (λm KN=>SRO L BU kd lo KN/\Seg L (AY KN) lo m/\1<=m/\lo+m<=BU.size) (λK=>by
   refine LK (λJL=>?_) (λJL=>?_)
   case refine_2 =>
    have hP:SRO L BU kd lo st2/\Seg L (AY st2) lo m/\1<=m/\lo+m<=BU.size:={R2,Hy,W2,by lia}
    revert hP
    generalize m=m';exact λhP=>K m' _ hP
   case refine_1 =>
    refine BJ (P6 (FJ {rfl,?_}));refine BJ (zHJ hA O 'l' 'l' 'l' R2.sb Hy λKN hB3 hp3 qY ho3=>?_)
    exact K _ _ {{hB3,by rw[hp3];exact R2.cov.keep λq hq=>ho3 q hq,R2.le},qY,by lia,by lia}) ?_
  clear Hy k2 R2 W2 XN;rintro m KN ⟨R3,qY,W2,XN⟩;refine BJ (ND ?_);split
  .rename_i s1 n1 p1 hb
   refine BJ (JN (F7 (I:=λ_ c CU=>c=(AK,())/\SRO L BU kd lo CU/\Seg L (AY CU) lo _) (Q:=λc CU=>c=(AK,())/\SRO L BU kd lo CU/\Seg L (AY CU) lo _) ?st1 (λ_ _ h=>h) {rfl,R3,qY}) ?po1)
   case po1 =>
    rintro c iS ⟨rfl,R4,uJ⟩;refine BJ (MR (BJ (MR (BD {_,rfl,{{R4.sb.perm,R4.sb.kind,R4.sb.failed},?_,XN},EI fR W2}))));show CovO L (AY iS) (Array.push _ _).toList 0 _;rw[FD];refine CovO.snoc ?_ (W2) uJ;show CovO L (AY iS) (Array.modify _ _ _).toList 0 lo;rw[Array.toList_modify];exact R4.cov.modify
   case st1 =>
    rintro y c iS _ _ ⟨rfl,R4,uJ⟩;refine BJ (ND ?_)
    by_cases hz:(DK iS).size>1
    .rw[if_pos hz,getElem?_pos (DK iS) ((DK iS).size-2) 'l']
     refine LK (λ_=>?_) (λ_=>?_)
     .exact BD {rfl,R4,uJ}
     refine BJ (Ud hA O R4 'l' λiR R5 _ ho5=>?_);exact BD {rfl,R5,uJ.keep λq hq _=>ho5 q hq}
    .rw[if_neg hz]
     exact BD {rfl,R4,uJ}
  .refine BJ (MR (BD {_,rfl,{{R3.sb.perm,R3.sb.kind,R3.sb.failed},?_,XN},EI fR W2}))
   show CovO L _ (Array.push _ _).toList 0 _;rw[FD];exact R3.cov.snoc (W2) qY
 case post =>
  rintro c CU ⟨lo,rfl,R,hlo⟩;dsimp only;have UL:=R.le;have elo:lo=BU.size:=by lia
  subst elo;have hpz:=R.cov.len;refine BJ (JN (F7 (I:=λy c CU=>c=(AK,())/\SRO L BU kd BU.size CU/\(DK CU).size+y<=BU.size+1) (Q:=λc CU=>c=(AK,())/\SRO L BU kd BU.size CU/\(DK CU).size<=1) ?st2 ((λc CU q0=>by obtain⟨e,R,hs⟩:=q0;exact{e,R,by lia})) {rfl,R,by simp at hpz;lia}) ?po2)
  case po2 =>
   rintro c iS ⟨rfl,R4,h4⟩;exact BD (h _ R4.sb (R4.cov.last (by simpa using h4)))
  case st2 =>
   rintro y c iS _ _ ⟨rfl,R4,h4⟩;refine BJ (ND ?_);refine LK (λhz=>?_) (λhz=>?_)
   .exact BD {rfl,R4,hz}
   refine BJ (Ud hA O R4 ?_ λiR R5 hs5 _=>?_)
   .exact AS (Nat.add_le_add_right (yBY (n:=(DK iS).size-2) (DE _ _) (AM _)) 1) 'l'
   .exact BD {rfl,R5,by lia}
end
end TS
namespace TS
open PySem PySem.W PyProof.Rows
theorem yB3{vs:List AH}{LV:AH->AH->Bool}{xs:Array BA}(hp:xs.Perm (IB vs))(sg:Seg (λx y=>LV x.1 y.1) xs 0 (IB vs).size):(xs.map (·.2)).toList.Pairwise λx y=>LV y x=AD:=by
 rw[Array.toList_map,D2,EK];intro i j hi hj LX;have hz:=hp.size_eq;have SQ:i<xs.size:=by simpa using hi
 have bF:j<xs.size:=by simpa using hj
 have z:=sg i j bF LX (BS _) 'o'
 have same:∀x∈xs,x.1=x.2:=λx hx=>by
  have h1:x∈IB vs:=hp.mem_iff.mp hx;have h2:x∈vs.zip vs:=by rw[<-QC];exact G0.mpr h1
  exact(mem_zip_self h2).1
 have e1:=same _ (AG SQ);have e2:=same _ (AG bF);simp only[e1,e2] at z;simpa using z
section
variable{prog:CQ}{w:D3}{A:DQ}{E:AH->AT->Prop}{s:AT}
theorem zUB{a:AQ}{vs:List AH}{n:Nat}{R:eJ->AT->Prop}{LV:AH->AH->Bool}(O:Ord (λx y=>LV x.1 y.1) (IB vs))(ho:s.heap.get? a=AA (D8 "list" vs.toArray n))(hz:vs.length<=sizeLine)
  (hk:∀h6:D4,(∀b o,b≠a->s.heap.get? b=AA o->h6.get? b=AA o)->2<=vs.length->A0 (A1 prog w) A (keyKind' vs.toArray) (λk s'=>s'={ s with heap:=h6 }/\WL prog w A s' k (IB vs) (λx y=>LV x.1 y.1)) E { s with heap:=h6 })
  (h:∀out:List AH,out.Perm vs->(out.Pairwise λx y=>LV y x=AD)->R (.done (.ret .none)) { s with heap:=sortedHeap s.heap a vs out.toArray }):A0 (A1 prog w) A (FG.«list.sort» {[.ref a],[]}) R E s:=by
 have la:a<s.heap.objs.size:=A9 ho;have zs:vs.toArray.size<=sizeLine:=by simpa using hz
 rw[list_sort_plain];refine AB (eD ho rfl (AB (NX ho rfl ?_ zs (BS _))));have g1:=XA ho (λ_=>#[]);generalize Kr:s.heap.update a (DD λ_=>#[])=h1 at g1;have z1:h1.objs.size=s.heap.objs.size:=by rw[<-Kr,M4]
 have o1:∀b o,b≠a->s.heap.get? b=AA o->h1.get? b=AA o:=λb o hb e=>by rw[<-Kr,OZ _ _ _ _ hb];exact e
 refine AB (WC g1 rfl (AB (MS (AB (RF (CZ ?_))) (by simpa using hz))));generalize Zc:(h1.push (D8 "tuple" vs.toArray 0)).push (D8 "list" #[] 0)=h6;have uV:∀b o,h1.get? b=AA o->h6.get? b=AA o:=λb o e=>by rw[<-Zc];exact AF _ (AF _ e)
 have g6:=uV _ _ g1
 have fin:∀CU:BP,(AY CU).Perm (IB vs)->Seg (λx y=>LV x.1 y.1) (AY CU) 0 (IB vs).size->R (.done (.ret .none)) { s with heap:=h6.update a (DD λ_=>(AY CU).map (·.2)) }:=λCU hp sg=>by
  have q:=h _ (zK1 hp) (yB3 hp sg);unfold sortedHeap at q;rw[Kr,Zc,Array.toArray_toList] at q;exact q
 have Xr:∀CU:BP,(AY CU).Perm (IB vs)->((AY CU).map (·.2)).size<=sizeLine+1:=λCU hp=>by
  rw[Array.size_map,hp.size_eq,pairsOf_size];omega
 by_cases h2:vs.toArray.size<2
 .rw[if_pos h2,if_pos h2]
  refine AB (wpAny_pure ?_);dsimp only;rw[StateT.run_pure];refine AB (wpAny_pure (AB (WC g6 rfl ?_)));refine AB (NX g6 rfl ?_ (BS _) (Xr (SS general' (IB vs) #[] 7 AK) (PV _)));simp only[bne_self_eq_false,D7,if_false];exact wpAny_pure (fin (SS general' (IB vs) #[] 7 AK) (PV _) (λp q hq NR hp n6=>by rw[pairsOf_size] at n6;simp at h2;omega))
 .rw[if_neg h2,if_neg h2]
  refine AB (C7 (hk h6 (λb o hb e=>uV b o (o1 b o hb e)) (by simpa using h2)) (λk s7 ⟨e7,ask⟩=>?_) λ_ _ e=>e);subst e7;refine AB (C7 (zLB (st:=SS k (vs.toArray.zip vs.toArray) #[] 7 AK) (Q:=λ_ CU=>SB (IB vs) k CU/\Seg (λx y=>LV x.1 y.1) (AY CU) 0 (IB vs).size) ask O {PV _,rfl,rfl} rfl λCU b sg=>{b,sg}) ?_ λ_ _ e=>e);rintro⟨⟨⟩,CU⟩ s8 ⟨e8,B,sg⟩;subst e8;dsimp only;refine AB (WC g6 rfl (AB (NX g6 rfl ?_ (BS _) (Xr CU B.perm))));rw[B.failed];simp only[bne_self_eq_false,D7,if_false];exact wpAny_pure (fin CU B.perm sg)
theorem sorted_inO{l:AQ}{vs:List AH}{Q:AH->AT->Prop}{LV:AH->AH->Bool}(O:Ord (λx y=>LV x.1 y.1) (IB vs))(hl:s.heap.IsList l vs.toArray)(hz:vs.length<=sizeLine)
  (hk:∀h6:D4,(∀b o,s.heap.get? b=AA o->h6.get? b=AA o)->2<=vs.length->∀E',A0 (A1 prog w) A.in1.in1 (keyKind' vs.toArray) (λk s'=>s'={ s with heap:=h6 }/\WL prog w A.in1.in1 s' k (IB vs) (λx y=>LV x.1 y.1)) E' { s with heap:=h6 })
  (h:∀out:List AH,out.Perm vs->(out.Pairwise λx y=>LV y x=AD)->Q (.ref (s.heap.objs.size+1)) { s with heap:=sortedAll s.heap vs out.toArray }):A0 (A1 prog w) A (call (.builtin "sorted") [.ref l]) Q E s:=by
 refine UR kind_sorted plain_sorted entry_sorted (args_sorted1 _) ?_;unfold FG.«sorted»;refine AB (m:=checkCount "sorted" 1 1 _) (wpAny_pure (AB (collect_list hl (AB (RF ?_ hz)) hz)))
 have H9:∀b o,s.heap.get? b=AA o->((s.heap.push (D8 "list" #[] 0)).update s.heap.objs.size (DD (·++vs.toArray))).get? b=AA o:=λb o e=>by
  rw[OZ _ _ _ _ (CA (A9 e))];exact AF _ e
 have z2:((s.heap.push (D8 "list" #[] 0)).update s.heap.objs.size (DD (·++vs.toArray))).objs.size=s.heap.objs.size+1:=by rw[M4,YI]
 generalize hh2:(s.heap.push (D8 "list" #[] 0)).update s.heap.objs.size (DD (·++vs.toArray))=h2 at H9 z2;have gL:(h2.push (D8 "list" vs.toArray 0)).get? h2.objs.size=AA (D8 "list" vs.toArray 0):=AX _ rfl;show A0 _ _ _ _ _ { s with heap:=h2.push (D8 "list" vs.toArray 0) };refine AB (CZ (C3 slot_list_sort {_,gL,rfl} entry_list_sort (zUB O gL hz (λh6 o6 VF=>?_) λout ho n8=>{_,rfl,?_}) (args_list_sort _)))
 .exact hk h6 (λb o e=>o6 b o (by rw[z2];exact CA (JZ (A9 e))) (AF _ (H9 b o e))) VF _
 .have q:=h out ho n8
  unfold sortedAll at q;rw[hh2,<-z2] at q;exact wpAny_pure {_,rfl,q}
end
end TS
variable{β:Type}{F F' H₀ F1 F2:L2.Hp}{vs:List L2.V}{τ:AQ}{σ':L2.St}{UJ X4:AQ->Prop}{is:List Nat}{D':L2.Ends}{np:Nat}{xn:CT}{Z5:gK}{ps qs:List (Int×Int)}{cv:AH}
namespace L2
open PySem PySem.Spec PyProof.Rows
theorem zX7(BU:Array BA):TS.Ord (λx y=>decide (bH x.1<bH y.1)) BU where
 asym:=λx y _ _ h=>by
  have:=of_decide_eq_true h;exact decide_eq_false 'o'
 trans:=λx y z _ _ _ h1 h2=>by
  have a:=of_decide_eq_false h1;have b:=of_decide_eq_false h2;exact decide_eq_false 'o'
theorem zX8(h:GP us ns)(p:us.Pairwise λx y=>decide (bH y<bH x)=AD):ns.Pairwise (·<=·):=by
 rw[<-h.nums,D2];exact p.imp λh=>by have:=of_decide_eq_false h;omega
theorem yB4:∀{l:List α},2<=l.length->∃a b r,l=a::b::r
 |a::b::r,_=>{a,b,r,rfl}
 |[],h=>by simp at h
 |[_],h=>by simp at h
theorem TJ:CallR X (.builtin "sorted") (λxs H Q=>∃(l:AQ) (ns:List Int),xs=[.ref l]/\SqL X.K H l (ns.map V.int)/\∀(ms:List Int) (q:AQ),ms.Perm ns->ms.Pairwise (·<=·)->H q=AK->Q (.ref q) (D6 H q (.lst (ms.map V.int)))):=by
 intro AE s σ H xs us Q I r h;obtain⟨l,ns,rfl,hl,q⟩:=h;obtain⟨u,rfl,ru⟩:=ZV r;cases ru;obtain⟨BZ,rv,pl,z⟩:=I.list hl;have EX:=rv.length;have hi:GP BZ ns:=pY rv;refine TS.sorted_inO (LV:=λx y=>decide (bH x<bH y)) (zX7 _) pl.isList (by rw[<-EX];exact z) (λh6 o6 h2 E'=>?_) λout ho n8=>?_
 .obtain⟨v1,v2,vr,rfl⟩:=yB4 h2
  rw[keyKind_ints hi];refine wpAny_pure {rfl,λx y hx hy Q' E2 hq=>?_}
  have mem:∀x:BA,x∈IB (v1::v2::vr)->∃n t,x.1=.int n t:=λx hx=>by
   have:x∈(v1::v2::vr).zip (v1::v2::vr):=by rw[<-QC];exact G0.mpr hx
   obtain⟨i,SQ,ei⟩:=ZI.mp (JB this).1;obtain⟨t,et⟩:=IntsAre.int_at hi i x.1 (by rw[BO SQ,ei]);exact{_,t,et}
  obtain⟨n1,t1,e1⟩:=mem x hx;obtain⟨n2,t2,e2⟩:=mem y hy;dsimp only at hq;rw[e1,e2] at hq ⊢;exact PySem.W.kat_lt_int hq
 .obtain⟨zs,p,rz⟩:=Vals.perm ho rv
  obtain⟨e',wK⟩:=sortedAll_at s.heap BZ out.toArray;have hf:H (s.heap.objs.size+1)=AK:=I.hok.fresh (KM _);obtain⟨ms,rfl,pm⟩:=zQX p ns rfl;refine{.ref (s.heap.objs.size+1),_,I.laid (t':=s.toks) (o:=.lst (ms.map V.int)) (λb o hb=>sortedAll_old hb) (KM _) {?_,out,e',rz,wK},rfl,q ms _ pm (zX8 (pY rz) n8) hf};rw[p.length_eq];exact z
noncomputable def j7(h:D4):AH->Int×Int
 |.ref p=>match h.get? p with
  |some o=>match o.data with
   |.seq xs _=>(bH (xs.getD 0 .none),bH (xs.getD 1 .none))
   |_=>(0,0)
  |none=>(0,0)
 |_=>(0,0)
def TF(a b:Int×Int):Bool:=decide (a.1<b.1\/a.1=b.1/\a.2<b.2)
theorem zUC(h:D4)(BU:Array BA):TS.Ord (λx y=>TF (j7 h x.1) (j7 h y.1)) BU where
 asym:=λx y _ _ e=>by
  have:=of_decide_eq_true e;exact decide_eq_false 'o'
 trans:=λx y z _ _ _ h1 h2=>by
  have a:=of_decide_eq_false h1;have b:=of_decide_eq_false h2;exact decide_eq_false 'o'
def Prs(H:Hp)(ys:List V)(ps:List (Int×Int)):Prop:=Paired (λ(z:V) (p:Int×Int)=>∃q,z=.ref q/\H q=AA (.tup [.int p.1,.int p.2])) ys ps
theorem zUD{b fin:Bool}{Q:Bool->AT->Prop}{x1 y1 x2 y2:Int}{t1 t2 t3 t4:eE}(hf:fin=AD)(hq:Q (TF (x1,y1) (x2,y2)) s):PySem.W.KatLex prog w A b fin Q [(.int x1 t1,.int x2 t2),(.int y1 t3,.int y2 t4)] 0 s:=by
 have LO:∀{i:Nat} {u v:Int} {t t':eE},Q (decide (u<v)) s->A0 (A1 prog w) A (oneLt' (b&&i==0) (.int u t) (.int v t')) Q (λ_ _=>False) s:=λ{i u v t t'} h=>by
  cases hb:(b&&i==0) with
  |true=>exact oneLt_int h
  |false=>exact PySem.W.kat_one _ _ (lt_int h)
 refine aK (VN (eI (λh1=>bO (aK (VN (eI (λh2=>bO (PySem.W.kat_nil ?_)) λh2=>eG (LO ?_))))) λh1=>eG (LO ?_)))
 .have e1:x1=x2:=by simpa using h1
  have e2:y1=y2:=by simpa using h2
  subst e1;subst e2;rw[hf];have:TF (x1,y1) (x1,y1)=AD:=decide_eq_false 's';rw[this] at hq;exact hq
 .have e1:x1=x2:=by simpa using h1
  subst e1;have:TF (x1,y1) (x1,y2)=decide (y1<y2):=by unfold TF;simp
  rw[this] at hq;exact hq
 .have e1:¬x1=x2:=by simpa using h1
  have:TF (x1,y1) (x2,y2)=decide (x1<x2):=by unfold TF;simp[e1]
  rw[this] at hq;exact hq
theorem Prs.perm(p:zs.Perm ys):∀{ps:List (Int×Int)},Prs H ys ps->∃qs,qs.Perm ps/\Prs H zs qs:=by
 induction p with
 |nil=>intro ps r;cases r;exact{[],G4 _,.nil}
 |cons a _ ih =>
  intro ps r
  cases r with
  |cons h t =>
   obtain⟨qs,q,r'⟩:=ih t;exact{_::qs,q.cons _,.cons h r'}
 |swap a b l =>
  intro ps r
  cases r with
  |cons h t =>
   cases t with
   |cons h' t'=>exact{_::_::_,HW _ _ _,.cons h' (.cons h t')}
 |trans _ _ a7 ih2 =>
  intro ps r;obtain⟨qs,q,r'⟩:=ih2 r;obtain⟨us,q',uN⟩:=a7 r';exact{us,q'.trans q,uN}
theorem Mt(I:Inv X AE σ H s):∀{ys:List V} {us:List AH} {ps:List (Int×Int)},Vals ys us->Prs H ys ps ->
  (∀y∈ys,Mx H y)/\us.map (j7 s.heap)=ps/\∀u∈us,∃(p:AQ) (o:IE) (k:Nat) (x y:Int) (t1 t2:eE),u=.ref p/\s.heap.get? p=AA o/\o.data=.seq #[.int x t1,.int y t2] k/\j7 s.heap u=(x,y)
  := by
 intro ys
 induction ys with
 |nil=>intro us ps h1 h2;cases h1;cases h2;exact{(λy hy=>nomatch hy),rfl,(λu hu=>nomatch hu)}
 |cons y0 ys ih =>
  intro us ps h1 h2
  cases h1 with
  |cons r t =>
  cases h2 with
  |@cons _ pp _ _ pr t' =>
  obtain⟨q,e,hq⟩:=pr;obtain⟨i1,i2,i3⟩:=ih t t';subst e;cases r;obtain⟨BZ,rv,tp,_⟩:=I.tuple (SqT.of (K:=X.K) hq);have hi:GP BZ [pp.1,pp.2]:=pY (ns:=[pp.1,pp.2]) rv;obtain⟨o,ho,hc,k,hd⟩:=tp
  obtain⟨t1,t2,rfl⟩:∃t1 t2,BZ=[.int pp.1 t1,.int pp.2 t2]:=by
   cases hi with
   |cons _ t1 h2 =>
    cases h2 with
    |cons _ t2 h3=>cases h3;exact{t1,t2,rfl}
  have e2:j7 s.heap (.ref q)=(pp.1,pp.2):=by
   unfold j7;simp only[ho,hd]
   rfl
  refine{λy hy=>?_,?_,λv hv=>?_}
  .rcases BC.mp hy with rfl|hy
   .exact{q,pp.1,[pp.2],rfl,hq}
   .exact i1 y hy
  .rw[AV,i2,e2]
  .rcases BC.mp hv with rfl|hv
   .exact{q,o,k,pp.1,pp.2,t1,t2,rfl,ho,hd,e2}
   .exact i3 v hv
theorem zI6:CallR X (.builtin "sorted") (λxs H Q=>∃(l:AQ) (ys:List V) (ps:List (Int×Int)),xs=[.ref l]/\SqL X.K H l ys/\Prs H ys ps/\∀(zs:List V) (qs:List (Int×Int)) (q:AQ),zs.Perm ys->Prs H zs qs->qs.Perm ps->(qs.Pairwise λa b=>TF b a=AD)->H q=AK->Q (.ref q) (D6 H q (.lst zs))):=by
 intro AE s σ H xs us Q I r h;obtain⟨l,ys,ps,rfl,hl,iY,q⟩:=h;obtain⟨u,rfl,ru⟩:=ZV r;cases ru;obtain⟨BZ,rv,pl,z⟩:=I.list hl;have EX:=rv.length;obtain⟨ht,e0,Zw⟩:=Mt I rv iY;obtain⟨fs,f1,f2,f3,f4⟩:=Pd I rv ht;refine TS.sorted_inO (LV:=λx y=>TF (j7 s.heap x) (j7 s.heap y)) (zUC _ _) pl.isList (by rw[<-EX];exact z) (λh6 o6 h2 E'=>?_) λout ho n8=>?_
 .refine PySem.W.kat_kind (T:=.type "int") (Si o6 f2) (by rw[f1];omega) (λv hv=>?_) 'd' {rfl,λx y hx hy Q' E2 hq=>?_}
  .obtain⟨n,t,rfl⟩:=f3 v hv
   exact PySem.W.Looks.now
  .have mem:∀x:BA,x∈IB BZ->x.1∈BZ:=λx hx=>by
    have:x∈BZ.zip BZ:=by rw[<-QC];exact G0.mpr hx
    exact(JB this).1
   obtain⟨p1,o1,k1,x1,y1,t1,t2,e1,rF,hd1,ep1⟩:=Zw _ (mem x hx);obtain⟨p2,o2,k2,x2,y2,t3,t4,e2,ZA,fW,ep2⟩:=Zw _ (mem y hy);dsimp only at hq;rw[ep1,ep2] at hq;rw[e1,e2];exact PySem.W.kat_lt (o6 _ _ rF) hd1 (o6 _ _ ZA) fW (zUD rfl hq)
 .obtain⟨zs,p,rz⟩:=Vals.perm ho rv
  obtain⟨qs,pq,iX⟩:=Prs.perm p iY;obtain⟨_,e3,_⟩:=Mt I rz iX;obtain⟨e',wK⟩:=sortedAll_at s.heap BZ out.toArray;have hf:H (s.heap.objs.size+1)=AK:=I.hok.fresh (KM _)
  have pw:qs.Pairwise λa b=>TF b a=AD:=by
   rw[<-e3,D2];exact n8
  refine{.ref (s.heap.objs.size+1),_,I.laid (t':=s.toks) (o:=.lst zs) (λb o hb=>sortedAll_old hb) (KM _) {?_,out,e',rz,wK},rfl,q zs qs _ p iX pq pw hf};rw[p.length_eq];exact z
inductive D where
 |non|bl (b:Bool)|int (i:Int)|str (x:CT)|tup (xs:List D)|lst (xs:List D)
 |dk (kvs:List (Key×D))|dt (kvs:List (List Int×D))
inductive Out(α:Type) where
 |ok (a:α)|exc (c:Nat)|bad
noncomputable def Out.bind:Out α->(α->Out β)->Out β
 |.ok a,f=>f a
 |.exc c,_=>.exc c
 |.bad,_=>.bad
theorem pA3{x:Out α}{f:α->Out β}{b:β}(h:x.bind f=.ok b):∃a,x=.ok a/\f a=.ok b:=by
 cases x with
 |ok a=>exact{a,rfl,h}
 |exc c=>cases h
 |bad=>cases h
inductive Sl where
 |no|val (d:D)|own (t:Bool) (d:D)
abbrev Ev:=List Sl
def rT:HO->Prop
 |.dK _=>True
 |.dT _=>True
 |_=>False
def Le(F F':Hp):Prop:=∀a u,F a=AA u->F' a=AA u\/(rT u/\∃o,F' a=AA (.frz o u))\/∃t ps aZ,u=.tbl t ps/\F' a=AA (.tbl t aZ)
theorem Le.refl(F:Hp):Le F F:=λ_ _ h=>.inl h
theorem Le.trans{G:Hp}(x:Le F G)(y:Le G H):Le F H:=λa u e=>by
 rcases x a u e with h|⟨hd,o,h⟩|⟨t,ps,aZ,rfl,h⟩
 .exact y a u h
 .rcases y a _ h with h|⟨wF,_⟩|⟨_,_,_,z,_⟩
  .exact .inr (.inl {hd,o,h})
  .exact wF.elim
  .cases z
 .rcases y a _ h with h|⟨wF,_⟩|⟨_,_,_,z,h⟩
  .exact .inr (.inr {_,_,_,rfl,h})
  .exact wF.elim
  .cases z;exact .inr (.inr {_,_,_,rfl,h})
theorem Le.rd(l:Le F F'){u:HO}(h:Rd F a u)(hu:∀t ps,u≠.tbl t ps:=by intro _ _ z;cases z):Rd F' a u:=by
 rcases h with h|⟨o,h⟩
 .rcases l a u h with h|⟨_,o,h⟩|⟨_,_,_,z,_⟩
  .exact .inl h
  .exact .inr {o,h}
  .exact absurd z (hu _ _)
 .rcases l a _ h with h|⟨hd,_⟩|⟨_,_,_,z,_⟩
  .exact .inr {o,h}
  .exact hd.elim
  .cases z
theorem Le.tup{F F':Hp}(l:Le F F'){a:AQ}{vs:List V}(h:F a=AA (.tup vs)):F' a=AA (.tup vs):=by
 rcases l a _ h with h|⟨hd,_⟩|⟨_,_,_,z,_⟩
 .exact h
 .exact hd.elim
 .cases z
theorem Le.of_gr(g:Gr F F'):Le F F':=λa u e=>.inl (g a u e)
mutual
inductive Rep(K:AC)(F:Hp):V->D->Prop
 |non:Rep K F .non .non
 |bl (b:Bool):Rep K F (.bl b) (.bl b)
 |int (i:Int):Rep K F (.int i) (.int i)
 |str (x:CT):Rep K F (.str x) (.str x)
 |tup {a:AQ} {vs:List V} {ds:List D}:F a=AA (.tup vs)->Reps K F vs ds->Rep K F (.ref a) (.tup ds)
 |tupK {a:AQ} {xs:List CT}:SqT K (λ_=>AK) a (xs.map V.str)->xs≠[]->Rep K F (.ref a) (.tup (xs.map D.str))
 |lst {a:AQ} {vs:List V} {ds:List D}:SqL K F a vs->Reps K F vs ds->Rep K F (.ref a) (.lst ds)
 |dk {a:AQ} {kvs:List (Key×V)} {ds:List (Key×D)}:Rd F a (.dK kvs)->RepK K F kvs ds->Rep K F (.ref a) (.dk ds)
 |dt {a:AQ} {kvs:List (List Key×V)} {ds:List (List Int×D)}:Rd F a (.dT kvs)->RepT K F kvs ds->Rep K F (.ref a) (.dt ds)
inductive Reps(K:AC)(F:Hp):List V->List D->Prop
 |nil:Reps K F [] []
 |cons {v:V} {d:D} {vs:List V} {ds:List D}:Rep K F v d->Reps K F vs ds->Reps K F (v::vs) (d::ds)
inductive RepK(K:AC)(F:Hp):List (Key×V)->List (Key×D)->Prop
 |nil:RepK K F [] []
 |cons {k:Key} {v:V} {d:D} {vs:List (Key×V)} {ds:List (Key×D)}:Rep K F v d->RepK K F vs ds->RepK K F ((k,v)::vs) ((k,d)::ds)
inductive RepT(K:AC)(F:Hp):List (List Key×V)->List (List Int×D)->Prop
 |nil:RepT K F [] []
 |cons {k:List Int} {v:V} {d:D} {vs:List (List Key×V)} {ds:List (List Int×D)}:Rep K F v d->RepT K F vs ds->RepT K F ((k.map CS,v)::vs) ((k,d)::ds)
end
section
variable{K:AC}
theorem Rep.ind{P:V->D->Prop}{Q:List V->List D->Prop}{R:List (Key×V)->List (Key×D)->Prop}{T:List (List Key×V)->List (List Int×D)->Prop}
  (h1:P .non .non) (h2:∀b,P (.bl b) (.bl b)) (h3:∀i,P (.int i) (.int i)) (h4:∀x,P (.str x) (.str x))
  (h5:∀{a vs ds},F a=AA (.tup vs)->Reps K F vs ds->Q vs ds->P (.ref a) (.tup ds)) (h6:∀{a xs},SqT K (λ_=>AK) a (xs.map V.str)->xs≠[]->P (.ref a) (.tup (xs.map D.str)))
  (h7:∀{a vs ds},SqL K F a vs->Reps K F vs ds->Q vs ds->P (.ref a) (.lst ds)) (h8:∀{a kvs ds},Rd F a (.dK kvs)->RepK K F kvs ds->R kvs ds->P (.ref a) (.dk ds)) (h9:∀{a kvs ds},Rd F a (.dT kvs)->RepT K F kvs ds->T kvs ds->P (.ref a) (.dt ds))
  (q1:Q [] []) (q2:∀{v d vs ds},Rep K F v d->Reps K F vs ds->P v d->Q vs ds->Q (v::vs) (d::ds))
  (r1:R [] []) (r2:∀{k v d vs ds},Rep K F v d->RepK K F vs ds->P v d->R vs ds->R ((k,v)::vs) ((k,d)::ds))
  (t1:T [] []) (t2:∀{k:List Int} {v d vs ds},Rep K F v d->RepT K F vs ds->P v d->T vs ds->T ((k.map CS,v)::vs) ((k,d)::ds)) :
  (∀{v d},Rep K F v d->P v d)/\(∀{vs ds},Reps K F vs ds->Q vs ds)/\(∀{vs ds},RepK K F vs ds->R vs ds)/\∀{vs ds},RepT K F vs ds->T vs ds :=
 {λh=>Rep.rec (motive_1:=λv d _=>P v d) (motive_2:=λv d _=>Q v d) (motive_3:=λv d _=>R v d) (motive_4:=λv d _=>T v d) h1 h2 h3 h4 h5 h6 h7 h8 h9 q1 q2 r1 r2 t1 t2 h,
  λh=>Reps.rec (motive_1:=λv d _=>P v d) (motive_2:=λv d _=>Q v d) (motive_3:=λv d _=>R v d) (motive_4:=λv d _=>T v d) h1 h2 h3 h4 h5 h6 h7 h8 h9 q1 q2 r1 r2 t1 t2 h,
  λh=>RepK.rec (motive_1:=λv d _=>P v d) (motive_2:=λv d _=>Q v d) (motive_3:=λv d _=>R v d) (motive_4:=λv d _=>T v d) h1 h2 h3 h4 h5 h6 h7 h8 h9 q1 q2 r1 r2 t1 t2 h,
  λh=>RepT.rec (motive_1:=λv d _=>P v d) (motive_2:=λv d _=>Q v d) (motive_3:=λv d _=>R v d) (motive_4:=λv d _=>T v d) h1 h2 h3 h4 h5 h6 h7 h8 h9 q1 q2 r1 r2 t1 t2 h}
theorem pA4(l:Le F F'):(∀{v d},Rep K F v d->Rep K F' v d)/\(∀{vs ds},Reps K F vs ds->Reps K F' vs ds)/\(∀{vs ds},RepK K F vs ds->RepK K F' vs ds)/\∀{vs ds},RepT K F vs ds->RepT K F' vs ds :=
 Rep.ind .non .bl .int .str (λh _ r=>.tup (l.tup h) r) (λh n=>.tupK h n) (λh _ r=>.lst (h.imp (λz=>l.rd z) id) r) (λh _ r=>.dk (l.rd h) r) (λh _ r=>.dt (l.rd h) r) .nil (λ_ _ h r=>.cons h r) .nil (λ_ _ h r=>.cons h r) .nil (λ_ _ h r=>.cons h r)
theorem Rep.le(l:Le F F'){d:D}(r:Rep K F v d):Rep K F' v d:=(pA4 l).1 r
theorem Reps.le(l:Le F F'){v:List V}{d:List D}(r:Reps K F v d):Reps K F' v d:=(pA4 l).2.1 r
theorem RepK.le(l:Le F F'){v:List (Key×V)}{d:List (Key×D)}(r:RepK K F v d):RepK K F' v d:=(pA4 l).2.2.1 r
theorem RepT.le(l:Le F F'){v:List (List Key×V)}{d:List (List Int×D)}(r:RepT K F v d):RepT K F' v d:=(pA4 l).2.2.2 r
theorem Rep.vI{i:Int}(r:Rep K F v (.int i)):v=.int i:=by cases r;rfl
theorem Rep.vB{b:Bool}(r:Rep K F v (.bl b)):v=.bl b:=by cases r;rfl
theorem Rep.vS(r:Rep K F v (.str x)):v=.str x:=by cases r;rfl
theorem Rep.vN(r:Rep K F v .non):v=.non:=by cases r;rfl
theorem Reps.rec1{Q:List V->List D->Prop}(q1:Q [] [])(q2:∀{v d vs ds},Rep K F v d->Reps K F vs ds->Q vs ds->Q (v::vs) (d::ds)){ds:List D}(h:Reps K F vs ds):Q vs ds :=
 (Rep.ind (P:=λ_ _=>True) (Q:=Q) (R:=λ_ _=>True) (T:=λ_ _=>True) trivial (λ_=>trivial) (λ_=>trivial) (λ_=>trivial) (λ_ _ _=>trivial) (λ_ _=>trivial) (λ_ _ _=>trivial) (λ_ _ _=>trivial) (λ_ _ _=>trivial) q1 (λh r _ ih=>q2 h r ih) trivial (λ_ _ _ _=>trivial) trivial (λ_ _ _ _=>trivial)).2.1 h
theorem RepK.rec1{R:List (Key×V)->List (Key×D)->Prop}(r1:R [] [])(r2:∀{k v d vs ds},Rep K F v d->RepK K F vs ds->R vs ds->R ((k,v)::vs) ((k,d)::ds)){vs:List (Key×V)}{ds:List (Key×D)}(h:RepK K F vs ds):R vs ds :=
 (Rep.ind (P:=λ_ _=>True) (Q:=λ_ _=>True) (R:=R) (T:=λ_ _=>True) trivial (λ_=>trivial) (λ_=>trivial) (λ_=>trivial) (λ_ _ _=>trivial) (λ_ _=>trivial) (λ_ _ _=>trivial) (λ_ _ _=>trivial) (λ_ _ _=>trivial) trivial (λ_ _ _ _=>trivial) r1 (λh r _ ih=>r2 h r ih) trivial (λ_ _ _ _=>trivial)).2.2.1 h
theorem RepT.rec1{T:List (List Key×V)->List (List Int×D)->Prop}(t1:T [] [])(t2:∀{k:List Int} {v d vs ds},Rep K F v d->RepT K F vs ds->T vs ds->T ((k.map CS,v)::vs) ((k,d)::ds)){vs:List (List Key×V)}{ds:List (List Int×D)}(h:RepT K F vs ds):T vs ds :=
 (Rep.ind (P:=λ_ _=>True) (Q:=λ_ _=>True) (R:=λ_ _=>True) (T:=T) trivial (λ_=>trivial) (λ_=>trivial) (λ_=>trivial) (λ_ _ _=>trivial) (λ_ _=>trivial) (λ_ _ _=>trivial) (λ_ _ _=>trivial) (λ_ _ _=>trivial) trivial (λ_ _ _ _=>trivial) trivial (λ_ _ _ _=>trivial) t1 (λh r _ ih=>t2 h r ih)).2.2.2 h
theorem Reps.length{vs:List V}{ds:List D}(r:Reps K F vs ds):vs.length=ds.length :=
 r.rec1 (Q:=λvs ds=>vs.length=ds.length) rfl λ_ _ ih=>congrArg (·+1) ih
theorem Reps.append{ws:List V}{ds es:List D}(r:Reps K F vs ds)(s:Reps K F ws es):Reps K F (vs++ws) (ds++es) :=
 r.rec1 (Q:=λvs ds=>Reps K F (vs++ws) (ds++es)) s λh _ ih=>.cons h ih
theorem Reps.get{ds:List D}{d:D}(r:Reps K F vs ds):ds[i]?=AA d->∃v,vs[i]?=AA v/\Rep K F v d :=
 r.rec1 (Q:=λvs ds=>∀i,ds[i]?=AA d->∃v,vs[i]?=AA v/\Rep K F v d) (λ_ e=>by simp at e) (λh _ ih i e=>by
  cases i with
  |zero=>cases e;exact{_,rfl,h}
  |succ i=>exact ih i e) i
theorem Reps.set{vs:List V}{ds:List D}(i:Nat){v:V}{d:D}(r:Reps K F vs ds)(h:Rep K F v d):Reps K F (vs.set i v) (ds.set i d) :=
 r.rec1 (Q:=λvs ds=>∀i,Reps K F (vs.set i v) (ds.set i d)) (λ_=>.nil) (λq r ih i=>by
  cases i with
  |zero=>exact .cons h r
  |succ i=>exact .cons q (ih i)) i
theorem Reps.take{vs:List V}{ds:List D}(n:Nat)(r:Reps K F vs ds):Reps K F (vs.take n) (ds.take n) :=
 r.rec1 (Q:=λvs ds=>∀n,Reps K F (vs.take n) (ds.take n)) (λn=>by rw[List.take_nil,List.take_nil];exact .nil) (λq r ih n=>by
  cases n with
  |zero=>exact .nil
  |succ n=>exact .cons q (ih n)) n
theorem Reps.drop{vs:List V}{ds:List D}(n:Nat)(r:Reps K F vs ds):Reps K F (vs.drop n) (ds.drop n) :=
 r.rec1 (Q:=λvs ds=>∀n,Reps K F (vs.drop n) (ds.drop n)) (λn=>by rw[List.drop_nil,List.drop_nil];exact .nil) (λq r ih n=>by
  cases n with
  |zero=>exact .cons q r
  |succ n=>exact ih n) n
theorem Reps.reverse{vs:List V}{ds:List D}(r:Reps K F vs ds):Reps K F vs.reverse ds.reverse :=
 r.rec1 (Q:=λvs ds=>Reps K F vs.reverse ds.reverse) .nil λh _ ih=>by rw[IF,IF];exact ih.append (.cons h .nil)
theorem Reps.eraseIdx{vs:List V}{ds:List D}(i:Nat)(r:Reps K F vs ds):Reps K F (vs.eraseIdx i) (ds.eraseIdx i) :=
 r.rec1 (Q:=λvs ds=>∀n,Reps K F (vs.eraseIdx n) (ds.eraseIdx n)) (λn=>.nil) (λq r ih n=>by
  cases n with
  |zero=>exact r
  |succ n=>exact .cons q (ih n)) i
theorem Reps.rep(n:Nat){ds:List D}(r:Reps K F vs ds):Reps K F (BG n vs).flatten (BG n ds).flatten:=by
 induction n with
 |zero=>exact .nil
 |succ n ih=>rw[EM,G2,EM,G2];exact r.append ih
theorem Reps.nil_iff{ds:List D}(r:Reps K F vs ds):vs=[]↔ds=[]:=by cases r<;>simp
theorem Reps.ints:∀ns:List Int,Reps K F (ns.map V.int) (ns.map D.int)
 |[]=>.nil
 |n::ns=>.cons (.int n) (Reps.ints ns)
theorem Reps.vint(r:Reps K F vs (ns.map D.int)):vs=ns.map V.int :=
 r.rec1 (Q:=λvs ds=>∀bs:List Int,ds=bs.map D.int->vs=bs.map V.int) (λbs e=>by cases bs with
  |nil=>rfl
  |cons=>cases e) (λh _ ih bs e=>by
  cases bs with
  |nil=>cases e
  |cons b bs=>cases e;rw[h.vI,ih bs rfl];rfl) ns rfl
theorem Reps.vbl{bs:List Bool}(r:Reps K F vs (bs.map D.bl)):vs=bs.map V.bl :=
 r.rec1 (Q:=λvs ds=>∀bs:List Bool,ds=bs.map D.bl->vs=bs.map V.bl) (λbs e=>by cases bs with
  |nil=>rfl
  |cons=>cases e) (λh _ ih bs e=>by
  cases bs with
  |nil=>cases e
  |cons b bs=>cases e;rw[h.vB,ih bs rfl];rfl) bs rfl
theorem pA5{bs:List CT}(r:Reps K F vs (bs.map D.str)):vs=bs.map V.str :=
 r.rec1 (Q:=λvs ds=>∀bs:List CT,ds=bs.map D.str->vs=bs.map V.str) (λbs e=>by cases bs with
  |nil=>rfl
  |cons=>cases e) (λh _ ih bs e=>by
  cases bs with
  |nil=>cases e
  |cons b bs=>cases e;rw[h.vS,ih bs rfl];rfl) bs rfl
end
def Sub(F H:Hp):Prop:=∀a u,F a=AA u->H a=AA u
theorem Sub.rd(s:Sub F H){u:HO}(h:Rd F a u):Rd H a u:=h.imp (s a u) (λq0=>by obtain⟨o,h⟩:=q0;exact{o,s a _ h})
def OwnAt(K:AC)(F H:Hp)(a:AQ):D->Prop
 |.lst ds=>∃vs,H a=AA (.lst vs)/\Reps K F vs ds
 |.dk ds=>∃kvs,H a=AA (.dK kvs)/\RepK K F kvs ds
 |.dt ds=>∃kvs,H a=AA (.dT kvs)/\RepT K F kvs ds
 |_=>False
def jY:HO->Prop
 |.lst _=>True
 |.dK _=>True
 |.dT _=>True
 |_=>False
theorem OwnAt.ho{K:AC}{d:D}(h:OwnAt K F H a d):∃o,H a=AA o/\jY o:=by
 cases d with
 |lst ds=>obtain⟨vs,e,_⟩:=h;exact{_,e,trivial}
 |dk ds=>obtain⟨vs,e,_⟩:=h;exact{_,e,trivial}
 |dt ds=>obtain⟨vs,e,_⟩:=h;exact{_,e,trivial}
 |_=>exact h.elim
theorem OwnAt.mono{K:AC}{d:D}(h:OwnAt K F H a d)(l:Le F F')(e:H' a=H a):OwnAt K F' H' a d:=by
 cases d with
 |lst ds=>obtain⟨vs,q,r⟩:=h;exact{vs,e.trans q,r.le l}
 |dk ds=>obtain⟨vs,q,r⟩:=h;exact{vs,e.trans q,r.le l}
 |dt ds=>obtain⟨vs,q,r⟩:=h;exact{vs,e.trans q,r.le l}
 |_=>exact h.elim
theorem OwnAt.rep{K:AC}{d:D}(h:OwnAt K F H a d)(n:F a=AK)(eo:H a=AA o):Rep K (D6 F a o) (.ref a) d:=by
 have l:Le F (D6 F a o):=.of_gr (Gr.new n)
 cases d with
 |lst ds=>obtain⟨vs,q,r⟩:=h;rw[eo] at q;cases q;exact .lst (.inl (.inl HB)) (r.le l)
 |dk ds=>obtain⟨vs,q,r⟩:=h;rw[eo] at q;cases q;exact .dk (.inl HB) (r.le l)
 |dt ds=>obtain⟨vs,q,r⟩:=h;rw[eo] at q;cases q;exact .dt (.inl HB) (r.le l)
 |_=>exact h.elim
def DY(σ:St)(E:Ev)(a:AQ):Prop:=∃(i:Nat) (t:Bool) (d:D),E[i]?=AA (Sl.own t d)/\σ[i]?=AA (AA (V.ref a))
structure Sim(K:AC)(H₀:Hp)(τ:AQ)(F H:Hp)(σ:St)(E:Ev):Prop where
 sub:Sub F H
 len:E.length=σ.length
 val:∀(i:Nat) d,E[i]?=AA (.val d)->∃v,σ[i]?=AA (AA v)/\Rep K F v d
 own:∀(i:Nat) t d,E[i]?=AA (.own t d)->∃a,σ[i]?=AA (AA (.ref a))/\F a=AK/\OwnAt K F H a d/\(∀o u,H₀ a≠AA (.frz o u))/\(t=AL->τ=a)
 inj:∀(i j:Nat) t u d e a,E[i]?=AA (.own t d)->E[j]?=AA (.own u e)->σ[i]?=AA (AA (.ref a))->σ[j]?=AA (AA (.ref a))->i=j
def Nw(H:Hp)(a:AQ):Prop:=∀o,H a=AA o->¬jY o
theorem Nw.none{H:Hp}{a:AQ}(h:H a=AK):Nw H a:=λo e=>by rw[h] at e;cases e
structure Stp(ow:AQ->Prop)(F H F' H':Hp)(X4:AQ->Prop):Prop where
 keep:∀a o,H a=AA o->jY o->F a=AK->¬ow a->H' a=AA o
 dom:∀a,H' a=AK->H a=AK
 le:Le F F'
 new:∀a o,F' a=AA o->F a≠AK\/Nw H a\/ow a
 own:∀a,X4 a->ow a\/H a=AK
variable{E':Ev}
section
variable{K:AC}{E:Ev}{ow An:AQ->Prop}
theorem Stp.refl:Stp ow F H F H ow:={λ_ _ h _ _ _=>h,λ_ h=>h,.refl _,λa o e=>.inl (by rw[e];exact nofun),λ_ h=>.inl h}
theorem Stp.nF(x:Stp ow F H F1 H1 UJ)(hf:F a=AK)(e:H a=AA o)(hw:jY o)(ho:¬ow a):F1 a=AK:=by
 cases e1:F1 a with
 |none=>rfl
 |some u =>
  rcases x.new a u e1 with z|z|z
  .exact absurd hf z
  .exact absurd hw (z o e)
  .exact absurd z ho
theorem Stp.nw(x:Stp ow F H F1 H1 UJ)(z:Nw H1 a):F a≠AK\/Nw H a\/ow a:=by
 by_cases h1:F a=AK
 .by_cases h2:ow a
  .exact .inr (.inr h2)
  .exact .inr (.inl λo e hw=>z o (x.keep a o e hw h1 h2) hw)
 .exact .inl h1
theorem Stp.trans(x:Stp ow F H F1 H1 UJ)(y:Stp UJ F1 H1 F2 H2 An):Stp ow F H F2 H2 An:=by
 have o1:∀a,H a≠AK->¬ow a->¬UJ a:=λa hh ho z=>(x.own a z).elim ho hh;refine{λa o e hw hf ho=>?_,λa h=>x.dom a (y.dom a h),x.le.trans y.le,λa o e=>?_,λa h=>?_}
 .have hh:H a≠AK:=by rw[e];exact nofun
  exact y.keep a o (x.keep a o e hw hf ho) hw (x.nF hf e hw ho) (o1 a hh ho)
 .rcases y.new a o e with z|z|z
  .cases e1:F1 a with
   |none=>exact absurd e1 z
   |some u=>exact x.new a u e1
  .exact x.nw z
  .exact(x.own a z).elim (λq=>.inr (.inr q)) λq=>.inr (.inl (.none q))
 .exact(y.own a h).elim (x.own a) λq=>.inr (x.dom a q)
theorem Stp.weak(x:Stp ow F H F1 H1 UJ)(h:∀a,An a->UJ a):Stp ow F H F1 H1 An:={x.keep,x.dom,x.le,x.new,λa q=>x.own a (h a q)}
def New(F H F' H':Hp):Prop:=Stp (λ_=>False) F H F' H' (λ_=>False)/\Sub F' H'
theorem New.stp(n:New F H F' H'):Stp ow F H F' H' ow :=
 {λa o e hw hf _=>n.1.keep a o e hw hf id,n.1.dom,n.1.le,λa o e=>(n.1.new a o e).elim .inl λz=>z.elim (λz=>.inr (.inl z)) λz=>z.elim,λ_ h=>.inl h}
theorem New.refl(s:Sub F H):New F H F H:={Stp.refl,s}
theorem New.trans(x:New F H F1 H1)(y:New F1 H1 F2 H2):New F H F2 H2:={x.1.trans y.1,y.2}
theorem New.laid{p:AQ}(s:Sub F H)(h:H p=AK):New F H (D6 F p o) (D6 H p o):=by
 have hf:F p=AK:=by
  cases e:F p with
  |none=>rfl
  |some u=>rw[s p u e] at h;cases h
 refine{{λa u e _ _ _=>by rw[EV (UX e h)];exact e,λa e=>?_,.of_gr (Gr.new hf),λa u e=>?_,λ_ z=>z.elim},λa u e=>?_}
 .by_cases ha:a=p
  .subst ha;rw[HB] at e;cases e
  .rw[EV ha] at e;exact e
 .by_cases ha:a=p
  .subst ha;exact .inr (.inl (.none h))
  .rw[EV ha] at e;exact .inl (by rw[e];exact nofun)
 .by_cases ha:a=p
  .subst ha;rw[HB] at e ⊢;exact e
  .rw[EV ha] at e ⊢;exact s a u e
theorem Gr.dom(g:Gr H H')(a:AQ)(e:H' a=AK):H a=AK:=by
 cases q:H a with
 |none=>rfl
 |some o=>rw[g a o q] at e;cases e
theorem pA6(s:Sub F H)(g:Gr H H'):New F H F H' :=
 {{λa o e _ _ _=>g a o e,g.dom,.refl _,λa o e=>.inl (by rw[e];exact nofun),λ_ z=>z.elim},λa u e=>g a u (s a u e)}
def gro(F H H':Hp):Hp:=λa=>match H a with|none=>H' a|some _=>F a
theorem yC(h:H a=AK):gro F H H' a=H' a:=by unfold gro;rw[h]
theorem Dq(h:H a=AA o):gro F H H' a=F a:=by unfold gro;rw[h]
theorem New.gro(s:Sub F H)(g:Gr H H'):New F H (gro F H H') H':=by
 refine{{λa o e _ _ _=>g a o e,g.dom,.of_gr λa u e=>by rw[Dq (s a u e)];exact e,λa o e=>?_,λ_ z=>z.elim},λa u e=>?_}
 .cases q:H a with
  |none=>exact .inr (.inl (.none q))
  |some v=>rw[Dq q] at e;exact .inl (by rw[e];exact nofun)
 .cases q:H a with
  |none=>rw[yC q] at e;exact e
  |some v=>rw[Dq q] at e;exact g a u (s a u e)
theorem Sim.new(S:Sim K H₀ τ F H σ E)(n:New F H F' H'):Sim K H₀ τ F' H' σ E where
 sub:=n.2
 len:=S.len
 val:=λi d e=>let ⟨v,h1,h2⟩:=S.val i d e;{v,h1,h2.le n.1.le}
 own:=λi t d e=>by
  obtain⟨a,h1,h2,h3,h4⟩:=S.own i t d e;obtain⟨o,ho,hw⟩:=h3.ho;exact{a,h1,n.1.nF h2 ho hw id,h3.mono n.1.le ((n.1.keep a o ho hw h2 id).trans ho.symm),h4}
 inj:=S.inj
theorem Sim.fresh(S:Sim K H₀ τ F H σ E)(h:H a=AK):¬DY σ E a:=λq0=>by
 obtain⟨i,t,d,e,e'⟩:=q0;obtain⟨b,h1,_,h3,_⟩:=S.own i t d e;rw[e'] at h1;cases h1;obtain⟨o,ho,_⟩:=h3.ho;rw[h] at ho;cases ho
end
abbrev G:=Ev->Out (D×Ev)
def tV(K:AC)(H₀:Hp)(g:G):TE:=λσ H Q=>∃τ F E d E',Sim K H₀ τ F H σ E/\g E=.ok (d,E') /\
 ∀v F' H',Stp (DY σ E) F H F' H' (DY σ E')->Sim K H₀ τ F' H' σ E'->Rep K F' v d->Q v H'
def tF(K:AC)(H₀:Hp)(g:G):TE:=λσ H Q=>∃τ F E d E',Sim K H₀ τ F H σ E/\g E=.ok (d,E') /\
 ∀a F' H',Stp (DY σ E) F H F' H' (DY σ E')->Sim K H₀ τ F' H' σ E'->F' a=AK->H a=AK->OwnAt K F' H' a d->¬DY σ E' a->Q (.ref a) H'
def tT(K:AC)(H₀:Hp)(g:Ev->Out (Bool×Ev)):TT:=λσ H Q=>∃τ F E b E',Sim K H₀ τ F H σ E/\g E=.ok (b,E') /\
 ∀F' H',Stp (DY σ E) F H F' H' (DY σ E')->Sim K H₀ τ F' H' σ E'->Q b H'
theorem PE.imp{t t':TE}(h:PE X e t)(hi:∀σ H Q,t' σ H Q->t σ H Q):PE X e t':=λAE s σ H Q I q=>h AE s σ H Q I (hi σ H Q q)
theorem PT.imp{t t':TT}(h:PT X e t)(hi:∀σ H Q,t' σ H Q->t σ H Q):PT X e t':=λAE s σ H Q I q=>h AE s σ H Q I (hi σ H Q q)
theorem PW.imp{t t':TT}(h:PW X e t)(hi:∀σ H Q,t' σ H Q->t σ H Q):PW X e t':=λw AE s σ H Q I q=>h w AE s σ H Q I (hi σ H Q q)
theorem PS.imp{e:E6}{t t':TS}(h:PS X e t)(hi:∀D σ H,t' D σ H->t D σ H):PS X e t':=λAE s σ H D I q=>h AE s σ H D I (hi D σ H q)
theorem PSs.imp{e:List E6}{t t':TS}(h:PSs X e t)(hi:∀D σ H,t' D σ H->t D σ H):PSs X e t':=λAE s σ H D I q=>h AE s σ H D I (hi D σ H q)
abbrev VE(X:Cx)(e:C8)(g:G):Prop:=PE X e (tV X.K X.H₀ g)
abbrev FE(X:Cx)(e:C8)(g:G):Prop:=PE X e (tF X.K X.H₀ g)
abbrev VT(X:Cx)(e:C8)(g:Ev->Out (Bool×Ev)):Prop:=PT X e (tT X.K X.H₀ g)
section
variable{a b:C8}{g ga gb gc:G}{K:AC}
theorem pA7{Q:VK}(h:tV K H₀ g σ H Q):tF K H₀ g σ H Q:=by
 obtain⟨τ,F,E,d,E',S,hg,k⟩:=h;refine{τ,F,E,d,E',S,hg,λp F' H' st S' n n0 ow no=>?_};obtain⟨o,ho,hown⟩:=ow.ho
 have nw:Stp (DY σ E) F H (D6 F' p o) H' (DY σ E'):={st.keep,st.dom,st.le.trans (.of_gr (Gr.new n)),λa u e=>by
  by_cases ha:a=p
  .subst ha;exact .inr (.inl (.none n0))
  .rw[EV ha] at e;exact st.new a u e,st.own}
 refine k _ _ _ nw {λa u e=>?_,S'.len,λi d e=>?_,λi t d e=>?_,S'.inj} (ow.rep n ho)
 .by_cases ha:a=p
  .subst ha;rw[HB] at e;rw[ho];exact e
  .rw[EV ha] at e;exact S'.sub a u e
 .obtain⟨v,h1,h2⟩:=S'.val i d e;exact{v,h1,h2.le (.of_gr (Gr.new n))}
 .obtain⟨b,h1,h2,h3,h4⟩:=S'.own i t d e
  refine{b,h1,?_,h3.mono (.of_gr (Gr.new n)) rfl,h4};rw[EV (λz=>no {i,t,d,e,by rw[<-z];exact h1})];exact h2
theorem pA8(h:FE X e g):VE X e g:=PE.imp h λ_ _ _ q=>pA7 q
noncomputable def A6(i:Nat):G:=λE=>match E[i]? with
 |some (.val d)=>.ok (d,E)
 |some (.own AD d)=>.ok (d,E.set i (.val d))
 |_=>.bad
def gC(d:D):G:=λE=>.ok (d,E)
theorem Sim.share{E:Ev}{t:Bool}{d:D}(S:Sim K H₀ τ F H σ E)(e:E[i]?=AA (.own t d)) :
  ∃a F',σ[i]?=AA (AA (.ref a))/\Stp (DY σ E) F H F' H (DY σ (E.set i (.val d)))/\Sim K H₀ τ F' H σ (E.set i (.val d))/\Rep K F' (.ref a) d:=by
 obtain⟨a,h1,h2,h3,h4⟩:=S.own i t d e;obtain⟨o,ho,_⟩:=h3.ho;have hi:i<E.length:=(AR.mp e).1;have l:Le F (D6 F a o):=.of_gr (Gr.new h2)
 have H9:∀(j:Nat) t d',(E.set i (.val d))[j]?=AA (.own t d')->j≠i/\E[j]?=AA (.own t d'):=λj t d' q=>by
  by_cases hj:i=j
  .subst hj;rw[BF hi] at q;cases q
  .rw[A5 hj] at q;exact{E8 hj,q}
 refine{a,D6 F a o,h1,{λ_ _ q _ _ _=>q,λ_ q=>q,l,λb u q=>?_,λb ⟨j,t',d',q1,q2⟩=>.inl {j,t',d',(H9 j t' d' q1).2,q2}},{λb u q=>?_,by rw[B9];exact S.len,λj d' q=>?_,λj t' d' q=>?_,λj k t1 t2 d1 d2 b q1 q2=>S.inj j k t1 t2 d1 d2 b (H9 _ _ _ q1).2 (H9 _ _ _ q2).2},h3.rep h2 ho}
 .by_cases hb:b=a
  .subst hb;exact .inr (.inr {i,t,d,e,h1})
  .rw[EV hb] at q;exact .inl (by rw[q];exact nofun)
 .by_cases hb:b=a
  .subst hb;rw[HB] at q;rw[ho];exact q
  .rw[EV hb] at q;exact S.sub b u q
 .by_cases hj:i=j
  .subst hj;rw[BF hi] at q;cases q;exact{_,h1,h3.rep h2 ho}
  .rw[A5 hj] at q
   obtain⟨v,z1,z2⟩:=S.val j d' q;exact{v,z1,z2.le l}
 .obtain⟨hj,q⟩:=H9 j t' d' q
  obtain⟨b,z1,z2,z3,z4⟩:=S.own j t' d' q;refine{b,z1,?_,z3.mono l rfl,z4};rw[EV (λz=>hj (S.inj j i t' t d' d a q e (by rw[z1,z]) h1))];exact z2
theorem CP(i:Nat)(hN:X.N[i]?=AA x:=by rfl)(hv:Z2 X.env.scope x:=by first|exact BN rfl|exact EF (BN rfl)|exact EF (EF rfl))(hd:(x==("__debug__":CT))=AD:=by decide)
  (L9:(x==("__classdict__":CT))=AD:=by decide):VE X (.Name x pos) (A6 i):=(iD hN hv hd L9).imp λσ H Q h=>by
 obtain⟨τ,F,E,d,E',S,hg,k⟩:=h;unfold A6 at hg;split at hg
 .cases hg
  rename_i e;obtain⟨v,h1,h2⟩:=S.val i _ e;exact{v,h1,k v F H .refl S h2}
 .cases hg
  rename_i e;obtain⟨a,F',h1,h2,h3,h4⟩:=S.share e;exact{_,h1,k _ F' H h2 h3 h4}
 .cases hg
theorem Gc{d:D}(r:∀F,Rep K F v d){Q:VK}(h:tV K H₀ (gC d) σ H Q):tC v σ H Q:=by
 obtain⟨τ,F,E,d',E',S,hg,k⟩:=h;cases hg;exact k v F H .refl S (r F)
theorem HU{i j pos}:VE X (.Constant (.int i) j pos) (gC (.int i)):=mX.imp λ_ _ _ h=>Gc (λ_=>.int i) h
theorem jR{b j pos}:VE X (.Constant (.bool b) j pos) (gC (.bl b)):=tM.imp λ_ _ _ h=>Gc (λ_=>.bl b) h
theorem jX{j pos}:VE X (.Constant .none j pos) (gC .non):=mW.imp λ_ _ _ h=>Gc (λ_=>.non) h
def g2(f:D->D->Out D)(ga gb:G):G:=λE=>(ga E).bind λp=>(gb p.2).bind λq=>(f p.1 q.1).bind λd=>.ok (d,q.2)
def g1(f:D->Out D)(ga:G):G:=λE=>(ga E).bind λp=>(f p.1).bind λd=>.ok (d,p.2)
def UI(K:AC)(rd:R2)(f:D->D->Out D):Prop:=∀v u x y F H d Q,Sub F H->Rep K F v x->Rep K F u y->f x y=.ok d->(∀z F' H',New F H F' H'->Rep K F' z d->Q z H')->rd v u H Q
def Gx(K:AC)(rd:V->Hp->VK->Prop)(f:D->Out D):Prop:=∀v x F H d Q,Sub F H->Rep K F v x->f x=.ok d->(∀z F' H',New F H F' H'->Rep K F' z d->Q z H')->rd v H Q
theorem xE{rd:R2}{f:D->D->Out D}(hs:UI K rd f){Q:VK}(h:tV K H₀ (g2 f ga gb) σ H Q):kJ rd (tV K H₀ ga) (tV K H₀ gb) σ H Q:=by
 obtain⟨τ,F,E,d,E',S,hg,k⟩:=h;obtain⟨p,ea,hg⟩:=pA3 hg;obtain⟨q,eb,hg⟩:=pA3 hg;obtain⟨z,ef,hg⟩:=pA3 hg;cases hg;refine{τ,F,E,p.1,p.2,S,ea,λv F1 H1 st1 S1 r1=>?_};refine{τ,F1,p.2,q.1,q.2,S1,eb,λu F2 H2 st2 S2 r2=>?_};exact hs v u p.1 q.1 F2 H2 d Q S2.sub (r1.le st2.le) r2 ef λz F3 H3 n r3=>k z F3 H3 ((st1.trans st2).trans n.stp) (S2.new n) r3
theorem yFB{rd:V->Hp->VK->Prop}{f:D->Out D}(hs:Gx K rd f){Q:VK}(h:tV K H₀ (g1 f ga) σ H Q):Wo rd (tV K H₀ ga) σ H Q:=by
 obtain⟨τ,F,E,d,E',S,hg,k⟩:=h;obtain⟨p,ea,hg⟩:=pA3 hg;obtain⟨z,ef,hg⟩:=pA3 hg;cases hg;refine{τ,F,E,p.1,p.2,S,ea,λv F1 H1 st1 S1 r1=>?_};exact hs v p.1 F1 H1 d Q S1.sub r1 ef λz F3 H3 n r3=>k z F3 H3 (st1.trans n.stp) (S1.new n) r3
theorem qK{op:Operator}{rd:R2}{f:D->D->Out D}(ho:OpR X (HE op) rd)(hs:UI X.K rd f)(ha:VE X a ga)(hb:VE X b gb):VE X (.BinOp a op b pos) (g2 f ga gb):=(xH ho ha hb).imp λ_ _ _ h=>xE hs h
theorem yHW{op:UnaryOp}{rd:V->Hp->VK->Prop}{f:D->Out D}(ho:Ag X (unaryOp op) rd)(hs:Gx X.K rd f)(ha:VE X a ga):VE X (.UnaryOp op a pos) (g1 f ga):=(yEX ho ha).imp λ_ _ _ h=>yFB hs h
theorem Wj{rd:R2}{f:D->D->Out D}(ho:OpR X (EU op) rd)(hs:UI X.K rd f)(ha:VE X a ga)(hb:VE X b gb)(hm:DT op b=AD):VE X (.Compare a [op] [b] pos) (g2 f ga gb):=(zXI ho ha hb hm).imp λ_ _ _ h=>xE hs h
def gB(g:G):Ev->Out (Bool×Ev):=λE=>(g E).bind λp=>match p.1 with|.bl b=>.ok (b,p.2)|_=>.bad
theorem iC{rd:R2}{f:D->D->Out D}(ho:OpR X (EU op) rd)(hs:UI X.K rd f)(ha:VE X a ga)(hb:VE X b gb)(hm:DT op b=AD):VT X (.Compare a [op] [b] pos) (gB (g2 f ga gb)):=(zXJ ho ha hb hm).imp λσ H Q h=>by
 obtain⟨τ,F,E,b',E',S,hg,k⟩:=h;obtain⟨p,ea,hg⟩:=pA3 hg;refine xE hs {τ,F,E,p.1,p.2,S,ea,λv F1 H1 st1 S1 r1=>?_};split at hg
 .rename_i b' eb
  cases hg;rw[eb] at r1;cases r1;exact{_,rfl,k F1 H1 st1 S1}
 .cases hg
def iB(t:Ev->Out (Bool×Ev)):Ev->Out (Bool×Ev):=λE=>(t E).bind λp=>.ok (!p.1,p.2)
def iA(t u:Ev->Out (Bool×Ev)):Ev->Out (Bool×Ev):=λE=>(t E).bind λp=>if p.1=AL then u p.2 else .ok (AD,p.2)
def zS(t u:Ev->Out (Bool×Ev)):Ev->Out (Bool×Ev):=λE=>(t E).bind λp=>if p.1=AL then .ok (AL,p.2) else u p.2
theorem Cv{t:Ev->Out (Bool×Ev)}(h:VT X a t):VT X (.UnaryOp .Not a pos) (iB t):=(yA2 h).imp λσ H Q q=>by
 obtain⟨τ,F,E,b',E',S,hg,k⟩:=q;obtain⟨p,ea,hg⟩:=pA3 hg;cases hg;exact{τ,F,E,p.1,p.2,S,ea,λF1 H1 st1 S1=>k F1 H1 st1 S1}
abbrev VW(X:Cx)(e:C8)(g:Ev->Out (Bool×Ev)):Prop:=PW X e (tT X.K X.H₀ g)
theorem VW.t{t:Ev->Out (Bool×Ev)}(h:VW X a t):VT X a t:=PW.pt h
theorem Dp{t:Ev->Out (Bool×Ev)}(h:VT X a t):VW X (.BoolOp .And [a] pos) t:=zXD h
theorem yB6{t:Ev->Out (Bool×Ev)}(h:VT X a t):VW X (.BoolOp .Or [a] pos) t:=yA0 h
theorem Cu{t u:Ev->Out (Bool×Ev)}{rest:List C8}(h:VT X a t)(h':VW X (.BoolOp .And (b::rest) pos) u):VW X (.BoolOp .And (a::b::rest) pos) (iA t u):=(yA1 h h').imp λσ H Q q=>by
 obtain⟨τ,F,E,b',E',S,hg,k⟩:=q;obtain⟨p,ea,hg⟩:=pA3 hg;refine{τ,F,E,p.1,p.2,S,ea,λF1 H1 st1 S1=>?_}
 by_cases hp:p.1=AL
 .rw[if_pos hp] at hg ⊢
  exact{τ,F1,p.2,b',E',S1,hg,λF2 H2 st2 S2=>k F2 H2 (st1.trans st2) S2}
 .rw[if_neg hp] at hg ⊢
  cases hg;exact k F1 H1 st1 S1
theorem yFC{t u:Ev->Out (Bool×Ev)}{rest:List C8}(h:VT X a t)(h':VW X (.BoolOp .Or (b::rest) pos) u):VW X (.BoolOp .Or (a::b::rest) pos) (zS t u):=(yEN h h').imp λσ H Q q=>by
 obtain⟨τ,F,E,b',E',S,hg,k⟩:=q;obtain⟨p,ea,hg⟩:=pA3 hg;refine{τ,F,E,p.1,p.2,S,ea,λF1 H1 st1 S1=>?_}
 by_cases hp:p.1=AL
 .rw[if_pos hp] at hg ⊢
  cases hg;exact k F1 H1 st1 S1
 .rw[if_neg hp] at hg ⊢
  exact{τ,F1,p.2,b',E',S1,hg,λF2 H2 st2 S2=>k F2 H2 (st1.trans st2) S2}
def Gb(ga gb:G):G:=λE=>(ga E).bind λp=>match p.1 with|.bl AL=>gb p.2|.bl AD=>.ok (.bl AD,p.2)|_=>.bad
def Wy(ga gb:G):G:=λE=>(ga E).bind λp=>match p.1 with|.bl AL=>.ok (.bl AL,p.2)|.bl AD=>gb p.2|_=>.bad
def Ga(ga:G):G:=λE=>(ga E).bind λp=>match p.1 with|.bl b=>.ok (.bl (!b),p.2)|_=>.bad
theorem Wi{op}(h:VE X a g):VE X (.BoolOp op [a] pos) g:=yA3 h
theorem yFF{rest:List C8}(ha:VE X a ga)(hb:VE X (.BoolOp .And (b::rest) pos) gb):VE X (.BoolOp .And (a::b::rest) pos) (Gb ga gb):=(yA4 ha hb).imp λσ H Q q=>by
 obtain⟨τ,F,E,d,E',S,hg,k⟩:=q;obtain⟨p,ea,hg⟩:=pA3 hg;refine{τ,F,E,p.1,p.2,S,ea,λv F1 H1 st1 S1 r1=>?_};split at hg
 .rename_i eb
  rw[eb] at r1;cases r1;exact{AL,rfl,Ul {τ,F1,p.2,d,E',S1,hg,λv F2 H2 st2 S2 r2=>k v F2 H2 (st1.trans st2) S2 r2}}
 .rename_i eb
  rw[eb] at r1;cases r1;cases hg;exact{AD,rfl,Um (k _ F1 H1 st1 S1 (.bl AD))}
 .cases hg
theorem yHX{rest:List C8}(ha:VE X a ga)(hb:VE X (.BoolOp .Or (b::rest) pos) gb):VE X (.BoolOp .Or (a::b::rest) pos) (Wy ga gb):=(yEQ ha hb).imp λσ H Q q=>by
 obtain⟨τ,F,E,d,E',S,hg,k⟩:=q;obtain⟨p,ea,hg⟩:=pA3 hg;refine{τ,F,E,p.1,p.2,S,ea,λv F1 H1 st1 S1 r1=>?_};split at hg
 .rename_i eb
  rw[eb] at r1;cases r1;cases hg;exact{AL,rfl,Ul (k _ F1 H1 st1 S1 (.bl AL))}
 .rename_i eb
  rw[eb] at r1;cases r1;exact{AD,rfl,Um {τ,F1,p.2,d,E',S1,hg,λv F2 H2 st2 S2 r2=>k v F2 H2 (st1.trans st2) S2 r2}}
 .cases hg
theorem yFG(ha:VE X a ga):VE X (.UnaryOp .Not a pos) (Ga ga):=(yA5 ha).imp λσ H Q q=>by
 obtain⟨τ,F,E,d,E',S,hg,k⟩:=q;obtain⟨p,ea,hg⟩:=pA3 hg;refine{τ,F,E,p.1,p.2,S,ea,λv F1 H1 st1 S1 r1=>?_};split at hg
 .rename_i b' eb
  rw[eb] at r1;cases r1;cases hg;exact{_,rfl,k _ F1 H1 st1 S1 (.bl _)}
 .cases hg
def tU(t:Ev->Out (Bool×Ev))(ga gb:G):G:=λE=>(t E).bind λp=>if p.1=AL then ga p.2 else gb p.2
theorem yHY{t:Ev->Out (Bool×Ev)}(hc:VT X c t)(ha:VE X a ga)(hb:VE X b gb):VE X (.IfExp c a b pos) (tU t ga gb):=(Qn hc ha hb).imp λσ H Q q=>by
 obtain⟨τ,F,E,d,E',S,hg,k⟩:=q;obtain⟨p,ea,hg⟩:=pA3 hg;refine{τ,F,E,p.1,p.2,S,ea,λF1 H1 st1 S1=>?_}
 by_cases hp:p.1=AL
 .rw[if_pos hp] at hg ⊢
  exact{τ,F1,p.2,d,E',S1,hg,λv F2 H2 st2 S2 r=>k v F2 H2 (st1.trans st2) S2 r}
 .rw[if_neg hp] at hg ⊢
  exact{τ,F1,p.2,d,E',S1,hg,λv F2 H2 st2 S2 r=>k v F2 H2 (st1.trans st2) S2 r}
end
def Xa(H₀ H H2:Hp):Prop:=∀a,H2 a=H a\/∃o u,H a=AA (.frz o u)/\H2 a=AA u/\rT u/\∀o' u',H₀ a≠AA (.frz o' u')
theorem Inv.thaw(I:Inv X AE σ H s)(t:Xa X.H₀ H H2):Inv X AE σ H2 s:=by
 have tn:∀a,H a=AK->H2 a=AK:=λa e=>by
  rcases t a with h|⟨o,u,h,_⟩
  .rw[h,e]
  .rw[e] at h;cases h
 have tk:∀a v,H a=AA v->(∀o u,v≠.frz o u)->H2 a=AA v:=λa v e n=>by
  rcases t a with h|⟨o,u,h,_⟩
  .rw[h,e]
  .rw[e] at h;cases h;exact absurd rfl (n o u)
 refine{I.ok,I.os,I.bare,{I.base.keep,I.base.slot,λb o e n hx=>tn b (I.base.free b o e n hx),I.base.there,λb xs e=>tk b _ (I.base.tups b xs e) (λ_ _ z=>HO.noConfusion z),λb o u e=>?_,λb t' ps e=>?_},I.loc,I.cell,tn _ I.free,λx c e=>tn c (I.freeC x c e),λp hp=>?_,λb u e=>?_,I.len}
 .rcases t b with h|⟨o',u',_,_,_,h⟩
  .rw[h];exact I.base.frzs b o u e
  .exact absurd e (h o u)
 .obtain⟨m,h⟩:=I.base.tbls b t' ps e
  exact{m,tk b _ h (λ_ _ z=>HO.noConfusion z)}
 .obtain⟨h1,h2,h3⟩:=I.pin p hp
  exact{h1,tn _ h2,h3}
 .have ok:ObjOk X.prog X.w H s.heap b u:=by
   rcases t b with h|⟨o',u',h1,h2,_⟩
   .exact I.hok b u (by rw[<-h];exact e)
   .rw[e] at h2;cases h2
    obtain⟨_,q⟩:=I.hok b _ h1;exact q
  exact ok.stay (λc v _ q=>q) (λc q=>tk c _ q (λ_ _ z=>HO.noConfusion z)) (λc ys q=>tk c _ q (λ_ _ z=>HO.noConfusion z)) λc o x q=>(t c).elim (λh=>h.trans q) (λq0=>by obtain⟨_,_,h,_,d,_⟩:=q0;exact by rw[q] at h;cases h;exact d.elim)
mutual
noncomputable def D.flat:D->Bool
 |.tup xs=>pA9 xs
 |.lst _=>AD
 |.dk _=>AD
 |.dt _=>AD
 |_=>AL
noncomputable def pA9:List D->Bool
 |[]=>AL
 |d::ds=>d.flat&&pA9 ds
end
mutual
noncomputable def D.nod:D->Bool
 |.tup xs=>pAA xs
 |.lst xs=>pAA xs
 |.dk _=>AD
 |.dt _=>AD
 |_=>AL
noncomputable def pAA:List D->Bool
 |[]=>AL
 |d::ds=>d.nod&&pAA ds
end
section
variable{K:AC}
theorem pAB(ht:∀a vs,F a=AA (.tup vs)->F2 a=AA (.tup vs)):(∀{v d},Rep K F v d->d.flat=AL->Rep K F2 v d)/\(∀{vs ds},Reps K F vs ds->pA9 ds=AL->Reps K F2 vs ds) /\
  (∀{vs ds},RepK K F vs ds->pA9 (ds.map (·.2))=AL->RepK K F2 vs ds)/\∀{vs ds},RepT K F vs ds->pA9 (ds.map (·.2))=AL->RepT K F2 vs ds :=
 Rep.ind (P:=λv d=>d.flat=AL->Rep K F2 v d) (Q:=λv d=>pA9 d=AL->Reps K F2 v d) (R:=λv d=>pA9 (d.map (·.2))=AL->RepK K F2 v d) (T:=λv d=>pA9 (d.map (·.2))=AL->RepT K F2 v d)
  (λ_=>.non) (λb _=>.bl b) (λi _=>.int i) (λx _=>.str x) (λh _ ih e=>.tup (ht _ _ h) (ih (by rw[D.flat] at e;exact e))) (λh n _=>.tupK h n) (λ_ _ _ e=>by rw[D.flat] at e;cases e) (λ_ _ _ e=>by rw[D.flat] at e;cases e) (λ_ _ _ e=>by rw[D.flat] at e;cases e)
  (λ_=>.nil) (λ_ _ h r e=>by rw[pA9,EB] at e;exact .cons (h e.1) (r e.2)) (λ_=>.nil) (λ_ _ h r e=>by rw[AV,pA9,EB] at e;exact .cons (h e.1) (r e.2)) (λ_=>.nil) (λ_ _ h r e=>by rw[AV,pA9,EB] at e;exact .cons (h e.1) (r e.2))
theorem Rep.flat2(ht:∀a vs,F a=AA (.tup vs)->F2 a=AA (.tup vs)){d:D}(r:Rep K F v d):d.flat=AL->Rep K F2 v d:=(pAB ht).1 r
theorem Reps.flat2(ht:∀a vs,F a=AA (.tup vs)->F2 a=AA (.tup vs)){v:List V}{d:List D}(r:Reps K F v d):pA9 d=AL->Reps K F2 v d:=(pAB ht).2.1 r
theorem pAC(ht:∀a vs,F a=AA (.tup vs)->F2 a=AA (.tup vs))(hl:∀a vs,SqL K F a vs->SqL K F2 a vs):(∀{v d},Rep K F v d->d.nod=AL->Rep K F2 v d)/\(∀{vs ds},Reps K F vs ds->pAA ds=AL->Reps K F2 vs ds) /\
  (∀{vs ds},RepK K F vs ds->True)/\∀{vs ds},RepT K F vs ds->True :=
 Rep.ind (P:=λv d=>d.nod=AL->Rep K F2 v d) (Q:=λv d=>pAA d=AL->Reps K F2 v d) (R:=λ_ _=>True) (T:=λ_ _=>True)
  (λ_=>.non) (λb _=>.bl b) (λi _=>.int i) (λx _=>.str x) (λh _ ih e=>.tup (ht _ _ h) (ih (by rw[D.nod] at e;exact e))) (λh n _=>.tupK h n) (λh _ ih e=>.lst (hl _ _ h) (ih (by rw[D.nod] at e;exact e))) (λ_ _ _ e=>by rw[D.nod] at e;cases e) (λ_ _ _ e=>by rw[D.nod] at e;cases e)
  (λ_=>.nil) (λ_ _ h r e=>by rw[pAA,EB] at e;exact .cons (h e.1) (r e.2)) trivial (λ_ _ _ _=>trivial) trivial (λ_ _ _ _=>trivial)
theorem pAD(ht:∀a vs,F a=AA (.tup vs)->F2 a=AA (.tup vs))(hl:∀a vs,SqL K F a vs->SqL K F2 a vs){d:D}(r:Rep K F v d):d.nod=AL->Rep K F2 v d:=(pAC ht hl).1 r
end
noncomputable def aS(is:List Nat)(j:Nat):Sl->Sl
 |.own _ d=>if is.contains j then .val d else .no
 |s=>s
def hV(is:List Nat):Nat->Ev->Ev
 |_,[]=>[]
 |j,s::E=>aS is j s::hV is (j+1) E
abbrev OE(is:List Nat)(E:Ev):Ev:=hV is 0 E
theorem Ro(is:List Nat):∀(E:Ev) (k j:Nat),(hV is k E)[j]?=(E[j]?).map (aS is (k+j))
 |[],_,_=>by simp[hV]
 |s::E,k,0=>by simp[hV]
 |s::E,k,j+1=>by
  show(hV is (k+1) E)[j]?=_;rw[Ro is E (k+1) j,F9,show k+1+j=k+(j+1) by lia]
theorem Qq(is:List Nat)(E:Ev)(j:Nat):(OE is E)[j]?=(E[j]?).map (aS is j):=by rw[Ro];simp
theorem Rn(is:List Nat):∀(E:Ev) (k:Nat),(hV is k E).length=E.length
 |[],_=>rfl
 |s::E,k=>by rw[hV,BB,BB,Rn is E (k+1)]
def tJ:Option Sl->Bool
 |some (.own _ (.lst _))=>AL
 |_=>AD
noncomputable def Fz:Option Sl->Bool
 |some (.own _ (.dk _))=>AL
 |some (.own _ (.dt _))=>AL
 |_=>AD
def fF(is:List Nat)(E:Ev)(d:D):Bool:=(!(is.any λi=>tJ E[i]?)||d.flat)&&(!(is.any λi=>Fz E[i]?)||d.nod)
def O0(is:List Nat)(g:G):G:=λE=>(g (OE is E)).bind λp=>if fF is E p.1=AL then .ok (p.1,E) else .bad
def UW(is:List Nat)(g:Ev->Out (Bool×Ev)):Ev->Out (Bool×Ev):=λE=>(g (OE is E)).bind λp=>.ok (p.1,E)
section
variable{K:AC}{E:Ev}
def Lent(σ:St)(E:Ev)(is:List Nat)(a:AQ):Prop:=∃(i:Nat) (t:Bool) (d:D),i∈is/\E[i]?=AA (Sl.own t d)/\σ[i]?=AA (AA (V.ref a))
theorem Lent.ow(h:Lent σ E is a):DY σ E a:=let ⟨i,t,d,_,e,q⟩:=h;{i,t,d,e,q}
theorem Sim.owned(S:Sim K H₀ τ F H σ E)(h:DY σ E a):F a=AK/\(∃o,H a=AA o/\jY o)/\∀o u,H₀ a≠AA (.frz o u):=by
 obtain⟨i,t,d,e,q⟩:=h;obtain⟨b,h1,h2,h3,h4,_⟩:=S.own i t d e;rw[q] at h1;cases h1;exact{h2,h3.ho,h4}
open Classical in
noncomputable def XX(σ:St)(E:Ev)(is:List Nat)(F H:Hp):Hp:=λa=>if Lent σ E is a then H a else F a
open Classical in
noncomputable def WK(σ:St)(E:Ev)(is:List Nat)(F':Hp):Hp:=λa=>if Lent σ E is a then AK else F' a
open Classical in
noncomputable def aR(σ:St)(E:Ev)(is:List Nat)(H H':Hp):Hp:=λa=>if Lent σ E is a then H a else H' a
theorem Sim.lend(S:Sim K H₀ τ F H σ E)(is:List Nat):Sim K H₀ τ (XX σ E is F H) H σ (OE is E)/\∀a,¬DY σ (OE is E) a:=by
 have l:Le F (XX σ E is F H):=λa u e=>by
  refine .inl ?_;unfold XX;split
  .exact S.sub a u e
  .exact e
 have no:∀(i:Nat) t d,(OE is E)[i]?≠AA (.own t d):=λi t d e=>by
  rw[Qq] at e
  cases q:E[i]? with
  |none=>rw[q] at e;cases e
  |some s =>
   rw[q] at e;have e:aS is i s=.own t d:=BL e
   cases s with
   |no=>cases e
   |val _=>cases e
   |own t' d' =>
    by_cases hc:is.contains i=AL
    .rw[show aS is i (.own t' d')=.val d' from if_pos hc] at e;cases e
    .rw[show aS is i (.own t' d')=.no from if_neg hc] at e;cases e
 refine{{λa u e=>?_,by rw[Rn];exact S.len,λi d e=>?_,λi t d e=>absurd e (no i t d),λi j t u d d' a e=>absurd e (no i t d)},(λa q0=>by obtain⟨i,t,d,e,_⟩:=q0;exact no i t d e)}
 .unfold XX at e
  split at e
  .exact e
  .exact S.sub a u e
 .rw[Qq] at e
  cases q:E[i]? with
  |none=>rw[q] at e;cases e
  |some s =>
   rw[q] at e;have e:aS is i s=.val d:=BL e
   cases s with
   |no=>cases e
   |val d' =>
    cases e;obtain⟨v,h1,h2⟩:=S.val i d q;exact{v,h1,h2.le l}
   |own t' d' =>
    by_cases hc:is.contains i=AL
    .rw[show aS is i (.own t' d')=.val d' from if_pos hc] at e
     cases e;obtain⟨a,h1,h2,h3,_⟩:=S.own i t' d q;obtain⟨o,ho,_⟩:=h3.ho;refine{.ref a,h1,(h3.rep h2 ho).le λb u e=>.inl ?_};have la:Lent σ E is a:={i,t',d,by simpa using hc,q,h1}
     by_cases hb:b=a
     .subst hb
      rw[HB] at e;unfold XX;rw[if_pos la,ho];exact e
     .rw[EV hb] at e
      unfold XX;split
      .exact S.sub b u e
      .exact e
    .rw[show aS is i (.own t' d')=.no from if_neg hc] at e;cases e
theorem Sim.back(S:Sim K H₀ τ F H σ E)(is:List Nat)(st:Stp (λ_=>False) (XX σ E is F H) H F' H' X4)(sb:Sub F' H') :
  Xa H₀ H' (aR σ E is H H')/\Stp (DY σ E) F H (WK σ E is F') (aR σ E is H H') (DY σ E)/\Sim K H₀ τ (WK σ E is F') (aR σ E is H H') σ E /\
  (∀a u,F' a=AA u->(∀o w,jY o->u≠o/\u≠.frz w o)->WK σ E is F' a=AA u) /\
  ((is.any λi=>tJ E[i]?)=AD->∀a vs,SqL K F' a vs->SqL K (WK σ E is F') a vs):=by
 have lh:∀a,Lent σ E is a->∃o,H a=AA o/\jY o/\(F' a=AA o\/(rT o/\∃w,F' a=AA (.frz w o))):=λa h=>by
  obtain⟨_,⟨o,ho,hw⟩,_⟩:=S.owned h.ow;refine{o,ho,hw,(st.le a o ?_).imp_right λz=>z.resolve_right (λq0=>by obtain⟨_,_,_,y,_⟩:=q0;exact by subst y;exact hw)};unfold XX;rw[if_pos h];exact ho
 have l2:Le F (WK σ E is F'):=λa u e=>by
  have hn:¬Lent σ E is a:=λh=>by rw[(S.owned h.ow).1] at e;cases e
  unfold WK;rw[if_neg hn];exact st.le a u (by unfold XX;rw[if_neg hn];exact e)
 have kp:∀a o,H a=AA o->jY o->F a=AK->aR σ E is H H' a=AA o:=λa o e hw n=>by
  unfold aR
  by_cases h:Lent σ E is a
  .rw[if_pos h];exact e
  .rw[if_neg h];exact st.keep a o e hw (by unfold XX;rw[if_neg h];exact n) id
 have nw:∀a o,WK σ E is F' a=AA o->F a≠AK\/Nw H a:=λa o e=>by
  unfold WK at e
  by_cases h:Lent σ E is a
  .rw[if_pos h] at e;cases e
  .rw[if_neg h] at e
   rcases st.new a o e with z|z|z
   .unfold XX at z;rw[if_neg h] at z;exact .inl z
   .exact .inr z
   .exact z.elim
 refine{λa=>?_,{λa o e hw n _=>kp a o e hw n,λa e=>?_,l2,λa o e=>(nw a o e).imp_right .inl,λ_ h=>.inl h},{λa u e=>?_,S.len,λi d e=>?_,λi t d e=>?_,S.inj},λa u e hn=>?_,λhl a vs h=>?_}
 .by_cases h:Lent σ E is a
  .obtain⟨o,ho,_,z|⟨id,w,z⟩⟩:=lh a h
   .exact .inl (by unfold aR;rw[if_pos h,sb a o z,ho])
   .exact .inr {w,o,sb a _ z,by unfold aR;rw[if_pos h,ho],id,(S.owned h.ow).2.2}
  .exact .inl (by unfold aR;rw[if_neg h])
 .unfold aR at e
  by_cases h:Lent σ E is a
  .rw[if_pos h] at e;exact e
  .rw[if_neg h] at e;exact st.dom a e
 .unfold WK at e
  by_cases h:Lent σ E is a
  .rw[if_pos h] at e;cases e
  .rw[if_neg h] at e
   unfold aR;rw[if_neg h];exact sb a u e
 .obtain⟨v,h1,h2⟩:=S.val i d e
  exact{v,h1,h2.le l2}
 .obtain⟨a,h1,h2,h3,h4⟩:=S.own i t d e
  obtain⟨o,ho,hw⟩:=h3.ho;refine{a,h1,?_,h3.mono l2 ((kp a o ho hw h2).trans ho.symm),h4}
  cases q:WK σ E is F' a with
  |none=>rfl
  |some u =>
   rcases nw a u q with z|z
   .exact absurd h2 z
   .exact absurd hw (z o ho)
 .unfold WK
  by_cases h:Lent σ E is a
  .obtain⟨o,ho,hw,z|⟨_,w,z⟩⟩:=lh a h
   .rw[e] at z;cases z;exact absurd rfl (hn u default hw).1
   .rw[e] at z;cases z;exact absurd rfl (hn o w hw).2
  .rw[if_neg h];exact e
 .rcases h with h|h
  case inr=>exact .inr h
  refine .inl ?_
  have hn:¬Lent σ E is a:=λhh=>by
   obtain⟨o,ho,hw,z⟩:=lh a hh;obtain⟨i,t,d,hi,e,q⟩:=id hh
   have Yz:tJ E[i]?=AD:=by
    have:=ME.mp hl i hi;simpa using this
   obtain⟨b,h1,h2,h3,_⟩:=S.own i t d e;rw[q] at h1;cases h1
   have od:rT o:=by
    cases d with
    |lst ds=>rw[e] at Yz;cases Yz
    |dk ds=>obtain⟨_,q,_⟩:=h3;rw[ho] at q;cases q;trivial
    |dt ds=>obtain⟨_,q,_⟩:=h3;rw[ho] at q;cases q;trivial
    |_=>exact h3.elim
   rcases h with h|⟨w,h⟩<;>rcases z with z|⟨_,w',z⟩<;>rw[h] at z<;>cases z<;>exact od
  unfold Rd WK;rw[if_neg hn];exact h
theorem zUF(S:Sim K H₀ τ F H σ E)(is:List Nat)(st:Stp (λ_=>False) (XX σ E is F H) H F' H' X4)(sb:Sub F' H'){d:D}(hl:fF is E d=AL)(r:Rep K F' v d):Rep K (WK σ E is F') v d:=by
 obtain⟨_,_,_,h1,h2⟩:=S.back is st sb;have ht:∀a vs,F' a=AA (.tup vs)->WK σ E is F' a=AA (.tup vs):=λa vs e=>h1 a _ e λo w ho=>{λz=>by subst z;exact ho,λz=>HO.noConfusion z};unfold fF at hl;rw[EB,jN,jN] at hl;rcases hl.1 with z|z
 .rcases hl.2 with y|y
  ·-- nothing is lent at all
   have no:∀a,¬Lent σ E is a:=λa q0=>by
    obtain⟨i,t,d,hi,e,q⟩:=q0;have e1:tJ E[i]?=AD:=by have:=ME.mp (by simpa using z) i hi;simpa using this
    have e2:Fz E[i]?=AD:=by have:=ME.mp (by simpa using y) i hi;simpa using this
    obtain⟨b,_,_,h3,_⟩:=S.own i t d e;rw[e] at e1 e2
    cases d with
    |lst ds=>cases e1
    |dk ds=>cases e2
    |dt ds=>cases e2
    |_=>exact h3.elim
   exact r.le λa u e=>.inl (by unfold WK;rw[if_neg (no a)];exact e)
  .exact pAD ht (h2 (by simpa using z)) r y
 .exact Rep.flat2 ht r z
theorem Stp.toF{ow:AQ->Prop}(h:∀a,¬ow a)(st:Stp ow F H F' H' X4):Stp (λ_=>False) F H F' H' X4 :=
 {λa o e hw n _=>st.keep a o e hw n (h a),st.dom,st.le,λa o e=>(st.new a o e).imp_right λz=>z.imp_right (h a),λa z=>(st.own a z).elim (λz=>absurd z (h a)) .inr}
theorem ZU{g:G}(is:List Nat)(h:VE X e g):VE X e (O0 is g):=by
 rintro AE s σ H Q I ⟨τ,F,E,d,E',S,hg,k⟩;obtain⟨p,eg,hg⟩:=pA3 hg;split at hg
 .rename_i hl
  cases hg;obtain⟨S1,no⟩:=S.lend is;refine GV (h AE s σ H (λv H'=>∃F' X4,Stp (λ_=>False) (XX σ E is F H) H F' H' X4/\Sub F' H'/\Rep X.K F' v p.1) I {τ,_,_,p.1,p.2,S1,eg,λv F' H' st S' r=>{F',_,st.toF no,S'.sub,r}}) λu s' q0=>?_;obtain⟨v,H',I',rv,F',X4,st,sb,r⟩:=q0;obtain⟨t1,t2,t3,_⟩:=S.back is st sb;exact{v,_,I'.thaw t1,rv,k v _ _ t2 t3 (zUF S is st sb hl r)}
 .cases hg
theorem mP{g:Ev->Out (Bool×Ev)}(is:List Nat)(h:VT X e g):VT X e (UW is g):=by
 rintro AE s σ H Q I ⟨τ,F,E,d,E',S,hg,k⟩;obtain⟨p,eg,hg⟩:=pA3 hg;cases hg;obtain⟨S1,no⟩:=S.lend is;refine GV (h AE s σ H (λb H'=>b=p.1/\∃F' X4,Stp (λ_=>False) (XX σ E is F H) H F' H' X4/\Sub F' H') I {τ,_,_,p.1,p.2,S1,eg,λF' H' st S'=>{rfl,F',_,st.toF no,S'.sub}}) λu s' q0=>?_;obtain⟨H',I',eb,F',X4,st,sb⟩:=q0;obtain⟨t1,t2,t3,_⟩:=S.back is st sb;subst eb;exact{_,I'.thaw t1,k _ _ t2 t3}
end
inductive Fl where
 |nx (E:Ev)|rt (b:Bool) (d:D) (E:Ev)|bk (E:Ev)|ct (E:Ev)
abbrev GS:=Ev->Out Fl
def RetR(K:AC)(ow:AQ->Prop)(H:Hp)(F' H':Hp)(σ':St)(E':Ev):Bool->V->D->Prop
 |false,v,d=>Rep K F' v d
 |true,v,d=>∃a,v=.ref a/\F' a=AK/\OwnAt K F' H' a d/\(ow a\/H a=AK)/\∀(i:Nat) d',E'[i]?=AA (.own AL d')->σ'[i]?≠AA (AA (.ref a))
def FlOk(K:AC)(H₀:Hp)(τ:AQ)(ow:AQ->Prop)(F H:Hp)(D:Ends):Fl->Prop
 |.nx E'=>∀σ' F' H',Stp ow F H F' H' (DY σ' E')->Sim K H₀ τ F' H' σ' E'->D.nx σ' H'
 |.bk E'=>∀σ' F' H',Stp ow F H F' H' (DY σ' E')->Sim K H₀ τ F' H' σ' E'->D.bk σ' H'
 |.ct E'=>∀σ' F' H',Stp ow F H F' H' (DY σ' E')->Sim K H₀ τ F' H' σ' E'->D.ct σ' H'
 |.rt b d E'=>∀σ' v F' H',Stp ow F H F' H' (DY σ' E')->Sim K H₀ τ F' H' σ' E'->RetR K ow H F' H' σ' E' b v d->D.rt v H'
def tS(K:AC)(H₀:Hp)(g:GS):TS:=λD σ H=>∃τ F E r,Sim K H₀ τ F H σ E/\g E=.ok r/\FlOk K H₀ τ (DY σ E) F H D r
abbrev VS(X:Cx)(st:E6)(g:GS):Prop:=PS X st (tS X.K X.H₀ g)
abbrev Z3(X:Cx)(st:List E6)(g:GS):Prop:=PSs X st (tS X.K X.H₀ g)
section
variable{K:AC}{ow:AQ->Prop}{st:E6}{rest:List E6}{g g':GS}{ge:G}
theorem RetR.pre{b:Bool}{d:D}(s:Stp ow F H F1 H1 UJ)(h:RetR K UJ H1 F' H' σ' E' b v d):RetR K ow H F' H' σ' E' b v d:=by
 cases b with
 |false=>exact h
 |true =>
  obtain⟨a,h1,h2,h3,h4,h5⟩:=h;exact{a,h1,h2,h3,h4.elim (s.own a) λz=>.inr (s.dom a z),h5}
theorem FlOk.pre{r:Fl}(s:Stp ow F H F1 H1 UJ)(h:FlOk K H₀ τ ow F H D' r):FlOk K H₀ τ UJ F1 H1 D' r:=by
 cases r with
 |nx E'=>exact λσ' F' H' st S=>h σ' F' H' (s.trans st) S
 |bk E'=>exact λσ' F' H' st S=>h σ' F' H' (s.trans st) S
 |ct E'=>exact λσ' F' H' st S=>h σ' F' H' (s.trans st) S
 |rt b d E'=>exact λσ' v F' H' st S q=>h σ' v F' H' (s.trans st) S (q.pre s)
def RV:GS:=λE=>.ok (.nx E)
def G5(g g':GS):GS:=λE=>(g E).bind λr=>match r with|.nx E1=>g' E1|r=>.ok r
theorem X0:Z3 X [] RV:=UY.imp λD' σ H h=>by
 obtain⟨τ,F,E,r,S,hg,k⟩:=h;cases hg;exact k σ F H .refl S
theorem yB9(h:tS K H₀ (G5 g g') D' σ H):qQ (tS K H₀ g) (tS K H₀ g') D' σ H:=by
 obtain⟨τ,F,E,r,S,hg,k⟩:=h;obtain⟨r1,e1,hg⟩:=pA3 hg;refine{τ,F,E,r1,S,e1,?_}
 cases r1 with
 |nx E1=>exact λσ' F' H' st S'=>{τ,F',E1,r,S',hg,k.pre st}
 |bk E1=>cases hg;exact k
 |ct E1=>cases hg;exact k
 |rt b d E1=>cases hg;exact k
theorem IS(h1:VS X st g)(h2:Z3 X rest g'):Z3 X (st::rest) (G5 g g'):=(cE h1 h2).imp λ_ _ _ h=>yB9 h
theorem KB(h:VS X st g):Z3 X [st] g:=kE h
def Fx:GS:=λ_=>.bad
theorem Ms:VS X st Fx:=cK.imp λD' σ H h=>by
 obtain⟨τ,F,E,r,S,hg,k⟩:=h;cases hg
def OT(t:Ev->Out (Bool×Ev))(g g':GS):GS:=λE=>(t E).bind λp=>if p.1=AL then g p.2 else g' p.2
theorem XH{a b:List E6}{t:Ev->Out (Bool×Ev)}(hc:VT X c t)(ha:Z3 X a g)(hb:Z3 X b g'):VS X (.If c a b pos) (OT t g g'):=(Cc hc ha hb).imp λD' σ H h=>by
 obtain⟨τ,F,E,r,S,hg,k⟩:=h;obtain⟨p,e1,hg⟩:=pA3 hg;refine{τ,F,E,p.1,p.2,S,e1,λF1 H1 s1 S1=>?_}
 by_cases hp:p.1=AL
 .rw[if_pos hp] at hg ⊢
  exact{τ,F1,p.2,r,S1,hg,k.pre s1}
 .rw[if_neg hp] at hg ⊢
  exact{τ,F1,p.2,r,S1,hg,k.pre s1}
def N4(g:G):GS:=λE=>(g E).bind λp=>.ok (.rt AD p.1 p.2)
theorem QI(h:VE X e ge):VS X (.Return (AA e) pos) (N4 ge):=(sH h).imp λD' σ H q=>by
 obtain⟨τ,F,E,r,S,hg,k⟩:=q;obtain⟨p,e1,hg⟩:=pA3 hg;cases hg;exact{τ,F,E,p.1,p.2,S,e1,λv F1 H1 s1 S1 r1=>k σ v F1 H1 s1 S1 r1}
def xD(g:G):GS:=λE=>(g E).bind λp=>.ok (.rt AL p.1 p.2)
theorem Pk(h:FE X e ge):VS X (.Return (AA e) pos) (xD ge):=(sH h).imp λD' σ H q=>by
 obtain⟨τ,F,E,r,S,hg,k⟩:=q;obtain⟨p,e1,hg⟩:=pA3 hg;cases hg;exact{τ,F,E,p.1,p.2,S,e1,λa F1 H1 s1 S1 n1 n2 ow no=>k σ _ F1 H1 s1 S1 {a,rfl,n1,ow,.inr n2,λi d' z1 z2=>no {i,AL,d',z1,z2}}}
inductive Tg where
 |nm (i:Nat)|tp (ts:List Tg)
mutual
noncomputable def WS:Tg->D->Ev->Out Ev
 |.nm i,d,E=>.ok (E.set i (.val d))
 |.tp ts,d,E=>match d with
  |.tup ds=>b8 ts ds E
  |_=>.bad
noncomputable def b8:List Tg->List D->Ev->Out Ev
 |[],[],E=>.ok E
 |[],_::_,_=>.bad
 |_::_,[],_=>.bad
 |t::ts,d::ds,E=>(WS t d E).bind λE1=>b8 ts ds E1
end
mutual
noncomputable def Tg.ltn(n:Nat):Tg->Bool
 |.nm i=>decide (i<n)
 |.tp ts=>pAE n ts
noncomputable def pAE(n:Nat):List Tg->Bool
 |[]=>AL
 |t::ts=>t.ltn n&&pAE n ts
end
theorem Sim.put{E:Ev}{d:D}(S:Sim K H₀ τ F H σ E)(r:Rep K F v d):Sim K H₀ τ F H (σ.set i (AA v)) (E.set i (.val d))/\∀a,DY (σ.set i (AA v)) (E.set i (.val d)) a->DY σ E a:=by
 have H9:∀(j:Nat) t d',(E.set i (.val d))[j]?=AA (.own t d')->i≠j/\E[j]?=AA (.own t d'):=λj t d' q=>by
  by_cases hj:i=j
  .subst hj
   by_cases hi:i<E.length
   .rw[BF hi] at q;cases q
   .rw[N2 (by rw[B9];lia)] at q;cases q
  .rw[A5 hj] at q;exact{hj,q}
 refine{{S.sub,by rw[B9,B9];exact S.len,λj d' q=>?_,λj t d' q=>?_,λj k t1 t2 d1 d2 b q1 q2 z1 z2=>?_},λa ⟨j,t,d',q1,q2⟩=>?_}
 .by_cases hj:i=j
  .subst hj
   have hi:i<E.length:=by
    have:=(AR.mp q).1;rw[B9] at this;exact this
   rw[BF hi] at q;cases q;exact{v,by rw[BF (by rw[<-S.len];exact hi)],r}
  .rw[A5 hj] at q ⊢;exact S.val j d' q
 .obtain⟨hj,q⟩:=H9 j t d' q
  rw[A5 hj];exact S.own j t d' q
 .obtain⟨hj,q1⟩:=H9 j _ _ q1
  obtain⟨hk,q2⟩:=H9 k _ _ q2;rw[A5 hj] at z1;rw[A5 hk] at z2;exact S.inj j k t1 t2 d1 d2 b q1 q2 z1 z2
 .obtain⟨hj,q1⟩:=H9 j t d' q1
  rw[A5 hj] at q2;exact{j,t,d',q1,q2}
theorem Sim.putO{E:Ev}{d:D}(S:Sim K H₀ τ F H σ E)(h2:F a=AK)(h3:OwnAt K F H a d)(h4:∀o u,H₀ a≠AA (.frz o u))(no:¬DY σ E a) :
  Sim K H₀ τ F H (σ.set i (AA (.ref a))) (E.set i (.own AD d))/\∀b,DY (σ.set i (AA (.ref a))) (E.set i (.own AD d)) b->DY σ E b\/b=a:=by
 have H9:∀(j:Nat) t d',(E.set i (.own AD d))[j]?=AA (.own t d')->(i=j/\t=AD/\d'=d/\(σ.set i (AA (V.ref a)))[j]?=AA (AA (.ref a)))\/(i≠j/\E[j]?=AA (.own t d')/\(σ.set i (AA (V.ref a)))[j]?=σ[j]?):=λj t d' q=>by
  by_cases hj:i=j
  .subst hj
   have hi:i<E.length:=by
    have:=(AR.mp q).1;rw[B9] at this;exact this
   rw[BF hi] at q;cases q;exact .inl {rfl,rfl,rfl,by rw[BF (by rw[<-S.len];exact hi)]}
  .rw[A5 hj] at q;exact .inr {hj,q,by rw[A5 hj]}
 refine{{S.sub,by rw[B9,B9];exact S.len,λj d' q=>?_,λj t d' q=>?_,λj k t1 t2 d1 d2 b q1 q2 z1 z2=>?_},λb ⟨j,t,d',q1,q2⟩=>?_}
 .by_cases hj:i=j
  .subst hj
   have hi:i<E.length:=by
    have:=(AR.mp q).1;rw[B9] at this;exact this
   rw[BF hi] at q;cases q
  .rw[A5 hj] at q ⊢;exact S.val j d' q
 .rcases H9 j t d' q with⟨rfl,rfl,rfl,z⟩|⟨hj,q,z⟩
  .exact{a,z,h2,h3,h4,nofun}
  .rw[z];exact S.own j t d' q
 .rcases H9 j t1 d1 q1 with⟨e1,_,_,y1⟩|⟨hj,p1,y1⟩<;>rcases H9 k t2 d2 q2 with⟨e2,_,_,y2⟩|⟨hk,p2,y2⟩
  .rw[<-e1,<-e2]
  .rw[y1] at z1;cases z1
   rw[y2] at z2;exact absurd {k,t2,d2,p2,z2} no
  .rw[y2] at z2;cases z2
   rw[y1] at z1;exact absurd {j,t1,d1,p1,z1} no
  .rw[y1] at z1;rw[y2] at z2
   exact S.inj j k t1 t2 d1 d2 b p1 p2 z1 z2
 .rcases H9 j t d' q1 with⟨rfl,rfl,rfl,y1⟩|⟨hj,q1,y1⟩
  .rw[y1] at q2;cases q2;exact .inr rfl
  .rw[y1] at q2;exact .inl {j,t,d',q1,q2}
def tG(K:AC)(H₀:Hp)(t:Tg):TG:=λv σ H Q=>∃τ F E d E',Sim K H₀ τ F H σ E/\Rep K F v d/\WS t d E=.ok E'/\∀σ',Sim K H₀ τ F H σ' E'->(∀a,DY σ' E' a->DY σ E a)->(∀n,t.ltn n=AL->∀j:Nat,n<=j->σ'[j]?=σ[j]?)->Q σ' H
def tGs(K:AC)(H₀:Hp)(ts:List Tg):iL:=λvs σ H Q=>∃τ F E ds E',Sim K H₀ τ F H σ E/\Reps K F vs ds/\b8 ts ds E=.ok E'/\∀σ',Sim K H₀ τ F H σ' E'->(∀a,DY σ' E' a->DY σ E a)->(∀n,pAE n ts=AL->∀j:Nat,n<=j->σ'[j]?=σ[j]?)->Q σ' H
theorem PG.imp{t t':TG}(h:PG X tg t)(hi:∀v σ H Q,t' v σ H Q->t v σ H Q):PG X tg t':=λAE s σ H x u Q I r q=>h AE s σ H x u Q I r (hi _ _ _ _ q)
theorem PGs.imp{tg:List C8}{t t':iL}(h:PGs X tg t)(hi:∀v σ H Q,t' v σ H Q->t v σ H Q):PGs X tg t':=λAE s σ H x u Q I r q=>h AE s σ H x u Q I r (hi _ _ _ _ q)
abbrev VG(X:Cx)(tg:C8)(t:Tg):Prop:=PG X tg (tG X.K X.H₀ t)
abbrev Af(X:Cx)(tg:List C8)(t:List Tg):Prop:=PGs X tg (tGs X.K X.H₀ t)
theorem WP(hN:X.N.Nodup)(hi:X.N[i]?=AA x)(hx:Loc X.env.scope x)(hf:X.fn x=AL\/X.env.scope.names.lookup x=AA .local:=by first|exact .inl rfl|exact .inr rfl|assumption):VG X (.Name x pos) (.nm i):=(iF hN hi hx hf).imp λv σ H Q h=>by
 obtain⟨τ,F,E,d,E',S,r,hg,k⟩:=h;rw[WS] at hg;cases hg;obtain⟨S1,h1⟩:=S.put (i:=i) r;refine k _ S1 h1 λn hn j hj=>?_;rw[Tg.ltn] at hn;have:i<n:=of_decide_eq_true hn;rw[A5 (CA (AN this hj))]
theorem Rep.sqT{ds:List D}(s:Sub F H)(r:Rep K F (.ref a) (.tup ds)):∃vs,SqT K H a vs/\Reps K F vs ds:=by
 cases r with
 |tup h r=>exact{_,.inl (.inl (s _ _ h)),r}
 |@tupK _ xs h n =>
  rcases h with h|h
  .rcases h with h|⟨o,h⟩<;>cases h
  .refine{_,.inr h,?_}
   induction xs with
   |nil=>exact .nil
   |cons x xs ih=>exact .cons (.str x) (by
     clear ih n h
     induction xs with
     |nil=>exact .nil
     |cons y ys ih=>exact .cons (.str y) ih)
theorem Rep.isRefT{ds:List D}(r:Rep K F v (.tup ds)):∃a,v=.ref a:=by (cases r)<;>exact{_,rfl}
theorem Rep.isRefL{ds:List D}(r:Rep K F v (.lst ds)):∃a vs,v=.ref a/\SqL K F a vs/\Reps K F vs ds:=by cases r with|lst h r=>exact{_,_,rfl,h,r}
theorem Qp:∀{ts:List Tg} {ds:List D} {E E':Ev},b8 ts ds E=.ok E'->ts.length=ds.length
 |[],[],_,_,_=>rfl
 |[],_::_,_,_,h=>by rw[b8] at h;cases h
 |_::_,[],_,_,h=>by rw[b8] at h;cases h
 |t::ts,d::ds,E,E',h=>by
  rw[b8] at h;obtain⟨E1,_,h⟩:=pA3 h;rw[BB,BB,Qp h]
theorem mT:Af X [] []:=UZ.imp λv σ H Q h=>by
 obtain⟨τ,F,E,d,E',S,r,hg,k⟩:=h
 cases r with
 |nil=>rw[b8] at hg;cases hg;exact{rfl,k σ S (λ_ h=>h) λ_ _ _ _=>rfl}
 |cons _ _=>rw[b8] at hg;cases hg
theorem Y4{t:Tg}{ts:List Tg}(h1:VG X e t)(h2:Af X es ts)
  (hs:(HJ (e::es) X.env).map (·.2)=KY e X.env::(HJ es X.env).map (·.2):=by rfl):Af X (e::es) (t::ts):=(sT h1 h2 hs).imp λv σ H Q h=>by
 obtain⟨τ,F,E,ds,E',S,r,hg,k⟩:=h
 cases r with
 |nil=>rw[b8] at hg;cases hg
 |@cons v d vs ds r rs =>
  rw[b8] at hg;obtain⟨E1,e1,hg⟩:=pA3 hg
  exact{v,vs,rfl,τ,F,E,d,E1,S,r,e1,λσ1 S1 h1 b1=>{τ,F,E1,ds,E',S1,rs,hg,λσ2 S2 h2 b2=>k σ2 S2 (λa z=>h1 a (h2 a z)) λn hn j hj=>by
   rw[pAE,EB] at hn
   rw[b2 n hn.2 j hj,b1 n hn.1 j hj]}}
theorem mO{ts:List Tg}(hc:X.calm=AL)(h:Af X es ts)
  (hn:(HJ es X.env).length=ts.length:=by rfl) (a9:(HJ es X.env).findIdx? (·.1)=AK:=by rfl):VG X (.Tuple es k pos) (.tp ts):=(Cz hc h hn a9).imp λv σ H Q h=>by
 obtain⟨τ,F,E,d,E',S,r,hg,k⟩:=h
 cases d with
 |tup ds =>
  obtain⟨a,rfl⟩:=r.isRefT;obtain⟨vs,h1,h2⟩:=r.sqT S.sub;rw[WS] at hg;exact{a,vs,rfl,h1,by rw[h2.length,<-Qp hg],τ,F,E,ds,E',S,h2,hg,λσ' S' h' b'=>k σ' S' h' λn hn=>b' n (by rw[Tg.ltn] at hn;exact hn)}
 |_ =>
  have hg:(Out.bad:Out Ev)=.ok E':=hg;cases hg
def J0(t:Tg)(g:G):GS:=λE=>(g E).bind λp=>(WS t p.1 p.2).bind λE1=>.ok (.nx E1)
theorem yCA{t:Tg}(h:tS K H₀ (J0 t ge) D' σ H):l6 (tV K H₀ ge) (tG K H₀ t) D' σ H:=by
 obtain⟨τ,F,E,r,S,hg,k⟩:=h;obtain⟨p,e1,hg⟩:=pA3 hg;obtain⟨E1,e2,hg⟩:=pA3 hg;cases hg;exact{τ,F,E,p.1,p.2,S,e1,λv F1 H1 s1 S1 r1=>{τ,F1,p.2,p.1,E1,S1,r1,e2,λσ2 S2 h2 _=>k σ2 F1 H1 (s1.weak h2) S2}}
theorem Mq{t:Tg}(he:VE X e ge)(hg:VG X tg t)(hs:aC [tg] e pos.line X.env=pure AD:=by rfl)(hw:aD [tg] e X.env=pure AK:=by rfl)
  (h1:(HJ [tg] X.env).map (·.2)=[KY tg X.env]:=by rfl):VS X (.Assign [tg] e pos) (J0 t ge):=(Cy he hg hs hw h1).imp λ_ _ _ h=>yCA h
theorem Q6(hN:X.N.Nodup)(hi:X.N[i]?=AA x)(hx:Loc X.env.scope x)(he:VE X e ge)(hs:IL e (AA (.Name x N5)) pos.line X.env=pure AD:=by rfl)(hf:X.fn x=AL\/X.env.scope.names.lookup x=AA .local:=by first|exact .inl rfl|exact .inr rfl|assumption) :
  VS X (.Assign [.Name x N5] e pos) (J0 (.nm i) ge):=(xL hN hi hx he hs hf).imp λD' σ H h=>by
 obtain⟨τ,F,E,r,S,hg,k⟩:=h;obtain⟨p,e1,hg⟩:=pA3 hg;obtain⟨E1,e2,hg⟩:=pA3 hg;cases hg;rw[WS] at e2;cases e2;refine{τ,F,E,p.1,p.2,S,e1,λv F1 H1 s1 S1 r1=>?_};obtain⟨S2,h2⟩:=S1.put (i:=i) r1;exact k _ F1 H1 (s1.weak h2) S2
def WN(i:Nat)(g:G):GS:=λE=>(g E).bind λp=>.ok (.nx (p.2.set i (.own AD p.1)))
theorem zUH(I:Inv X AE σ H s)(h:H a=AK):∀o u,X.H₀ a≠AA (.frz o u):=λo u e=>by
 rw[I.base.frzs a o u e] at h;cases h
theorem yCB(I:Inv X AE σ H s)(h:tS X.K X.H₀ (WN i ge) D' σ H):l6 (tF X.K X.H₀ ge) (b9 i) D' σ H:=by
 obtain⟨τ,F,E,r,S,hg,k⟩:=h;obtain⟨p,e1,hg⟩:=pA3 hg;cases hg;refine{τ,F,E,p.1,p.2,S,e1,λa F1 H1 s1 S1 n1 n0 ow no=>?_};obtain⟨S2,h2⟩:=S1.putO (i:=i) n1 ow (zUH I n0) no;refine k _ F1 H1 {s1.keep,s1.dom,s1.le,s1.new,λb z=>?_} S2;rcases h2 b z with z|rfl
 .exact s1.own b z
 .exact .inr n0
theorem aV(hN:X.N.Nodup)(hi:X.N[i]?=AA x)(hx:Loc X.env.scope x)(he:FE X e ge)(hs:IL e (AA (.Name x N5)) pos.line X.env=pure AD:=by rfl)(hf:X.fn x=AL\/X.env.scope.names.lookup x=AA .local:=by first|exact .inl rfl|exact .inr rfl|assumption) :
  VS X (.Assign [.Name x N5] e pos) (WN i ge):=λAE s σ H D' I h=>xL hN hi hx he hs hf AE s σ H D' I (yCB I h)
def fB(g:G):GS:=λE=>(g E).bind λp=>.ok (.nx p.2)
theorem xY(he:VE X e ge)(hs:IL e AK pos.line X.env=pure AD:=by rfl):VS X (.Expr e pos) (fB ge):=(Dn he hs).imp λD' σ H h=>by
 obtain⟨τ,F,E,r,S,hg,k⟩:=h;obtain⟨p,e1,hg⟩:=pA3 hg;cases hg;exact{τ,F,E,p.1,p.2,S,e1,λv F1 H1 s1 S1 r1=>k σ F1 H1 s1 S1}
def XJ(t:Ev->Out (Bool×Ev))(g:GS):Nat->GS
 |0,_=>.bad
 |n+1,E=>(t E).bind λp=>if p.1=AL then(g p.2).bind λr=>match r with
   |.nx E1=>XJ t g n E1
   |.ct E1=>XJ t g n E1
   |.bk E1=>.ok (.nx E1)
   |.rt b d E1=>.ok (.rt b d E1)
  else .ok (.nx p.2)
theorem yO{t:Ev->Out (Bool×Ev)}(n:Nat)(hp:VU (A1 X.prog X.w) X.A X.env X.xe)(hc:VT X c t)(hb:Z3 X body g):VS X (.While c body [] pos) (XJ t g n):=(zTJ hp hc hb).imp λD' σ H h=>by
 obtain⟨τ,F,E,r,S,hg,k⟩:=h;refine{λm σ1 H1=>∃F1 E1,Sim X.K X.H₀ τ F1 H1 σ1 E1/\Stp (DY σ E) F H F1 H1 (DY σ1 E1)/\XJ t g m E1=.ok r,{n,F,E,S,.refl,hg},?_};rintro m σ1 H1 ⟨F1,E1,S1,s1,h1⟩
 cases m with
 |zero=>rw[XJ] at h1;cases h1
 |succ m =>
  rw[XJ] at h1;obtain⟨p,e1,h1⟩:=pA3 h1;refine{τ,F1,E1,p.1,p.2,S1,e1,λF2 H2 s2 S2=>?_};have aY:=s1.trans s2;dsimp only
  by_cases hp:p.1=AL
  .rw[if_pos hp] at h1 ⊢
   obtain⟨q,e2,h1⟩:=pA3 h1;refine{λσ3 H3=>∃F3 E3,Sim X.K X.H₀ τ F3 H3 σ3 E3/\Stp (DY σ E) F H F3 H3 (DY σ3 E3)/\XJ t g m E3=.ok r,λσ3 H3 ⟨F3,E3,a1,a2,a3⟩=>{m,DX m,F3,E3,a1,a2,a3},τ,F2,p.2,q,S2,e2,?_}
   cases q with
   |nx E3=>exact λσ3 F3 H3 s3 S3=>{F3,E3,S3,aY.trans s3,h1}
   |ct E3=>exact λσ3 F3 H3 s3 S3=>{F3,E3,S3,aY.trans s3,h1}
   |bk E3=>cases h1;exact λσ3 F3 H3 s3 S3=>k σ3 F3 H3 (aY.trans s3) S3
   |rt b d E3=>cases h1;exact λσ3 v F3 H3 s3 S3 q=>k σ3 v F3 H3 (aY.trans s3) S3 (q.pre aY)
  .rw[if_neg hp] at h1 ⊢
   cases h1;exact k σ1 F2 H2 aY S2
end
def Walks(K:AC)(J:It)(F:Hp)(ds:List D):Prop:=∀(i:Nat) F1 H1,Le F F1->Sub F1 H1->(i<ds.length->J.go i H1)/\(i=ds.length->J.stop i H1)/\∀x H' d,ds[i]?=AA d->J.yld i H1 x H'->∃F',New F1 H1 F' H'/\Rep K F' x d
abbrev GI:=Ev->Out (List D×Ev)
def tI(K:AC)(H₀:Hp)(g:GI):TI:=λσ H R=>∃τ F E ds E',Sim K H₀ τ F H σ E/\g E=.ok (ds,E') /\
 ∀J F' H',Stp (DY σ E) F H F' H' (DY σ E')->Sim K H₀ τ F' H' σ E'->Walks K J F' ds->R J H'
theorem PI.imp{t t':TI}(h:PI X tg e t)(hi:∀σ H Q,t' σ H Q->t σ H Q):PI X tg e t':=λAE s σ H Q I q=>h AE s σ H Q I (hi σ H Q q)
abbrev VI(X:Cx)(tg e:C8)(g:GI):Prop:=PI X tg e (tI X.K X.H₀ g)
variable{gi:GI}
section
variable{K:AC}{ow:AQ->Prop}{st:E6}{rest:List E6}{g g':GS}{ge:G}
def Wx(g:G):GI:=λE=>(g E).bind λp=>match p.1 with|.lst ds=>.ok (ds,p.2)|_=>.bad
def Ww(g:G):GI:=λE=>(g E).bind λp=>match p.1 with|.tup ds=>.ok (ds,p.2)|_=>.bad
theorem Tj{ds:List D}(h:SqL K F a vs)(r:Reps K F vs ds):Walks K (qV K a) F ds:=λi F1 H1 l s=>by
 have sq:SqL K H1 a vs:=h.imp (λh=>s.rd (l.rd h)) id;refine{λhi=>?_,λhi=>{vs,sq,by rw[r.length,hi];exact AM _},λx H' d e ⟨e1,y⟩=>?_}
 .have hv:i<vs.length:=by rw[r.length];exact hi
  exact{vs,vs[i],sq,by simp[hv]}
 .subst e1
  obtain⟨v,h1,h2⟩:=r.get e;rw[y vs sq] at h1;cases h1;exact{F1,.refl s,h2.le l}
theorem Rep.tupSq{ds:List D}(r:Rep K F v (.tup ds)):∃a vs,v=.ref a/\Reps K F vs ds/\∀F1 H1,Le F F1->Sub F1 H1->SqT K H1 a vs:=by
 cases r with
 |tup h r=>exact{_,_,rfl,r,λF1 H1 l s=>.inl (.inl (s _ _ (l.tup h)))}
 |@tupK a xs h n =>
  obtain⟨vs,h1,h2⟩:=Rep.sqT (F:=F) (H:=F) (λ_ _ e=>e) (.tupK h n);refine{a,vs,rfl,h2,λF1 H1 _ _=>?_};rcases h with h|h
  .rcases h with h|⟨o,h⟩<;>cases h
  .have:vs=xs.map V.str:=pA5 h2
   subst this;exact .inr h
theorem zQ7{ds:List D}(sq:∀F1 H1,Le F F1->Sub F1 H1->SqT K H1 a vs)(r:Reps K F vs ds):Walks K (qT K a) F ds:=λi F1 H1 l s=>by
 have sq:=sq F1 H1 l s;refine{λhi=>?_,λhi=>{vs,sq,by rw[r.length,hi];exact AM _},λx H' d e ⟨e1,y⟩=>?_}
 .have hv:i<vs.length:=by rw[r.length];exact hi
  exact{vs,vs[i],sq,by simp[hv]}
 .subst e1
  obtain⟨v,h1,h2⟩:=r.get e;rw[y vs sq] at h1;cases h1;exact{F1,.refl s,h2.le l}
theorem zX9(h:VE X e ge):VI X tg e (Wx ge):=(Po h).imp λσ H Q h=>by
 obtain⟨τ,F,E,ds,E',S,hg,k⟩:=h;obtain⟨p,e1,hg⟩:=pA3 hg;refine{τ,F,E,p.1,p.2,S,e1,λv F1 H1 s1 S1 r1=>?_};split at hg
 .rename_i VH ed
  cases hg;rw[ed] at r1;obtain⟨a,vs,rfl,h1,h2⟩:=r1.isRefL;exact{a,rfl,{vs,h1.imp S1.sub.rd id},k _ F1 H1 s1 S1 (Tj h1 h2)}
 .cases hg
theorem yCC(h:VE X e ge):VI X tg e (Ww ge):=(Ng h).imp λσ H Q h=>by
 obtain⟨τ,F,E,ds,E',S,hg,k⟩:=h;obtain⟨p,e1,hg⟩:=pA3 hg;refine{τ,F,E,p.1,p.2,S,e1,λv F1 H1 s1 S1 r1=>?_};split at hg
 .rename_i VH ed
  cases hg;rw[ed] at r1;obtain⟨a,vs,rfl,h1,h2⟩:=r1.tupSq;exact{a,rfl,{vs,h2 F1 H1 (.refl _) S1.sub},k _ F1 H1 s1 S1 (zQ7 h2 h1)}
 .cases hg
def NL:List G->Ev->Out (List D×Ev)
 |[],E=>.ok ([],E)
 |g::gs,E=>(g E).bind λp=>(NL gs p.2).bind λq=>.ok (p.1::q.1,q.2)
def fL(K:AC)(H₀:Hp)(gs:List G):TA:=λσ H Q=>∃τ F E ds E',Sim K H₀ τ F H σ E/\NL gs E=.ok (ds,E') /\
 ∀vs F' H',Stp (DY σ E) F H F' H' (DY σ E')->Sim K H₀ τ F' H' σ E'->Reps K F' vs ds->Q vs H'
theorem PA.imp{t t':TA}(h:PA X es t)(hi:∀σ H Q,t' σ H Q->t σ H Q):PA X es t':=λp AE s σ H Q I q=>h p AE s σ H Q I (hi σ H Q q)
abbrev VA(X:Cx)(es:List C8)(gs:List G):Prop:=PA X es (fL X.K X.H₀ gs)
theorem FS:VA X [] []:=HZ.imp λσ H Q h=>by
 obtain⟨τ,F,E,ds,E',S,hg,k⟩:=h;cases hg;exact k [] F H .refl S .nil
theorem zYA{gs:List G}{Q:List V->Hp->Prop}(h:fL K H₀ (ge::gs) σ H Q):rV (tV K H₀ ge) (fL K H₀ gs) σ H Q:=by
 obtain⟨τ,F,E,ds,E',S,hg,k⟩:=h;rw[NL] at hg;obtain⟨p,e1,hg⟩:=pA3 hg;obtain⟨q,e2,hg⟩:=pA3 hg;cases hg;exact{τ,F,E,p.1,p.2,S,e1,λv F1 H1 s1 S1 r1=>{τ,F1,p.2,q.1,q.2,S1,e2,λvs F2 H2 s2 S2 r2=>k (v::vs) F2 H2 (s1.trans s2) S2 (.cons (r1.le s2.le) r2)}}
theorem D9{gs:List G}(ha:VE X e ge)(hr:VA X es gs)(hs:AO (e::es) X.env=(AD,eval e X.env)::AO es X.env:=by rfl):VA X (e::es) (ge::gs):=(TC ha hr hs).imp λ_ _ _ h=>zYA h
theorem cC(h:n<10000):n<sizeLine:=AN h 'd'
def few(n:Nat)(x:Out α):Out α:=if n<10000 then x else .bad
theorem XY{x:Out α}{a:α}(h:few n x=.ok a):n<10000/\x=.ok a:=by
 unfold few at h;split at h
 .exact{by assumption,h}
 .cases h
def WM(gs:List G):G:=λE=>(NL gs E).bind λp=>few p.1.length (.ok (.tup p.1,p.2))
def J5(gs:List G):G:=λE=>(NL gs E).bind λp=>few p.1.length (.ok (.lst p.1,p.2))
theorem hU{gs:List G}{x1}(h:VA X es gs):VE X (.Tuple es x1 pos) (WM gs):=(yBH h).imp λσ H Q h=>by
 obtain⟨τ,F,E,ds,E',S,hg,k⟩:=h;obtain⟨p,e1,hg⟩:=pA3 hg;obtain⟨hl,hg⟩:=XY hg;cases hg;refine{τ,F,E,p.1,p.2,S,e1,λvs F1 H1 s1 S1 r1=>{by rw[r1.length];exact CW (cC hl),λq hq=>?_}};have n:=New.laid (o:=.tup vs) S1.sub hq;exact k _ _ _ (s1.trans n.stp) (S1.new n) (.tup HB (r1.le n.1.le))
theorem UE{gs:List G}(h:VA X es gs):FE X (.List es pos) (J5 gs):=(mQ h).imp λσ H Q h=>by
 obtain⟨τ,F,E,ds,E',S,hg,k⟩:=h;obtain⟨p,e1,hg⟩:=pA3 hg;obtain⟨hl,hg⟩:=XY hg;cases hg;refine{τ,F,E,p.1,p.2,S,e1,λvs F1 H1 s1 S1 r1=>{by rw[r1.length];exact CW (cC hl),λq hq=>?_}};have n:=pA6 (H':=D6 H1 q (.lst vs)) S1.sub (Gr.new hq)
 have fq:F1 q=AK:=by
  cases z:F1 q with
  |none=>rfl
  |some o=>rw[S1.sub q o z] at hq;cases hq
 exact k q _ _ (s1.trans n.stp) (S1.new n) fq (s1.dom q hq) {vs,HB,r1} (S1.fresh hq)
def UD(t:Tg)(g:GS):List D->GS
 |[],E=>.ok (.nx E)
 |d::ds,E=>(WS t d E).bind λE1=>(g E1).bind λr=>match r with
  |.nx E2=>UD t g ds E2
  |.ct E2=>UD t g ds E2
  |.bk E2=>.ok (.nx E2)
  |.rt b d E2=>.ok (.rt b d E2)
def QT(gi:GI)(t:Tg)(g:GS):GS:=λE=>(gi E).bind λp=>UD t g p.1 p.2
theorem fE{iter:C8}{t:Tg}(hp:VU (A1 X.prog X.w) X.A X.env X.xe)(hc:X.calm=AL)(hi:VI X tg iter gi)(hg:VG X tg t)(hb:Z3 X body g)
  (hs:∀x,DF iter X.env x=pure x:=by intro _;rfl):VS X (.For tg iter body [] pos) (QT gi t g):=(pM hp hc hi hg hb hs).imp λD' σ H h=>by
 obtain⟨τ,F,E,r,S,hg,k⟩:=h;obtain⟨p,e1,hg⟩:=pA3 hg;refine{τ,F,E,p.1,p.2,S,e1,λJ F1 H1 s1 S1 w1=>?_};refine{λi m σ2 H2=>m=p.1.length-i/\i<=p.1.length/\∃F2 E2,Sim X.K X.H₀ τ F2 H2 σ2 E2/\Stp (DY σ E) F H F2 H2 (DY σ2 E2)/\Le F1 F2/\UD t g (p.1.drop i) E2=.ok r,{_,rfl,BS _,F1,p.2,S1,s1,.refl _,by rw[OG];exact hg},?_};rintro i m σ2 H2 ⟨rfl,Ax,F2,E2,S2,s2,l2,h2⟩;obtain⟨w2,w3,w4⟩:=w1 i F2 H2 l2 S2.sub
 by_cases hi:i<p.1.length
 .obtain⟨d,hd⟩:∃d,p.1[i]?=AA d:={p.1[i],by simp[hi]}
  have wD:p.1.drop i=d::p.1.drop (i+1):=by
   rw[FL hi];have:p.1[i]=d:=by rw[BO hi] at hd;exact BL hd
   rw[this]
  rw[wD,UD] at h2;obtain⟨E3,e3,h2⟩:=pA3 h2;obtain⟨q,e4,h2⟩:=pA3 h2;refine .inr {w2 hi,λσ5 H5=>∃F5 E5,Sim X.K X.H₀ τ F5 H5 σ5 E5/\Stp (DY σ E) F H F5 H5 (DY σ5 E5)/\Le F1 F5/\UD t g (p.1.drop (i+1)) E5=.ok r,λσ5 H5 ⟨F5,E5,a1,a2,a3,a4⟩=>{_,by omega,rfl,hi,F5,E5,a1,a2,a3,a4},λx H' y=>?_};obtain⟨F3,n3,r3⟩:=w4 x H' d hd y;refine{τ,F3,E2,d,E3,S2.new n3,r3,e3,λσ4 S4 h4 _=>{τ,F3,E3,q,S4,e4,?_}};have s4:Stp (DY σ E) F H F3 H' (DY σ4 E3):=(s2.trans n3.stp).weak h4;have l3:Le F1 F3:=l2.trans n3.1.le
  cases q with
  |nx E5=>exact λσ5 F5 H5 s5 S5=>{F5,E5,S5,s4.trans s5,l3.trans s5.le,h2}
  |ct E5=>exact λσ5 F5 H5 s5 S5=>{F5,E5,S5,s4.trans s5,l3.trans s5.le,h2}
  |bk E5=>cases h2;exact λσ5 F5 H5 s5 S5=>k σ5 F5 H5 (s4.trans s5) S5
  |rt b d E5=>cases h2;exact λσ5 v F5 H5 s5 S5 q=>k σ5 v F5 H5 (s4.trans s5) S5 (q.pre s4)
 .have hi:i=p.1.length:=by omega
  rw[JV 'o',UD] at h2;cases h2;exact .inl {w3 hi,k σ2 F2 H2 s2 S2}
end
abbrev Mr:=List Sl->Out (Bool×D×D)
noncomputable def gY(sl:Ev)(d:D):Ev:=match sl with
 |.own t _::r=>.own t d::r
 |sl=>sl
noncomputable def fin(sl:Ev)(E':Ev)(b:Bool)(d:D):Out (Bool×D×D):=match sl with
 |.own _ _::_=>match E' with
  |.own AL d'::_=>.ok (b,d,d')
  |_=>.bad
 |_=>.ok (b,d,.non)
def PP(n:Nat)(gb:GS):Mr:=λsl=>(gb (sl++BG (n-sl.length) .no)).bind λr=>match r with
 |.rt b d E'=>fin sl E' b d
 |.nx E'=>fin sl E' AD .non
 |_=>.bad
def Gz(sl:Ev):Prop:=∀(i:Nat) t d,sl[i]?=AA (.own t d)->i=0/\t=AL
def yHZ(K:AC)(H F' H':Hp)(ow:AQ->Prop):Bool->V->D->Prop
 |false,v,d=>Rep K F' v d
 |true,v,d=>∃a,v=.ref a/\F' a=AK/\OwnAt K F' H' a d/\H a=AK/\¬ow a
def NM(K:AC)(np:Nat)(m:Mr):Sp:=λvs H Q _=>vs.length=np/\∃τ F sl b d d',Sim K H τ F H (vs.map AA) sl/\Gz sl/\m sl=.ok (b,d,d') /\
 ∀v F' H',Stp (DY (vs.map AA) sl) F H F' H' (DY (vs.map AA) (gY sl d'))->Sim K H τ F' H' (vs.map AA) (gY sl d')->yHZ K H F' H' (DY (vs.map AA) (gY sl d')) b v d->Q v H'
theorem yCD{sl:Ev}{b b':Bool}{d d0 d':D}(h:fin sl E' b d=.ok (b',d0,d')):b'=b/\d0=d/\∀t x r,sl=.own t x::r->∃r',E'=.own AL d'::r':=by
 unfold fin at h;split at h
 .split at h
  .cases h
   exact{rfl,rfl,λ_ _ _ _=>{_,rfl}}
  .cases h
 .rename_i hn
  cases h;refine{rfl,rfl,λt x r e=>?_};exact absurd e (by intro z;exact hn t x r z)
section
variable{K:AC}
theorem Fun.okC{st:E6}{ps:List CT}(F:Fun K x qual st f fd)(S:FnScope N ps (J1 st))(len:∀vs H Q E,sp vs H Q E->vs.length=ps.length)
  (KR:∀(G6:AH) (A:DQ) (outer:List XC) (s:AT) (H:Hp) (vs:List V) (Q:VK) (E:XK),G6=fd.code->Room k (A.deeper (FY qual (J1 st) s.heap.objs.size f G6))->sp vs H Q E ->
   ∃t,PSs (O1 LM P w K mg base N qual (J1 st) f G6 A outer s H E).nox (V6 st) t/\t { nx:=λ_ H'=>Q .non H',rt:=Q } (start N vs) H):FnOk P w K mg base LM (k+1) f fd ps sp:=by
 obtain⟨oc,od,kV,SF,pm,an,G6,ct,Z4,rfl,lk,L9⟩:=F.ex;refine Cb lk L9 S len λA outer s H vs Q E hr bB=>?_;obtain⟨t,h,q⟩:=KR G6 A outer s H vs Q E rfl hr bB;exact{t,h.nox,q}
theorem Bx{st:E6}{ps:List CT}{gb:GS}(Fn:Fun K x qual st f fd)(S:FnScope N ps (J1 st))
  (KR:∀(G6:AH) (A:DQ) (outer:List XC) (s:AT) (H:Hp) (E:XK),G6=fd.code->Room k (A.deeper (FY qual (J1 st) s.heap.objs.size f G6)) ->
   Z3 (O1 LM P w K mg base N qual (J1 st) f G6 A outer s H E).nox (V6 st) gb):FnOk P w K mg base LM (k+1) f fd ps (NM K ps.length (PP N.length gb)):=by
 refine Fn.okC S (λvs H Q E h=>h.1) λG6 A outer s H vs Q E Ba hr h=>{_,KR G6 A outer s H E Ba hr,?_};obtain⟨hl,τ,F,sl,b,d,d',Sm,sh,hm,k⟩:=h;unfold PP at hm;obtain⟨r,e1,hm⟩:=pA3 hm;have lsl:sl.length=vs.length:=by rw[Sm.len,AJ]
 have iU:∀(i:Nat) t d,(sl++BG (N.length-sl.length) Sl.no)[i]?=AA (.own t d)->sl[i]?=AA (.own t d):=λi t d q=>by
  by_cases hi:i<sl.length
  .rw[CC hi] at q;exact q
  .rw[B0 (E4 hi),DW] at q
   split at q<;>cases q
 have Hm:∀(i:Nat) d,(sl++BG (N.length-sl.length) Sl.no)[i]?=AA (.val d)->sl[i]?=AA (.val d):=λi d q=>by
  by_cases hi:i<sl.length
  .rw[CC hi] at q;exact q
  .rw[B0 (E4 hi),DW] at q
   split at q<;>cases q
 have qX:∀(i:Nat),i<sl.length->(start N vs)[i]?=(vs.map AA)[i]?:=λi hi=>by
  unfold start;rw[CC (by rw[AJ];omega)]
 have Sm0:Sim K H τ F H (start N vs) (sl++BG (N.length-sl.length) .no):=by
  refine{Sm.sub,?_,λi d q=>?_,λi t d q=>?_,λi j t u d d2 a q1 q2 z1 z2=>?_}
  .unfold start
   rw[BH,BH,DC,DC,AJ,lsl]
  .have q:=Hm i d q
   rw[qX i (AR.mp q).1];exact Sm.val i d q
  .have q:=iU i t d q
   rw[qX i (AR.mp q).1];exact Sm.own i t d q
  .have q1:=iU i _ _ q1
   have q2:=iU j _ _ q2;rw[qX i (AR.mp q1).1] at z1;rw[qX j (AR.mp q2).1] at z2;exact Sm.inj i j t u d d2 a q1 q2 z1 z2
 have qZ:∀a,DY (start N vs) (sl++BG (N.length-sl.length) .no) a↔DY (vs.map AA) sl a:=λa=>by
  constructor
  .rintro⟨i,t,d,q1,q2⟩
   have q:=iU i t d q1;rw[qX i (AR.mp q).1] at q2;exact{i,t,d,q,q2}
  .rintro⟨i,t,d,q1,q2⟩
   have hi:=(AR.mp q1).1;exact{i,t,d,by rw[CC hi];exact q1,by rw[qX i hi];exact q2}
 -- the end,from what the body ends with
 have cR:∀{E':Ev} {b0:Bool} {d0:D},fin sl E' b0 d0=.ok (b,d,d')->∀σ' v F' H',Stp (DY (start N vs) (sl++BG (N.length-sl.length) .no)) F H F' H' (DY σ' E')->Sim K H τ F' H' σ' E' ->
   RetR K (DY (start N vs) (sl++BG (N.length-sl.length) .no)) H F' H' σ' E' b0 v d0->Q v H':=by
  intro E' b0 d0 hf σ' v F' H' s1 S1 rr;obtain⟨rfl,rfl,h3⟩:=yCD hf
  have p0:∀(i:Nat) t x,(gY sl d')[i]?=AA (.own t x)->i=0/\t=AL/\x=d'/\∃x0 r,sl=.own AL x0::r:=λi t x q=>by
   cases sl with
   |nil=>simp[gY] at q
   |cons y r =>
    have EC:(∀t0 x0,y≠.own t0 x0)->(y::r)[i]?=AA (.own t x)->False:=λhn q=>by
     obtain⟨h0,ht⟩:=sh i t x q;subst h0;simp at q;exact hn _ _ q
    cases y with
    |no=>exact(EC (λ_ _ z=>Sl.noConfusion z) q).elim
    |val _=>exact(EC (λ_ _ z=>Sl.noConfusion z) q).elim
    |own t0 x0 =>
     cases i with
     |zero =>
      obtain⟨_,ht⟩:=sh 0 t0 x0 rfl;subst ht;have q:AA (Sl.own AL d')=AA (.own t x):=q;cases q;exact{rfl,rfl,rfl,x0,r,rfl}
     |succ i =>
      have:=(sh (i+1) t x q).1;omega
  have pv:∀(i:Nat) x,(gY sl d')[i]?=AA (.val x)->sl[i]?=AA (.val x):=λi x q=>by
   unfold gY at q;split at q
   .cases i with
    |zero=>simp at q
    |succ i=>simpa using q
   .exact q
  have uU:∀x0 r,sl=.own AL x0::r->∃a,(vs.map AA)[0]?=AA (AA (.ref a))/\τ=a/\σ'[0]?=AA (AA (.ref a))/\F' a=AK/\OwnAt K F' H' a d'/\(∀o u,H a≠AA (.frz o u))/\E'[0]?=AA (.own AL d'):=λx0 r e=>by
   obtain⟨r',e'⟩:=h3 AL x0 r e;have q0:E'[0]?=AA (.own AL d'):=by rw[e'];rfl
   obtain⟨a,a1,a2,a3,a4,a5⟩:=S1.own 0 AL d' q0;obtain⟨c,c1,c2,c3,c4,c5⟩:=Sm.own 0 AL x0 (by rw[e];rfl);have:a=c:=by rw[<-a5 rfl,<-c5 rfl]
   subst this;exact{a,c1,c5 rfl,a1,a2,a3,a4,q0}
  refine k v F' H' {λa o e hw n ho=>s1.keep a o e hw n λz=>ho ((qZ a).mp z),s1.dom,s1.le,λa o e=>(s1.new a o e).imp_right λz=>z.imp_right (qZ a).mp,λa ⟨i,t,x,q1,q2⟩=>?_}
   {S1.sub,?_,λi x q=>?_,λi t x q=>?_,λi j t u x y a q1 q2 _ _=>by rw[(p0 i t x q1).1,(p0 j u y q2).1]} ?_
  .obtain⟨rfl,rfl,rfl,x0,r,e⟩:=p0 i t x q1
   exact .inl {0,AL,x0,by rw[e];rfl,q2}
  .have:(gY sl d').length=sl.length:=by
    unfold gY;split<;>rfl
   rw[this];exact Sm.len
  .obtain⟨v,h1,h2⟩:=Sm.val i x (pv i x q)
   exact{v,h1,h2.le s1.le}
  .obtain⟨rfl,rfl,rfl,x0,r,e⟩:=p0 i t x q
   obtain⟨a,a1,a2,a3,a4,a5,a6,_⟩:=uU x0 r e;exact{a,a1,a4,a5,a6,λ_=>a2}
  .cases b with
   |false=>exact rr
   |true =>
    obtain⟨a,r1,r2,r3,r4,r5⟩:=rr
    have no:¬DY (vs.map AA) sl a:=by
     rintro⟨i,t,x,q1,q2⟩;obtain⟨rfl,rfl⟩:=sh i t x q1
     cases sl with
     |nil=>simp at q1
     |cons y r =>
      simp at q1;subst q1;obtain⟨c,c1,c2,c3,c4,c5,c6,c7⟩:=uU x r rfl;rw[q2] at c1;cases c1;exact r5 0 d' c7 c3
    refine{a,r1,r2,r3,r4.elim (λz=>absurd ((qZ a).mp z) no) id,?_};rintro⟨i,t,x,q1,q2⟩;obtain⟨rfl,rfl,rfl,x0,r,e⟩:=p0 i t x q1;exact no {0,AL,x0,by rw[e];rfl,q2}
 refine{τ,F,_,r,Sm0,e1,?_}
 cases r with
 |rt b0 d0 E'=>exact cR hm
 |nx E'=>exact λσ' F' H' s1 S1=>cR hm σ' .non F' H' s1 S1 .non
 |bk E'=>cases hm
 |ct E'=>cases hm
theorem V2{st:E6}{ps:List CT}{gb:GS}(Fn:Fun K x qual st f fd)(S:FnScope N ps (J1 st))
  (KR:∀(G6:AH) (A:DQ) (outer:List XC) (s:AT) (H:Hp) (E:XK),Room k (A.deeper (FY qual (J1 st) s.heap.objs.size f G6)) ->
   Z3 (O1 LM P w K mg base N qual (J1 st) f G6 A outer s H E).nox (V6 st) gb):FnOk P w K mg base LM (k+1) f fd ps (NM K ps.length (PP N.length gb)) :=
 Bx Fn S λG6 A outer s H E _ hr=>KR G6 A outer s H E hr
end
variable{m:Mr}
section
variable{K:AC}{ge:G}{gs:List G}
def NP(P:CQ)(w:D3)(K:AC)(mg:CT->Option AH)(base:D4)(x:CT)(k np:Nat)(m:Mr):Prop :=
 ∃(f:AQ) (fd:JR) (ps:List CT),FnOk P w K mg base LM k f fd ps (NM K np m)/\mg x=AA (.ref f)/\EO K (.ref f)=AL/\Binds K fd ps []
theorem xC{ds:List D}(a:AQ):¬DY σ (ds.map Sl.val) a:=λq0=>by
 obtain⟨i,t,d,e,_⟩:=q0;rw[AU] at e
 cases q:ds[i]? with
 |none=>rw[q] at e;cases e
 |some d'=>rw[q] at e;cases e
theorem Sim.args{ds:List D}(s:Sub F H)(r:Reps K F vs ds):Sim K H₀ τ F H (vs.map AA) (ds.map Sl.val):=by
 have no:∀(i:Nat) t d,(ds.map Sl.val)[i]?≠AA (.own t d):=λi t d e=>by
  rw[AU] at e
  cases q:ds[i]? with
  |none=>rw[q] at e;cases e
  |some d'=>rw[q] at e;cases e
 refine{s,by rw[AJ,AJ,r.length],λi d e=>?_,λi t d e=>absurd e (no i t d),λi j t u d d' a e=>absurd e (no i t d)};rw[AU] at e
 cases q:ds[i]? with
 |none=>rw[q] at e;cases e
 |some d' =>
  rw[q] at e;cases e;obtain⟨v,h1,h2⟩:=r.get q;exact{v,by rw[AU,h1];rfl,h2}
theorem Dy(ds:List D):Gz (ds.map Sl.val):=λi t d e=>by
 rw[AU] at e
 cases q:ds[i]? with
 |none=>rw[q] at e;cases e
 |some d'=>rw[q] at e;cases e
theorem New.share(n:New F1 H1 F2 H2)(h:H1 a=AK)(ho:H2 a=AA o)(hf:F2 a=AK):New F1 H1 (D6 F2 a o) H2:=by
 refine{{n.1.keep,n.1.dom,n.1.le.trans (.of_gr (Gr.new hf)),λb u e=>?_,λ_ z=>z.elim},λb u e=>?_}
 .by_cases hb:b=a
  .subst hb;exact .inr (.inl (.none h))
  .rw[EV hb] at e;exact n.1.new b u e
 .by_cases hb:b=a
  .subst hb;rw[HB] at e;rw[ho];exact e
  .rw[EV hb] at e;exact n.2 b u e
def K8(m:Mr)(gs:List G):G:=λE=>(NL gs E).bind λp=>(m (p.1.map Sl.val)).bind λq=>.ok (q.2.1,p.2)
def pI(m:Mr)(gs:List G):G:=λE=>(NL gs E).bind λp=>(m (p.1.map Sl.val)).bind λq=>if q.1=AL then .ok (q.2.1,p.2) else .bad
theorem kG:∀{gs:List G} {E:Ev} {q:List D×Ev},NL gs E=.ok q->q.1.length=gs.length
 |[],_,_,h=>by rw[NL] at h;cases h;rfl
 |g::gs,E,q,h=>by
  rw[NL] at h;obtain⟨p,_,h⟩:=pA3 h;obtain⟨r,e2,h⟩:=pA3 h;cases h;rw[BB,BB,kG e2]
theorem zYC(hn:gs.length=np){Q:VK}(h:tV K H₀ (K8 m gs) σ H Q):rS (NM K np m) [] E0 (fL K H₀ gs) σ H Q:=by
 obtain⟨τ,F,E,d,E',S,hg,k⟩:=h;obtain⟨p,e1,hg⟩:=pA3 hg;obtain⟨q,e2,hg⟩:=pA3 hg;cases hg;refine{τ,F,E,p.1,p.2,S,e1,λvs F1 H1 s1 S1 r1=>?_};dsimp only;rw[DJ];refine{by rw[r1.length,kG e1,hn],0,F1,_,q.1,q.2.1,q.2.2,Sim.args S1.sub r1,Dy _,e2,λv F2 H2 s2 S2 rr=>?_};have n:New F1 H1 F2 H2:={(s2.toF λa=>xC a).weak λ_ z=>z.elim,S2.sub}
 cases hb:q.1 with
 |false =>
  rw[hb] at rr;exact k v F2 H2 (s1.trans n.stp) (S1.new n) rr
 |true =>
  rw[hb] at rr;obtain⟨a,rfl,h1,h2,h3,h4⟩:=rr;obtain⟨o,ho,_⟩:=h2.ho;have n':=n.share h3 ho h1;exact k _ _ H2 (s1.trans n'.stp) (S1.new n') (h2.rep h1 ho)
theorem zUK(hn:gs.length=np){Q:VK}(h:tF K H₀ (pI m gs) σ H Q):rS (NM K np m) [] E0 (fL K H₀ gs) σ H Q:=by
 obtain⟨τ,F,E,d,E',S,hg,k⟩:=h;obtain⟨p,e1,hg⟩:=pA3 hg;obtain⟨q,e2,hg⟩:=pA3 hg;split at hg
 .rename_i hb
  cases hg;refine{τ,F,E,p.1,p.2,S,e1,λvs F1 H1 s1 S1 r1=>?_};dsimp only;rw[DJ];refine{by rw[r1.length,kG e1,hn],0,F1,_,q.1,q.2.1,q.2.2,Sim.args S1.sub r1,Dy _,e2,λv F2 H2 s2 S2 rr=>?_};have n:New F1 H1 F2 H2:={(s2.toF λa=>xC a).weak λ_ z=>z.elim,S2.sub};rw[hb] at rr;obtain⟨a,rfl,h1,h2,h3,h4⟩:=rr;exact k a F2 H2 (s1.trans n.stp) (S1.new n) h1 (s1.dom a h3) h2 (S1.fresh h3)
 .cases hg
theorem SM(C:NP X.prog X.w X.K X.mg X.base x k np m)(hr:Room k X.A)(ha:VA X (e::es) gs)(hn:gs.length=np:=by rfl)(hg:Gl X x:=by rfl)(SC:(x==("__debug__":CT))=AD:=by decide)
  (he:AO (e::es) X.env=(AD,eval e X.env)::AO es X.env:=by rfl) (JW:(DO pos (AO es X.env)).any (·.1)=AD:=by rfl):VE X (.Call (.Name x p) (e::es) [] pos) (K8 m gs):=by
 obtain⟨f,fd,ps,Fn,hm,hk,hb⟩:=C;exact(sO Fn hr hg hm hk hb .nil xF ha SC he JW).imp λ_ _ _ h=>zYC hn h
theorem yCE(C:NP X.prog X.w X.K X.mg X.base x k np m)(hr:Room k X.A)(ha:VA X (e::es) gs)(hn:gs.length=np:=by rfl)(hg:Gl X x:=by rfl)(SC:(x==("__debug__":CT))=AD:=by decide)
  (he:AO (e::es) X.env=(AD,eval e X.env)::AO es X.env:=by rfl) (JW:(DO pos (AO es X.env)).any (·.1)=AD:=by rfl):FE X (.Call (.Name x p) (e::es) [] pos) (pI m gs):=by
 obtain⟨f,fd,ps,Fn,hm,hk,hb⟩:=C;exact(sO Fn hr hg hm hk hb .nil xF ha SC he JW).imp λ_ _ _ h=>zUK hn h
def LC(m:Mr)(i:Nat)(gs:List G):G:=λE=>match E[i]? with
 |some (.own _ _)=>(NL gs E).bind λp=>match p.2[i]? with
  |some (.own t d)=>(m (.own AL d::p.1.map Sl.val)).bind λq=>.ok (q.2.1,p.2.set i (.own t q.2.2))
  |_=>.bad
 |_=>.bad
theorem pAF{ds:List D}{d:D}(s:Sub F H)(r:Reps K F vs ds)(h1:F a=AK)(h2:OwnAt K F H a d):Sim K H a F H ((V.ref a::vs).map AA) (.own AL d::ds.map Sl.val):=by
 have S:=Sim.args (K:=K) (H₀:=H) (τ:=a) s r
 have no:∀(i:Nat) t d',(Sl.own AL d::ds.map Sl.val)[i]?=AA (.own t d')->i=0/\t=AL/\d'=d:=λi t d' e=>by
  cases i with
  |zero=>cases e;exact{rfl,rfl,rfl}
  |succ i =>
   have e:(ds.map Sl.val)[i]?=AA (.own t d'):=by simpa using e
   rw[AU] at e
   cases q:ds[i]? with
   |none=>rw[q] at e;cases e
   |some d'=>rw[q] at e;cases e
 refine{s,by rw[AJ,BB,BB,AJ,r.length],λi d' e=>?_,λi t d' e=>?_,λi j t u d1 d2 b e1 e2 _ _=>by rw[(no i _ _ e1).1,(no j _ _ e2).1]}
 .cases i with
  |zero=>cases e
  |succ i=>simpa using S.val i d' (by simpa using e)
 .obtain⟨rfl,rfl,rfl⟩:=no i t d' e
  obtain⟨o,ho,hw⟩:=h2.ho;exact{a,rfl,h1,h2,λob u z=>by rw[ho] at z;cases z;exact hw,λ_=>rfl}
theorem Fw{ds:List D}{d:D}:Gz (.own AL d::ds.map Sl.val):=λi t d' e=>by
 cases i with
 |zero=>cases e;exact{rfl,rfl}
 |succ i =>
  have e:(ds.map Sl.val)[i]?=AA (.own t d'):=by simpa using e
  exact absurd (Dy ds i t d' e) (by
   rw[AU] at e
   cases q:ds[i]? with
   |none=>rw[q] at e;cases e
   |some d'=>rw[q] at e;cases e)
theorem kK{ds:List D}{b:AQ}{d:D}(h:DY ((V.ref a::vs).map AA) (.own AL d::ds.map Sl.val) b):b=a:=by
 obtain⟨i,t,d',e1,e2⟩:=h;obtain⟨rfl,_⟩:=Fw i t d' e1;cases e2
 rfl
theorem zUL(hn:gs.length+1=np){Q:VK}(h:tV K H₀ (LC m i gs) σ H Q):rS (NM K np m) [] E0 (rV (eV i) (fL K H₀ gs)) σ H Q:=by
 obtain⟨τ,F,E,d,E',S,hg,k⟩:=h;unfold LC at hg;split at hg
 .rename_i t0 d0 e0
  obtain⟨p,e1,hg⟩:=pA3 hg;split at hg
  .rename_i t d1 e3
   obtain⟨q,e2,hg⟩:=pA3 hg;cases hg;obtain⟨a,a1,_⟩:=S.own i _ _ e0;refine{_,a1,τ,F,E,p.1,p.2,S,e1,λvs F1 H1 s1 S1 r1=>?_};dsimp only;rw[DJ];obtain⟨a',b1,b2,b3,b4,b5⟩:=S1.own i _ _ e3;rw[a1] at b1;cases b1;refine{by rw[BB,r1.length,kG e1,hn],a,F1,_,q.1,q.2.1,q.2.2,pAF S1.sub r1 b2 b3,Fw,e2,λv F2 H2 s2 S2 rr=>?_};have s2:Stp (DY ((V.ref a::vs).map AA) (.own AL d1::p.1.map Sl.val)) F1 H1 F2 H2 (DY ((V.ref a::vs).map AA) (.own AL q.2.2::p.1.map Sl.val)):=s2;have S2:Sim K H1 a F2 H2 ((V.ref a::vs).map AA) (.own AL q.2.2::p.1.map Sl.val):=S2;have hi:i<p.2.length:=(AR.mp e3).1
   have H9:∀(j:Nat) t' d',(p.2.set i (.own t q.2.2))[j]?=AA (.own t' d')->(j=i/\t'=t/\d'=q.2.2)\/(j≠i/\p.2[j]?=AA (.own t' d')):=λj t' d' z=>by
    by_cases hj:i=j
    .subst hj;rw[BF hi] at z;cases z;exact .inl {rfl,rfl,rfl}
    .rw[A5 hj] at z;exact .inr {E8 hj,z}
   have Yc:∀b,DY σ (p.2.set i (.own t q.2.2)) b->DY σ p.2 b:=λb q0=>by
    obtain⟨j,t',d',z1,z2⟩:=q0;rcases H9 j t' d' z1 with⟨rfl,_,_⟩|⟨_,z1⟩
    .exact{_,_,_,e3,z2}
    .exact{j,t',d',z1,z2}
   have Ym:DY σ p.2 a:={i,t,d1,e3,a1};have KN:Stp (DY σ p.2) F1 H1 F2 H2 (DY σ (p.2.set i (.own t q.2.2))):={λb o z hw n ho=>s2.keep b o z hw n λy=>ho (by rw[kK y];exact Ym),s2.dom,s2.le,λb o z=>(s2.new b o z).imp_right λy=>y.imp_right λy=>by rw[kK y];exact Ym,λb z=>.inl (Yc b z)}
   have Sm:Sim K H₀ τ F2 H2 σ (p.2.set i (.own t q.2.2)):=by
    refine{S2.sub,by rw[B9];exact S1.len,λj d' z=>?_,λj t' d' z=>?_,λj l t1 t2 x y b z1 z2 y1 y2=>?_}
    .by_cases hj:i=j
     .subst hj;rw[BF hi] at z;cases z
     .rw[A5 hj] at z
      obtain⟨v,h1,h2⟩:=S1.val j d' z;exact{v,h1,h2.le s2.le}
    .rcases H9 j t' d' z with⟨rfl,rfl,rfl⟩|⟨hj,z⟩
     .obtain⟨c,c1,c2,c3,_⟩:=S2.own 0 AL q.2.2 rfl
      cases c1;exact{a,a1,c2,c3,b4,b5}
     .obtain⟨c,c1,c2,c3,c4⟩:=S1.own j t' d' z
      obtain⟨o,ho,hw⟩:=c3.ho;have wJ:c≠a:=λy=>hj (S1.inj j i t' t d' d1 a z e3 (by rw[c1,y]) a1);refine{c,c1,?_,c3.mono s2.le ((s2.keep c o ho hw c2 λy=>wJ (kK y)).trans ho.symm),c4}
      cases y:F2 c with
      |none=>rfl
      |some u =>
       rcases s2.new c u y with y|y|y
       .exact absurd c2 y
       .exact absurd hw (y o ho)
       .exact absurd (kK y) wJ
    .have f:∀(j:Nat) t' d',(p.2.set i (.own t q.2.2))[j]?=AA (.own t' d')->∃nJ Lx,p.2[j]?=AA (.own nJ Lx):=λj t' d' z=>by
      rcases H9 j t' d' z with⟨rfl,_,_⟩|⟨_,z⟩
      .exact{_,_,e3}
      .exact{_,_,z}
     obtain⟨_,_,w1⟩:=f j _ _ z1;obtain⟨_,_,w2⟩:=f l _ _ z2;exact S1.inj j l _ _ _ _ b w1 w2 y1 y2
   cases hb:q.1 with
   |false =>
    rw[hb] at rr;exact k v F2 H2 (s1.trans KN) Sm rr
   |true =>
    rw[hb] at rr;obtain⟨c,rfl,h1,h2,h3,h4⟩:=rr;obtain⟨o,ho,_⟩:=h2.ho
    have nc:∀b,DY σ (p.2.set i (.own t q.2.2)) b->b≠c:=λb z y=>by
     subst y;exact S1.fresh h3 (Yc b z)
    refine k _ (D6 F2 c o) H2 (s1.trans {KN.keep,KN.dom,KN.le.trans (.of_gr (Gr.new h1)),λb u z=>?_,KN.own}) {λb u z=>?_,Sm.len,λj d' z=>?_,λj t' d' z=>?_,Sm.inj} (h2.rep h1 ho)
    .by_cases hb:b=c
     .subst hb;exact .inr (.inl (.none h3))
     .rw[EV hb] at z;exact KN.new b u z
    .by_cases hb:b=c
     .subst hb;rw[HB] at z;rw[ho];exact z
     .rw[EV hb] at z;exact Sm.sub b u z
    .obtain⟨v,y1,y2⟩:=Sm.val j d' z
     exact{v,y1,y2.le (.of_gr (Gr.new h1))}
    .obtain⟨b,y1,y2,y3,y4⟩:=Sm.own j t' d' z
     exact{b,y1,by rw[EV (nc b {j,t',d',z,y1})];exact y2,y3.mono (.of_gr (Gr.new h1)) rfl,y4}
  .cases hg
 .cases hg
theorem WO{q:gK}(i:Nat)(C:NP X.prog X.w X.K X.mg X.base x k np m)(hr:Room k X.A)(ha:VA X es gs)(hn:gs.length+1=np:=by rfl)(hg:Gl X x:=by rfl)(SC:(x==("__debug__":CT))=AD:=by decide)
  (he:AO (.Name xn q::es) X.env=(AD,eval (.Name xn q) X.env)::AO es X.env:=by rfl) (JW:(DO pos (AO es X.env)).any (·.1)=AD:=by rfl)
  (hN:X.N[i]?=AA xn:=by rfl) (hv:Z2 X.env.scope xn:=by first|exact BN rfl|exact EF (BN rfl)|exact EF (EF rfl)) (hd:(xn==("__debug__":CT))=AD:=by decide)
  (L9:(xn==("__classdict__":CT))=AD:=by decide):VE X (.Call (.Name x p) (.Name xn q::es) [] pos) (LC m i gs):=by
 obtain⟨f,fd,ps,Fn,hm,hk,hb⟩:=C;exact(sO Fn hr hg hm hk hb .nil xF (TC (iD hN hv hd L9) ha he) SC he JW).imp λ_ _ _ h=>zUL hn h
end
theorem PTs.imp{t t':TT}(h:PTs X es t)(hi:∀σ H Q,t' σ H Q->t σ H Q):PTs X es t':=λAE s σ H Q I q=>h AE s σ H Q I (hi σ H Q q)
abbrev tW(X:Cx)(es:List C8)(g:Ev->Out (Bool×Ev)):Prop:=PTs X es (tT X.K X.H₀ g)
def V1:Ev->Out (Bool×Ev):=λE=>.ok (AL,E)
theorem pS:tW X [] V1:=Y5.imp λσ H Q h=>by
 obtain⟨τ,F,E,d,E',S,hg,k⟩:=h;cases hg;exact k F H .refl S
theorem Do{t:Ev->Out (Bool×Ev)}(h:VT X c t):tW X [c] t:=zXZ h
theorem zQ8{l:List Nat}(h:l.Nodup){x:Nat}(hi:l[i]?=AA x)(hj:l[j]?=AA x):i=j:=by
 obtain⟨a1,a2⟩:=AR.mp hi;obtain⟨b1,b2⟩:=AR.mp hj;have p:=EK.mp h;rcases gO i j with z|z|z
 .exact absurd (a2.trans b2.symm) (p i j a1 b1 z)
 .exact z
 .exact absurd (b2.trans a2.symm) (p j i b1 a1 z)
noncomputable def XG(k:Nat)(js:List Nat)(E:Ev):Ev:=BG k .no++js.map λj=>(E[j]?).getD .no
noncomputable def mI(j:Nat):List Nat->Nat->Option Nat
 |[],_=>AK
 |x::xs,n=>if x=j then AA n else mI j xs (n+1)
theorem Sy{j:Nat}:∀{js:List Nat} {n0 n:Nat},mI j js n0=AA n->∃m,n=n0+m/\js[m]?=AA j
 |[],_,_,h=>by cases h
 |x::xs,n0,n,h=>by
  rw[mI] at h;split at h
  .rename_i hx;cases h;exact{0,rfl,by simp[hx]}
  .obtain⟨m,h1,h2⟩:=Sy h;exact{m+1,by lia,by simpa using h2}
theorem Sx{j:Nat}:∀{js:List Nat} {n0:Nat},mI j js n0=AK->j∉js
 |[],_,_=>by simp
 |x::xs,n0,h=>by
  rw[mI] at h;split at h
  .cases h
  .rename_i hx
   have:=Sx h;simp only[BC,not_or];exact{λz=>hx z.symm,this}
def jQ(Ec:Ev)(k:Nat)(js:List Nat)(j:Nat):Sl->Sl
 |.own t d=>match mI j js 0 with
  |some n=>(Ec[k+n]?).getD .no
  |none=>.own t d
 |s=>s
def b7(Ec:Ev)(k:Nat)(js:List Nat):Nat->Ev->Ev
 |_,[]=>[]
 |j,s::E=>jQ Ec k js j s::b7 Ec k js (j+1) E
abbrev aX(E Ec:Ev)(k:Nat)(js:List Nat):Ev:=b7 Ec k js 0 E
theorem Qo(Ec:Ev)(k:Nat)(js:List Nat):∀(E:Ev) (j0 j:Nat),(b7 Ec k js j0 E)[j]?=(E[j]?).map (jQ Ec k js (j0+j))
 |[],_,_=>by simp[b7]
 |s::E,j0,0=>by simp[b7]
 |s::E,j0,j+1=>by
  show(b7 Ec k js (j0+1) E)[j]?=_;rw[Qo Ec k js E (j0+1) j,F9,show j0+1+j=j0+(j+1) by lia]
theorem Qk(Ec:Ev)(k:Nat)(js:List Nat):∀(E:Ev) (j0:Nat),(b7 Ec k js j0 E).length=E.length
 |[],_=>rfl
 |s::E,j0=>by rw[b7,BB,BB,Qk Ec k js E (j0+1)]
theorem xX{E Ec:Ev}{s:Sl}(h:(aX E Ec k js)[j]?=AA s):(E[j]?=AA s/\((∃t d,s=.own t d)->j∉js))\/∃t d n,E[j]?=AA (.own t d)/\js[n]?=AA j/\s=(Ec[k+n]?).getD .no:=by
 rw[Qo,ES] at h
 cases q:E[j]? with
 |none=>rw[q] at h;cases h
 |some s0 =>
  rw[q] at h;have h:jQ Ec k js j s0=s:=BL h
  cases s0 with
  |no=>cases h;exact .inl {rfl,(λq0=>by obtain⟨_,_,z⟩:=q0;exact by cases z)}
  |val d=>cases h;exact .inl {rfl,(λq0=>by obtain⟨_,_,z⟩:=q0;exact by cases z)}
  |own t d =>
   cases f:mI j js 0 with
   |none =>
    have:jQ Ec k js j (.own t d)=.own t d:=by unfold jQ;rw[f]
    rw[this] at h;exact .inl {by rw[h],λ_=>Sx f}
   |some n =>
    obtain⟨m,h1,h2⟩:=Sy f;have:jQ Ec k js j (.own t d)=(Ec[k+n]?).getD .no:=by unfold jQ;rw[f]
    rw[this] at h;exact .inr {t,d,m,rfl,h2,by rw[<-h];congr 2;lia}
theorem sK{E:Ev}{s:Sl}(h:(XG k js E)[i]?=AA s)(hs:s≠.no):∃n j,i=k+n/\js[n]?=AA j/\E[j]?=AA s:=by
 unfold XG at h
 by_cases hi:i<k
 .rw[CC (by rw[DC];exact hi),DW,if_pos hi] at h
  exact absurd (BL h).symm hs
 .rw[B0 (by rw[DC];lia),DC,AU] at h
  cases q:js[i-k]? with
  |none=>rw[q] at h;cases h
  |some j =>
   rw[q] at h;have h:(E[j]?).getD .no=s:=BL h;refine{i-k,j,by lia,q,?_}
   cases z:E[j]? with
   |none=>rw[z] at h;exact absurd h.symm hs
   |some s'=>rw[z] at h;rw[<-h];rfl
theorem p8(h:js[n]?=AA j):(V5 k js σ)[k+n]?=AA ((σ[j]?).getD AK):=by
 unfold V5;rw[B0 (by rw[DC];lia),DC,AU,show k+n-k=n from M9 _ _,h]
 rfl
variable{E1 E2:Ev}
section
variable{K:AC}{σ2:St}{E:Ev}{acc:AQ}
theorem Sim.off(S:Sim K H₀ τ F H σ E)(hf:F acc=AK)(no:¬DY σ E acc):Sim K H₀ τ F (D6 H acc o) σ E:=by
 refine{λa u e=>?_,S.len,S.val,λi t d e=>?_,S.inj}
 .have:a≠acc:=λz=>by rw[z,hf] at e;cases e
  rw[EV this];exact S.sub a u e
 .obtain⟨a,h1,h2,h3,h4⟩:=S.own i t d e
  have:a≠acc:=λz=>no {i,t,d,e,by rw[<-z];exact h1};exact{a,h1,h2,h3.mono (.refl _) (EV this),h4}
theorem pAG(S:Sub F H)(h:H acc=AK):F acc=AK:=by
 cases e:F acc with
 |none=>rfl
 |some u=>rw[S acc u e] at h;cases h
theorem Cp(h:DY (V5 k js σ) (XG k js E) a):∃(n j:Nat) (t:Bool) (d:D),js[n]?=AA j/\E[j]?=AA (.own t d)/\σ[j]?=AA (AA (.ref a)):=by
 obtain⟨i,t,d,e1,e2⟩:=h;obtain⟨n,j,rfl,h1,h2⟩:=sK e1 (by intro z;cases z);rw[p8 h1] at e2;refine{n,j,t,d,h1,h2,?_}
 cases q:σ[j]? with
 |none=>rw[q] at e2;cases e2
 |some z=>rw[q] at e2;cases e2;rfl
theorem Sim.enter(S:Sim K H₀ τ F H σ E)(k:Nat)(hj:js.Nodup)(ha:H acc=AK):Sim K (D6 H acc o) τ F (D6 H acc o) (V5 k js σ) (XG k js E):=by
 have hf:=pAG S.sub ha;refine{λa u e=>?_,by unfold XG V5;simp,λi d e=>?_,λi t d e=>?_,λi j t u d d' a e1 e2 z1 z2=>?_}
 .have:a≠acc:=λz=>by rw[z,hf] at e;cases e
  rw[EV this];exact S.sub a u e
 .obtain⟨n,j,rfl,h1,h2⟩:=sK e (by intro z;cases z)
  obtain⟨v,h3,h4⟩:=S.val j d h2;exact{v,by rw[p8 h1,h3];rfl,h4}
 .obtain⟨n,j,rfl,h1,h2⟩:=sK e (by intro z;cases z)
  obtain⟨a,h3,h4,h5,h6,h7⟩:=S.own j t d h2;obtain⟨ob,ho,hw⟩:=h5.ho;have:a≠acc:=λz=>by rw[z,ha] at ho;cases ho
  exact{a,by rw[p8 h1,h3];rfl,h4,h5.mono (.refl _) (EV this),λw u z=>by rw[EV this,ho] at z;cases z;exact hw,h7}
 .obtain⟨n,l,rfl,h1,h2⟩:=sK e1 (by intro z;cases z)
  obtain⟨n',l',rfl,YE,VF⟩:=sK e2 (by intro z;cases z);rw[p8 h1] at z1;rw[p8 YE] at z2
  have w1:σ[l]?=AA (AA (.ref a)):=by
   cases q:σ[l]? with
   |none=>rw[q] at z1;cases z1
   |some z=>rw[q] at z1;cases z1;rfl
  have w2:σ[l']?=AA (AA (.ref a)):=by
   cases q:σ[l']? with
   |none=>rw[q] at z2;cases z2
   |some z=>rw[q] at z2;cases z2;rfl
  have:=S.inj l l' t u d d' a h2 VF w1 w2;subst this;rw[zQ8 hj h1 YE]
theorem Sim.leave(S:Sim K H₀ τ F1 H1 σ E1)(ha:H1 acc=AK)(s:Stp (λa=>DY (V5 k js σ) (XG k js E1) a\/a=acc) F1 (D6 H1 acc o) F2 H2 (DY σ2 E2))
  (S2:Sim K (D6 H1 acc o) τ F2 H2 σ2 E2) (hs:∀j:Nat,k<=j->σ2[j]?=(V5 k js σ)[j]?) :
  Sim K H₀ τ F2 H2 σ (aX E1 E2 k js)/\Stp (DY σ E1) F1 H1 F2 H2 (DY σ (aX E1 E2 k js)):=by
 have Zu:∀a,DY (V5 k js σ) (XG k js E1) a->DY σ E1 a:=λa h=>let ⟨n,j,t,d,_,h2,h3⟩:=Cp h;{j,t,d,h2,h3};have ne:∀a u,H1 a=AA u->a≠acc:=λa u e z=>by rw[z,ha] at e;cases e
 have slot:∀(n j:Nat),js[n]?=AA j->σ2[k+n]?=AA ((σ[j]?).getD AK):=λn j h=>by rw[hs (k+n) (A2 _ _),p8 h]
 have cX:∀(j:Nat) t d,(aX E1 E2 k js)[j]?=AA (.own t d)->∃t' d',E1[j]?=AA (.own t' d'):=λj t d e=>by
  rcases xX e with⟨h,_⟩|⟨t',d',n,h,_⟩
  .exact{t,d,h}
  .exact{t',d',h}
 have st:Stp (DY σ E1) F1 H1 F2 H2 (DY σ (aX E1 E2 k js)):=by
  refine{λa u e hw n ho=>s.keep a u (by rw[EV (ne a u e)];exact e) hw n λz=>z.elim (λz=>ho (Zu a z)) (ne a u e),λa e=>?_,s.le,λa u e=>?_,λa ⟨j,t,d,e1,e2⟩=>?_}
  .have:=s.dom a e
   by_cases h:a=acc
   .rw[h];exact ha
   .rw[EV h] at this;exact this
  .rcases s.new a u e with z|z|z|z
   .exact .inl z
   .by_cases h:a=acc
    .rw[h];exact .inr (.inl (.none ha))
    .exact .inr (.inl λo' e'=>z o' (by rw[EV h];exact e'))
   .exact .inr (.inr (Zu a z))
   .rw[z];exact .inr (.inl (.none ha))
  .obtain⟨t',d',h⟩:=cX j t d e1
   exact .inl {j,t',d',h,e2}
 refine{{S2.sub,by rw[Qk];exact S.len,λj d e=>?_,λj t d e=>?_,λi j t u d d' a e1 e2 z1 z2=>?_},st}
 .rcases xX e with⟨h,_⟩|⟨t',d',n,h,h1,h2⟩
  .obtain⟨v,h1,h2⟩:=S.val j d h
   exact{v,h1,h2.le s.le}
  .have e2:E2[k+n]?=AA (.val d):=by
    cases q:E2[k+n]? with
    |none=>rw[q] at h2;cases h2
    |some z=>rw[q] at h2;rw[h2];rfl
   obtain⟨v,h3,h4⟩:=S2.val _ d e2;rw[slot n j h1] at h3;refine{v,?_,h4}
   cases q:σ[j]? with
   |none=>rw[q] at h3;cases h3
   |some z=>rw[q] at h3;cases h3;rfl
 .rcases xX e with⟨h,h'⟩|⟨t',d',n,h,h1,h2⟩
  .have hj:=h' {t,d,rfl}
   obtain⟨a,c1,c2,c3,c4⟩:=S.own j t d h;obtain⟨ob,ho,hw⟩:=c3.ho
   have nc:¬(DY (V5 k js σ) (XG k js E1) a\/a=acc):=λz=>by
    rcases z with z|z
    .obtain⟨n,l,t2,d2,y1,y2,y3⟩:=Cp z
     have:=S.inj j l t t2 d d2 a h y2 c1 y3;subst this;exact hj (C4 y1)
    .exact ne a ob ho z
   refine{a,c1,?_,c3.mono s.le ((s.keep a ob (by rw[EV (ne a ob ho)];exact ho) hw c2 nc).trans ho.symm),c4}
   cases y:F2 a with
   |none=>rfl
   |some u =>
    rcases s.new a u y with y|y|y
    .exact absurd c2 y
    .exact absurd hw (y ob (by rw[EV (ne a ob ho)];exact ho))
    .exact absurd y nc
  .have e2:E2[k+n]?=AA (.own t d):=by
    cases q:E2[k+n]? with
    |none=>rw[q] at h2;cases h2
    |some z=>rw[q] at h2;rw[h2];rfl
   obtain⟨a,h3,h4,h5,h6,h7⟩:=S2.own _ t d e2;rw[slot n j h1] at h3;obtain⟨a',c1,c2,c3,c4,c5⟩:=S.own j t' d' h;rw[c1] at h3;cases h3;exact{a,c1,h4,h5,c4,h7}
 .obtain⟨_,_,h1⟩:=cX i t d e1
  obtain⟨_,_,h2⟩:=cX j u d' e2;exact S.inj i j _ _ _ _ a h1 h2 z1 z2
end
section
variable{K:AC}
end
abbrev GM:=D->Ev->Out (D×Ev)
theorem Stp.more{ow:AQ->Prop}{acc:AQ}(x:Stp ow F H F1 H1 UJ):Stp (λa=>ow a\/a=acc) F H F1 H1 (λa=>UJ a\/a=acc) :=
 {λa o e w f n=>x.keep a o e w f λz=>n (.inl z),x.dom,x.le,λa o e=>(x.new a o e).imp id λz=>z.imp id .inl,λa q=>q.elim (λz=>(x.own a z).imp .inl id) λz=>.inl (.inr z)}
def z7(K:AC)(H₀:Hp)(acc:AQ)(k:Nat)(g:GM):TM:=λσ H N=>∃τ F E d d' E',Sim K H₀ τ F H σ E/\F acc=AK/\¬DY σ E acc/\OwnAt K F H acc d/\g d E=.ok (d',E') /\
 ∀σ' F' H',Stp (λa=>DY σ E a\/a=acc) F H F' H' (λa=>DY σ' E' a\/a=acc)->Sim K H₀ τ F' H' σ' E'->F' acc=AK->¬DY σ' E' acc->OwnAt K F' H' acc d'->(∀j:Nat,k<=j->σ'[j]?=σ[j]?)->N σ' H'
def ZP(t:Tg)(tt:Ev->Out (Bool×Ev))(gm:GM):List D->GM
 |[],d,E=>.ok (d,E)
 |x::xs,d,E=>(WS t x E).bind λE1=>(tt E1).bind λb=>if b.1=AL then(gm d b.2).bind λq=>ZP t tt gm xs q.1 q.2 else ZP t tt gm xs d b.2
variable{tt:Ev->Out (Bool×Ev)}{gm:GM}
section
variable{K:AC}{E:Ev}{acc:AQ}
theorem xB{Ea Eb:Ev}{Fa Ha Fb Hb:Hp}{d:D}(st:Stp (DY σ' Ea) Fa Ha Fb Hb (DY σ' Eb))(a1:Fa acc=AK)(a2:¬DY σ' Ea acc)(a3:OwnAt K Fa Ha acc d):Fb acc=AK/\¬DY σ' Eb acc/\OwnAt K Fb Hb acc d:=by
 obtain⟨o,ho,hw⟩:=a3.ho;have hb:=st.keep acc o ho hw a1 a2;refine{?_,λz=>(st.own acc z).elim a2 λz=>by (rw[ho] at z;cases z),a3.mono st.le (hb.trans ho.symm)}
 cases z:Fb acc with
 |none=>rfl
 |some u =>
  rcases st.new acc u z with z|z|z
  .exact absurd a1 z
  .exact absurd hw (z _ ho)
  .exact absurd z a2
theorem yFK{t:Tg}{ds:List D}(JL:t.ltn k=AL){N:St->Hp->Prop}{d d':D}(S:Sim K H₀ τ F H σ E)(hf:F acc=AK)(no:¬DY σ E acc)(ho:OwnAt K F H acc d)(hw:Walks K J F ds)
  (hg:ZP t tt gm ds d E=.ok (d',E'))
  (hN:∀σ' F' H',Stp (λa=>DY σ E a\/a=acc) F H F' H' (λa=>DY σ' E' a\/a=acc)->Sim K H₀ τ F' H' σ' E'->F' acc=AK->¬DY σ' E' acc->OwnAt K F' H' acc d'->(∀j:Nat,k<=j->σ'[j]?=σ[j]?)->N σ' H') :
  tWalkC J (tG K H₀ t) (tT K H₀ tt) (z7 K H₀ acc k gm) σ H N:=by
 refine{λi m σ2 H2=>m=ds.length-i/\i<=ds.length/\∃F2 E2 d2,Sim K H₀ τ F2 H2 σ2 E2/\Stp (λa=>DY σ E a\/a=acc) F H F2 H2 (λa=>DY σ2 E2 a\/a=acc) /\
   F2 acc=AK/\¬DY σ2 E2 acc/\OwnAt K F2 H2 acc d2/\(∀j:Nat,k<=j->σ2[j]?=σ[j]?)/\ZP t tt gm (ds.drop i) d2 E2=.ok (d',E'),
  {_,rfl,BS _,F,E,d,S,Stp.refl,hf,no,ho,λ_ _=>rfl,by rw[OG];exact hg},?_}
 rintro i m σ2 H2 ⟨rfl,Ax,F2,E2,d2,S2,s2,f2,n2,o2,M6,g2⟩;obtain⟨w2,w3,w4⟩:=hw i F2 H2 s2.le S2.sub
 by_cases hi:i<ds.length
 .obtain⟨x,hd⟩:∃d,ds[i]?=AA d:={ds[i],by simp[hi]}
  have wD:ds.drop i=x::ds.drop (i+1):=by
   rw[FL hi];have:ds[i]=x:=by rw[BO hi] at hd;exact BL hd
   rw[this]
  rw[wD,ZP] at g2;obtain⟨E3,e3,g2⟩:=pA3 g2;obtain⟨b,e4,g2⟩:=pA3 g2;refine .inr {w2 hi,λy H' yl=>?_};obtain⟨F3,n3,r3⟩:=w4 y H' x hd yl;obtain⟨f3,m3,o3⟩:=xB (n3.stp (ow:=DY σ2 E2)) f2 n2 o2;refine{τ,F3,E2,x,E3,S2.new n3,r3,e3,λσ4 S4 o4 b4=>?_};have m4:¬DY σ4 E3 acc:=λz=>n2 (o4 acc z);have Yr:∀j:Nat,k<=j->σ4[j]?=σ[j]?:=λj hj=>by rw[b4 k JL j hj,M6 j hj]
  have s4:Stp (λa=>DY σ E a\/a=acc) F H F3 H' (λa=>DY σ4 E3 a\/a=acc):=(s2.trans n3.stp).weak λa z=>z.imp (o4 a) id;refine{τ,F3,E3,b.1,b.2,S4,e4,λF5 H5 s5 S5=>?_};obtain⟨f5,m5,o5⟩:=xB s5 f3 m4 o3;have Xv:=s4.trans (s5.more (acc:=acc));dsimp only
  by_cases hb:b.1=AL
  .rw[if_pos hb] at g2 ⊢
   obtain⟨z,e6,g2⟩:=pA3 g2;refine{τ,F5,b.2,d2,z.1,z.2,S5,f5,m5,o5,e6,λσ6 F6 H6 s6 S6 f6 m6 o6 hs6=>?_};exact{_,by lia,rfl,hi,F6,z.2,z.1,S6,Xv.trans s6,f6,m6,o6,λj hj=>by rw[hs6 j hj,Yr j hj],g2}
  .rw[if_neg hb] at g2 ⊢
   exact{_,by lia,rfl,hi,F5,b.2,d2,S5,Xv,f5,m5,o5,Yr,g2}
 .have hi:i=ds.length:=by lia
  rw[JV 'l',ZP] at g2;cases g2;exact .inl {w3 hi,hN σ2 F2 H2 s2 S2 f2 n2 o2 M6}
theorem Wb{F6 H6:Hp}(s6:Stp (DY σ E) F H F6 H6 (DY σ' E')):Stp (λa=>DY σ E a\/a=acc) F H F6 (D6 H6 acc o) (λa=>DY σ' E' a\/a=acc):=by
 have st:=s6.more (acc:=acc);refine{λa u e hw n ho=>by rw[EV (λy=>ho (.inr y))];exact st.keep a u e hw n ho,λa e=>?_,st.le,st.new,st.own}
 by_cases Zf:a=acc
 .rw[Zf,HB] at e;cases e
 .rw[EV Zf] at e;exact st.dom a e
def Bw(ge:G):GM:=λd E=>(ge E).bind λp=>match d with|.lst ds=>few ds.length (.ok (.lst (ds++[p.1]),p.2))|_=>.bad
theorem zUN{ge:G}{N:St->Hp->Prop}(h:z7 K H₀ acc k (Bw ge) σ H N):j2 acc (tV K H₀ ge) σ H N:=by
 obtain⟨τ,F,E,d,d',E',S,f,n,o,hg,k⟩:=h;obtain⟨p,e1,hg⟩:=pA3 hg;split at hg
 .rename_i ds
  obtain⟨hz,hg⟩:=XY hg;cases hg;refine{τ,F,E,p.1,p.2,S,e1,λy F6 H6 s6 S6 r6=>?_};obtain⟨f6,m6,ys,h6,r2⟩:=xB s6 f n o;exact{ys,h6,by rw[r2.length];exact cC hz,k σ F6 _ (Wb s6) (S6.off f6 m6) f6 m6 {_,HB,r2.append (.cons r6 .nil)} λ_ _=>rfl}
 .cases hg
def mM(gi:GI)(k:Nat)(js:List Nat)(d0:D)(t:Tg)(tt:Ev->Out (Bool×Ev))(gm:GM):G:=λE=>(gi E).bind λp=>(ZP t tt gm p.1 d0 (XG k js p.2)).bind λq=>.ok (q.1,aX p.2 q.2 k js)
theorem Qj{d0:D}{t:Tg}(hd0:∀(F H:Hp) (a:AQ),OwnAt K F (D6 H a o) a d0)(JL:t.ltn k=AL)(hj:js.Nodup){Q:VK}(h:tF K H₀ (mM gi k js d0 t tt gm) σ H Q) :
  pK (tI K H₀ gi) k js o (λH=>tG K H t) (λH=>tT K H tt) (λH acc=>z7 K H acc k gm) σ H Q:=by
 obtain⟨τ,F,E,d,E',S,hg,kq⟩:=h;obtain⟨p,e1,hg⟩:=pA3 hg;obtain⟨q,e2,hg⟩:=pA3 hg;cases hg;refine{τ,F,E,p.1,p.2,S,e1,λJ F1 H1 s1 S1 w1 acc ha=>?_};have hf:=pAG S1.sub ha;have S0:=S1.enter (o:=o) k hj ha
 have no:¬DY (V5 k js σ) (XG k js p.2) acc:=λz=>by
  obtain⟨n,j,t',d',_,z2,z3⟩:=Cp z;exact S1.fresh ha {j,t',d',z2,z3}
 refine yFK JL S0 hf no (hd0 _ _ _) w1 e2 λσ2 F2 H2 s2 S2 f2 n2 o2 M6=>?_;have s2':Stp (λa=>DY (V5 k js σ) (XG k js p.2) a\/a=acc) F1 (D6 H1 acc o) F2 H2 (DY σ2 q.2):=s2.weak λa z=>.inl z;obtain⟨S9,s9⟩:=S1.leave ha s2' S2 M6;refine kq acc F2 H2 (s1.trans s9) S9 f2 (s1.dom acc ha) o2 λz=>?_
 exact(s9.own acc z).elim (λy=>S1.fresh ha y) λy=>S1.fresh ha (by
   obtain⟨j,t',d',z1,z2⟩:=z;rcases xX z1 with⟨h,_⟩|⟨nJ,Lx,n,h,_⟩
   .exact{j,t',d',h,z2}
   .exact{j,nJ,Lx,h,z2})
theorem tWalkC.imp{J:It}{g:TG}{tt:TT}{tm Xp:TM}(hi:∀σ H N,tm σ H N->Xp σ H N){N:St->Hp->Prop}(mt:∀(σ:St) (H:Hp) (P P':Bool->Hp->Prop),(∀b H2,P b H2->P' b H2)->tt σ H P->tt σ H P')(mg:∀(x:V) (σ:St) (H:Hp) (P P':St->Hp->Prop),(∀σ2 H2,P σ2 H2->P' σ2 H2)->g x σ H P->g x σ H P')(h:tWalkC J g tt tm σ H N):tWalkC J g tt Xp σ H N:=by
 obtain⟨W,w0,turn⟩:=h;refine{W,w0,λi m σ H w=>(turn i m σ H w).imp id λ⟨go,st⟩=>{go,λx H' y=>mg _ _ _ _ _ (λσ2 H2 q=>mt _ _ _ _ (λb H3 q=>?_) q) (st x H' y)}}
 cases b with
 |true=>rw[if_pos rfl] at q ⊢;exact hi _ _ _ q
 |false=>rw[if_neg CN] at q ⊢;exact q
theorem Oy(σ:St)(H:Hp)(P P':Bool->Hp->Prop)(hp:∀b H2,P b H2->P' b H2)(h:tT K H₀ tt σ H P):tT K H₀ tt σ H P' :=
 let ⟨τ,F,E,b,E',S,hg,k⟩:=h;{τ,F,E,b,E',S,hg,λF' H' s S'=>hp _ _ (k F' H' s S')}
theorem Ox{t:Tg}(x:V)(σ:St)(H:Hp)(P P':St->Hp->Prop)(hp:∀b H2,P b H2->P' b H2)(h:tG K H₀ t x σ H P):tG K H₀ t x σ H P' :=
 let ⟨τ,F,E,d,E',S,r,hg,k⟩:=h;{τ,F,E,d,E',S,r,hg,λσ' a b c=>hp _ _ (k σ' a b c)}
theorem Ow{R R':It->Hp->Prop}(hp:∀J H2,R J H2->R' J H2)(h:tI K H₀ gi σ H R):tI K H₀ gi σ H R' :=
 let ⟨τ,F,E,ds,E',S,hg,k⟩:=h;{τ,F,E,ds,E',S,hg,λJ F' H' a b c=>hp _ _ (k J F' H' a b c)}
def V3(gi:GI)(k:Nat)(js:List Nat)(t:Tg)(tt:Ev->Out (Bool×Ev))(ge:G):G:=mM gi k js (.lst []) t tt (Bw ge)
theorem Ov{t:Tg}{ge:G}(JL:t.ltn k=AL)(hj:js.Nodup){Q:VK}(h:tF K H₀ (V3 gi k js t tt ge) σ H Q) :
  pK (tI K H₀ gi) k js (.lst []) (λH=>tG K H t) (λH=>tT K H tt) (λH acc=>j2 acc (tV K H ge)) σ H Q :=
 Ow (λJ H2 q acc ha=>tWalkC.imp (λ_ _ _ z=>zUN z) (λσ H=>Oy σ H) (λx σ H=>Ox x σ H) (q acc ha)) (Qj (o:=.lst []) (d0:=.lst []) (λF H a=>{[],HB,.nil}) JL hj h)
theorem pH{iter:C8}{t:Tg}{ge:G}(n:CompNm X scope cl own CV js)(hc:X.calm=AL)(hi:VI X tg iter gi)
  (hg:∀C s H fp,VG (MI X scope cl (own++CV) C s H fp) tg t) (ht:∀C s H fp,tW (MI X scope cl (own++CV) C s H fp) ifs tt) (he:∀C s H fp,VE (MI X scope cl (own++CV) C s H fp) N7 ge)
  (JL:t.ltn own.length=AL:=by rfl) (hj:js.Nodup:=by decide) (hs:∀x,DF iter X.env x=pure x:=by intro _;rfl):FE X (.ListComp N7 [{tg,iter,ifs,0}] scope pos) (V3 gi own.length js t tt ge) :=
 (zX1 (g:=λH=>tG X.K H t) (tt:=λH=>tT X.K H tt) (te:=λH=>tV X.K H ge) n hc hi hg ht he hs).imp λ_ _ _ h=>Ov JL hj h
end
mutual
noncomputable def D.py:D->Option HA
 |.non=>AA .none
 |.bl b=>AA (.bool b)
 |.int i=>AA (.int i)
 |.str x=>if K6 (.str x)=AL then AA (.str x) else AK
 |.tup xs=>(pAH xs).map .tuple
 |.lst xs=>(pAH xs).map .list
 |.dk _=>AK
 |.dt _=>AK
noncomputable def pAH:List D->Option (List HA)
 |[]=>AA []
 |d::ds=>match d.py,pAH ds with
  |some p,AA ps=>AA (p::ps)
  |_,_=>AK
end
section
variable{K:AC}
mutual
theorem Rep.dv(s:Sub F H):∀(d:D) {v:V} {p:HA},Rep K F v d->d.py=AA p->DV K H v p
 |.non,_,_,.non,e=>by rw[D.py] at e;cases e;exact .non
 |.bl b,_,_,.bl _,e=>by rw[D.py] at e;cases e;exact .bl b
 |.int i,_,_,.int _,e=>by rw[D.py] at e;cases e;exact .int i
 |.str x,_,_,.str _,e=>by
  rw[D.py] at e;split at e
  .rename_i h;cases e;exact .str x h
  .cases e
 |.tup xs,_,_,r,e=>by
  rw[D.py] at e;obtain⟨ps,h1,h2⟩:=BR.mp e;subst h2;obtain⟨a,vs,rfl,r,sq⟩:=r.tupSq;exact .tup (sq F H (.refl _) s) (Reps.dv s xs r h1)
 |.lst xs,_,_,.lst h r,e=>by
  rw[D.py] at e;obtain⟨ps,h1,h2⟩:=BR.mp e;subst h2;exact .lst (h.imp s.rd id) (Reps.dv s xs r h1)
 |.dk _,_,_,_,e=>by rw[D.py] at e;cases e
 |.dt _,_,_,_,e=>by rw[D.py] at e;cases e
theorem Reps.dv(s:Sub F H):∀(d:List D) {v:List V} {p:List HA},Reps K F v d->pAH d=AA p->DVs K H v p
 |[],_,_,.nil,e=>by rw[pAH] at e;cases e;exact .nil
 |d::ds,_,_,.cons h r,e=>by
  rw[pAH] at e;split at e
  .rename_i p ps e1 e2
   cases e;exact .cons (Rep.dv s d h e1) (Reps.dv s ds r e2)
  .cases e
end
end
noncomputable def Z1(x y:D):Out D:=match x.py,y.py with
 |some p,AA q=>if min p.depth q.depth<=60 then .ok (.bl (EJ p q)) else .bad
 |_,_=>.bad
noncomputable def NO(x y:D):Out D:=match x.py,y.py with
 |some p,AA q=>if min p.depth q.depth<=60 then .ok (.bl (!EJ p q)) else .bad
 |_,_=>.bad
section
variable{K:AC}{a b:C8}{ga gb ge:G}
theorem Mp:UI K (zV K AD) Z1:=λv u x y F H d Q s r1 r2 hf k=>by
 unfold Z1 at hf;split at hf
 .rename_i p q e1 e2
  split at hf
  .rename_i hm
   cases hf;exact{p,q,r1.dv s _ e1,r2.dv s _ e2,hm,k _ F H (.refl s) (.bl _)}
  .cases hf
 .cases hf
theorem yCG:UI K (zV K AL) NO:=λv u x y F H d Q s r1 r2 hf k=>by
 unfold NO at hf;split at hf
 .rename_i p q e1 e2
  split at hf
  .rename_i hm
   cases hf;exact{p,q,r1.dv s _ e1,r2.dv s _ e2,hm,k _ F H (.refl s) (.bl _)}
  .cases hf
 .cases hf
theorem yFL(hu:X.A.units+64<GZ)(ha:VE X a ga)(hb:VE X b gb)(hm:DT .Eq b=AD:=by with_unfolding_all rfl):VT X (.Compare a [.Eq] [b] pos) (gB (g2 Z1 ga gb)):=iC (Mv hu) Mp ha hb hm
theorem hJ(hu:X.A.units+64<GZ)(ha:VE X a ga)(hb:VE X b gb)(hm:DT .NotEq b=AD:=by with_unfolding_all rfl):VT X (.Compare a [.NotEq] [b] pos) (gB (g2 NO ga gb)):=iC (yB2 hu) yCG ha hb hm
theorem Fv(hu:X.A.units+64<GZ)(ha:VE X a ga)(hb:VE X b gb)(hm:DT .Eq b=AD:=by with_unfolding_all rfl):VE X (.Compare a [.Eq] [b] pos) (g2 Z1 ga gb):=Wj (Mv hu) Mp ha hb hm
end
section
variable[DecidableEq κ]
noncomputable def NK(kvs:List (κ×D))(k:κ):Option D:=(kvs.find? λkv=>decide (kv.1=k)).map (·.2)
noncomputable def PY(kvs:List (κ×D))(k:κ)(v:D):List (κ×D) :=
 if(kvs.any λkv=>decide (kv.1=k))=AL then kvs.map (λkv=>if kv.1=k then(kv.1,v) else kv) else kvs++[(k,v)]
end
noncomputable def fA:D->Option Key
 |.int i=>AA (.inl i)
 |.str x=>AA (.inr x)
 |_=>AK
noncomputable def Q5:List D->Option (List Int)
 |[]=>AA []
 |.int i::ds=>(Q5 ds).map (i::·)
 |_::_=>AK
theorem sW:∀{ds:List D} {ns:List Int},Q5 ds=AA ns->ds=ns.map D.int
 |[],_,h=>by rw[Q5] at h;cases h;rfl
 |.int i::ds,_,h=>by
  rw[Q5] at h;obtain⟨r,h1,h2⟩:=BR.mp h;subst h2;rw[sW h1];rfl
 |.non::_,_,h=>by simp[Q5] at h
 |.bl _::_,_,h=>by simp[Q5] at h
 |.str _::_,_,h=>by simp[Q5] at h
 |.tup _::_,_,h=>by simp[Q5] at h
 |.lst _::_,_,h=>by simp[Q5] at h
 |.dk _::_,_,h=>by simp[Q5] at h
 |.dt _::_,_,h=>by simp[Q5] at h
theorem Ff:∀ns:List Int,Q5 (ns.map D.int)=AA ns
 |[]=>rfl
 |n::ns=>by rw[AV,Q5,Ff ns];rfl
theorem xW:∀{a b:List Int},a.map (CS:Int->Key)=b.map CS->a=b
 |[],[],_=>rfl
 |[],_::_,h=>by simp at h
 |_::_,[],h=>by simp at h
 |x::a,y::b,h=>by
  rw[AV,AV] at h;injection h with h1 h2;injection h1 with h1;rw[h1,xW h2]
section
variable{K:AC}
theorem RepK.length{vs:List (Key×V)}{ds:List (Key×D)}(r:RepK K F vs ds):vs.length=ds.length:=r.rec1 (R:=λvs ds=>vs.length=ds.length) rfl λ_ _ ih=>congrArg (·+1) ih
theorem RepT.length{vs:List (List Key×V)}{ds:List (List Int×D)}(r:RepT K F vs ds):vs.length=ds.length:=r.rec1 (T:=λvs ds=>vs.length=ds.length) rfl λ_ _ ih=>congrArg (·+1) ih
def OpR1(K:AC)(F:Hp):Option V->Option D->Prop
 |some v,AA d=>Rep K F v d
 |none,AK=>True
 |_,_=>False
theorem RepK.get(k:Key){vs:List (Key×V)}{ds:List (Key×D)}(r:RepK K F vs ds):OpR1 K F (QH vs k) (NK ds k):=by
 refine r.rec1 (R:=λvs ds=>OpR1 K F (QH vs k) (NK ds k)) trivial ?_
 .intro k' v d vs ds h _ ih
  by_cases e:k'=k
  .have e1:QH ((k',v)::vs) k=AA v:=by simp[QH,e]
   have e2:NK ((k',d)::ds) k=AA d:=by simp[NK,e]
   rw[e1,e2];exact h
  .have e1:QH ((k',v)::vs) k=QH vs k:=by simp[QH,e]
   have e2:NK ((k',d)::ds) k=NK ds k:=by simp[NK,e]
   rw[e1,e2];exact ih
theorem RepT.get(k:List Int){vs:List (List Key×V)}{ds:List (List Int×D)}(r:RepT K F vs ds):OpR1 K F (QH vs (k.map CS)) (NK ds k):=by
 refine r.rec1 (T:=λvs ds=>OpR1 K F (QH vs (k.map CS)) (NK ds k)) trivial ?_
 .intro k' v d vs ds h _ ih
  by_cases e:k'=k
  .have e1:QH ((k'.map CS,v)::vs) (k.map CS)=AA v:=by simp[QH,e]
   have e2:NK ((k',d)::ds) k=AA d:=by simp[NK,e]
   rw[e1,e2];exact h
  .have e':¬k'.map (CS:Int->Key)=k.map CS:=λz=>e (xW z)
   have e1:QH ((k'.map CS,v)::vs) (k.map CS)=QH vs (k.map CS):=by simp[QH,e']
   have e2:NK ((k',d)::ds) k=NK ds k:=by simp[NK,e]
   rw[e1,e2];exact ih
theorem OpR1.isSome{o:Option V}{p:Option D}(h:OpR1 K F o p):o.isSome=p.isSome:=by
 cases o<;>cases p<;>first|rfl|exact h.elim
theorem OpR1.some_of{o:Option V}{d:D}(h:OpR1 K F o (AA d)):∃v,o=AA v/\Rep K F v d:=by
 cases o with
 |none=>exact h.elim
 |some v=>exact{v,rfl,h}
theorem OpR1.none_of{o:Option V}(h:OpR1 K F o AK):o=AK:=by
 cases o with
 |none=>rfl
 |some v=>exact h.elim
def hG:D->D->Option (Option D)
 |.dk kvs,k=>(fA k).map (NK kvs)
 |.dt kvs,.tup ks=>(Q5 ks).map (NK kvs)
 |_,_=>AK
theorem pAI{u:V}{x y:D}{o:Option D}(s:Sub F H)(r1:Rep K F v x)(r2:Rep K F u y)(h:hG x y=AA o):∃a ov,v=.ref a/\gZ H a u ov/\OpR1 K F ov o:=by
 cases x with
 |dk kvs =>
  obtain⟨k,h1,h2⟩:=BR.mp (show(fA y).map (NK kvs)=AA o from h);subst h2
  cases r1 with
  |dk hr r =>
   refine{_,_,rfl,.inl {_,k,s.rd hr,?_,rfl},r.get k};cases y<;>first|cases h1|skip
   .obtain rfl:=r2.vI;rfl
   .obtain rfl:=r2.vS;rfl
 |dt kvs =>
  cases y with
  |tup ks =>
   obtain⟨ns,h1,h2⟩:=BR.mp (show(Q5 ks).map (NK kvs)=AA o from h);subst h2;have:=sW h1;subst this
   cases r1 with
   |dt hr r =>
    generalize hk:ns.map D.int=kk at r2
    cases r2 with
    |tup hb rb =>
     subst hk;have:=rb.vint;subst this;refine{_,_,rfl,.inr {_,ns.map CS,_,s.rd hr,rfl,?_,rfl},r.get ns};rw[ED];exact s _ _ hb
    |@tupK a xs hb nb =>
     cases xs with
     |nil=>exact absurd rfl nb
     |cons x xs =>
      cases ns with
      |nil=>cases hk
      |cons n ns=>cases hk
  |_=>cases h
 |_=>cases h
end
def UG(x y:D):Out D:=match y with
 |.lst ds=>match pAH ds,x.py with
  |some ps,AA p=>if p.depth<=60 then .ok (.bl (ps.any λd=>EJ d p)) else .bad
  |_,_=>.bad
 |.tup ds=>match pAH ds,x.py with
  |some ps,AA p=>if p.depth<=60 then .ok (.bl (ps.any λd=>EJ d p)) else .bad
  |_,_=>.bad
 |y=>match hG y x with
  |some o=>.ok (.bl o.isSome)
  |none=>.bad
def S8(x y:D):Out D:=(UG x y).bind λd=>match d with|.bl b=>.ok (.bl (!b))|_=>.bad
section
variable{K:AC}{a b:C8}{ga gb ge:G}
def qJ(cT:Bool):R2:=λx y H Q=>∃a o,y=.ref a/\gZ H a x o/\Q (.bl (if cT then !o.isSome else o.isSome)) H
theorem Rm(hu:X.A.units+64<GZ):OpR X (EU .In) (qJ AD):=λAE s σ H x y v u Q I rx ry h=>by
 obtain⟨a,o,rfl,g,q⟩:=h;cases ry;exact yHS 'l' I g rx λs3 I3=>{.bl _,H,I3,rfl,q}
theorem zLI(hu:X.A.units+64<GZ):OpR X (EU .NotIn) (qJ AL):=λAE s σ H x y v u Q I rx ry h=>by
 obtain⟨a,o,rfl,g,q⟩:=h;cases ry;exact zXS 'l' I g rx λs3 I3=>{.bl _,H,I3,rfl,q}
theorem Ou(cT:Bool){f:D->D->Out D}(hf:∀x y d,f x y=.ok d->∃b,UG x y=.ok (.bl b)/\d=.bl (if cT then !b else b)):UI K (λx y H Q=>qN K cT x y H Q\/qJ cT x y H Q) f:=λv u x y F H d Q s r1 r2 h k=>by
 obtain⟨b,hi,rfl⟩:=hf x y d h
 have Xu:∀ds p (sq:SqL K H p ds\/SqT K H p ds) (xs:List D),Reps K F ds xs->u=.ref p->(match pAH xs,x.py with
   |some ps,AA p=>if p.depth<=60 then Out.ok (D.bl (ps.any λd=>EJ d p)) else .bad
   |_,_=>.bad)=.ok (.bl b)->qN K cT v u H Q:=λds p sq xs rr eu hh=>by
  split at hh
  .rename_i ps q e1 e2
   split at hh
   .rename_i hd
    cases hh;exact{p,ds,ps,q,eu,sq,rr.dv s _ e1,r1.dv s _ e2,hd,k _ F H (.refl s) (.bl _)}
   .cases hh
  .cases hh
 have Lu:(match hG y x with|some o=>Out.ok (D.bl o.isSome)|none=>.bad)=.ok (.bl b)->qJ cT v u H Q:=λhh=>by
  split at hh
  .rename_i o eo
   cases hh;obtain⟨a,ov,rfl,g,ro⟩:=pAI s r2 r1 eo;refine{a,ov,rfl,g,?_};rw[ro.isSome];exact k _ F H (.refl s) (.bl _)
  .cases hh
 cases y with
 |lst ds =>
  obtain⟨p,vs,rfl,hr,rr⟩:=r2.isRefL;exact .inl (Xu vs p (.inl (hr.imp s.rd id)) ds rr rfl hi)
 |tup ds =>
  obtain⟨p,vs,rfl,rr,sq⟩:=r2.tupSq;exact .inl (Xu vs p (.inr (sq F H (.refl _) s)) ds rr rfl hi)
 |_=>exact .inr (Lu hi)
theorem Mo{x y d:D}(h:UG x y=.ok d):∃b,d=.bl b:=by
 unfold UG at h;split at h
 .split at h
  .split at h
   .cases h;exact{_,rfl}
   .cases h
  .cases h
 .split at h
  .split at h
   .cases h;exact{_,rfl}
   .cases h
  .cases h
 .split at h
  .cases h;exact{_,rfl}
  .cases h
theorem Mn:UI K (λx y H Q=>qN K AD x y H Q\/qJ AD x y H Q) UG:=Ou AD λx y d h=>by
 obtain⟨b,rfl⟩:=Mo h;exact{b,h,rfl}
theorem zRG:UI K (λx y H Q=>qN K AL x y H Q\/qJ AL x y H Q) S8:=Ou AL λx y d h=>by
 obtain⟨d',h1,h2⟩:=pA3 h;obtain⟨b,rfl⟩:=Mo h1;cases h2;exact{b,h1,rfl}
theorem Wa(hu:X.A.units+64<GZ)(ha:VE X a ga)(hb:VE X b gb)(hm:DT .In b=AD:=by with_unfolding_all rfl):VT X (.Compare a [.In] [b] pos) (gB (g2 UG ga gb)):=iC ((Mu hu).or (Rm hu)) Mn ha hb hm
theorem yH0(hu:X.A.units+64<GZ)(ha:VE X a ga)(hb:VE X b gb)(hm:DT .In b=AD:=by with_unfolding_all rfl):VE X (.Compare a [.In] [b] pos) (g2 UG ga gb):=Wj ((Mu hu).or (Rm hu)) Mn ha hb hm
theorem sS(hu:X.A.units+64<GZ)(ha:VE X a ga)(hb:VE X b gb)(hm:DT .NotIn b=AD:=by with_unfolding_all rfl):VT X (.Compare a [.NotIn] [b] pos) (gB (g2 S8 ga gb)):=iC ((zQT hu).or (zLI hu)) zRG ha hb hm
noncomputable def eT(x y:D):Out D:=match y with
 |.non=>match x with
  |.non=>.ok (.bl AL)
  |_=>.ok (.bl AD)
 |_=>.bad
noncomputable def rQ(x y:D):Out D:=match y with
 |.non=>match x with
  |.non=>.ok (.bl AD)
  |_=>.ok (.bl AL)
 |_=>.bad
theorem Rep.nonV{x:D}(r:Rep K F v x):v=.non↔x=.non:=by
 constructor
 .intro e;subst e;cases r;rfl
 .intro e;subst e;cases r;rfl
theorem yCI{x y d:D}(h:eT x y=.ok d):y=.non/\d=.bl (open Classical in decide (x=.non)):=by
 cases y with
 |non=>cases x<;>(injection h with h;exact{rfl,by rw[<-h];simp})
 |_=>cases h
theorem zYE{x y d:D}(h:rQ x y=.ok d):y=.non/\d=.bl (!(open Classical in decide (x=.non))):=by
 cases y with
 |non=>cases x<;>(injection h with h;exact{rfl,by rw[<-h];simp})
 |_=>cases h
theorem zYF:UI K (λx y H Q=>y=.non/\Q (.bl (decide (x=.non))) H) eT:=λv u x y F H d Q s r1 r2 hf k=>by
 have h:=yCI hf;refine{r2.nonV.mpr h.1,k _ F H (.refl s) ?_};rw[h.2,decide_eq_decide.mpr r1.nonV];exact .bl _
theorem zUO:UI K (λx y H Q=>y=.non/\Q (.bl (!decide (x=.non))) H) rQ:=λv u x y F H d Q s r1 r2 hf k=>by
 have h:=zYE hf;refine{r2.nonV.mpr h.1,k _ F H (.refl s) ?_};rw[h.2,decide_eq_decide.mpr r1.nonV];exact .bl _
theorem Co(ha:VE X a ga)(hb:VE X b gb)(hm:DT .Is b=AD:=by with_unfolding_all rfl):VT X (.Compare a [.Is] [b] pos) (gB (g2 eT ga gb)):=iC yBF zYF ha hb hm
theorem zYG(ha:VE X a ga)(hb:VE X b gb)(hm:DT .IsNot b=AD:=by with_unfolding_all rfl):VT X (.Compare a [.IsNot] [b] pos) (gB (g2 rQ ga gb)):=iC zXH zUO ha hb hm
def aW(x y:D):Out D:=match x,y with
 |.int i,.int j=>.ok (.bl (decide (i<j)))
 |.tup xs,.tup ys=>match Q5 xs,Q5 ys with
  |some ns,AA ms=>.ok (.bl (HT.lexLt ns ms))
  |_,_=>.bad
 |_,_=>.bad
theorem Rep.intsT{ds:List D}(s:Sub F H)(r:Rep K F v (.tup ds))(h:Q5 ds=AA ns):∃a,v=.ref a/\SqT K H a (ns.map V.int):=by
 have:=sW h;subst this;obtain⟨a,vs,rfl,rr,sq⟩:=r.tupSq;have:=rr.vint;subst this;exact{a,rfl,sq F H (.refl _) s}
theorem yCJ:UI K (λx y H Q=>cJ (λi j=>.bl (decide (i<j))) x y H Q\/Us K x y H Q) aW:=λv u x y F H d Q s r1 r2 hf k=>by
 unfold aW at hf;split at hf
 .cases hf;obtain rfl:=r1.vI;obtain rfl:=r2.vI
  exact .inl {_,_,rfl,rfl,k _ F H (.refl s) (.bl _)}
 .split at hf
  .rename_i e1 e2
   cases hf;obtain⟨a,rfl,h1⟩:=r1.intsT s e1;obtain⟨b,rfl,h2⟩:=r2.intsT s e2;exact .inr {a,b,_,_,rfl,rfl,h1,h2,k _ F H (.refl s) (.bl _)}
  .cases hf
 .cases hf
noncomputable def zR(p:Int->Int->Bool)(x y:D):Out D:=match x,y with
 |.int i,.int j=>.ok (.bl (p i j))
 |_,_=>.bad
theorem Ot(p:Int->Int->Bool):UI K (cJ λi j=>.bl (p i j)) (zR p):=λv u x y F H d Q s r1 r2 hf k=>by
 unfold zR at hf;split at hf
 .cases hf;obtain rfl:=r1.vI;obtain rfl:=r2.vI
  exact{_,_,rfl,rfl,k _ F H (.refl s) (.bl _)}
 .cases hf
abbrev Go:=zR λi j=>decide (j<i)
abbrev Gp:=zR λi j=>decide (j<=i)
theorem Bv(hu:X.A.units+64<GZ)(ha:VE X a ga)(hb:VE X b gb)(hm:DT .Lt b=AD:=by with_unfolding_all rfl):VT X (.Compare a [.Lt] [b] pos) (gB (g2 aW ga gb)):=iC (tN.or (yBL (AS (A2 _ _) hu))) yCJ ha hb hm
theorem yFN(ha:VE X a ga)(hb:VE X b gb)(hm:DT .Gt b=AD:=by with_unfolding_all rfl):VT X (.Compare a [.Gt] [b] pos) (gB (g2 Go ga gb)):=iC yEZ (Ot _) ha hb hm
theorem yFO(ha:VE X a ga)(hb:VE X b gb)(hm:DT .GtE b=AD:=by with_unfolding_all rfl):VT X (.Compare a [.GtE] [b] pos) (gB (g2 Gp ga gb)):=iC yE0 (Ot _) ha hb hm
end
theorem xV{t:AQ}(x:h.IsListIter it t i)(k:∀o,h.get? it=AA o->h'.get? it=AA o):h'.IsListIter it t i:=let ⟨o,e,r⟩:=x;{o,k o e,r}
theorem xU{t:AQ}(k:h.IsListIter t l i)(hs:DM a h h')(ne:t≠a):h'.IsListIter t l i:=xV k λo e=>hs.extBut _ _ ne e
theorem pAJ(I:Inv X AE σ H s)(hf:∀b∈fp,FpOk X AE H b)(h:SqL X.K H a xs):a∉fp:=λz=>by
 obtain⟨f0,f1,f2,f3,f4,f5⟩:=hf a z;rcases h with h|⟨o,BZ,n,hk,_⟩
 .rcases h with h|⟨o,h⟩
  .rw[f0] at h;cases h
  .rw[f0] at h;cases h
 .have hb:=I.ok.mod.kin a o hk
  rcases f3 with f3|f3
  .exact I.ok.noex a o hb f3
  .exact absurd (AN (A9 hb) I.ok.bsz) (VX.mpr f3)
structure EnStL(h:D4)(n l:AQ)(i:Nat):Prop where
 eo:∃f0 f1 H9,eU h n f0 f1 i H9/\F0 f0
 k1:h.IsListIter n l i
theorem EnStL.keep{n:AQ}(z:EnStL h n l i)(k:∀b∈[n,n+1],∀o,h.get? b=AA o->h'.get? b=AA o):EnStL h' n l i:=by
 obtain⟨f0,f1,H9,e,r⟩:=z.eo;exact{{f0,f1,H9,k _ 's' _ e,r},xV z.k1 (k _ 's')}
theorem zUP{n:AQ}{xs:Array AH}{x:AH}{Q:Option AH->AT->Prop}(z:EnStL s.heap n l i)(o1:l≠n)(o2:l≠n+1)(hl:s.heap.IsList l xs)(hx:xs[i]?=AA x)
  (hQ:∀h' t,EnStL h' n l (i+1)->KH h' s.heap.objs.size (.int i t) x->h'.objs.size=s.heap.objs.size+1->(∀b o,b≠n->b≠n+1->s.heap.get? b=AA o->h'.get? b=AA o)->Q (AA (.ref s.heap.objs.size)) { s with heap:=h',toks:=s.toks+1 }) :
  A0 (A1 prog w) A (JY (.ref (n+1))) Q E s:=by
 obtain⟨f0,f1,H9,he,hf⟩:=z.eo;have k1:=z.k1;have hT:s.TypeIs (.ref (n+1)) "enumerate":={_,he,rfl};have Z9:n≠n+1:=fG 'd';unfold JY;refine AB (GR (CJ (name:=EE "__next__") hT GF (C3 GF hT Q3 ?_ (QO _))));show A0 _ _ (RI (.ref (n+1)) 2 >>= _) _ _ _;refine AB (CG he rfl (x:=.ref n) rfl ?_);refine AB (wpAny_nextOf_list_item k1 hl hx λJF Jb FC=>?_);have oV:eU JF n f0 f1 i H9:=FC.extBut _ _ Z9.symm he;show A0 _ _ (RI (.ref (n+1)) 3 >>= _) _ _ _;refine AB (CG oV rfl (x:=EY i) rfl ?_);show A0 _ _ (RI (.ref (n+1)) 4 >>= _) _ _ _;refine AB (CG oV rfl (x:=.none) rfl ?_);show A0 _ _ (mkInt i >>= _) _ _ _;refine AB (jB ?_);show A0 _ _ (N9 (.ref (n+1)) 3 (EY ((i:Int)+1)) >>= _) _ _ _;refine AB (C2 oV 's' λL8 oU O4=>?_);replace oU:eU L8 n f0 f1 ((i:Int)+1) H9:=oU;replace O4:DM (n+1) JF L8:=O4;show A0 _ _ (N9 (.ref (n+1)) 4 .none >>= _) _ _ _;refine AB (C2 oU 's' λOL oT U7=>?_);replace oT:eU OL n f0 f1 ((i:Int)+1) H9:=oT;replace U7:DM (n+1) L8 OL:=U7;refine AB (MS (items:=[.int i s.toks,x]) ?_);have hsz:OL.objs.size=s.heap.objs.size:=by rw[U7.1,O4.1,FC.1]
 have wO:eU (OL.push { cls:=.type "tuple",data:=.seq #[.int i s.toks,x] }) n f0 f1 ((i:Int)+1) H9:=AF _ oT;have uR:KH (OL.push { cls:=.type "tuple",data:=.seq #[.int i s.toks,x] }) s.heap.objs.size (.int i s.toks) x:=by rw[<-hsz];exact AX _ rfl
 have nC:(OL.push { cls:=.type "tuple",data:=.seq #[.int i s.toks,x] }).objs.size=s.heap.objs.size+1:=by rw[FX,hsz]
 have uP:∀b o,b≠n->b≠n+1->s.heap.get? b=AA o->(OL.push { cls:=.type "tuple",data:=.seq #[.int i s.toks,x] }).get? b=AA o:=λb o b1 b2 e=>AF _ (U7.extBut b o b2 (O4.extBut b o b2 (FC.extBut b o b1 e)));have vE:(OL.push { cls:=.type "tuple",data:=.seq #[.int i s.toks,x] }).IsListIter n l (i+1):=xV (xU (xU Jb O4 Z9) U7 Z9) λo e=>AF _ e;show A0 _ _ (C6 (.ref (n+1)) >>= _) _ _ { s with heap:=OL.push { cls:=.type "tuple",data:=.seq #[.int i s.toks,x] },toks:=s.toks+1 };have N7:n+1<s.heap.objs.size:=A9 he;rw[show(DP OL.objs.size)=DP s.heap.objs.size by rw[hsz]];generalize OL.push { cls:=.type "tuple",data:=.seq #[.int i s.toks,x] }=NQ at wO uR nC uP vE ⊢;refine AB (zQW (s:={ s with heap:=NQ,toks:=s.toks+1 }) wO hf λb KP g1 oS X3=>?_);replace X3:DM (n+1) NQ KP:=X3;have vD:=xU vE X3 Z9;have uQ:KH KP s.heap.objs.size (.int i s.toks) x:=X3.extBut _ _ (FR N7) uR;have uO:∀b o,b≠n->b≠n+1->s.heap.get? b=AA o->KP.get? b=AA o:=λb o b1 b2 e=>X3.extBut b o b2 (uP b o b1 b2 e)
 cases b with
 |false =>
  simp only[D7,if_false];exact wpAny_pure {_,rfl,wpAny_pure (hQ KP _ {{_,_,_,oS,hf},vD} uQ (X3.1.trans nC) uO)}
 |true =>
  simp only[if_true];refine AB (FJ ?_);refine AB (CG oS rfl (x:=H9) rfl ?_);refine AB (C2 oS 's' λnO oR iQ=>?_);replace oR:eU nO n f0 g1 ((i:Int)+1) x:=oR;replace iQ:DM (n+1) KP nO:=iQ;refine AB ?_;unfold HK;refine AB (C2 oR 's' λcY oQ iP=>?_);replace oQ:eU cY n (EY s.heap.objs.size) g1 ((i:Int)+1) x:=oQ;replace iP:DM (n+1) nO cY:=iP;refine C2 oQ 's' λR1 oP iO=>?_;replace oP:eU R1 n (EY s.heap.objs.size) AD ((i:Int)+1) x:=oP;replace iO:DM (n+1) cY R1:=iO;have up:∀b o,b≠n+1->KP.get? b=AA o->R1.get? b=AA o:=λb o hb e=>iO.extBut b o hb (iP.extBut b o hb (iQ.extBut b o hb e));exact AB (P9 (wpAny_pure {_,rfl,wpAny_pure (hQ R1 _ {{_,_,_,oP,.inr {_,rfl}},xV vD λo e=>up _ o Z9 e} (up _ _ (FR N7) uQ) (iO.1.trans (iP.1.trans (iQ.1.trans (X3.1.trans nC)))) λb o b1 b2 e=>up b o b2 (uO b o b1 b2 e))}))
theorem zYI{n:AQ}{xs:Array AH}{Q:Option AH->AT->Prop}(hh:A.handled=AK)(z:EnStL s.heap n l i)(hl:s.heap.IsList l xs)(hx:xs[i]?=AK)
  (hQ:∀h',(∀b o,b≠n->s.heap.get? b=AA o->h'.get? b=AA o)->Q AK { s with heap:=h' }):A0 (A1 prog w) A (JY (.ref (n+1))) Q E s:=by
 obtain⟨f0,f1,H9,he,hf⟩:=z.eo;have hT:s.TypeIs (.ref (n+1)) "enumerate":={_,he,rfl};unfold JY;refine AB (GR (CJ (name:=EE "__next__") hT GF (C3 GF hT Q3 ?_ (QO _))));show A0 _ _ (RI (.ref (n+1)) 2 >>= _) _ _ _;refine AB (CG he rfl (x:=.ref n) rfl ?_);refine AB (wpAny_nextOf_list_end hh z.k1 hl hx λh' e hs he'=>?_);obtain⟨o,ho,hc⟩:=he';exact AB (VM (T:="StopIteration") (b:=AL) {o,ho,hc} YJ (wpAny_pure (hQ _ hs)))
theorem yCK{n:AQ}{Q:Unit → AT → Prop}(z : EnStL s.heap n l i)(h : ∀ h', EnStL h' n l i → DM (n + 1) s.heap h' → Q () { s with heap := h' }) :
    A0 (A1 prog w) A (FO tg (.ref (n + 1)) u) Q E s := by
  have hz := h s.heap z (kD _ _);obtain ⟨f0, f1, H9, e, hf⟩ := id z.eo;unfold FO
  cases tg <;> first
    | exact wpAny_pure hz
    | (cases u <;> first
        | exact wpAny_pure hz
        | (
          refine AB (wpAny_load e ?_);dsimp only;split
          · refine AB (FJ ?_)
            show A0 _ _ (N9 (.ref (n + 1)) 0 .none) Q E s;exact C2 e 's' fun h' fQ R7 => h h' {{.none, f1, H9, fQ, .inl rfl}, xU z.k1 R7 (fG 'd')} R7
          · exact wpAny_pure hz))
theorem Qi{n:AQ}(z:EnStL s.heap n l i)(h:Q (.ref (n+1)) s):A0 (A1 prog w) A (ON (.ref (n+1))) Q E s:=by
 obtain⟨f0,f1,H9,e,hf⟩:=z.eo;have hT:s.TypeIs (.ref (n+1)) "enumerate":={_,e,rfl};refine TU hT RK (C3 RK hT PySem.F.entry_enumerate_iter ?_ (PySem.F.args_enumerate_iter_1 _));show A0 _ _ (ret (.ref (n+1))) _ _ s;exact wpAny_pure {_,rfl,"enumerate",_,hT,GF.lookup,h}
noncomputable abbrev Ab(h:D4)(l:AQ):D4:=h.push { cls:=.type "list_iterator",data:=.fields #[.ref l,.int 0 0] }
abbrev Gs(h:D4)(l:AQ):D4:=(Ab h l).push { cls:=.type "enumerate",data:=.fields #[.none,.bool AD,.ref h.objs.size,EY 0,.none,.none] }
theorem zO9(l:AQ)(xs:Array AH) :
  Meets (FG.«enumerate.__new__» {[.type "enumerate",.ref l],[]}) (λ_ R s=>s.heap.IsList l xs/\R (.ok (.ret (.ref (Ab s.heap l).objs.size))) { s with heap:=Gs s.heap l }) :=
 .of_wp λprog w A R s h=>by
  obtain⟨hp,g,d,tk,os⟩:=s;obtain⟨hl,h⟩:=h;have Jq:=sub_enumerate;have hL:Heap.IsList (XR {hp,g,d,tk,os}) l xs:=hl
  wp_walk
  refine wpAny_stack_any λst=>wpAny_pure ?_;split
  .rename_i c _ _ _ _ _
   cases(c==T4 "enumerate")
   .wp_walk using KG hL
    exact{_,rfl,h}
   .wp_walk using KG hL
    exact{_,rfl,h}
  .wp_walk using KG hL
   exact{_,rfl,h}
theorem zRK{xs:Array AH}(hl:s.heap.IsList l xs)
  (h:∀h',EnStL h' s.heap.objs.size l 0->(∀b o,s.heap.get? b=AA o->h'.get? b=AA o)->Q (.ref (s.heap.objs.size+1)) { s with heap:=h' }) :
  A0 (A1 prog w) A (call (.type "enumerate") [.ref l]) Q E s:=by
 refine callType_new PySem.F.called_enumerate 'd' (PySem.F.typeCall_enumerate_1 _) (PySem.F.newCall_enumerate_1 _) (λobj=>PySem.F.args_object_init_2 obj _) PySem.F.entry_enumerate_new (zO9 l xs) {hl,?_};have z1:(Ab s.heap l).objs.size=s.heap.objs.size+1:=FX ..;have g2:(Gs s.heap l).get? (Ab s.heap l).objs.size=AA _:=AX _ rfl;have g1:(Gs s.heap l).get? s.heap.objs.size=AA _:=AF _ (AX _ rfl);show _/\_;rw[z1] at g2;rw[z1];exact{{_,g2,rfl},h _ {{.none,AD,.none,g2,.inl rfl},{_,g1,rfl,rfl}} λb o e=>AF _ (AF _ e)}
def Vb(K:AC)(a:AQ):It :=
 {λi H=>∃xs x,SqL K H a xs/\xs[i]?=AA x,λi H v H'=>∃p x,v=.ref p/\H p=AK/\H'=D6 H p (.tup [.int i,x])/\∀xs,SqL K H a xs->xs[i]?=AA x,λi H=>∃xs,SqL K H a xs/\xs.length<=i}
theorem zPA{K:AC}(a n:AQ):Turn P w K tg (Vb K a) [n,n+1] (n+1) (λi h=>EnStL h n a i) where
 mem:=by simp
 obj:=λi h st c hc=>by
  obtain⟨f0,f1,H9,e,_⟩:=st.eo;obtain⟨o0,e0,_,d0⟩:=st.k1;simp only[BC,C9,or_false] at hc;rcases hc with rfl|rfl
  .exact{_,e0,λv z=>by rw[d0] at z;cases z}
  .exact{_,e,λv z=>by have z':SL _=RN v:=z;cases z'}
 keep:=λi h h' st k=>st.keep k
 item:=by
  intro X hP hw hK hc i AE s σ H E I hf st hg;subst hP hw hK;obtain⟨xs,x,hq,hx⟩:=hg;obtain⟨BZ,rv,p,hz⟩:=I.list hq;obtain⟨u,hu,ru⟩:=rv.get hx;have Ik:=pAJ I hf hq;simp only[BC,C9,or_false,not_or] at Ik;refine zUP st Ik.1 Ik.2 (show s.heap.IsList a BZ.toArray from p.isList) (x:=u) (by simpa using hu) λh' t CU hp hsz hk=>?_;refine{_,rfl,yCK (s:={ s with heap:=h',toks:=s.toks+1 }) CU λh2 st2 M6=>?_};obtain⟨f0,f1,H9,e4,_⟩:=id st.eo;have JL:∀c∈[n,n+1],c<s.heap.objs.size:=λc hc=>lt2 hc (A9 e4)
  have I1:Inv X AE σ (D6 H s.heap.objs.size (.tup [.int i,x])) { s with heap:=s.heap.push { cls:=.type "tuple",data:=.seq #[.int i t,u] } } :=
   I.laid (t':=s.toks) (λb u e=>AF _ e) (AM _) {by show 2<=sizeLine;decide,[.int i t,u],.cons {t,rfl} (.cons ru .nil),{_,AX _ rfl,rfl,rfl,0,rfl}}
  have wC:∀c∈[n,n+1],FpOk X AE (D6 H s.heap.objs.size (.tup [.int i,x])) c:=λc hc=>{by rw[EV (CA (JL c hc))];exact(hf c hc).1,(hf c hc).2}
  have I2:Inv X AE σ (D6 H s.heap.objs.size (.tup [.int i,x])) { s with heap:=h2,toks:=s.toks+1 }:=I1.turnedL (t':=s.toks+1) wC λc o hc e=>by
   simp only[BC,C9,or_false,not_or] at hc;refine M6.extBut _ _ hc.2 ?_
   by_cases UN:c=s.heap.objs.size
   .subst UN
    rw[AX _ rfl] at e;cases e;exact hp
   .have e':s.heap.get? c=AA o:=by
     rw[MF _ _ _ UN] at e;exact e
    exact hk c o hc.1 hc.2 e'
  exact{.ref s.heap.objs.size,_,I2,rfl,{_,x,rfl,I.fresh,rfl,λzs hz=>by rw[I.list_inj hz hq];exact hx},st2,λc hc=>(wC c hc).1}
 done:=by
  intro X hP hw hK hc i AE s σ H E I hf st hg;subst hP hw hK;obtain⟨xs,hq,hx⟩:=hg;obtain⟨BZ,rv,p,hz⟩:=I.list hq;have hl:=rv.length;refine zYI (I.ok.hd hc) st (show s.heap.IsList a BZ.toArray from p.isList) (by simp;lia) λh' hk=>{rfl,I.turnedL (t':=s.toks) hf λc o hc e=>?_};simp only[BC,C9,or_false,not_or] at hc;exact hk c o hc.1 e
 self:=λ_ _ _ _ _ st h=>Qi st h
def yCL(K:AC)(ta:TA):TI:=λσ H R=>ta σ H λvs H1=>∃a,vs=[.ref a]/\(∃xs,SqL K H1 a xs)/\R (Vb K a) H1
theorem zUQ{a:C8}{ta:TA}(hg:Gl X "enumerate")(hm:X.mg "enumerate"=AK)(ha:PA X [a] ta)(hs:AO [a] X.env=[(AD,eval a X.env)]:=by rfl):PI X tg (.Call (.Name "enumerate" p) [a] [] pos) (yCL X.K ta):=by
 intro AE s σ H R I h;refine Call_ (j9 I hg hm (u:=.type "enumerate") (by decide +kernel) (FT (GV (ha pos AE s σ H _ I h) λus s1 ⟨vs,H1,I1,r1,q1⟩=>?_) hs rfl));obtain⟨c,e,⟨xs,XM⟩,q⟩:=q1;subst e
 cases r1 with
 |cons r rr =>
  cases rr
  (first|obtain rfl:=r.vI|obtain rfl:=r.vB|obtain rfl:=r.vS|obtain rfl:=r.vN|cases r)
  obtain⟨X6,uK,p1,kX⟩:=I1.list XM;refine zRK (show s1.heap.IsList c X6.toArray from p1.isList) λh' st k=>?_;refine Qi (s:={ s1 with heap:=h' }) st ?_;exact{s1.heap.objs.size+1,[s1.heap.objs.size,s1.heap.objs.size+1],_,_,H1,rfl,I1.kept (t':=s1.toks) k,zPA c _,st,λb hb=>I1.fpOk (Wv hb) (I1.hok.fresh (Wv hb)),q}
section
variable{K:AC}{a b:C8}{ga gb gc ge:G}{gs:List G}{id T:String}
def Vz(K:AC):R2:=λx y H Q=>∃l b xs zs,x=.ref l/\y=.ref b/\SqL K H l xs/\SqL K H b zs/\xs.length+zs.length<=sizeLine/\∀p,H p=AK->Q (.ref p) (D6 H p (.lst (xs++zs)))
theorem iJ:OpR X (HE .Add) (Vz X.K):=by
 intro AE s σ H x y v u Q I rx ry h;obtain⟨l,b,xs,zs,rfl,rfl,hH,hB,hz,q⟩:=h;cases rx;cases ry;obtain⟨BZ,r,pl,z⟩:=I.list hH;obtain⟨L7,r2,pl2,z2⟩:=I.list hB;obtain⟨⟨oc,od,oda,Z4⟩,n,e,e1,e2,e3⟩:=pl;obtain⟨⟨Ye,Yd,oda',Ie⟩,n',e',Ls,Lr,Zr⟩:=pl2;dsimp only at e1 e2 e3 Ls Lr Zr;subst e1 e2 e3 Ls Lr Zr;have hl:=r.length;have bE:=r2.length;refine TZ {_,e,rfl} {_,e',rfl} noFill_list_add seq_list_add F.slot_list_add F.entry_list_add (F.args_list_add_2 _ _) (list_addW l b BZ.toArray L7.toArray n n' AK AK Z4 Ie (by rw[AW,AW];lia)) {e,e',?_};have ea:BZ.toArray++L7.toArray=(BZ++L7).toArray:=by simp
 rw[ea];exact{.ref _,_,I.lnew (t':=s.toks) (r.append r2) (by rw[BH];lia),rfl,q _ I.fresh}
def Vy(K:AC):R2:=λx y H Q=>∃a b xs ys,x=.ref a/\y=.ref b/\SqT K H a xs/\SqT K H b ys/\xs.length+ys.length<=sizeLine/\(xs=[]->Q (.ref b) H)/\(ys=[]->Q (.ref a) H)/\∀p,H p=AK->Q (.ref p) (D6 H p (.tup (xs++ys)))
theorem iI:OpR X (HE .Add) (Vy X.K):=by
 intro AE s σ H x y v u Q I rx ry h;obtain⟨a,b,xs,ys,rfl,rfl,ha,hb,hz,q1,q2,q3⟩:=h;cases rx;cases ry;obtain⟨BZ,r1,p1,_⟩:=I.tuple ha;obtain⟨L7,r2,p2,_⟩:=I.tuple hb;refine zX4 p1 p2 (λz=>{.ref b,H,I,rfl,q1 (r1.nil_iff.mp z)}) (λ_ z=>{.ref a,H,I,rfl,q2 (r2.nil_iff.mp z)}) (λ_ z=>?_) (by rw[<-r1.length,<-r2.length];exact hz);exact{.ref s.heap.objs.size,_,I.laid (t':=s.toks) (o:=.tup (xs++ys)) (λb ob q=>AF _ q) (AM _) {by rw[BH];exact hz,_,r1.append r2,IsTupP.new _ _},rfl,q3 _ I.fresh}
theorem cO(h:n<10000):n<=sizeLine:=CW (cC h)
def NB(x y:D):Out D:=match x,y with
 |.int i,.int j=>.ok (.int (i+j))
 |.lst xs,.lst ys=>few (xs.length+ys.length) (.ok (.lst (xs++ys)))
 |.tup xs,.tup ys=>few (xs.length+ys.length) (.ok (.tup (xs++ys)))
 |.str s,.str t=>few (s.length+t.length) (.ok (.str (s++t)))
 |_,_=>.bad
abbrev Vx(K:AC):R2:=λx y H Q=>cJ (λi j=>.int (i+j)) x y H Q\/Vz K x y H Q\/Vy K x y H Q\/(∃i j,x=.str i/\y=.str j/\i.length+j.length<=sizeLine/\Q (.str (i++j)) H)
theorem zYJ:OpR X (HE .Add) (Vx X.K):=mY.or (iJ.or (iI.or zOZ))
theorem zYK:UI K (Vx K) NB:=λv u x y F H d Q s r1 r2 hf k=>by
 unfold NB at hf;split at hf
 .cases hf;obtain rfl:=r1.vI;obtain rfl:=r2.vI
  exact .inl {_,_,rfl,rfl,k _ F H (.refl s) (.int _)}
 .obtain⟨hl,hf⟩:=XY hf
  cases hf;obtain⟨a,vs,rfl,h1,h2⟩:=r1.isRefL;obtain⟨b,ws,rfl,h3,h4⟩:=r2.isRefL;refine .inr (.inl {a,b,vs,ws,rfl,rfl,h1.imp s.rd id,h3.imp s.rd id,by rw[h2.length,h4.length];exact cO hl,λq hq=>?_});have n:=New.laid (o:=.lst (vs++ws)) s hq;exact k _ _ _ n (.lst (.inl (.inl HB)) ((h2.append h4).le n.1.le))
 .obtain⟨hl,hf⟩:=XY hf
  cases hf;obtain⟨a,vs,rfl,h2,h1⟩:=r1.tupSq;obtain⟨b,ws,rfl,h4,h3⟩:=r2.tupSq;refine .inr (.inr (.inl {a,b,vs,ws,rfl,rfl,h1 F H (.refl _) s,h3 F H (.refl _) s,by rw[h2.length,h4.length];exact cO hl,λz=>?_,λz=>?_,λq hq=>?_}))
  .have:=h2.nil_iff.mp z
   subst this;exact k _ F H (.refl s) r2
  .have:=h4.nil_iff.mp z
   subst this;rw[DJ] at k;exact k _ F H (.refl s) r1
  .have n:=New.laid (o:=.tup (vs++ws)) s hq
   exact k _ _ _ n (.tup HB ((h2.append h4).le n.1.le))
 .obtain⟨hl,hf⟩:=XY hf
  cases hf;obtain rfl:=r1.vS;obtain rfl:=r2.vS;exact .inr (.inr (.inr {_,_,rfl,rfl,cO hl,k _ F H (.refl s) (.str _)}))
 .cases hf
theorem ZT(ha:VE X a ga)(hb:VE X b gb):VE X (.BinOp a .Add b pos) (g2 NB ga gb):=qK zYJ zYK ha hb
noncomputable def bX(x y:D):Out D:=match x,y with
 |.int i,.int j=>.ok (.int (i-j))
 |_,_=>.bad
theorem zYL:UI K (cJ λi j=>.int (i-j)) bX:=λv u x y F H d Q s r1 r2 hf k=>by
 unfold bX at hf;split at hf
 .cases hf;obtain rfl:=r1.vI;obtain rfl:=r2.vI
  exact{_,_,rfl,rfl,k _ F H (.refl s) (.int _)}
 .cases hf
theorem xA(ha:VE X a ga)(hb:VE X b gb):VE X (.BinOp a .Sub b pos) (g2 bX ga gb):=qK yBA zYL ha hb
def guard(c:Prop)[Decidable c](y:Out α):Out α:=if c then y else .bad
theorem fI{c:Prop}[Decidable c]{y:Out α}{z:α}(h:guard c y=.ok z):c/\y=.ok z:=by
 unfold guard at h;split at h
 .exact{by assumption,h}
 .cases h
def pR(i:Int):Prop:=-(2 ^ 64)<i/\i<2 ^ 64
instance (i:Int):Decidable (pR i):=inferInstanceAs (Decidable (_/\_))
def XW(x y:D):Out D:=match x,y with
 |.int i,.int j=>guard (pR i\/pR j) (.ok (.int (i * j)))
 |_,_=>.bad
theorem zYM:UI K (rI CMul λi j=>.int (i * j)) XW:=λv u x y F H d Q s r1 r2 hf k=>by
 unfold XW at hf;split at hf
 .obtain⟨hc,hf⟩:=fI hf
  cases hf;obtain rfl:=r1.vI;obtain rfl:=r2.vI;exact{_,_,rfl,rfl,hc,k _ F H (.refl s) (.int _)}
 .cases hf
theorem w9(ha:VE X a ga)(hb:VE X b gb):VE X (.BinOp a .Mult b pos) (g2 XW ga gb):=qK yBB zYM ha hb
def mF(x y:D):Out D:=match x,y with
 |.int i,.int j=>guard (0<j/\j<2 ^ 200) (.ok (.int (i / j)))
 |_,_=>.bad
def Vw(_ j:Int):Prop:=0<j/\j<2 ^ 200
theorem zUT:OpR X (HE .FloorDiv) (rI Vw λi j=>.int (i / j)):=z9 λi j _ _ _ _ _ hc q=>by
 refine floordiv_int (by have:=hc.1;lia) (by rw[Int.fdiv_eq_ediv_of_nonneg _ (LA hc.1)];exact q) (.inl (PyProof.noPylong_of_log2 ?_));have h1:=hc.1;have h2:=hc.2;refine AN ((Nat.log2_lt 'l').mpr (show j.natAbs<2 ^ 200 by lia)) 'd'
theorem zUU:UI K (rI Vw λi j=>.int (i / j)) mF:=λv u x y F H d Q s r1 r2 hf k=>by
 unfold mF at hf;split at hf
 .obtain⟨hc,hf⟩:=fI hf
  cases hf;obtain rfl:=r1.vI;obtain rfl:=r2.vI;exact{_,_,rfl,rfl,hc,k _ F H (.refl s) (.int _)}
 .cases hf
theorem Mm(ha:VE X a ga)(hb:VE X b gb):VE X (.BinOp a .FloorDiv b pos) (g2 mF ga gb):=qK zUT zUU ha hb
def RP(x y:D):Out D:=match x,y with
 |.int i,.int j=>guard (0<j) (.ok (.int (i % j)))
 |_,_=>.bad
theorem zYN:UI K (rI (λ_ j=>0<j) λi j=>.int (i % j)) RP:=λv u x y F H d Q s r1 r2 hf k=>by
 unfold RP at hf;split at hf
 .obtain⟨hc,hf⟩:=fI hf
  cases hf;obtain rfl:=r1.vI;obtain rfl:=r2.vI;exact{_,_,rfl,rfl,hc,k _ F H (.refl s) (.int _)}
 .cases hf
theorem g9(ha:VE X a ga)(hb:VE X b gb):VE X (.BinOp a .Mod b pos) (g2 RP ga gb):=qK yBC zYN ha hb
def aQ(x y:D):Out D:=match x,y with
 |.int i,.int j=>guard (0<=j/\j<=1000000/\i.natAbs<2 ^ 64) (.ok (.int (i ^ j.toNat)))
 |_,_=>.bad
theorem zYO:UI K (rI Uu λi j=>.int (i ^ j.toNat)) aQ:=λv u x y F H d Q s r1 r2 hf k=>by
 unfold aQ at hf;split at hf
 .obtain⟨hc,hf⟩:=fI hf
  cases hf;obtain rfl:=r1.vI;obtain rfl:=r2.vI;exact{_,_,rfl,rfl,hc,k _ F H (.refl s) (.int _)}
 .cases hf
theorem w8(ha:VE X a ga)(hb:VE X b gb):VE X (.BinOp a .Pow b pos) (g2 aQ ga gb):=qK yBD zYO ha hb
noncomputable def SY(x:D):Out D:=match x with
 |.int i=>.ok (.int (-i))
 |_=>.bad
theorem zYP:Gx K (rU λi=>.int (-i)) SY:=λv x F H d Q s r hf k=>by
 unfold SY at hf;split at hf
 .cases hf;obtain rfl:=r.vI
  exact{_,rfl,k _ F H (.refl s) (.int _)}
 .cases hf
theorem mD(ha:VE X a ga):VE X (.UnaryOp .USub a pos) (g1 SY ga):=yHW yBE zYP ha
def gX(x y:D):Out D:=match x,y with
 |.lst xs,.int k=>guard (-(2 ^ 63)<=k/\k<2 ^ 63/\xs.length * k.toNat<10000) (.ok (.lst (BG k.toNat xs).flatten))
 |_,_=>.bad
theorem Vv{gs:List G}(ha:VA X es gs)(hb:VE X b gb):FE X (.BinOp (.List es Z5) .Mult b pos) (g2 gX (J5 gs) gb):=(xH yBQ (mQ ha) hb).imp λσ H Q h=>by
 obtain⟨τ,F,E,d,E',S,hg,k⟩:=h;obtain⟨p,ea,hg⟩:=pA3 hg;obtain⟨q,eb,hg⟩:=pA3 hg;obtain⟨z,ef,hg⟩:=pA3 hg;cases hg;obtain⟨p0,ea0,eq⟩:=pA3 ea;obtain⟨hl,eq⟩:=XY eq;cases eq;refine{τ,F,E,p0.1,p0.2,S,ea0,λvs F1 H1 s1 S1 r1=>{by rw[r1.length];exact cO hl,λl rG=>?_}};have n:=New.laid (o:=.lst vs) S1.sub rG;have S2:=S1.new n;refine{τ,_,p0.2,q.1,q.2,S2,eb,λu F3 H3 s3 S3 r3=>?_};unfold gX at ef;split at ef
 .rename_i xs kk e1 e2
  obtain⟨⟨g1,g2,g3⟩,ef⟩:=fI ef;cases ef;cases e1;rw[e2] at r3;obtain rfl:=r3.vI;have hv:=r1.length;have rl:Rd F3 l (.lst vs):=s3.le.rd (.inl HB)
  have hH:H3 l=AA (.lst vs):=by
   rcases rl with z|⟨o,z⟩
   .exact S3.sub _ _ z
   .have:=s3.le l _ (HB (H:=F1) (o:=.lst vs))
    rcases this with y|⟨y,_⟩|⟨_,_,_,y,_⟩
    .rw[z] at y;cases y
    .exact y.elim
    .cases y
  refine{l,kk,vs,rfl,rfl,hH,g1,g2,by rw[hv];exact cO g3,λq' hq=>?_};have n2:=pA6 (H':=D6 H3 q' (.lst (BG kk.toNat vs).flatten)) S3.sub (Gr.new hq);have st:=((s1.trans (n.stp (ow:=DY σ p0.2))).trans s3).trans (n2.stp (ow:=DY σ q.2));exact k q' _ _ st (S3.new n2) (pAG S3.sub hq) (((s1.trans (n.stp (ow:=DY σ p0.2))).trans s3).dom q' hq) {_,HB,((r1.le n.1.le).le s3.le).rep kk.toNat} (S3.fresh hq)
 .cases ef
theorem Reps.atI{vs:List V}{ds:List D}{i:Int}{d:D}(r:Reps K F vs ds)(h:L2.atI ds i=AA d):∃v,L2.atI vs i=AA v/\Rep K F v d:=by
 unfold L2.atI at h ⊢;rw[r.length]
 cases q:XI ds.length i with
 |none=>rw[q] at h;cases h
 |some j =>
  rw[q] at h;obtain⟨v,h1,h2⟩:=r.get (show ds[j]?=AA d from h);exact{v,h1,h2}
def FI(x y:D):Out D:=match x,y with
 |.lst ds,.int i=>match L2.atI ds i with
  |some d=>.ok d
  |none=>.bad
 |.tup ds,.int i=>match L2.atI ds i with
  |some d=>.ok d
  |none=>.bad
 |.str z,.int i=>few z.length (match L2.atI z.cps.toList i with
  |some c=>.ok (.str {#[c]})
  |none=>.bad)
 |x,y=>match hG x y with
  |some (AA d)=>.ok d
  |_=>.bad
def xT:R2:=λx y H Q=>∃a v,x=.ref a/\gZ H a y (AA v)/\Q v H
theorem Os(hu:X.A.units+64<GZ):IxR X xT:=by
 intro JS O6 AE s σ H x y v u Q I rx ry h hs;obtain⟨a,w,rfl,g,q⟩:=h;cases rx;refine YH (zMV I g) PySem.F.slot_dict_getitem.lookup (zQF (A:=X.A) 'l' I g ry λw' s3 I3 LN=>{w,H,I3,LN,q}) hs
theorem yCR:UI K (λx y H Q=>Wr K x y H Q\/xT x y H Q) FI:=λv u x y F H d Q s r1 r2 hf k=>by
 have Lu:(match hG x y with|some (AA d)=>Out.ok d|_=>.bad)=.ok d->xT v u H Q:=λhh=>by
  split at hh
  .rename_i d' eo
   cases hh;obtain⟨a,ov,rfl,g,ro⟩:=pAI s r1 r2 eo;obtain⟨w,rfl,LN⟩:=ro.some_of;exact{a,w,rfl,g,k _ F H (.refl s) LN}
  .cases hh
 unfold FI at hf;split at hf
 .split at hf
  .rename_i d' e
   cases hf;obtain⟨a,vs,rfl,h1,h2⟩:=r1.isRefL;obtain⟨w,h3,h4⟩:=h2.atI e;obtain rfl:=r2.vI;exact .inl (.inl {a,vs,_,w,rfl,rfl,h1.imp s.rd id,h3,k _ F H (.refl s) h4})
  .cases hf
 .split at hf
  .rename_i d' e
   cases hf;obtain⟨a,vs,rfl,h2,h1⟩:=r1.tupSq;obtain⟨w,h3,h4⟩:=h2.atI e;obtain rfl:=r2.vI;exact .inl (.inr (.inl {a,vs,_,w,rfl,rfl,h1 F H (.refl _) s,h3,k _ F H (.refl s) h4}))
  .cases hf
 .obtain⟨hl,hf⟩:=XY hf
  split at hf
  .rename_i c e
   cases hf;obtain rfl:=r1.vS;obtain rfl:=r2.vI;exact .inl (.inr (.inr {_,_,c,rfl,rfl,cO hl,e,k _ F H (.refl s) (.str _)}))
  .cases hf
 .exact .inr (Lu hf)
theorem ML(hu:X.A.units+64<GZ)(ha:VE X a ga)(hb:VE X b gb)(hs:Pg b:=by intro _ _;rfl):VE X (.Subscript a b pos) (g2 FI ga gb):=(Ca (nA.or (Os hu)) ha hb hs).imp λ_ _ _ h=>xE yCR h
noncomputable def ZO(xs:List α)(lo hi:Option Int):List α:=(xs.drop (HT.sIx xs.length 0 lo)).take (HT.sIx xs.length xs.length hi-HT.sIx xs.length 0 lo)
theorem Reps.cut{ds:List D}(r:Reps K F vs ds)(lo hi:Option Int):Reps K F (Y1 vs lo hi) (ZO ds lo hi):=by
 unfold Y1 ZO;rw[r.length];exact(r.drop _).take _
def yH1(K:AC):V->Option Int->Option Int->Hp->VK->Prop:=λx lo hi H Q=>∃a xs,x=.ref a/\SqT K H a xs/\(Y1 xs lo hi=xs->Q (.ref a) H)/\∀p,H p=AK->Q (.ref p) (D6 H p (.tup (Y1 xs lo hi)))
theorem iH:SlR X (yH1 X.K):=by
 intro AE s σ H x v vl vu lo hi sl Q I rx hs pl pu h;obtain⟨a,xs,rfl,hx,q1,q2⟩:=h
 by_cases hw:HT.sIx xs.length 0 lo=0/\HT.sIx xs.length xs.length hi=xs.length
 .cases rx
  obtain⟨BZ,r,ht,hz⟩:=I.tuple hx;have EX:BZ.toArray.size=xs.length:=by rw[AW];exact r.length.symm
  refine{"tuple",_,CD.lookup,ht.typeIs,?_};exact zED ht hs pl pu (by rw[EX];exact hw) {.ref a,H,I,rfl,q1 (zQU hw)}
 .exact yBK AE s σ H (.ref a) v vl vu lo hi sl Q I rx hs pl pu {a,xs,rfl,hx,hw,q2}
def Bu:Option G->Ev->Out (Option Int×Ev)
 |none,E=>.ok (AK,E)
 |some g,E=>(g E).bind λp=>match p.1 with|.int i=>.ok (AA i,p.2)|_=>.bad
def tPt(K:AC)(H₀:Hp)(g:Option G):TO:=λσ H Q=>∃τ F E o E',Sim K H₀ τ F H σ E/\Bu g E=.ok (o,E')/\∀F' H',Stp (DY σ E) F H F' H' (DY σ E')->Sim K H₀ τ F' H' σ E'->Q o H'
theorem PO.imp{oe:Option C8}{t t':TO}(h:PO X oe t)(hi:∀σ H Q,t' σ H Q->t σ H Q):PO X oe t':=λAE s σ H Q I q=>h AE s σ H Q I (hi σ H Q q)
abbrev VO(X:Cx)(oe:Option C8)(g:Option G):Prop:=PO X oe (tPt X.K X.H₀ g)
theorem Oq(h:VE X e ge):VO X (AA e) (AA ge):=(zXM h).imp λσ H Q h=>by
 obtain⟨τ,F,E,o,E',S,hg,k⟩:=h;obtain⟨p,ea,hg⟩:=pA3 hg;refine{τ,F,E,p.1,p.2,S,ea,λv F1 H1 s1 S1 r1=>?_};split at hg
 .rename_i i ei
  cases hg;rw[ei] at r1;obtain rfl:=r1.vI;exact{i,rfl,k F1 H1 s1 S1}
 .cases hg
def Va(x:D)(lo hi:Option Int):Out D:=match x with
 |.tup ds=>.ok (.tup (ZO ds lo hi))
 |.lst ds=>.ok (.lst (ZO ds lo hi))
 |_=>.bad
def Cn(g:G)(lo hi:Option G):G:=λE=>(g E).bind λp=>(Bu lo p.2).bind λq=>(Bu hi q.2).bind λr=>(Va p.1 q.1 r.1).bind λd=>.ok (d,r.2)
theorem zYR{lo hi:Option C8}{gl gh:Option G}(he:VE X e ge)(hl:VO X lo gl)(hh:VO X hi gh):VE X (.Subscript e (.Slice lo hi AK p2) pos) (Cn ge gl gh):=(zTP (iH.or zXO) he hl hh).imp λσ H Q h=>by
 obtain⟨τ,F,E,d,E',S,hg,k⟩:=h;obtain⟨p,e1,hg⟩:=pA3 hg;obtain⟨q,e2,hg⟩:=pA3 hg;obtain⟨r,e3,hg⟩:=pA3 hg;obtain⟨z,e4,hg⟩:=pA3 hg;cases hg;refine{τ,F,E,p.1,p.2,S,e1,λv F1 H1 s1 S1 r1=>{τ,F1,p.2,q.1,q.2,S1,e2,λF2 H2 s2 S2=>{τ,F2,q.2,r.1,r.2,S2,e3,λF3 H3 s3 S3=>?_}}};have uM:=(r1.le s2.le).le s3.le;have st:=(s1.trans s2).trans s3;unfold Va at e4;split at e4
 .rename_i ds ed
  cases e4;rw[ed] at uM;obtain⟨a,vs,rfl,h2,h1⟩:=uM.tupSq;refine .inl {a,vs,rfl,h1 F3 H3 (.refl _) S3.sub,λz=>k _ F3 H3 st S3 ?_,λq' hq=>?_}
  .have:ZO ds q.1 r.1=ds:=by
    have h5:=h2.cut q.1 r.1;rw[z] at h5;have h6:=h5.length;have h7:=h2.length;have h8:(ZO ds q.1 r.1).Sublist ds:=(MC _ _).trans (List.drop_sublist _ _);exact h8.eq_of_length 'l'
   rw[this];exact uM
  .have n:=New.laid (o:=.tup (Y1 vs q.1 r.1)) S3.sub hq
   exact k _ _ _ (st.trans n.stp) (S3.new n) (.tup HB ((h2.cut q.1 r.1).le n.1.le))
 .rename_i ds ed
  cases e4;rw[ed] at uM;obtain⟨a,vs,rfl,h1,h2⟩:=uM.isRefL;refine .inr {a,vs,rfl,h1.imp S3.sub.rd id,λq' hq=>?_};have n:=New.laid (o:=.lst (Y1 vs q.1 r.1)) S3.sub hq;exact k _ _ _ (st.trans n.stp) (S3.new n) (.lst (.inl (.inl HB)) ((h2.cut q.1 r.1).le n.1.le))
 .cases e4
def gN(f:List D->Out D)(gs:List G):G:=λE=>(NL gs E).bind λp=>(f p.1).bind λd=>.ok (d,p.2)
def mB(K:AC)(r:List V->Hp->VK->Prop)(f:List D->Out D):Prop:=∀vs xs F H d Q,Sub F H->Reps K F vs xs->f xs=.ok d->(∀z F' H',New F H F' H'->Rep K F' z d->Q z H')->r vs H Q
def rP(K:AC)(r:List V->Hp->VK->Prop)(f:List D->Out D):Prop:=∀vs xs F H d Q,Sub F H->Reps K F vs xs->f xs=.ok d->(∀a F' H',New F H F' H'->F' a=AK->H a=AK->OwnAt K F' H' a d->Q (.ref a) H')->r vs H Q
theorem Vu{f:List D->Out D}(hs:mB K r f){Q:VK}(h:tV K H₀ (gN f gs) σ H Q):z8 r (fL K H₀ gs) σ H Q:=by
 obtain⟨τ,F,E,d,E',S,hg,k⟩:=h;obtain⟨p,e1,hg⟩:=pA3 hg;obtain⟨z,e2,hg⟩:=pA3 hg;cases hg;exact{τ,F,E,p.1,p.2,S,e1,λvs F1 H1 s1 S1 r1=>hs vs p.1 F1 H1 d Q S1.sub r1 e2 λz F2 H2 n r2=>k z F2 H2 (s1.trans n.stp) (S1.new n) r2}
theorem Vt{f:List D->Out D}(hs:rP K r f){Q:VK}(h:tF K H₀ (gN f gs) σ H Q):z8 r (fL K H₀ gs) σ H Q:=by
 obtain⟨τ,F,E,d,E',S,hg,k⟩:=h;obtain⟨p,e1,hg⟩:=pA3 hg;obtain⟨z,e2,hg⟩:=pA3 hg;cases hg;exact{τ,F,E,p.1,p.2,S,e1,λvs F1 H1 s1 S1 r1=>hs vs p.1 F1 H1 d Q S1.sub r1 e2 λa F2 H2 n h1 h2 h3=>k a F2 H2 (s1.trans n.stp) (S1.new n) h1 (s1.dom a h2) h3 (S1.fresh h2)}
theorem Bs{f:List D->Out D}(hc:CallR X (.builtin id) r)(hs:mB X.K r f)(hm:X.mg x=AK)(hv:GL x=AA (.builtin id))(ha:VA X (e::es) gs)(hg:Gl X x:=by rfl)(hn:x≠"__name__":=by decide)(SC:(x==("__debug__":CT))=AD:=by decide)
  (he:AO (e::es) X.env=(AD,eval e X.env)::AO es X.env:=by rfl) (JW:(DO pos (AO es X.env)).any (·.1)=AD:=by rfl):VE X (.Call (.Name x p) (e::es) [] pos) (gN f gs):=(yQ hc hg hm hv ha hn SC he JW).imp λ_ _ _ h=>Vu hs h
theorem yFP{f:List D->Out D}(hc:CallR X (.builtin id) r)(hs:rP X.K r f)(hm:X.mg x=AK)(hv:GL x=AA (.builtin id))(ha:VA X (e::es) gs)(hg:Gl X x:=by rfl)(hn:x≠"__name__":=by decide)(SC:(x==("__debug__":CT))=AD:=by decide)
  (he:AO (e::es) X.env=(AD,eval e X.env)::AO es X.env:=by rfl) (JW:(DO pos (AO es X.env)).any (·.1)=AD:=by rfl):FE X (.Call (.Name x p) (e::es) [] pos) (gN f gs):=(yQ hc hg hm hv ha hn SC he JW).imp λ_ _ _ h=>Vt hs h
theorem yH2{f:List D->Out D}(hc:CallR X (.type T) r)(hs:mB X.K r f)(hm:X.mg x=AK)(hv:GL x=AA (.type T))(ha:VA X (e::es) gs)(hg:Gl X x:=by rfl)(hn:x≠"__name__":=by decide)(SC:(x==("__debug__":CT))=AD:=by decide)
  (he:AO (e::es) X.env=(AD,eval e X.env)::AO es X.env:=by rfl) (JW:(DO pos (AO es X.env)).any (·.1)=AD:=by rfl):VE X (.Call (.Name x p) (e::es) [] pos) (gN f gs):=(yV hc hg hm hv ha hn SC he JW).imp λ_ _ _ h=>Vu hs h
theorem yH3{f:List D->Out D}(hc:CallR X (.type T) r)(hs:rP X.K r f)(hm:X.mg x=AK)(hv:GL x=AA (.type T))(ha:VA X (e::es) gs)(hg:Gl X x:=by rfl)(hn:x≠"__name__":=by decide)(SC:(x==("__debug__":CT))=AD:=by decide)
  (he:AO (e::es) X.env=(AD,eval e X.env)::AO es X.env:=by rfl) (JW:(DO pos (AO es X.env)).any (·.1)=AD:=by rfl):FE X (.Call (.Name x p) (e::es) [] pos) (gN f gs):=(yV hc hg hm hv ha hn SC he JW).imp λ_ _ _ h=>Vt hs h
end
def Gm(a b:Int):Bool:=decide (a<=b)
def pC(ns:List Int):List Int:=ns.mergeSort Gm
theorem zPD(ns:List Int):(pC ns).Perm ns:=K1 _ _
theorem zUX(ns:List Int):(pC ns).Pairwise (·<=·):=by
 have:=JJ (le:=Gm) (λa b c h1 h2=>decide_eq_true (K9 (of_decide_eq_true h1) (of_decide_eq_true h2)))
  (λa b=>by unfold Gm;rcases Int.le_total a b with h|h<;>simp[h]) ns
 exact this.imp λh=>of_decide_eq_true h
theorem zUY{ms:List Int}(p:ms.Perm ns)(h:ms.Pairwise (·<=·)):ms=pC ns :=
 IN (le:=λa b:Int=>decide (a<=b)=AL) (λa b _ _ h1 h2=>Int.le_antisymm (of_decide_eq_true h1) (of_decide_eq_true h2)) (h.imp λh=>decide_eq_true h) ((zUX ns).imp λh=>decide_eq_true h) (p.trans (zPD ns).symm)
def Z0(a b:Int×Int):Bool:=!TF b a
def ZS(ps:List (Int×Int)):List (Int×Int):=ps.mergeSort Z0
theorem xS{a b:Int×Int}:Z0 a b=AL↔a.1<b.1\/(a.1=b.1/\a.2<=b.2):=by
 unfold Z0 TF;simp only[MG,decide_eq_false_iff_not];lia
theorem sZ(ps:List (Int×Int)):(ZS ps).Perm ps:=K1 _ _
theorem Qh(ps:List (Int×Int)):(ZS ps).Pairwise (λa b=>Z0 a b=AL) :=
 JJ (λa b c h1 h2=>by rw[xS] at *;lia) (λa b=>by
  have:Z0 a b=AL\/Z0 b a=AL:=by rw[xS,xS];lia
  simpa using this) ps
theorem zUZ{ms ns:List (Int×Int)}(p:ms.Perm ns)(h:ms.Pairwise (λa b=>Z0 a b=AL)):ms=ZS ns :=
 IN (le:=λa b=>Z0 a b=AL) (λa b _ _ h1 h2=>by
  rw[xS] at h1 h2
  exact lP 'l' 'l') h (Qh ns) (p.trans (sZ ns).symm)
def S7(p:Int×Int):D:=.tup [.int p.1,.int p.2]
noncomputable def kC:List D->Option (List (Int×Int))
 |[]=>AA []
 |.tup [.int a,.int b]::ds=>(kC ds).map ((a,b)::·)
 |_::_=>AK
theorem zPE:∀{ds:List D} {ps:List (Int×Int)},kC ds=AA ps->ds=ps.map S7:=by
 intro ds
 induction ds with
 |nil=>intro ps h;rw[kC] at h;cases h;rfl
 |cons d ds ih =>
  intro ps h;unfold kC at h;split at h
  .rename_i e;cases e
  .rename_i a b r e
   cases e;obtain⟨q,h1,h2⟩:=BR.mp h;subst h2;rw[ih h1];rfl
  .cases h
theorem yY:∀ps:List (Int×Int),kC (ps.map S7)=AA ps
 |[]=>rfl
 |p::ps=>by
  show(kC (ps.map S7)).map (λr=>(p.1,p.2)::r)=_;rw[yY ps];rfl
section
variable{K:AC}{a b:C8}{ga gb gc ge:G}{gs:List G}
theorem Reps.perm(pm:zs.Perm ys):∀{ds:List D},Reps K F ys ds->∃es,es.Perm ds/\Reps K F zs es:=by
 induction pm with
 |nil=>intro ds r;cases r;exact{[],G4 _,.nil}
 |cons a _ ih =>
  intro ds r
  cases r with
  |cons h t =>
   obtain⟨qs,q,r'⟩:=ih t;exact{_::qs,q.cons _,.cons h r'}
 |swap a b l =>
  intro ds r
  cases r with
  |cons h t =>
   cases t with
   |cons h' t'=>exact{_::_::_,HW _ _ _,.cons h' (.cons h t')}
 |trans _ _ a7 ih2 =>
  intro ds r;obtain⟨qs,q,r'⟩:=ih2 r;obtain⟨us,q',uN⟩:=a7 r';exact{us,q'.trans q,uN}
theorem zU0{f:α->β}:∀{l1 l2:List β} (p:l1.Perm l2) (ns:List α),l2=ns.map f->∃ms:List α,l1=ms.map f/\ms.Perm ns:=by
 intro l1 l2 p
 induction p with
 |nil=>intro ns e;cases ns with|nil=>exact{[],rfl,G4 _}|cons _ _=>cases e
 |cons a _ ih =>
  intro ns e
  cases ns with
  |nil=>cases e
  |cons n ns =>
   injection e with e1 e2;obtain⟨ms,h1,h2⟩:=ih ns e2;exact{n::ms,by rw[AV,e1,h1],h2.cons n}
 |swap a b l =>
  intro ns e
  match ns,e with
  |c::d::ns,e =>
   injection e with e1 e2;injection e2 with e2 e3;exact{d::c::ns,by rw[AV,AV,e1,e2,e3],HW _ _ _}
 |trans _ _ a7 ih2 =>
  intro ns e;obtain⟨ms,h1,h2⟩:=ih2 ns e;obtain⟨ks,h3,h4⟩:=a7 ms h1;exact{ks,h3,h4.trans h2}
theorem Reps.prs(s:Sub F H):∀{ps:List (Int×Int)} {ys:List V},Reps K F ys (ps.map S7)->Prs H ys ps:=by
 intro ps
 induction ps with
 |nil=>intro ys r;cases r;exact .nil
 |cons p ps ih =>
  intro ys r
  cases r with
  |cons h r =>
  refine .cons ?_ (ih r);have h:Rep K F _ (.tup [.int p.1,.int p.2]):=h;generalize hk:[D.int p.1,.int p.2]=kk at h
  cases h with
  |tup hb rb =>
   subst hk
   cases rb with
   |cons h1 rb =>
    cases rb with
    |cons h2 rb =>
     cases rb;cases h1;cases h2;exact{_,rfl,s _ _ hb}
  |@tupK a xs hb nb =>
   cases xs with
   |nil=>cases hk
   |cons x xs=>cases hk
theorem zYT(s:Sub F H)(hp:Prs H ys ps):Prs H ys qs->ps=qs:=by
 induction hp generalizing qs with
 |nil=>intro h;cases h;rfl
 |cons r t1 ih =>
  intro h
  cases h with
  |cons r2 t2 =>
   obtain⟨a,e1,h1⟩:=r;obtain⟨b,e2,h2⟩:=r2;rw[e1] at e2;cases e2;rw[h1] at h2;simp only[WH,HO.tup.injEq,ZJ,V.int.injEq,and_true] at h2;rw[ih t2,lP h2.1 h2.2]
def jW:List D->Out D
 |[.lst ds]=>match Q5 ds with
  |some ns=>.ok (.lst ((pC ns).map D.int))
  |none=>match kC ds with
   |some ps=>.ok (.lst ((ZS ps).map S7))
   |none=>.bad
 |_=>.bad
abbrev zYU(K:AC):List V->Hp->VK->Prop:=λxs H Q=>(∃(l:AQ) (ns:List Int),xs=[.ref l]/\SqL K H l (ns.map V.int)/\∀(ms:List Int) (q:AQ),ms.Perm ns->ms.Pairwise (·<=·)->H q=AK->Q (.ref q) (D6 H q (.lst (ms.map V.int)))) \/
 (∃(l:AQ) (ys:List V) (ps:List (Int×Int)),xs=[.ref l]/\SqL K H l ys/\Prs H ys ps/\∀(zs:List V) (qs:List (Int×Int)) (q:AQ),zs.Perm ys->Prs H zs qs->qs.Perm ps->(qs.Pairwise λa b=>TF b a=AD)->H q=AK->Q (.ref q) (D6 H q (.lst zs)))
theorem zRQ:rP K (zYU K) jW:=λvs xs F H d Q s r hf k=>by
 unfold jW at hf;split at hf
 .rename_i ds
  cases r with
  |cons r rr =>
   cases rr;obtain⟨l,ys,rfl,h1,h2⟩:=r.isRefL;split at hf
   .rename_i ns en
    cases hf;have:=sW en;subst this;have:=h2.vint;subst this;refine .inl {l,ns,rfl,h1.imp s.rd id,λms q pm pw hq=>?_};rw[zUY pm pw];have n:=pA6 (H':=D6 H q (.lst ((pC ns).map V.int))) s (Gr.new hq);exact k q F _ n (pAG s hq) hq {_,HB,Reps.ints _}
   .split at hf
    .rename_i ps ep
     cases hf;have:=zPE ep;subst this;refine .inr {l,ys,ps,rfl,h1.imp s.rd id,h2.prs s,λzs qs q pz iX pq pw hq=>?_};obtain⟨es,pe,re⟩:=Reps.perm pz h2;obtain⟨qs',rfl,pq'⟩:=zU0 pe ps rfl;have:=zYT s (re.prs s) iX;subst this;have:qs'=ZS ps:=zUZ pq (pw.imp λh=>by unfold Z0;rw[h];rfl);subst this;have n:=pA6 (H':=D6 H q (.lst zs)) s (Gr.new hq);exact k q F _ n (pAG s hq) hq {_,HB,re}
    .cases hf
 .cases hf
theorem Qg(hm:X.mg "sorted"=AK)(ha:VA X (e::es) gs)(hg:Gl X "sorted":=by rfl)(he:AO (e::es) X.env=(AD,eval e X.env)::AO es X.env:=by rfl)(JW:(DO pos (AO es X.env)).any (·.1)=AD:=by rfl) :
  FE X (.Call (.Name "sorted" p) (e::es) [] pos) (gN jW gs):=yFP (TJ.or zI6) zRQ hm (by decide +kernel) ha hg 'd' 'd' he JW
theorem zPF:CallR X (.builtin "len") (λxs H Q=>∃a kvs,xs=[V.ref a]/\Rd H a (.dT kvs)/\Q (.int kvs.length) H):=by
 intro AE s σ H xs us Q I r h;obtain⟨a,kvs,rfl,ha,q⟩:=h;obtain⟨u,rfl,ru⟩:=ZV r;cases ru;obtain⟨es,ep,LN,e1,e2,_⟩:=pJ (ha.ok I.hok);have:=j8;refine zX2 LN (by rw[GE] at e2;lia) λt tk=>{.int kvs.length,H,I.tok tk,{t,by rw[e1]},q}
theorem X2:CallR X (.builtin "len") (λxs H Q=>∃a kvs,xs=[V.ref a]/\Rd H a (.dK kvs)/\Q (.int kvs.length) H):=by
 intro AE s σ H xs us Q I r h;obtain⟨a,kvs,rfl,ha,q⟩:=h;obtain⟨u,rfl,ru⟩:=ZV r;cases ru;exact yE7 I ha λt s' I'=>{.int kvs.length,H,I',{t,rfl},q}
def RO:List D->Out D
 |[.lst ds]=>.ok (.int ds.length)
 |[.tup ds]=>.ok (.int ds.length)
 |[.str z]=>few z.length (.ok (.int z.length))
 |[.dk kvs]=>.ok (.int kvs.length)
 |[.dt kvs]=>.ok (.int kvs.length)
 |_=>.bad
abbrev yFQ(K:AC):List V->Hp->VK->Prop:=λxs H Q=>(∃p ys,xs=[.ref p]/\(SqL K H p ys\/SqT K H p ys)/\Q (.int ys.length) H)\/(∃z,xs=[.str z]/\z.length<=sizeLine/\Q (.int z.length) H) \/
 (∃a kvs,xs=[V.ref a]/\Rd H a (.dK kvs)/\Q (.int kvs.length) H)\/(∃a kvs,xs=[V.ref a]/\Rd H a (.dT kvs)/\Q (.int kvs.length) H)
theorem yCU:mB K (yFQ K) RO:=λvs xs F H d Q s r hf k=>by
 unfold RO at hf;split at hf
 .cases hf
  cases r with
  |cons r rr =>
   cases rr;obtain⟨l,ys,rfl,h1,h2⟩:=r.isRefL;exact .inl {l,ys,rfl,.inl (h1.imp s.rd id),by rw[h2.length];exact k _ F H (.refl s) (.int _)}
 .cases hf
  cases r with
  |cons r rr =>
   cases rr;obtain⟨l,ys,rfl,h2,h1⟩:=r.tupSq;exact .inl {l,ys,rfl,.inr (h1 F H (.refl _) s),by rw[h2.length];exact k _ F H (.refl s) (.int _)}
 .obtain⟨hl,hf⟩:=XY hf
  cases hf
  cases r with
  |cons r rr =>
   cases rr;obtain rfl:=r.vS;exact .inr (.inl {_,rfl,cO hl,k _ F H (.refl s) (.int _)})
 .cases hf
  cases r with
  |cons r rr =>
   cases rr
   cases r with
   |dk h1 h2=>exact .inr (.inr (.inl {_,_,rfl,s.rd h1,by rw[h2.length];exact k _ F H (.refl s) (.int _)}))
 .cases hf
  cases r with
  |cons r rr =>
   cases rr
   cases r with
   |dt h1 h2=>exact .inr (.inr (.inr {_,_,rfl,s.rd h1,by rw[h2.length];exact k _ F H (.refl s) (.int _)}))
 .cases hf
theorem l9(hm:X.mg "len"=AK)(ha:VA X (e::es) gs)(hg:Gl X "len":=by rfl)(he:AO (e::es) X.env=(AD,eval e X.env)::AO es X.env:=by rfl)(JW:(DO pos (AO es X.env)).any (·.1)=AD:=by rfl) :
  VE X (.Call (.Name "len" p) (e::es) [] pos) (gN RO gs):=Bs (U2.or (U1.or (X2.or zPF))) yCU hm (by decide +kernel) ha hg 'd' 'd' he JW
def Ml:List V->Hp->VK->Prop:=λxs H Q=>∃(d:AQ) (kvs:List (Key×V)),xs=[.ref d]/\Rd H d (.dK kvs)/\∀q,H q=AK->Q (.ref q) (D6 H q (.lst (kvs.map λkv=>kV kv.1)))
theorem Rl:∀(ks:List Key) (us:List AH),us.length=ks.length->(∀(i:Nat) v,us[i]?=AA v->∃k,ks[i]?=AA k/\RelV (kV k) v)->Vals (ks.map kV) us
 |[],[],_,_=>.nil
 |k::ks,u::us,hl,h=>by
  obtain⟨n,e1,e2⟩:=h 0 u rfl;have e3:k=n:=by simpa using e1
  subst e3;exact .cons e2 (Rl ks us (by simpa using hl) λi v hv=>h (i+1) v (by simpa using hv))
 |[],_::_,hl,_=>by simp at hl
 |_::_,[],hl,_=>by simp at hl
theorem zPG(hc:X.calm=AL):CallR X (.type "list") Ml:=by
 intro AE s σ H xs us Q I r h;obtain⟨d,kvs,rfl,hd,q⟩:=h;obtain⟨u,rfl,ru⟩:=ZV r;cases ru;obtain⟨z,lo,vs,NC,dd⟩:=hZ I.hok hd;obtain⟨ep,da⟩:=dd.dictAt;have rG:kvs.length=vs.length:=NC.length;refine PySem.W.kdl_call (PySem.W.kdl_dict (knd:=TD X.prog X.w) (kvs:=vs) (ep:=ep) lo) (I.ok.hd hc) da 'l' λh' tk acc c' hk hS hI=>?_;obtain⟨hz,hi⟩:=hI
 have rv:Vals (kvs.map λkv=>kV kv.1) acc.toList:=by
  have:=Rl (kvs.map (·.1)) acc.toList (by simp;lia) λi v hv=>by
   obtain⟨k,xx,e1,e2⟩:=hi i v (by rw[<-DA];exact hv);refine{k,by rw[NC.keys,AU,e1];rfl,?_};rw[Td] at e2;rcases cF e2 with⟨j,t,z1,z2⟩|⟨y,t,z1,z2⟩
   .rw[z1,z2];exact{t,rfl}
   .rw[z1,z2];exact{t,rfl}
  rw[ED] at this;exact this
 refine{.ref s.heap.objs.size,_,I.laid (o:=.lst (kvs.map λkv=>kV kv.1)) hk (AM _) {?_,acc.toList,c',rv,by simpa using hS},rfl,q _ I.fresh};rw[AJ];exact z
def jP:Key->D
 |.inl i=>.int i
 |.inr x=>.str x
theorem Op(k:Key):Rep K F (kV k) (jP k):=by
 cases k with
 |inl i=>exact .int i
 |inr x=>exact .str x
theorem RepK.keys:∀{vs:List (Key×V)} {ds:List (Key×D)},RepK K F vs ds->Reps K F (vs.map λkv=>kV kv.1) (ds.map λkv=>jP kv.1)
 |_,_,.nil=>.nil
 |_,_,.cons (k:=k) _ r=>.cons (Op k) (RepK.keys r)
def jV:List D->Out D
 |[.lst ds]=>.ok (.lst ds)
 |[.tup ds]=>.ok (.lst ds)
 |[.dk kvs]=>.ok (.lst (kvs.map λkv=>jP kv.1))
 |_=>.bad
abbrev yCV(K:AC):List V->Hp->VK->Prop:=λxs H Q=>(∃p ys,xs=[.ref p]/\(SqL K H p ys\/SqT K H p ys)/\∀l,H l=AK->Q (.ref l) (D6 H l (.lst ys)))\/Ml xs H Q
theorem zYV:rP K (yCV K) jV:=λvs xs F H d Q s r hf k=>by
 unfold jV at hf;split at hf
 .cases hf
  cases r with
  |cons r rr =>
   cases rr;obtain⟨l,ys,rfl,h1,h2⟩:=r.isRefL;exact .inl {l,ys,rfl,.inl (h1.imp s.rd id),λq hq=>k q F _ (pA6 s (Gr.new hq)) (pAG s hq) hq {_,HB,h2}}
 .cases hf
  cases r with
  |cons r rr =>
   cases rr;obtain⟨l,ys,rfl,h2,h1⟩:=r.tupSq;exact .inl {l,ys,rfl,.inr (h1 F H (.refl _) s),λq hq=>k q F _ (pA6 s (Gr.new hq)) (pAG s hq) hq {_,HB,h2}}
 .cases hf
  cases r with
  |cons r rr =>
   cases rr
   cases r with
   |dk h1 h2=>exact .inr {_,_,rfl,s.rd h1,λq hq=>k q F _ (pA6 s (Gr.new hq)) (pAG s hq) hq {_,HB,h2.keys}}
 .cases hf
theorem xJ(hc:X.calm=AL)(hm:X.mg "list"=AK)(ha:VA X (e::es) gs)(hg:Gl X "list":=by rfl)(he:AO (e::es) X.env=(AD,eval e X.env)::AO es X.env:=by rfl)(JW:(DO pos (AO es X.env)).any (·.1)=AD:=by rfl) :
  FE X (.Call (.Name "list" p) (e::es) [] pos) (gN jV gs):=yH3 (U0.or (zPG hc)) zYV hm (by decide +kernel) ha hg 'd' 'd' he JW
noncomputable def bW:List D->Out D
 |[.lst ds]=>.ok (.tup ds)
 |[.tup ds]=>.ok (.tup ds)
 |_=>.bad
theorem yCW:mB K (λxs H Q=>∃p ys,xs=[.ref p]/\((SqL K H p ys/\∀l,H l=AK->Q (.ref l) (D6 H l (.tup ys)))\/(SqT K H p ys/\Q (.ref p) H))) bW:=λvs xs F H d Q s r hf k=>by
 unfold bW at hf;split at hf
 .cases hf
  cases r with
  |cons r rr =>
   cases rr;obtain⟨l,ys,rfl,h1,h2⟩:=r.isRefL;refine{l,ys,rfl,.inl {h1.imp s.rd id,λq hq=>?_}};have n:=New.laid (o:=.tup ys) s hq;exact k _ _ _ n (.tup HB (h2.le n.1.le))
 .cases hf
  cases r with
  |cons r rr =>
   cases rr;obtain⟨l,ys,rfl,h2,h1⟩:=r.tupSq;exact{l,ys,rfl,.inr {h1 F H (.refl _) s,k _ F H (.refl s) r}}
 .cases hf
theorem mS(hm:X.mg "tuple"=AK)(ha:VA X (e::es) gs)(hg:Gl X "tuple":=by rfl)(he:AO (e::es) X.env=(AD,eval e X.env)::AO es X.env:=by rfl)(JW:(DO pos (AO es X.env)).any (·.1)=AD:=by rfl) :
  VE X (.Call (.Name "tuple" p) (e::es) [] pos) (gN bW gs):=yH2 zIU yCW hm (by decide +kernel) ha hg 'd' 'd' he JW
noncomputable def jU:List D->Option (List Bool)
 |[]=>AA []
 |.bl b::ds=>(jU ds).map (b::·)
 |_::_=>AK
theorem zU1:∀{ds:List D} {bs:List Bool},jU ds=AA bs->ds=bs.map D.bl:=by
 intro ds
 induction ds with
 |nil=>intro bs h;rw[jU] at h;cases h;rfl
 |cons d ds ih =>
  intro bs h
  cases d with
  |bl b =>
   rw[jU] at h;obtain⟨r,h1,h2⟩:=BR.mp h;subst h2;rw[ih h1];rfl
  |_=>simp[jU] at h
def qI:List D->Out D
 |[.lst ds]=>match jU ds with
  |some bs=>.ok (.bl (bs.all id))
  |none=>.bad
 |_=>.bad
theorem yCX:mB K (Vj K) qI:=λvs xs F H d Q s r hf k=>by
 unfold qI at hf;split at hf
 .split at hf
  .rename_i bs eb
   cases hf;have:=zU1 eb;subst this
   cases r with
   |cons r rr =>
    cases rr;obtain⟨l,ys,rfl,h1,h2⟩:=r.isRefL;have:=h2.vbl;subst this;exact{l,bs,rfl,h1.imp s.rd id,k _ F H (.refl s) (.bl _)}
  .cases hf
 .cases hf
theorem yFR(hc:X.calm=AL)(hm:X.mg "all"=AK)(ha:VA X (e::es) gs)(hg:Gl X "all":=by rfl)(he:AO (e::es) X.env=(AD,eval e X.env)::AO es X.env:=by rfl)(JW:(DO pos (AO es X.env)).any (·.1)=AD:=by rfl) :
  VE X (.Call (.Name "all" p) (e::es) [] pos) (gN qI gs):=Bs (zUA hc) yCX hm (by decide +kernel) ha hg 'd' 'd' he JW
noncomputable def g8:List D->Out D
 |[.int i,.int j]=>.ok (.int (if j<i then j else i))
 |_=>.bad
theorem zYW:mB K (λxs H Q=>∃i j,xs=[.int i,.int j]/\Q (.int (if j<i then j else i)) H) g8:=λvs xs F H d Q s r hf k=>by
 unfold g8 at hf;split at hf
 .cases hf
  cases r with
  |cons r rr=>cases rr with
   |cons r' rr=>cases rr;obtain rfl:=r.vI;(first|obtain rfl:=r'.vI|obtain rfl:=r'.vB|obtain rfl:=r'.vS|obtain rfl:=r'.vN|cases r');exact{_,_,rfl,k _ F H (.refl s) (.int _)}
 .cases hf
theorem Mk(hc:X.calm=AL)(hm:X.mg "min"=AK)(ha:VA X (e::es) gs)(hg:Gl X "min":=by rfl)(he:AO (e::es) X.env=(AD,eval e X.env)::AO es X.env:=by rfl)(JW:(DO pos (AO es X.env)).any (·.1)=AD:=by rfl) :
  VE X (.Call (.Name "min" p) (e::es) [] pos) (gN g8 gs):=Bs (zP7 hc) zYW hm (by decide +kernel) ha hg 'd' 'd' he JW
end
section
variable{K:AC}{E:Ev}{a b:C8}{ga gb gc ge:G}{gs:List G}
theorem Sim.setO{t:Bool}{d d':D}{ad:AQ}(S:Sim K H₀ τ F H σ E)(e:E[i]?=AA (.own t d))(ea:σ[i]?=AA (AA (.ref ad)))(h:OwnAt K F (D6 H ad o) ad d') :
  Sim K H₀ τ F (D6 H ad o) σ (E.set i (.own t d'))/\Stp (DY σ E) F H F (D6 H ad o) (DY σ (E.set i (.own t d'))):=by
 obtain⟨a',a1,a2,a3,a4,a5⟩:=S.own i t d e;rw[ea] at a1;cases a1;have hi:i<E.length:=(AR.mp e).1;have ow:DY σ E ad:={i,t,d,e,ea}
 have H9:∀(j:Nat) t' x,(E.set i (.own t d'))[j]?=AA (.own t' x)->(j=i/\t'=t/\x=d')\/(j≠i/\E[j]?=AA (.own t' x)):=λj t' x z=>by
  by_cases hj:i=j
  .subst hj;rw[BF hi] at z;cases z;exact .inl {rfl,rfl,rfl}
  .rw[A5 hj] at z;exact .inr {E8 hj,z}
 have Je:∀(j:Nat) t' x,(E.set i (.own t d'))[j]?=AA (.own t' x)->∃nJ x',E[j]?=AA (.own nJ x'):=λj t' x z=>by
  rcases H9 j t' x z with⟨rfl,_,_⟩|⟨_,z⟩
  .exact{_,_,e}
  .exact{_,_,z}
 refine{{λb u z=>?_,by rw[B9];exact S.len,λj x z=>?_,λj t' x z=>?_,λj l t1 t2 x y b z1 z2=>?_},{λb u z _ n ho=>?_,λb z=>?_,.refl _,λb u z=>.inl (by rw[z];exact nofun),λb ⟨j,t',x,z1,z2⟩=>?_}}
 .have:b≠ad:=λy=>by rw[y,a2] at z;cases z
  rw[EV this];exact S.sub b u z
 .by_cases hj:i=j
  .subst hj;rw[BF hi] at z;cases z
  .rw[A5 hj] at z;exact S.val j x z
 .rcases H9 j t' x z with⟨rfl,rfl,rfl⟩|⟨hj,z⟩
  .exact{ad,ea,a2,h,a4,a5}
  .obtain⟨c,c1,c2,c3,c4⟩:=S.own j t' x z
   have hc:c≠ad:=λy=>hj (S.inj j i t' t x d ad z e (by rw[c1,y]) ea);exact{c,c1,c2,c3.mono (.refl _) (EV hc),c4}
 .obtain⟨_,_,w1⟩:=Je j _ _ z1
  obtain⟨_,_,w2⟩:=Je l _ _ z2;exact S.inj j l _ _ _ _ b w1 w2
 .rw[EV (λy=>ho (by rw[y];exact ow))];exact z
 .by_cases hb:b=ad
  .rw[hb,HB] at z;cases z
  .rw[EV hb] at z;exact z
 .obtain⟨nJ,x',w⟩:=Je j t' x z1
  exact .inl {j,nJ,x',w,z2}
def zQ(K:AC)(r:V->List V->Hp->VK->Prop)(f:List D->List D->Out (D×List D)):Prop:=∀(F H:Hp) (l:AQ) vs ds args xs d VH Q,Sub F H->H l=AA (.lst vs)->Reps K F vs ds->Reps K F args xs->f ds xs=.ok (d,VH) ->
 (∀y kL,Rep K F y d->Reps K F kL VH->Q y (D6 H l (.lst kL)))->r (.ref l) args H Q
def RQ(i:Nat)(f:List D->List D->Out (D×List D))(gs:List G):G:=λE=>match E[i]? with
 |some (.own _ (.lst _))=>(NL gs E).bind λp=>match p.2[i]? with
  |some (.own t (.lst ds))=>(f ds p.1).bind λq=>.ok (q.1,p.2.set i (.own t (.lst q.2)))
  |_=>.bad
 |_=>.bad
theorem Br{r:V->List V->Hp->VK->Prop}{f:List D->List D->Out (D×List D)}(hs:zQ K r f){Q:VK}(h:tV K H₀ (RQ i f gs) σ H Q) :
  ∃v,σ[i]?=AA (AA v)/\zY K "list" v H/\fL K H₀ gs σ H λxs H2=>r v xs H2 Q:=by
 obtain⟨τ,F,E,d,E',S,hg,k⟩:=h;unfold RQ at hg;split at hg
 .rename_i t0 lJ e0
  obtain⟨p,e1,hg⟩:=pA3 hg;split at hg
  .rename_i t ds e2
   obtain⟨q,e3,hg⟩:=pA3 hg;cases hg;obtain⟨ad,a1,a2,⟨Xm,a3,_⟩,_⟩:=S.own i _ _ e0;refine{_,a1,.inl {rfl,Xm,SqL.of a3},τ,F,E,p.1,p.2,S,e1,λargs F1 H1 s1 S1 r1=>?_};obtain⟨ad',b1,b2,⟨vs,b3,b4⟩,_⟩:=S1.own i _ _ e2;rw[a1] at b1;cases b1;refine hs F1 H1 ad vs ds args p.1 q.1 q.2 Q S1.sub b3 b4 r1 e3 λy kL ry rvs=>?_;obtain⟨S2,s2⟩:=S1.setO (o:=.lst kL) (d':=.lst q.2) e2 a1 {kL,HB,rvs};exact k y F1 _ (s1.trans s2) S2 ry
  .cases hg
 .cases hg
variable{q:gK}
def WJ(ds xs:List D):Out (D×List D):=match xs with
 |[d]=>few ds.length (.ok (.non,ds++[d]))
 |_=>.bad
theorem zRT:zQ K Dl WJ:=λF H l vs ds args xs d VH Q s h r ra hf k=>by
 unfold WJ at hf;split at hf
 .obtain⟨hl,hf⟩:=XY hf
  cases hf
  cases ra with
  |cons r1 rr =>
   cases rr;exact{l,vs,_,rfl,rfl,h,by rw[r.length];exact cC hl,k _ _ .non (r.append (.cons r1 .nil))}
 .cases hf
noncomputable def eS(ds xs:List D):Out (D×List D):=match xs with
 |[]=>match ds[ds.length-1]? with
  |some d=>.ok (d,ds.dropLast)
  |none=>.bad
 |_=>.bad
theorem Reps.dropLast{vs:List V}{ds:List D}(r:Reps K F vs ds):Reps K F vs.dropLast ds.dropLast:=by
 rw[YY,YY,r.length];exact r.take _
theorem yCY:zQ K Uo eS:=λF H l vs ds args xs d VH Q s h r ra hf k=>by
 unfold eS at hf;split at hf
 .split at hf
  .rename_i d' e
   cases hf;cases ra;obtain⟨v,h1,h2⟩:=r.get e;exact{l,vs,v,rfl,rfl,h,by rw[r.length];exact h1,k _ _ h2 r.dropLast}
  .cases hf
 .cases hf
def j6(ds xs:List D):Out (D×List D):=match xs with
 |[.int i]=>guard (0<=i/\i<ds.length/\ds.length<10000) (match ds[i.toNat]? with
  |some d=>.ok (d,ds.eraseIdx i.toNat)
  |none=>.bad)
 |_=>.bad
theorem zU2:zQ K Nc j6:=λF H l vs ds args xs d VH Q s h r ra hf k=>by
 unfold j6 at hf;split at hf
 .rename_i i
  obtain⟨⟨g1,g2,g3⟩,hf⟩:=fI hf;split at hf
  .rename_i d' e
   cases hf
   cases ra with
   |cons r1 rr =>
    cases rr;obtain rfl:=r1.vI;obtain⟨v,h1,h2⟩:=r.get e;exact{l,vs,i,i.toNat,v,rfl,rfl,h,by omega,by omega,by rw[r.length];exact WB g1 g2,h1,k _ _ h2 (r.eraseIdx _)}
  .cases hf
 .cases hf
theorem yN(i:Nat)(ha:VA X [e] gs)(hN:X.N[i]?=AA xn:=by rfl)(hv:Z2 X.env.scope xn:=by first|exact BN rfl|exact EF (BN rfl)|exact EF (EF rfl))(hd:(xn==("__debug__":CT))=AD:=by decide)(L9:(xn==("__classdict__":CT))=AD:=by decide)
  (PB:K5 (.Name xn q) "append" X.env (eval (.Name xn q) X.env)=eval (.Name xn q) X.env:=by rfl)
  (dP:((DO GW (AO [e] X.env)).all (λx=>!x.1)&&(jI GW (WD [] X.env)).all (λx=>x.1.isSome)
   && decide ([e].length+([]:List OS).length+(if([]:List OS).isEmpty then 0 else 1)<30))=AL:=by rfl)
  (O7:(MQ.endLine==GW.line)=AL:=by rfl) (hs:AO [e] X.env=(AD,eval e X.env)::AO [] X.env:=by rfl) (R8:(DO GW (AO [] X.env)).any (·.1)=AD:=by rfl) :
  VE X (.Call (.Attribute (.Name xn q) "append" MQ) [e] [] GW) (RQ i WJ gs) :=
 (xG G9 LR LQ yU (iD hN hv hd L9) ha PB dP O7 hs R8).imp λσ H Q h=>Br zRT h
theorem zYY(i:Nat)(ha:VA X [e] gs)(hN:X.N[i]?=AA xn:=by rfl)(hv:Z2 X.env.scope xn:=by first|exact BN rfl|exact EF (BN rfl)|exact EF (EF rfl))(hd:(xn==("__debug__":CT))=AD:=by decide)(L9:(xn==("__classdict__":CT))=AD:=by decide)
  (PB:K5 (.Name xn q) "pop" X.env (eval (.Name xn q) X.env)=eval (.Name xn q) X.env:=by rfl)
  (dP:((DO GW (AO [e] X.env)).all (λx=>!x.1)&&(jI GW (WD [] X.env)).all (λx=>x.1.isSome)
   && decide ([e].length+([]:List OS).length+(if([]:List OS).isEmpty then 0 else 1)<30))=AL:=by rfl)
  (O7:(MQ.endLine==GW.line)=AL:=by rfl) (hs:AO [e] X.env=(AD,eval e X.env)::AO [] X.env:=by rfl) (R8:(DO GW (AO [] X.env)).any (·.1)=AD:=by rfl) :
  VE X (.Call (.Attribute (.Name xn q) "pop" MQ) [e] [] GW) (RQ i j6 gs) :=
 (xG G9 WG WF zTT (iD hN hv hd L9) ha PB dP O7 hs R8).imp λσ H Q h=>Br zU2 h
theorem yFS(i:Nat)(hN:X.N[i]?=AA xn:=by rfl)(hv:Z2 X.env.scope xn:=by first|exact BN rfl|exact EF (BN rfl)|exact EF (EF rfl))(hd:(xn==("__debug__":CT))=AD:=by decide)(L9:(xn==("__classdict__":CT))=AD:=by decide)
  (PB:K5 (.Name xn q) "pop" X.env (eval (.Name xn q) X.env)=eval (.Name xn q) X.env:=by rfl) (O7:(MQ.endLine==GW.line)=AL:=by rfl) :
  VE X (.Call (.Attribute (.Name xn q) "pop" MQ) [] [] GW) (RQ i eS []) :=
 (yBN G9 WG WF yBP (iD hN hv hd L9) PB O7).imp λσ H Q h=>by
  obtain⟨v,h1,h2,τ,F,E,ds,E',S,hg,k⟩:=Br yCY h;cases hg;exact{v,h1,h2,k [] F H .refl S .nil}
theorem RepK.put(k:Key){d:D}{vs:List (Key×V)}{ds:List (Key×D)}(r:RepK K F vs ds)(h:Rep K F v d):RepK K F (QS vs k v) (PY ds k d):=by
 have any:∀{vs:List (Key×V)} {ds:List (Key×D)},RepK K F vs ds->(vs.any λkv=>decide (kv.1=k))=(ds.any λkv=>decide (kv.1=k)):=by
  intro vs ds r
  induction vs generalizing ds with
  |nil=>cases r;rfl
  |cons x xs ih=>cases r with|cons h r=>rw[FP,FP,ih r]
 have mp:∀{vs:List (Key×V)} {ds:List (Key×D)},RepK K F vs ds->RepK K F (vs.map λkv=>if kv.1=k then(kv.1,v) else kv) (ds.map λkv=>if kv.1=k then(kv.1,d) else kv):=by
  intro vs ds r
  induction vs generalizing ds with
  |nil=>cases r;exact .nil
  |cons x xs ih =>
   cases r with
   |@cons k' v' d' _ _ h' r =>
    rw[AV,AV]
    by_cases e:k'=k
    .simp only[e,if_true];exact .cons h (ih r)
    .simp only[e,if_false];exact .cons h' (ih r)
 have ap:∀{vs:List (Key×V)} {ds:List (Key×D)},RepK K F vs ds->RepK K F (vs++[(k,v)]) (ds++[(k,d)]):=by
  intro vs ds r
  induction vs generalizing ds with
  |nil=>cases r;exact .cons h .nil
  |cons x xs ih=>cases r with|cons h' r=>exact .cons h' (ih r)
 unfold QS PY;rw[any r];split
 .exact mp r
 .exact ap r
theorem RepT.put(k:List Int){d:D}{vs:List (List Key×V)}{ds:List (List Int×D)}(r:RepT K F vs ds)(h:Rep K F v d):RepT K F (QS vs (k.map CS) v) (PY ds k d):=by
 have dec:∀k':List Int,decide (k'.map (CS:Int->Key)=k.map CS)=decide (k'=k):=λk'=>by
  by_cases e:k'=k
  .simp[e]
  .have e':¬k'.map (CS:Int->Key)=k.map CS:=λz=>e (xW z)
   simp[e,e']
 have any:∀{vs:List (List Key×V)} {ds:List (List Int×D)},RepT K F vs ds->(vs.any λkv=>decide (kv.1=k.map CS))=(ds.any λkv=>decide (kv.1=k)):=by
  intro vs ds r
  induction vs generalizing ds with
  |nil=>cases r;rfl
  |cons x xs ih=>cases r with|@cons k' _ _ _ _ h r=>rw[FP,FP,ih r];show(decide _||_)=(decide _||_);rw[dec k']
 have mp:∀{vs:List (List Key×V)} {ds:List (List Int×D)},RepT K F vs ds->RepT K F (vs.map λkv=>if kv.1=k.map CS then(kv.1,v) else kv) (ds.map λkv=>if kv.1=k then(kv.1,d) else kv):=by
  intro vs ds r
  induction vs generalizing ds with
  |nil=>cases r;exact .nil
  |cons x xs ih =>
   cases r with
   |@cons k' v' d' _ _ h' r =>
    rw[AV,AV]
    by_cases e:k'=k
    .simp only[e,if_true];exact .cons h (ih r)
    .have e':¬k'.map (CS:Int->Key)=k.map CS:=λz=>e (xW z)
     simp only[e,e',if_false];exact .cons h' (ih r)
 have ap:∀{vs:List (List Key×V)} {ds:List (List Int×D)},RepT K F vs ds->RepT K F (vs++[(k.map CS,v)]) (ds++[(k,d)]):=by
  intro vs ds r
  induction vs generalizing ds with
  |nil=>cases r;exact .cons h .nil
  |cons x xs ih=>cases r with|cons h' r=>exact .cons h' (ih r)
 unfold QS PY;rw[any r];split
 .exact mp r
 .exact ap r
def lY(x k v:D):Out D:=match x,k with
 |.lst ds,.int i=>match XI ds.length i with
  |some j=>.ok (.lst (ds.set j v))
  |none=>.bad
 |.dk kvs,k=>match fA k with
  |some k=>few kvs.length (.ok (.dk (PY kvs k v)))
  |none=>.bad
 |.dt kvs,.tup ks=>match Q5 ks with
  |some ns=>few kvs.length (.ok (.dt (PY kvs ns v)))
  |none=>.bad
 |_,_=>.bad
def Q8(i:Nat)(gk gv:G):GS:=λE=>match E[i]? with
 |some (.own _ _)=>(gv E).bind λv=>(gk v.2).bind λk=>match k.2[i]? with
  |some (.own t d)=>(lY d k.1 v.1).bind λd'=>.ok (.nx (k.2.set i (.own t d')))
  |_=>.bad
 |_=>.bad
theorem cI{gk gv:G}(i:Nat)(hu:X.A.units+64<GZ)(hk:VE X kx gk)(Jk:VE X JS gv)
  (hN:X.N[i]?=AA xn:=by rfl) (hv:Z2 X.env.scope xn:=by first|exact BN rfl|exact EF (BN rfl)|exact EF (EF rfl)) (hd:(xn==("__debug__":CT))=AD:=by decide) (L9:(xn==("__classdict__":CT))=AD:=by decide)
  (hs:IL JS (AA (.Subscript (.Name xn q) kx WU)) WX.line X.env=pure AD:=by rfl)
  (nW:aC [.Subscript (.Name xn q) kx WU] JS WX.line X.env=pure AD:=by rfl) (hw:aD [.Subscript (.Name xn q) kx WU] JS X.env=pure AK:=by rfl)
  (h1:(HJ [.Subscript (.Name xn q) kx WU] X.env).map (·.2)=[KY (.Subscript (.Name xn q) kx WU) X.env]:=by rfl)
  (ha:∀v,KY (.Subscript (.Name xn q) kx WU) X.env v=(do
   let ov <-I0 [v] (eval (.Name xn q) X.env)
   let iv <-I0 [v,ov] (eval kx X.env)
   IZ WU
   I0 [v,ov,iv] (setItem ov iv v)
   release [v,ov,iv] []):=by intro _;rfl):VS X (.Assign [.Subscript (.Name xn q) kx WU] JS WX) (Q8 i gk gv):=λAE s σ H D' I h=>by
 obtain⟨τ,F,E,r,S,hg,k⟩:=h;unfold Q8 at hg;split at hg
 .rename_i t0 d0 e0
  obtain⟨v,e1,hg⟩:=pA3 hg;obtain⟨ky,e2,hg⟩:=pA3 hg;split at hg
  .rename_i t d e3
   obtain⟨d',e4,hg⟩:=pA3 hg;cases hg;obtain⟨ad,a1,_⟩:=S.own i _ _ e0;have pn:=iD (pos:=q) hN hv hd L9
   have fin:∀{F2 H2:Hp} {o:HO},Stp (DY σ E) F H F2 H2 (DY σ ky.2)->Sim X.K X.H₀ τ F2 H2 σ ky.2->OwnAt X.K F2 (D6 H2 ad o) ad d'->D'.nx σ (D6 H2 ad o):=λ{F2 H2 o} s2 S2 ow=>by
    obtain⟨S3,s3⟩:=S2.setO (o:=o) (d':=d') e3 a1 ow;exact k σ F2 _ (s2.trans s3) S3
   have own:∀{F2 H2:Hp},Sim X.K X.H₀ τ F2 H2 σ ky.2->OwnAt X.K F2 H2 ad d:=λ{F2 H2} S2=>by
    obtain⟨ad',b1,_,b3,_⟩:=S2.own i t d e3;rw[a1] at b1;cases b1;exact b3
   cases d with
   |lst ds =>
    refine Cy Jk (yA8 pn hk zTR ha) nW hw h1 AE s σ H D' I ?_;refine{τ,F,E,v.1,v.2,S,e1,λvv F1 H1 s1 S1 r1=>{_,a1,τ,F1,v.2,ky.1,ky.2,S1,e2,λkk F2 H2 s2 S2 r2=>?_}};obtain⟨vs,o1,o2⟩:=own S2;generalize hy:ky.1=y at e4 r2
    cases y with
    |int ii =>
     have e4:(match XI ds.length ii with|some j=>Out.ok (D.lst (ds.set j v.1))|none=>.bad)=.ok d':=e4;obtain rfl:=r2.vI;split at e4
     .rename_i j ej
      cases e4;exact{ad,vs,ii,j,rfl,rfl,o1,by rw[o2.length];exact ej,fin (s1.trans s2) S2 {_,HB,o2.set j (r1.le s2.le)}}
     .cases e4
    |_=>cases e4
   |dk kvs =>
    refine Dk 'o' pn hk Jk hs AE s σ H D' I ?_;refine{τ,F,E,v.1,v.2,S,e1,λvv F1 H1 s1 S1 r1=>{_,a1,τ,F1,v.2,ky.1,ky.2,S1,e2,λkk F2 H2 s2 S2 r2=>?_}};obtain⟨vs,o1,o2⟩:=own S2;have e4:(match fA ky.1 with|some k=>few kvs.length (Out.ok (D.dk (PY kvs k v.1)))|none=>.bad)=.ok d':=e4;split at e4
    .rename_i k' ek
     obtain⟨hl,e4⟩:=XY e4;cases e4
     have oW:kk=kV k':=by
      generalize hy:ky.1=y at ek r2;cases y<;>first|cases ek|skip
      .obtain rfl:=r2.vI;rfl
      .obtain rfl:=r2.vS;rfl
     subst oW;exact{ad,_,rfl,DPut.kk o1 (by rw[o2.length];exact cC hl),fin (s1.trans s2) S2 {_,HB,o2.put k' (r1.le s2.le)}}
    .cases e4
   |dt kvs =>
    refine Dk 'o' pn hk Jk hs AE s σ H D' I ?_;refine{τ,F,E,v.1,v.2,S,e1,λvv F1 H1 s1 S1 r1=>{_,a1,τ,F1,v.2,ky.1,ky.2,S1,e2,λkk F2 H2 s2 S2 r2=>?_}};obtain⟨vs,o1,o2⟩:=own S2;generalize hy:ky.1=y at e4 r2
    cases y with
    |tup ks =>
     have e4:(match Q5 ks with|some ns=>few kvs.length (Out.ok (D.dt (PY kvs ns v.1)))|none=>.bad)=.ok d':=e4;split at e4
     .rename_i ns ek
      obtain⟨hl,e4⟩:=XY e4;cases e4;have:=sW ek;subst this;generalize k7:ns.map D.int=kk2 at r2
      cases r2 with
      |tup hb rb =>
       subst k7;have:=rb.vint;subst this;refine{ad,_,rfl,DPut.t (k:=ns.map CS) o1 ?_ (by rw[o2.length];exact cC hl),fin (s1.trans s2) S2 {_,HB,o2.put ns (r1.le s2.le)}};rw[ED];exact S2.sub _ _ hb
      |@tupK a xs hb nb =>
       cases xs with
       |nil=>exact absurd rfl nb
       |cons x xs =>
        cases ns with
        |nil=>cases k7
        |cons n ns=>cases k7
     .cases e4
    |_=>cases e4
   |_=>cases e4
  .cases hg
 .cases hg
end
section
variable{K:AC}{E:Ev}{a b:C8}{ga gb gc ge:G}{gs:List G}
noncomputable def zZ:D->String
 |.non=>"NoneType"
 |.bl _=>"bool"
 |.int _=>"int"
 |.str _=>"str"
 |.tup _=>"tuple"
 |.lst _=>"list"
 |.dk _=>"dict"
 |.dt _=>"dict"
def tQ(t c:String):Bool:=t==c||(t=="bool"&&c=="int")
def pB(c:String)(g:G):G:=λE=>(g E).bind λp=>.ok (.bl (tQ (zZ p.1) c),p.2)
theorem zU3{Ex:AH->AT->Prop}{bb:Bool}(I:Inv X AE σ H s){ad:AQ}(h:SqL X.K H ad vs)
  (e:BQ X.K (.type "list") cv=AA bb) (hq:∀tk,Q (.bool bb) { s with toks:=tk }):A0 (A1 X.prog X.w) A (call (.builtin "isinstance") [.ref ad,cv]) Q Ex s:=by
 obtain⟨BZ,r,pl,z⟩:=I.list h;obtain⟨o,h1,h2,_⟩:=pl.isList;exact DG PJ I.kIn {o,h1,h2} e (λz=>nomatch z) hq
theorem Rk{Ex:AH->AT->Prop}{bb:Bool}(I:Inv X AE σ H s){ad:AQ}(h:(∃kvs,Rd H ad (.dK kvs))\/∃kvs,Rd H ad (.dT kvs))
  (e:BQ X.K (.type "dict") cv=AA bb) (hq:∀tk,Q (.bool bb) { s with toks:=tk }):A0 (A1 X.prog X.w) A (call (.builtin "isinstance") [.ref ad,cv]) Q Ex s:=by
 rcases h with⟨kvs,h⟩|⟨kvs,h⟩
 .obtain⟨_,_,vs,_,o,es,ep,h1,h2,_⟩:=(show ObjOk X.prog X.w H s.heap ad (.dK kvs) from h.ok I.hok)
  exact DG LH I.kIn {o,h1,h2.1} e (λz=>nomatch z) hq
 .obtain⟨_,_,xs,_,o,es,ep,h1,h2,_⟩:=(show ObjOk X.prog X.w H s.heap ad (.dT kvs) from h.ok I.hok)
  exact DG LH I.kIn {o,h1,h2.1} e (λz=>nomatch z) hq
structure IsC(c:String):Prop where
 k:∀(K:AC) (t:String),t∈["NoneType","bool","int","str","tuple","list","dict"]->BQ K (.type t) (.type c)=AA (tQ t c)
theorem yFT:IsC "int":={λK t h=>by simp only[BC,C9,or_false] at h;rcases h with rfl|rfl|rfl|rfl|rfl|rfl|rfl<;>rfl}
theorem zU4:IsC "bool":={λK t h=>by simp only[BC,C9,or_false] at h;rcases h with rfl|rfl|rfl|rfl|rfl|rfl|rfl<;>rfl}
theorem Rj:IsC "tuple":={λK t h=>by simp only[BC,C9,or_false] at h;rcases h with rfl|rfl|rfl|rfl|rfl|rfl|rfl<;>rfl}
def yCZ(K:AC)(c:String):List V->Hp->VK->Prop:=λxs H Q=>∃v F d,xs=[v,.ty c]/\Sub F H/\Rep K F v d/\Q (.bl (tQ (zZ d) c)) H
theorem zPI{cn:String}(ic:IsC cn):CallR X (.builtin "isinstance") (yCZ X.K cn):=by
 intro AE s σ H xs us Q I r h;obtain⟨v,F,d,rfl,sb,rd,q⟩:=h
 cases r with
 |cons r1 r2 =>
  cases r2 with
  |cons r2 r3 =>
   cases r3;cases r2;have fin:∀{bb:Bool} (tk:Nat),tQ (zZ d) cn=bb->EP X AE σ Q (.bool bb) { s with toks:=tk }:=λtk e=>by subst e;exact{.bl _,H,I.tok tk,rfl,q}
   cases d with
   |non=>obtain rfl:=rd.vN;exact yX I r1 .non (ic.k _ _ 's') λtk=>fin tk rfl
   |bl b=>obtain rfl:=rd.vB;exact yX I r1 (.bl _) (ic.k _ _ 's') λtk=>fin tk rfl
   |int i=>obtain rfl:=rd.vI;exact yX I r1 (.int _) (ic.k _ _ 's') λtk=>fin tk rfl
   |str i=>obtain rfl:=rd.vS;exact yX I r1 (.str _) (ic.k _ _ 's') λtk=>fin tk rfl
   |lst ds =>
    obtain⟨l,ys,rfl,h1,h2⟩:=rd.isRefL;cases r1;exact zU3 I (h1.imp sb.rd id) (ic.k _ _ 's') λtk=>fin tk rfl
   |tup ds =>
    obtain⟨l,ys,rfl,h2,h1⟩:=rd.tupSq;cases r1;exact zT8 I (h1 F H (.refl _) sb) (ic.k _ _ 's') λtk=>fin tk rfl
   |dk kvs =>
    cases rd with
    |dk h1 _=>cases r1;exact Rk I (.inl {_,sb.rd h1}) (ic.k _ _ 's') λtk=>fin tk rfl
   |dt kvs =>
    cases rd with
    |dt h1 _=>cases r1;exact Rk I (.inr {_,sb.rd h1}) (ic.k _ _ 's') λtk=>fin tk rfl
theorem Cm{cn:String}{cx:CT}{cp:gK}(ic:IsC cn)(hm:X.mg "isinstance"=AK)(hmc:X.mg cx=AK)(hvc:GL cx=AA (.type cn))(ha:VE X a ga)(hg:Gl X "isinstance":=by rfl)(hgc:Gl X cx:=by rfl)(hnc:cx≠"__name__":=by decide)(hdc:(cx==("__debug__":CT))=AD:=by decide)
  (nW:AO [.Name cx cp] X.env=(AD,eval (.Name cx cp) X.env)::AO [] X.env:=by rfl)
  (he:AO (a::[.Name cx cp]) X.env=(AD,eval a X.env)::AO [.Name cx cp] X.env:=by rfl) (JW:(DO pos (AO [.Name cx cp] X.env)).any (·.1)=AD:=by rfl) :
  VE X (.Call (.Name "isinstance" p) [a,.Name cx cp] [] pos) (pB cn ga) :=
 (yQ (zPI ic) hg hm (by decide +kernel) (TC ha (TC (Pn (v:=.ty cn) hgc hmc hvc rfl hnc hdc) HZ nW) he) 'd' 'd' he JW).imp λσ H Q h=>by
  obtain⟨τ,F,E,d,E',S,hg,k⟩:=h;obtain⟨q,e1,hg⟩:=pA3 hg;cases hg;exact{τ,F,E,q.1,q.2,S,e1,λv F1 H1 s1 S1 r1=>{v,F1,q.1,rfl,S1.sub,r1,k _ F1 H1 s1 S1 (.bl _)}}
theorem xR:FE X (.Dict [] [] pos) (gC (.dk [])):=cM.imp λσ H Q h q hq=>by
 obtain⟨τ,F,E,d,E',S,hg,k⟩:=h;cases hg;have n:=pA6 (H':=D6 H q (.dK [])) S.sub (Gr.new hq);exact k q F _ n.stp (S.new n) (pAG S.sub hq) hq {_,HB,.nil} (S.fresh hq)
theorem zY0:FE X (.Dict [] [] pos) (gC (.dt [])):=cL.imp λσ H Q h q hq=>by
 obtain⟨τ,F,E,d,E',S,hg,k⟩:=h;cases hg;have n:=pA6 (H':=D6 H q (.dT [])) S.sub (Gr.new hq);exact k q F _ n.stp (S.new n) (pAG S.sub hq) hq {_,HB,.nil} (S.fresh hq)
def Ck(gk gv:G):G:=λE=>(gk E).bind λp=>(gv p.2).bind λq=>match fA p.1 with
 |some k=>.ok (.dk [(k,q.1)],q.2)
 |none=>.bad
theorem Wf{y:D}{kk:V}{k':Key}(ek:fA y=AA k')(r2:Rep K F kk y):kk=kV k':=by
 cases y<;>first|cases ek|skip
 .obtain rfl:=r2.vI;rfl
 .obtain rfl:=r2.vS;rfl
theorem zY1{gk gv:G}(hk:VE X kx gk)(hv:VE X vx gv):FE X (.Dict [AA kx] [vx] pos) (Ck gk gv):=(zXU (zTW hk hv zXT) rfl rfl 's' (by show 1<=15;decide)).imp λσ H Q h q hq=>by
 obtain⟨τ,F,E,d,E',S,hg,k⟩:=h;obtain⟨p,e1,hg⟩:=pA3 hg;obtain⟨r,e2,hg⟩:=pA3 hg;split at hg
 .rename_i k' ek
  cases hg;have n:=pA6 (H':=D6 H q (.dK [])) S.sub (Gr.new hq);have S0:=S.new n
  have keep:∀{Ea Eb:Ev} {Fa Ha Fb Hb:Hp},Stp (DY σ Ea) Fa Ha Fb Hb (DY σ Eb)->Fa q=AK->¬DY σ Ea q->Ha q=AA (.dK [])->Fb q=AK/\¬DY σ Eb q/\Hb q=AA (.dK []):=by
   intro Ea Eb Fa Ha Fb Hb st a1 a2 a3;refine{?_,λz=>(st.own q z).elim a2 λz=>by (rw[a3] at z;cases z),st.keep q _ a3 trivial a1 a2}
   cases z:Fb q with
   |none=>rfl
   |some u =>
    rcases st.new q u z with z|z|z
    .exact absurd a1 z
    .exact absurd trivial (z _ a3)
    .exact absurd z a2
  refine{τ,F,E,p.1,p.2,S0,e1,λkk F1 H1 s1 S1 r1=>{τ,F1,p.2,r.1,r.2,S1,e2,λvv F2 H2 s2 S2 r2=>?_}};obtain⟨f1,m1,h1⟩:=keep s1 (pAG S.sub hq) (S.fresh hq) HB;obtain⟨f2,m2,h2⟩:=keep s2 f1 m1 h1;have:=Wf ek r1;subst this;refine{h2,[(k',vv)],rfl,by show 1<=15;decide,?_}
  have st:Stp (DY σ E) F H F2 (D6 H2 q (.dK [(k',vv)])) (DY σ r.2):=by
   have aY:=((n.stp (ow:=DY σ E)).trans s1).trans s2;refine{λa u e hw nf ho=>?_,λa e=>?_,aY.le,aY.new,aY.own}
   .rw[EV (UX e hq)];exact aY.keep a u e hw nf ho
   .by_cases ha:a=q
    .rw[ha];exact hq
    .rw[EV ha] at e;exact aY.dom a e
  exact k q F2 _ st (S2.off f2 m2) f2 hq {_,HB,.cons r2 .nil} m2
 .cases hg
def bV(gd gk gx:G):G:=λE=>(gd E).bind λp=>(gk p.2).bind λq=>(gx q.2).bind λr=>match hG p.1 q.1 with
 |some o=>.ok (o.getD r.1,r.2)
 |none=>.bad
theorem We{gd gk gx:G}{o dx:C8}(hu:X.A.units+64<GZ)(ho:VE X o gd)(hk:VE X kx gk)(hx:VE X dx gx)(m:M2 X o "get" MQ kx dx GW:=by exact{rfl,rfl,rfl,rfl}):VE X (.Call (.Attribute o "get" MQ) [kx,dx] [] GW) (bV gd gk gx):=(zTX 'l' ho hk hx m).imp λσ H Q h=>by
 obtain⟨τ,F,E,d,E',S,hg,k⟩:=h;obtain⟨p,e1,hg⟩:=pA3 hg;obtain⟨q,e2,hg⟩:=pA3 hg;obtain⟨r,e3,hg⟩:=pA3 hg;split at hg
 .rename_i od eo
  cases hg;refine{τ,F,E,p.1,p.2,S,e1,λv F1 H1 s1 S1 r1=>?_}
  have isd:∃ad,v=.ref ad/\Hd H1 ad:=by
   generalize hy:p.1=y at eo r1
   cases y with
   |dk kvs=>cases r1 with|dk h1 _=>exact{_,rfl,.inl {_,S1.sub.rd h1}}
   |dt kvs=>cases r1 with|dt h1 _=>exact{_,rfl,.inr {_,S1.sub.rd h1}}
   |_=>cases eo
  obtain⟨ad,rfl,hd⟩:=isd;refine{ad,rfl,hd,τ,F1,p.2,q.1,q.2,S1,e2,λkk F2 H2 s2 S2 r2=>{τ,F2,q.2,r.1,r.2,S2,e3,λz F3 H3 s3 S3 r3=>?_}};obtain⟨a',ov,ea,g,ro⟩:=pAI S3.sub ((r1.le s2.le).le s3.le) (r2.le s3.le) eo;cases ea;refine{ov,g,k _ F3 H3 ((s1.trans s2).trans s3) S3 ?_}
  cases od with
  |none=>have:=ro.none_of;subst this;exact r3
  |some d0=>obtain⟨w,rfl,LN⟩:=ro.some_of;exact LN
 .cases hg
def Uj:D->Out Bool
 |.non=>.ok AD
 |.bl b=>.ok b
 |.int i=>.ok (i != 0)
 |.lst ds=>.ok (!ds.isEmpty)
 |.tup ds=>.ok (!ds.isEmpty)
 |.str z=>few z.length (.ok ((z.length:Int) != 0))
 |_=>.bad
def ZN(g:G):Ev->Out (Bool×Ev):=λE=>(g E).bind λp=>(Uj p.1).bind λb=>.ok (b,p.2)
theorem Reps.isEmpty{vs:List V}{ds:List D}(r:Reps K F vs ds):vs.isEmpty=ds.isEmpty:=by (cases r)<;>rfl
theorem sR(ha:VE X a ga)(he:∀RX,VQ a X.env RX=(do let v <-RX;IZ a.pos;I0 [v] (truthy v)):=by intro _;rfl):VT X a (ZN ga):=(zTL ha he).imp λσ H Q h=>by
 obtain⟨τ,F,E,d,E',S,hg,k⟩:=h;obtain⟨p,e1,hg⟩:=pA3 hg;obtain⟨b,e2,hg⟩:=pA3 hg;cases hg;refine{τ,F,E,p.1,p.2,S,e1,λv F1 H1 s1 S1 r1=>{d,?_,k F1 H1 s1 S1}};generalize hy:p.1=y at e2 r1
 cases y with
 |non=>obtain rfl:=r1.vN;cases e2;rfl
 |bl b=>obtain rfl:=r1.vB;cases e2;rfl
 |int i=>obtain rfl:=r1.vI;cases e2;rfl
 |str z =>
  obtain rfl:=r1.vS;obtain⟨hl,e2⟩:=XY e2;cases e2;exact{cO hl,rfl}
 |lst ds =>
  cases e2;obtain⟨l,ys,rfl,h1,h2⟩:=r1.isRefL;exact .inl {ys,h1.imp S1.sub.rd id,by rw[h2.isEmpty]}
 |tup ds =>
  cases e2;obtain⟨l,ys,rfl,h2,h1⟩:=r1.tupSq;exact .inr (.inl {ys,h1 F1 H1 (.refl _) S1.sub,by rw[h2.isEmpty]})
 |_=>cases e2
noncomputable def SX(lo:Int)(n:Nat):List D:=(CI n).map λi:Nat=>D.int (lo+(i:Int))
theorem Ri(lo:Int)(n:Nat):Walks K (qU lo n) F (SX lo n):=λi F1 H1 l s=>by
 have hl:(SX lo n).length=n:=by simp[SX]
 refine{λhi=>by rw[hl] at hi;exact hi,λhi=>by rw[hl] at hi;rw[hi];exact AM _,λx H' d e ⟨e1,y⟩=>?_};subst e1 y;unfold SX at e;rw[AU] at e
 cases q:(CI n)[i]? with
 |none=>rw[q] at e;cases e
 |some j =>
  rw[q] at e
  have:j=i:=by
   obtain⟨h1,h2⟩:=AR.mp q;rw[List.getElem_range] at h2;exact h2.symm
  subst this;cases e;exact{F1,.refl s,.int _}
def mL(i:Int):Prop:=-1000000<=i/\i<=1000000
instance (i:Int):Decidable (mL i):=inferInstanceAs (Decidable (_/\_))
def ZR(g:G):GI:=λE=>(g E).bind λp=>match p.1 with|.int j=>guard (mL j) (.ok (SX 0 j.toNat,p.2))|_=>.bad
def rO(g g':G):GI:=λE=>(g E).bind λp=>(g' p.2).bind λq=>match p.1,q.1 with|.int i,.int j=>guard (mL i/\mL j) (.ok (SX i (j-i).toNat,q.2))|_,_=>.bad
theorem sV(hm:X.mg "range"=AK)(ha:VE X a ga)(hg:Gl X "range":=by rfl)(hs:AO [a] X.env=[(AD,eval a X.env)]:=by rfl)(Y9:AO [a] X.env=(AD,eval a X.env)::AO [] X.env:=by rfl):VI X tg (.Call (.Name "range" p) [a] [] pos) (ZR ga):=(Sd hg hm (TC ha HZ Y9) hs).imp λσ H Q h=>by
 obtain⟨τ,F,E,ds,E',S,hg,k⟩:=h;obtain⟨q,e1,hg⟩:=pA3 hg;refine{τ,F,E,q.1,q.2,S,e1,λv F1 H1 s1 S1 r1=>?_};split at hg
 .rename_i j ej
  obtain⟨⟨g1,g2⟩,hg⟩:=fI hg;cases hg;rw[ej] at r1;obtain rfl:=r1.vI;exact{j,rfl,by lia,by lia,k _ F1 H1 s1 S1 (Ri 0 _)}
 .cases hg
theorem zRY(hm:X.mg "range"=AK)(ha:VE X a ga)(hb:VE X b gb)(hg:Gl X "range":=by rfl)(hs:AO [a,b] X.env=[(AD,eval a X.env),(AD,eval b X.env)]:=by rfl)(M6:AO [b] X.env=[(AD,eval b X.env)]:=by rfl)
  (Y9:AO [a,b] X.env=(AD,eval a X.env)::AO [b] X.env:=by rfl) (nW:AO [b] X.env=(AD,eval b X.env)::AO [] X.env:=by rfl):VI X tg (.Call (.Name "range" p) [a,b] [] pos) (rO ga gb):=(zP5 hg hm (TC ha (TC hb HZ nW) Y9) hs M6).imp λσ H Q h=>by
 obtain⟨τ,F,E,ds,E',S,hg,k⟩:=h;obtain⟨q,e1,hg⟩:=pA3 hg;obtain⟨r,e2,hg⟩:=pA3 hg;refine{τ,F,E,q.1,q.2,S,e1,λv F1 H1 s1 S1 r1=>{τ,F1,q.2,r.1,r.2,S1,e2,λu F2 H2 s2 S2 r2=>?_}};split at hg
 .rename_i i j ei ej
  obtain⟨⟨⟨g1,g2⟩,g3,g4⟩,hg⟩:=fI hg;cases hg;rw[ei] at r1;rw[ej] at r2;obtain rfl:=r1.vI;obtain rfl:=r2.vI;exact{i,j,rfl,{by lia,by lia,by lia,by lia},k _ F2 H2 (s1.trans s2) S2 (Ri i _)}
 .cases hg
noncomputable def jT(ds:List D):List D:=ds.zipIdx.map λp=>.tup [.int (p.2:Int),p.1]
theorem zU5{ds:List D}{d:D}(e:(jT ds)[i]?=AA d):∃d0,ds[i]?=AA d0/\d=.tup [.int (i:Int),d0]:=by
 unfold jT at e;rw[AU,List.getElem?_zipIdx] at e
 cases q:ds[i]? with
 |none=>rw[q] at e;cases e
 |some d0=>rw[q] at e;cases e;exact{d0,rfl,by simp}
def Cj(g:G):GI:=λE=>(g E).bind λp=>match p.1 with
 |.lst ds=>.ok (jT ds,p.2)
 |_=>.bad
theorem zU6(hm:X.mg "enumerate"=AK)(ha:VE X a ga)(hg:Gl X "enumerate":=by rfl)(hs:AO [a] X.env=[(AD,eval a X.env)]:=by rfl)(Y9:AO [a] X.env=(AD,eval a X.env)::AO [] X.env:=by rfl):VI X tg (.Call (.Name "enumerate" p) [a] [] pos) (Cj ga):=λAE s σ H R I h=>by
 obtain⟨τ,F,E,ds,E',S,wB,k⟩:=h;obtain⟨q,e1,wB⟩:=pA3 wB;have hl:∀lJ:List D,(jT lJ).length=lJ.length:=λlJ=>by simp[jT]
 split at wB
 .rename_i lJ ed
  cases wB;refine zUQ hg hm (TC ha HZ Y9) hs AE s σ H R I {τ,F,E,q.1,q.2,S,e1,λv F1 H1 s1 S1 r1=>?_};rw[ed] at r1;obtain⟨l,ys,rfl,h1,h2⟩:=r1.isRefL;refine{l,rfl,{ys,h1.imp S1.sub.rd id},k _ F1 H1 s1 S1 λi F2 H2 l2 s2=>?_};have sq:SqL X.K H2 l ys:=h1.imp (λh=>s2.rd (l2.rd h)) id;refine{λhi=>?_,λhi=>{ys,sq,by rw[h2.length,hi,hl];exact AM _},λx H' d e ⟨pp,xx,ex,hp,eH,y⟩=>?_}
  .have hv:i<ys.length:=by rw[h2.length];rw[hl] at hi;exact hi
   exact{ys,ys[i],sq,by simp[hv]}
  .subst ex eH
   obtain⟨d0,z1,z2⟩:=zU5 e;subst z2;obtain⟨w,w1,w2⟩:=h2.get z1;rw[y ys sq] at w1;cases w1;have n:=New.laid (o:=.tup [.int i,xx]) s2 hp;exact{_,n,.tup HB (.cons (.int _) (.cons ((w2.le l2).le n.1.le) .nil))}
 .cases wB
def l0(ds es:List D):List D:=(ds.zip es).map λp=>.tup [p.1,p.2]
theorem zY3{ds es:List D}{d:D}(e:(l0 ds es)[i]?=AA d):∃d0 d1,ds[i]?=AA d0/\es[i]?=AA d1/\d=.tup [d0,d1]:=by
 unfold l0 at e;rw[AU] at e
 cases q:(ds.zip es)[i]? with
 |none=>rw[q] at e;cases e
 |some z =>
  rw[q] at e;cases e;obtain⟨h1,h2⟩:=VY.mp q;exact{_,_,h1,h2,rfl}
def Fu(g g':G):GI:=λE=>(g E).bind λp=>(g' p.2).bind λq=>match p.1,q.1 with
 |.tup ds,.tup es=>.ok (l0 ds es,q.2)
 |_,_=>.bad
theorem yC2(hm:X.mg "zip"=AK)(ha:VE X a ga)(hb:VE X b gb)(hg:Gl X "zip":=by rfl)(hs:AO [a,b] X.env=[(AD,eval a X.env),(AD,eval b X.env)]:=by rfl)(M6:AO [b] X.env=[(AD,eval b X.env)]:=by rfl)
  (Y9:AO [a,b] X.env=(AD,eval a X.env)::AO [b] X.env:=by rfl) (nW:AO [b] X.env=(AD,eval b X.env)::AO [] X.env:=by rfl):VI X tg (.Call (.Name "zip" p) [a,b] [] pos) (Fu ga gb):=(yB1 hg hm (TC ha (TC hb HZ nW) Y9) hs M6).imp λσ H Q h=>by
 obtain⟨τ,F,E,ds,E',S,hg,k⟩:=h;obtain⟨q,e1,hg⟩:=pA3 hg;obtain⟨r,e2,hg⟩:=pA3 hg;refine{τ,F,E,q.1,q.2,S,e1,λv F1 H1 s1 S1 r1=>{τ,F1,q.2,r.1,r.2,S1,e2,λu F2 H2 s2 S2 r2=>?_}};split at hg
 .rename_i lJ Zo ei ej
  cases hg;rw[ei] at r1;rw[ej] at r2;obtain⟨l,ys,rfl,h2,h1⟩:=(r1.le s2.le).tupSq;obtain⟨m,zs,rfl,h4,h3⟩:=r2.tupSq;refine{l,m,rfl,{ys,h1 F2 H2 (.refl _) S2.sub},{zs,h3 F2 H2 (.refl _) S2.sub},k _ F2 H2 (s1.trans s2) S2 λi F3 H3 l3 s3=>?_};have sq:=h1 F3 H3 l3 s3;have Hr:=h3 F3 H3 l3 s3;have hl:(l0 lJ Zo).length=min lJ.length Zo.length:=by simp[l0]
  refine{λhi=>?_,λhi=>{ys,zs,sq,Hr,?_},λx H' d e ⟨pp,xx,yy,ex,hp,eH,y1,y2⟩=>?_}
  .rw[hl] at hi
   have hv:i<ys.length:=by rw[h2.length];lia
   have hw:i<zs.length:=by rw[h4.length];lia
   exact{ys,zs,ys[i],zs[i],sq,Hr,by simp[hv],by simp[hw]}
  .rw[hl] at hi
   rw[h2.length,h4.length];lia
  .subst ex eH
   obtain⟨d0,d1,z1,z2,z3⟩:=zY3 e;subst z3;obtain⟨w,w1,w2⟩:=h2.get z1;obtain⟨w',Xk,w2'⟩:=h4.get z2;rw[y1 ys sq] at w1;cases w1;rw[y2 zs Hr] at Xk;cases Xk;have n:=New.laid (o:=.tup [xx,yy]) s3 hp;exact{_,n,.tup HB (.cons ((w2.le l3).le n.1.le) (.cons ((w2'.le l3).le n.1.le) .nil))}
 .cases hg
def Gq(g:G):G:=λE=>(g E).bind λp=>match p.1 with|.int j=>guard (0<=j/\j<=1000) (.ok (.lst (SX 0 j.toNat),p.2))|_=>.bad
theorem zNE{rp iT:gK}(hc:X.calm=AL)(hm:X.mg "range"=AK)(Kg:X.mg "list"=AK)(ha:VE X a ga)(hg:Gl X "range":=by rfl)(hgl:Gl X "list":=by rfl)
  (Y9:AO [a] X.env=(AD,eval a X.env)::AO [] X.env:=by rfl) (Jy:(DO iT (AO [] X.env)).any (·.1)=AD:=by rfl)
  (he:AO [.Call (.Name "range" rp) [a] [] iT] X.env=(AD,eval (.Call (.Name "range" rp) [a] [] iT) X.env)::AO [] X.env:=by rfl) (JW:(DO pos (AO [] X.env)).any (·.1)=AD:=by rfl) :
  FE X (.Call (.Name "list" p) [.Call (.Name "range" rp) [a] [] iT] [] pos) (Gq ga) :=
 (yV (zI1 hc) hgl Kg (by decide +kernel) (TC (yV zT4 hg hm (by decide +kernel) (TC ha HZ Y9) 'd' 'd' Y9 Jy) HZ he) 'd' 'd' he JW).imp λσ H Q h=>by
  obtain⟨τ,F,E,d,E',S,hg,k⟩:=h;obtain⟨q,e1,hg⟩:=pA3 hg;refine{τ,F,E,q.1,q.2,S,e1,λv F1 H1 s1 S1 r1=>?_};split at hg
  .rename_i j ej
   obtain⟨⟨g1,g2⟩,hg⟩:=fI hg;cases hg;rw[ej] at r1;obtain rfl:=r1.vI;refine{j,rfl,λpp hp=>{pp,j.toNat,rfl,by rw[HB,bT g1],by lia,λl hl=>?_}};have n:=pA6 (H':=D6 (D6 H1 pp (.rng 0 j)) l (.lst ((CI j.toNat).map λi:Nat=>V.int (i:Int)))) S1.sub ((Gr.new hp).trans (Gr.new hl));have dJ:H1 l=AK:=(Gr.new hp).dom l hl;refine k l F1 _ (s1.trans n.stp) (S1.new n) (pAG S1.sub dJ) (s1.dom l dJ) {_,HB,?_} (S1.fresh dJ);have:SX 0 j.toNat=((CI j.toNat).map λi:Nat=>(i:Int)).map D.int:=by unfold SX;rw[ED];congr 1;funext i;simp
   rw[this,show((CI j.toNat).map λi:Nat=>V.int (i:Int))=((CI j.toNat).map λi:Nat=>(i:Int)).map V.int by rw[ED];rfl];exact Reps.ints _
  .cases hg
end
section
variable{K:AC}{E:Ev}{a b:C8}{g ga gb gc ge:G}{gs:List G}
def D.kids:D->Bool
 |.lst ds=>pA9 ds
 |.dk kvs=>pA9 (kvs.map (·.2))
 |.dt kvs=>pA9 (kvs.map (·.2))
 |_=>AD
def By(is:List Nat)(g:G):G:=λE=>(g (OE is E)).bind λp=>if p.1.kids=AL then .ok (p.1,E) else .bad
theorem RepK.flat2(ht:∀a vs,F a=AA (.tup vs)->F2 a=AA (.tup vs)){vs:List (Key×V)}{ds:List (Key×D)}(r:RepK K F vs ds):pA9 (ds.map (·.2))=AL->RepK K F2 vs ds:=(pAB ht).2.2.1 r
theorem RepT.flat2(ht:∀a vs,F a=AA (.tup vs)->F2 a=AA (.tup vs)){vs:List (List Key×V)}{ds:List (List Int×D)}(r:RepT K F vs ds):pA9 (ds.map (·.2))=AL->RepT K F2 vs ds:=(pAB ht).2.2.2 r
theorem yFV(is:List Nat)(h:FE X e g):FE X e (By is g):=by
 rintro AE s σ H Q I ⟨τ,F,E,d,E',S,hg,k⟩;obtain⟨p,eg,hg⟩:=pA3 hg;split at hg
 .rename_i hl
  cases hg;obtain⟨S1,no⟩:=S.lend is;refine GV (h AE s σ H (λv H'=>∃ad F' X4,v=.ref ad/\Stp (λ_=>False) (XX σ E is F H) H F' H' X4/\Sub F' H'/\F' ad=AK/\H ad=AK/\OwnAt X.K F' H' ad p.1) I {τ,_,_,p.1,p.2,S1,eg,λad F' H' st S' n1 n2 ow _=>{ad,F',_,rfl,st.toF no,S'.sub,n1,n2,ow}}) λu s' q0=>?_;obtain⟨v,H',I',rv,ad,F',X4,ev,st,sb,n1,n2,ow⟩:=q0;subst ev;obtain⟨t1,t2,t3,h1,_⟩:=S.back is st sb;have ht:∀a vs,F' a=AA (.tup vs)->WK σ E is F' a=AA (.tup vs):=λa vs e=>h1 a _ e λo w ho=>{λz=>by subst z;exact ho,λz=>HO.noConfusion z}
  have nl:¬Lent σ E is ad:=λz=>by
   obtain⟨_,⟨o,ho,_⟩,_⟩:=S.owned z.ow;rw[n2] at ho;cases ho
  have hh:aR σ E is H H' ad=H' ad:=by unfold aR;rw[if_neg nl]
  refine{.ref ad,_,I'.thaw t1,rv,k ad _ _ t2 t3 (by unfold WK;rw[if_neg nl];exact n1) n2 ?_ (S.fresh n2)};generalize hy:p.1=y at ow hl
  cases y with
  |lst ds=>obtain⟨vs,q,r⟩:=ow;exact{vs,hh.trans q,Reps.flat2 ht r hl}
  |dk ds=>obtain⟨vs,q,r⟩:=ow;exact{vs,hh.trans q,RepK.flat2 ht r hl}
  |dt ds=>obtain⟨vs,q,r⟩:=ow;exact{vs,hh.trans q,RepT.flat2 ht r hl}
  |_=>exact ow.elim
 .cases hg
def pG(m:Mr)(gf:G)(gs:List G):G:=λE=>(gf E).bind λf=>(NL gs f.2).bind λp=>(m (.own AL f.1::p.1.map Sl.val)).bind λq=>.ok (q.2.1,p.2)
theorem zU7{gf:G}(hn:gs.length+1=np){Q:VK}(h:tV K H₀ (pG m gf gs) σ H Q):rS (NM K np m) [] E0 (rV (tF K H₀ gf) (fL K H₀ gs)) σ H Q:=by
 obtain⟨τ,F,E,d,E',S,hg,k⟩:=h;obtain⟨f,e0,hg⟩:=pA3 hg;obtain⟨p,e1,hg⟩:=pA3 hg;obtain⟨q,e2,hg⟩:=pA3 hg;cases hg;refine{τ,F,E,f.1,f.2,S,e0,λad F0 H0 s0 S0 n1 n2 ow no=>{τ,F0,f.2,p.1,p.2,S0,e1,λvs F1 H1 s1 S1 r1=>?_}};obtain⟨o,ho,hw⟩:=ow.ho;have k1:H1 ad=AA o:=s1.keep ad o ho hw n1 no;have f1:F1 ad=AK:=s1.nF n1 ho hw no;have UJ:OwnAt K F1 H1 ad f.1:=ow.mono s1.le (k1.trans ho.symm);have no1:¬DY σ p.2 ad:=λz=>(s1.own ad z).elim no λz=>by (rw[ho] at z;cases z)
 rw[DJ];refine{by rw[BB,r1.length,kG e1,hn],ad,F1,_,q.1,q.2.1,q.2.2,pAF S1.sub r1 f1 UJ,Fw,e2,λv F2 H2 s2 S2 rr=>?_};have s2:Stp (DY ((V.ref ad::vs).map AA) (.own AL f.1::p.1.map Sl.val)) F1 H1 F2 H2 (DY ((V.ref ad::vs).map AA) (.own AL q.2.2::p.1.map Sl.val)):=s2;have fV:∀b,DY σ p.2 b->b≠ad:=λb z y=>no1 (by rw[<-y];exact z)
 have Sm:Sim K H₀ τ F2 H2 σ p.2:=by
  refine{S2.sub,S1.len,λj d' z=>?_,λj t' d' z=>?_,S1.inj}
  .obtain⟨v,h1,h2⟩:=S1.val j d' z
   exact{v,h1,h2.le s2.le}
  .obtain⟨c,c1,c2,c3,c4⟩:=S1.own j t' d' z
   obtain⟨oc,iZ,Yo⟩:=c3.ho;have wJ:c≠ad:=fV c {j,t',d',z,c1};exact{c,c1,s2.nF c2 iZ Yo λy=>wJ (kK y),c3.mono s2.le ((s2.keep c oc iZ Yo c2 λy=>wJ (kK y)).trans iZ.symm),c4}
 have kP:=s0.trans s1
 have st:Stp (DY σ E) F H F2 H2 (DY σ p.2):=by
  refine{λb u z Jj n hb=>?_,λb z=>kP.dom b (s2.dom b z),kP.le.trans s2.le,λb u z=>?_,kP.own}
  .have hb1:=kP.keep b u z Jj n hb
   exact s2.keep b u hb1 Jj (kP.nF n z Jj hb) λy=>by rw[kK y,n2] at z;cases z
  .rcases s2.new b u z with y|y|y
   .cases w:F1 b with
    |none=>exact absurd w y
    |some u'=>exact kP.new b u' w
   .exact kP.nw y
   .rw[kK y];exact .inr (.inl (.none n2))
 cases hb:q.1 with
 |false =>
  rw[hb] at rr;exact k v F2 H2 st Sm rr
 |true =>
  rw[hb] at rr;obtain⟨c,rfl,h1,h2,h3,h4⟩:=rr;obtain⟨o',fU,_⟩:=h2.ho;have nc:∀b,DY σ p.2 b->b≠c:=λb z y=>by subst y;exact S1.fresh h3 z
  refine k _ (D6 F2 c o') H2 {st.keep,st.dom,st.le.trans (.of_gr (Gr.new h1)),λb u z=>?_,st.own} {λb u z=>?_,Sm.len,λj d' z=>?_,λj t' d' z=>?_,Sm.inj} (h2.rep h1 fU)
  .by_cases hb:b=c
   .subst hb;exact .inr (.inl (.none (kP.dom b h3)))
   .rw[EV hb] at z;exact st.new b u z
  .by_cases hb:b=c
   .subst hb;rw[HB] at z;rw[fU];exact z
   .rw[EV hb] at z;exact Sm.sub b u z
  .obtain⟨v,y1,y2⟩:=Sm.val j d' z
   exact{v,y1,y2.le (.of_gr (Gr.new h1))}
  .obtain⟨b,y1,y2,y3,y4⟩:=Sm.own j t' d' z
   exact{b,y1,by rw[EV (nc b {j,t',d',z,y1})];exact y2,y3.mono (.of_gr (Gr.new h1)) rfl,y4}
theorem zY5{gf:G}(C:NP X.prog X.w X.K X.mg X.base x k np m)(hr:Room k X.A)(hf:FE X e gf)(ha:VA X es gs)(hn:gs.length+1=np:=by rfl)(hg:Gl X x:=by rfl)(SC:(x==("__debug__":CT))=AD:=by decide)
  (he:AO (e::es) X.env=(AD,eval e X.env)::AO es X.env:=by rfl) (JW:(DO pos (AO es X.env)).any (·.1)=AD:=by rfl):VE X (.Call (.Name x p) (e::es) [] pos) (pG m gf gs):=by
 obtain⟨f,fd,ps,Fn,hm,hk,hb⟩:=C;exact(sO Fn hr hg hm hk hb .nil xF (TC hf ha he) SC he JW).imp λ_ _ _ h=>zU7 hn h
theorem Tr{iter:C8}{t:Tg}{ge:G}(n:CompNm X scope cl own CV js)(hc:X.calm=AL)(hi:VI X tg iter gi)
  (hg:∀C s H fp,VG (MI X scope cl (own++CV) C s H fp) tg t) (ht:∀C s H fp,tW (MI X scope cl (own++CV) C s H fp) ifs tt) (he:∀C s H fp,VE (MI X scope cl (own++CV) C s H fp) N7 ge)
  (hN:X.N.Nodup) (hx:X.N[i]?=AA x) (hl:X.env.scope.names.lookup x=AA .local)
  (nS:IL (.ListComp N7 [{tg,iter,ifs,0}] scope pos) (AA (.Name x N5)) WX.line X.env=pure AL)
  (JL:t.ltn own.length=AL:=by rfl) (hj:js.Nodup:=by decide) (hs:∀x,DF iter X.env x=pure x:=by intro _;rfl):VS X (.Assign [.Name x N5] (.ListComp N7 [{tg,iter,ifs,0}] scope pos) WX) (J0 (.nm i) (V3 gi own.length js t tt ge)) :=
 λAE s σ H D' I h=>by
  refine Sz (g:=λH=>tG X.K H t) (tt:=λH=>tT X.K H tt) (te:=λH=>tV X.K H ge) n hc hi hg ht he hN hx hl nS hs AE s σ H D' I ?_;refine Ov JL hj (pA7 ?_);obtain⟨τ,F,E,r,S,hg,k⟩:=h;obtain⟨p,e1,hg⟩:=pA3 hg;obtain⟨E1,e2,hg⟩:=pA3 hg;cases hg;rw[WS] at e2;cases e2;refine{τ,F,E,p.1,p.2,S,e1,λv F1 H1 s1 S1 r1=>?_};obtain⟨S2,h2⟩:=S1.put (i:=i) r1;exact k _ F1 H1 (s1.weak h2) S2
theorem Fun.cal{ps:List CT}{st:E6}(Fn:Fun K x x st f fd)(h:FnOk P w K mg base LM k f fd ps (NM K np m))(hm:mg x=AA (.ref f))(hb:Binds K fd ps []):NP P w K mg base x k np m:={f,fd,ps,h,hm,Fn.kp,hb}
end
theorem lZ{Pr:α->Prop}:∀p∈([]:List α),Pr p:=λp hp=>nomatch hp
theorem fN{Pr:α->Prop}{a:α}(h:Pr a):∀p∈[a],Pr p:=λp hp=>by rw[A3.mp hp];exact h
theorem Gv{Pr:α->Prop}{a:α}{l:List α}(h:Pr a)(t:∀p∈l,Pr p):∀p∈a::l,Pr p:=λp hp=>by
 rcases BC.mp hp with rfl|hp
 .exact h
 .exact t p hp
theorem Ae{Pr:α->Prop}{a b:α}(h1:Pr a)(h2:Pr b):∀p∈[a,b],Pr p:=Gv h1 (fN h2)
theorem Ad{Pr:α->Prop}{a b c:α}(h1:Pr a)(h2:Pr b)(h3:Pr c):∀p∈[a,b,c],Pr p:=Gv h1 (Ae h2 h3)
theorem Gw{Pr:α->Prop}{a b c d:α}(h1:Pr a)(h2:Pr b)(h3:Pr c)(h4:Pr d):∀p∈[a,b,c,d],Pr p:=Gv h1 (Ad h2 h3 h4)
section
variable{a b:C8}{ga gb:G}
theorem yH4{t:Ev->Out (Bool×Ev)}(hc:VT X c t)(ha:FE X a ga)(hb:FE X b gb):FE X (.IfExp c a b pos) (tU t ga gb):=(Qn hc ha hb).imp λσ H Q q=>by
 obtain⟨τ,F,E,d,E',S,hg,k⟩:=q;obtain⟨p,ea,hg⟩:=pA3 hg;refine{τ,F,E,p.1,p.2,S,ea,λF1 H1 st1 S1=>?_}
 by_cases hp:p.1=AL
 .rw[if_pos hp] at hg ⊢
  exact{τ,F1,p.2,d,E',S1,hg,λad F2 H2 st2 S2 n1 n2 ow no=>k ad F2 H2 (st1.trans st2) S2 n1 (st1.dom ad n2) ow no}
 .rw[if_neg hp] at hg ⊢
  exact{τ,F1,p.2,d,E',S1,hg,λad F2 H2 st2 S2 n1 n2 ow no=>k ad F2 H2 (st1.trans st2) S2 n1 (st1.dom ad n2) ow no}
end
section
variable{K:AC}{ge:G}
theorem pAK{o:IE}{u:HO}(s:Sub F H)(h:F a=AA u)(hd:rT u):New F H (D6 F a (.frz o u)) (D6 H a (.frz o u)):=by
 have hh:=s a u h;refine{{λb v e _ n _=>?_,λb e=>?_,λb v e=>?_,λb v e=>?_,λ_ z=>z.elim},λb v e=>?_}
 .rw[EV (λz=>by rw[z,h] at n;cases n)];exact e
 .by_cases hb:b=a
  .rw[hb,HB] at e;cases e
  .rw[EV hb] at e;exact e
 .by_cases hb:b=a
  .subst hb;rw[h] at e;cases e;exact .inr (.inl {hd,o,HB})
  .exact .inl (by rw[EV hb];exact e)
 .by_cases hb:b=a
  .subst hb;exact .inl (by rw[h];exact nofun)
  .rw[EV hb] at e;exact .inl (by rw[e];exact nofun)
 .by_cases hb:b=a
  .subst hb;rw[HB] at e ⊢;exact e
  .rw[EV hb] at e ⊢;exact s b v e
theorem New.tup{p:AQ}{vs:List V}(s:Sub F H)(h:H p=AA (.tup vs)):∃F',New F H F' H/\F' p=AA (.tup vs):=by
 cases hf:F p with
 |some u =>
  have:=s p u hf;rw[h] at this;cases this;exact{F,.refl s,hf}
 |none =>
  refine{D6 F p (.tup vs),{{λ_ _ e _ _ _=>e,λ_ e=>e,.of_gr (Gr.new hf),λb v e=>?_,λ_ z=>z.elim},λb v e=>?_},HB}
  .by_cases hb:b=p
   .subst hb
    refine .inr (.inl λo e' hw=>?_);rw[h] at e';cases e';exact hw
   .rw[EV hb] at e;exact .inl (by rw[e];exact nofun)
  .by_cases hb:b=p
   .subst hb;rw[HB] at e;rw[h];exact e
   .rw[EV hb] at e;exact s b v e
def tE(k:List Int):D:=.tup (k.map D.int)
theorem RepT.keysAt{vs:List (List Key×V)}{ds:List (List Int×D)}(r:RepT K F vs ds):vs.map (·.1)=ds.map λkv=>kv.1.map CS :=
 r.rec1 (T:=λvs ds=>vs.map (·.1)=ds.map λkv=>kv.1.map CS) rfl λ_ _ ih=>congrArg (_::·) ih
theorem RepK.keysAt{vs:List (Key×V)}{ds:List (Key×D)}(r:RepK K F vs ds):vs.map (·.1)=ds.map (·.1) :=
 r.rec1 (R:=λvs ds=>vs.map (·.1)=ds.map (·.1)) rfl λ_ _ ih=>congrArg (_::·) ih
theorem Tq{o:IE}{kvs:List (Key×V)}{ds:List (Key×D)}(h:F a=AA (.frz o (.dK kvs)))(r:RepK K F kvs ds):Walks K (Xe a o kvs) F (ds.map λkv=>jP kv.1):=λi F1 H1 l s=>by
 have hf:F1 a=AA (.frz o (.dK kvs)):=by
  rcases l a _ h with z|⟨z,_⟩|⟨_,_,_,z,_⟩
  .exact z
  .exact z.elim
  .cases z
 have hh:=s _ _ hf;have hl:(ds.map λkv=>jP kv.1).length=kvs.length:=by rw[AJ,r.length]
 refine{λhi=>{AN hi (CY hl),hh},λhi=>{by lia,hh},λx H' d e ⟨e1,k,ex,ek⟩=>?_};subst e1 ex;rw[r.keysAt,AU] at ek;rw[AU] at e
 cases q:ds[i]? with
 |none=>rw[q] at e;cases e
 |some kv =>
  rw[q] at e ek;cases e;cases ek;exact{F1,.refl s,Op _}
theorem Tp{o:IE}{ds:List (List Int×D)}(h:F a=AA (.frz o (.dT kvs)))(r:RepT K F kvs ds):Walks K (Xd a o kvs) F (ds.map λkv=>tE kv.1):=λi F1 H1 l s=>by
 have hf:F1 a=AA (.frz o (.dT kvs)):=by
  rcases l a _ h with z|⟨z,_⟩|⟨_,_,_,z,_⟩
  .exact z
  .exact z.elim
  .cases z
 have hh:=s _ _ hf;have hl:(ds.map λkv=>tE kv.1).length=kvs.length:=by rw[AJ,r.length]
 refine{λhi=>{AN hi (CY hl),hh},λhi=>{by lia,hh},λx H' d e ⟨e1,p,k,ex,ek,ep⟩=>?_};subst e1 ex;rw[r.keysAt,AU] at ek;rw[AU] at e
 cases q:ds[i]? with
 |none=>rw[q] at e;cases e
 |some kv =>
  rw[q] at e ek;cases e;cases ek;obtain⟨F',n,hp⟩:=New.tup s ep;refine{F',n,.tup hp ?_};rw[ED];exact Reps.ints kv.1
def MZ(g:G):GI:=λE=>(g E).bind λp=>match p.1 with
 |.lst ds=>.ok (ds,p.2)
 |.tup ds=>.ok (ds,p.2)
 |.dk kvs=>.ok (kvs.map λkv=>jP kv.1,p.2)
 |.dt kvs=>.ok (kvs.map λkv=>tE kv.1,p.2)
 |_=>.bad
theorem Y2(h:VE X e ge):VI X tg e (MZ ge):=λAE s σ H R I q=>by
 obtain⟨τ,F,E,ds,E',S,hg,k⟩:=q;obtain⟨p,e1,hg⟩:=pA3 hg;split at hg
 .rename_i VH ed
  cases hg;exact zX9 h AE s σ H R I {τ,F,E,ds,p.2,S,by unfold Wx;rw[e1];show(match p.1 with|.lst ds=>Out.ok (ds,p.2)|_=>.bad)=_;rw[ed],k}
 .rename_i VH ed
  cases hg;exact yCC h AE s σ H R I {τ,F,E,ds,p.2,S,by unfold Ww;rw[e1];show(match p.1 with|.tup ds=>Out.ok (ds,p.2)|_=>.bad)=_;rw[ed],k}
 .rename_i kvs ed
  cases hg
  -- which of both it is shows when the JS is there
  refine GV (h AE s σ H (λx H1=>∃F1,Stp (DY σ E) F H F1 H1 (DY σ p.2)/\Sim X.K X.H₀ τ F1 H1 σ p.2/\Rep X.K F1 x (.dk kvs)) I {τ,F,E,p.1,p.2,S,e1,λv F1 H1 s1 S1 r1=>{F1,s1,S1,by rw[<-ed];exact r1}}) λv s1 q0=>?_;obtain⟨x,H1,I1,r1,F1,st,S1,rr⟩:=q0
  cases rr with
  |dk hr r =>
   rename_i a kv;cases r1;rcases hr with hr|⟨o,hr⟩
   .have ha:=S1.sub _ _ hr
    obtain⟨o,ho,I2⟩:=I1.freezeK ha;obtain⟨es,ep,LN,z1,z2,z3⟩:=sL (I1.hok a _ ha);obtain⟨o',q1,q2,q3⟩:=id LN.ex;rw[ho] at q1;cases q1;have n:=pAK (o:=o) S1.sub hr trivial;refine yP LN λh' kk ki=>?_;refine{s1.heap.objs.size,[s1.heap.objs.size],_,_,_,rfl,I2.kept (t':=s1.toks) kk,Tl a _ o kv es ep q3 z1,ki,λb hb=>?_,k _ _ _ (st.trans n.stp) (S1.new n) (Tq HB (r.le n.1.le))};have e:b=s1.heap.objs.size:=by simpa using hb
    subst e;exact I2.fpOk (AM _) (I2.hok.fresh (AM _))
   .have ha:=S1.sub _ _ hr
    obtain⟨ho,hx⟩:=I1.hok a _ ha;obtain⟨es,ep,LN,z1,z2,z3⟩:=sL hx;obtain⟨o',q1,q2,q3⟩:=id LN.ex;rw[ho] at q1;cases q1;refine yP LN λh' kk ki=>?_;refine{s1.heap.objs.size,[s1.heap.objs.size],_,_,_,rfl,I1.kept (t':=s1.toks) kk,Tl a _ o kv es ep q3 z1,ki,λb hb=>?_,k _ _ _ st S1 (Tq hr r)};have e:b=s1.heap.objs.size:=by simpa using hb
    subst e;exact I1.fpOk (AM _) (I1.hok.fresh (AM _))
 .rename_i kvs ed
  cases hg;refine GV (h AE s σ H (λx H1=>∃F1,Stp (DY σ E) F H F1 H1 (DY σ p.2)/\Sim X.K X.H₀ τ F1 H1 σ p.2/\Rep X.K F1 x (.dt kvs)) I {τ,F,E,p.1,p.2,S,e1,λv F1 H1 s1 S1 r1=>{F1,s1,S1,by rw[<-ed];exact r1}}) λv s1 q0=>?_;obtain⟨x,H1,I1,r1,F1,st,S1,rr⟩:=q0
  cases rr with
  |dt hr r =>
   rename_i a kv;cases r1;rcases hr with hr|⟨o,hr⟩
   .have ha:=S1.sub _ _ hr
    obtain⟨o,ho,I2⟩:=I1.freeze ha;obtain⟨es,ep,LN,z1,z2,z3⟩:=pJ (I1.hok a _ ha);obtain⟨o',q1,q2,q3⟩:=id LN.ex;rw[ho] at q1;cases q1;have n:=pAK (o:=o) S1.sub hr trivial;refine yP LN λh' kk ki=>?_;refine{s1.heap.objs.size,[s1.heap.objs.size],_,_,_,rfl,I2.kept (t':=s1.toks) kk,Sh a _ o kv es ep q3 z1,ki,λb hb=>?_,k _ _ _ (st.trans n.stp) (S1.new n) (Tp HB (r.le n.1.le))};have e:b=s1.heap.objs.size:=by simpa using hb
    subst e;exact I2.fpOk (AM _) (I2.hok.fresh (AM _))
   .have ha:=S1.sub _ _ hr
    obtain⟨ho,hx⟩:=I1.hok a _ ha;obtain⟨es,ep,LN,z1,z2,z3⟩:=pJ hx;obtain⟨o',q1,q2,q3⟩:=id LN.ex;rw[ho] at q1;cases q1;refine yP LN λh' kk ki=>?_;refine{s1.heap.objs.size,[s1.heap.objs.size],_,_,_,rfl,I1.kept (t':=s1.toks) kk,Sh a _ o kv es ep q3 z1,ki,λb hb=>?_,k _ _ _ st S1 (Tp hr r)};have e:b=s1.heap.objs.size:=by simpa using hb
    subst e;exact I1.fpOk (AM _) (I1.hok.fresh (AM _))
 .cases hg
end
theorem walk_v{l:Q1}{d:DefRec}{K:Params->AC}{lv:Nat}(hn:l.most=AA 63)(wE:d.params.defaults=[])(hr:Room lv QN)
  (hY:∀(w:D3) (h:D4),YP w h->(K w.params).In h) (tK:∀w:D3,Tabs (K w.params) q) (hm:∀ns:List Int,ns.length<=63->∃b d',m [.val (.lst (ns.map D.int))]=.ok (b,.bl AL,d'))
  (F:∀(w:D3) (mg:CT->Option AH) (fa:AQ) (h:D4),(K w.params).In h->h.Ns BK mg->mg d.name=AA (.ref fa) ->
   ∃fd:JR,(∀(s:AT) (u:AH),UB s fd {[u],[]} [("script",u)])/\∀base:D4,(K w.params).In base->base.Ns BK mg->CB (K w.params) base->FnOk l.prog w (K w.params) mg base LM lv fa fd ["script"] (NM (K w.params) 1 m)) :
  gH q Y8 XP YP l.row.toRowW d [] (λf vs=>aI f vs) :=
 L2.walk_of (n:=63) (k:=lv) (x:="script") (CX:=λ_=>LM) (sp:=λw=>NM (K w.params) 1 m) hn 'd' wE hr hY tK F (λw H a ns hl _ hS=>by
  obtain⟨b,d',e⟩:=hm ns hl;refine{rfl,0,H,_,b,_,d',{λ_ _ z=>z,rfl,λi d0 z=>?_,λi t d0 z=>?_,λi j t u d1 d2 a' z=>?_},λi t d0 z=>?_,e,λv F' H' st S r=>?_}
  .cases i with
   |zero=>cases z;exact{_,rfl,.lst hS (Reps.ints ns)}
   |succ i=>simp at z
  .cases i with
   |zero=>cases z
   |succ i=>simp at z
  .cases i with
   |zero=>cases z
   |succ i=>simp at z
  .cases i with
   |zero=>cases z
   |succ i=>simp at z
  .cases b with
   |false=>obtain rfl:=r.vB;rfl
   |true=>obtain⟨_,_,_,ow,_⟩:=r;exact ow.elim) λ_ _ _ _ _ z=>z
end L2
namespace L2
open PySem
theorem fn_bad{K:AC}{ps:List CT}:FnOk P w K mg base LM k f fd ps (NM K np λ_=>.bad) :=
 {(λvs H Q E h=>by obtain⟨_,_,_,_,_,_,_,_,_,hm,_⟩:=h;cases hm),(λA outer s H args us vs Q E hr e b v h=>by obtain⟨_,_,_,_,_,_,_,_,_,hm,_⟩:=h;cases hm)}
end L2
variable{gi:L2.GI}{tt:L2.Ev->L2.Out (Bool×L2.Ev)}{c':AQ}{q:CT}{RD:AH}
namespace L2
open PySem PySem.Spec PyProof.Rows
section
variable{K:AC}{E:Ev}{acc:AQ}
def pF(gk gv:G):GM:=λd E=>(gk E).bind λp=>(gv p.2).bind λq=>match d,fA p.1 with|.dk kvs,AA k=>few kvs.length (.ok (.dk (PY kvs k q.1),q.2))|_,_=>.bad
theorem zR0{gk gv:G}{N:St->Hp->Prop}(h:z7 K H₀ acc k (pF gk gv) σ H N):Cr acc (tV K H₀ gk) (tV K H₀ gv) σ H N:=by
 obtain⟨τ,F,E,d,d',E',S,f,n,o,hg,k⟩:=h;obtain⟨p,e1,hg⟩:=pA3 hg;obtain⟨q,e2,hg⟩:=pA3 hg;split at hg
 .rename_i k' ek _ _
  obtain⟨hz,hg⟩:=XY hg;cases hg;refine{τ,F,E,p.1,p.2,S,e1,λx F5 H5 s5 S5 r5=>?_};refine{τ,F5,p.2,q.1,q.2,S5,e2,λy F6 H6 s6 S6 r6=>?_};obtain⟨f6,m6,ys,h6,r2⟩:=xB (s5.trans s6) f n o;exact{ys,k',h6,Wf ek r5,by rw[r2.length];exact cC hz,k σ F6 _ (Wb (s5.trans s6)) (S6.off f6 m6) f6 m6 {_,HB,r2.put k' r6} λ_ _=>rfl}
 .cases hg
theorem zY7{iter:C8}{t:Tg}{gk gv:G}(n:CompNm X scope cl own CV js)(hc:X.calm=AL)(hi:VI X tg iter gi)
  (hg:∀C s H fp,VG (MI X scope cl (own++CV) C s H fp) tg t) (ht:∀C s H fp,tW (MI X scope cl (own++CV) C s H fp) ifs tt) (hk:∀C s H fp,VE (MI X scope cl (own++CV) C s H fp) kx gk) (hv:∀C s H fp,VE (MI X scope cl (own++CV) C s H fp) vx gv)
  (JL:t.ltn own.length=AL:=by rfl) (hj:js.Nodup:=by decide) (hs:∀x,DF iter X.env x=pure x:=by intro _;rfl):FE X (.DictComp kx vx [{tg,iter,ifs,0}] scope pos) (mM gi own.length js (.dk []) t tt (pF gk gv)) :=
 (zT3 (g:=λH=>tG X.K H t) (tt:=λH=>tT X.K H tt) (tk:=λH=>tV X.K H gk) (tv:=λH=>tV X.K H gv) n hc hi hg ht hk hv hs).imp λσ H Q h =>
  Ow (λJ H2 q acc ha=>tWalkC.imp (λ_ _ _ z=>zR0 z) (λσ H=>Oy σ H) (λx σ H=>Ox x σ H) (q acc ha)) (Qj (o:=.dK []) (d0:=.dk []) (λF H a=>{[],HB,.nil}) JL hj h)
end
section
variable{K:AC}{E:Ev}{g:G}{q:gK}
end
theorem zPK{a b:Int}{c:AH}(l:List AH)(h:TriplesOk l)(e:QM pos (l++[EY a,EY b,c])=AA cv):QM pos l=AA cv\/cv=c:=by
 fun_induction TriplesOk l with
 |case1 =>
  simp only[GC,QM,EY] at e;split at e
  .cases e;exact .inr rfl
  .cases e
 |case2 a' t b' u x rest ih =>
  simp only[M3,QM] at e ⊢;split at e
  .rename_i hc;rw[if_pos hc];exact .inl e
  .rename_i hc;rw[if_neg hc];exact ih h e
 |case3 l h1 h2=>exact h.elim
def LamStp(T:AQ)(q:CT)(H H':Hp):Prop:=H'=H\/∃ps aZ c' o,H T=AA (.tbl q ps)/\H c'=AK/\c'≠T/\H'=D6 (D6 H T (.tbl q aZ)) c' (.frz o (.own c'))
section
variable{σ:List (Option V)}
theorem Inv.pinNew{o:IE}(I:Inv X AE σ H s)(hfr:o.isFreed=AD)(hd:∀v,o.data≠.cell v):Inv X ((s.heap.objs.size,o)::AE) σ H { s with heap:=s.heap.push o,toks:=t' }:=by
 have I1:Inv X AE σ H { s with heap:=s.heap.push o,toks:=t' }:=I.un (t':=t') (Un.kept λb u e=>AF _ e) (I.hok.kept λb u e=>AF _ e);refine{I1.ok,I1.os,I1.bare,I1.base,I1.loc,I1.cell,I1.free,I1.freeC,λp hp=>?_,I1.hok,I1.len};rcases BX.mp hp with hp|hp
 .exact I1.pin p (DH _ hp)
 .rcases BC.mp hp with rfl|hp
  .exact{AX _ hfr,I.hok.fresh (AM _),FR I.lt,I.nofs (AM _),hd}
  .exact I1.pin p (BM _ hp)
theorem Inv.table{T:AQ}{ps:Array AH}(I:Inv X AE σ H s)(hT:H T=AA (.tbl q ps))(hx:ZL T s.heap h')(k8:s.heap.objs.size<=c')(iW:h'.CodeRec (.ref c') q)(As:h'.get? T=AA (KZ (ps++#[EY pos.line,EY pos.col,.ref c']))) :
  ∃o,Inv X AE σ (D6 (D6 H T (.tbl q (ps++#[EY pos.line,EY pos.col,.ref c']))) c' (.frz o (.own c'))) { s with heap:=h',toks:=t' }/\H c'=AK/\c'≠T:=by
 obtain⟨c0,o,vs,t,e0,iZ,hd,hv⟩:=iW;cases e0;obtain⟨e1,tr,al⟩:=I.hok T _ hT;have fY:H c'=AK:=I.hok.fresh k8;have oJ:c'≠T:=λz=>by rw[z] at fY;rw[fY] at hT;cases hT
 have EC:∀b u,H b=AA u->b≠T->D6 (D6 H T (.tbl q (ps++#[EY pos.line,EY pos.col,.ref c']))) c' (.frz o (.own c')) b=AA u:=λb u e hb=>by
  rw[EV (λz=>by rw[z,fY] at e;cases e),EV hb];exact e
 have Zg:D6 (D6 H T (.tbl q (ps++#[EY pos.line,EY pos.col,.ref c']))) c' (.frz o (.own c')) T=AA (.tbl q (ps++#[EY pos.line,EY pos.col,.ref c'])):=by rw[EV (E8 oJ),HB]
 have nT:∀b,H b=AK->b≠T:=λb e z=>by rw[z,hT] at e;cases e
 have uY:∀b u,s.heap.get? b=AA u->H b=AK->D6 (D6 H T (.tbl q (ps++#[EY pos.line,EY pos.col,.ref c']))) c' (.frz o (.own c')) b=AK:=λb u e n=>by
  rw[EV (CA (AN (A9 e) k8)),EV (nT b n)];exact n
 have nL:∀b u,H b=AA u->(∀ps,u≠.tbl q ps)->b≠T:=λb u e n z=>by rw[z,hT] at e;cases e;exact n _ rfl
 refine{o,I.un (t':=t') {λb u e n _ _=>hx b u (nT b n) e,λb u e n _ _=>{u.slots,hx b u (nT b n) e},λb u e n _=>uY b u e n,λb u e _=>?_,λb xs e=>EC b _ e (nL b _ e λ_ z=>by cases z),λb ob u e=>EC b _ e (nL b _ e λ_ z=>by cases z),λb t aZ e=>?_} (λb u e=>?_),fY,oJ}
 .by_cases hb:b=T
  .subst hb;exact{_,As}
  .exact{u,hx b u hb e}
 .by_cases hb:b=T
  .subst hb
   rw[hT] at e;cases e;exact{_,Zg}
  .exact{#[],by rw[EC b _ e hb];simp}
 .by_cases hb:b=c'
  .subst hb
   rw[HB] at e;cases e;exact{iZ,{_,iZ}}
  .by_cases Lh:b=T
   .subst Lh
    rw[Zg] at e;cases e;refine{As,by rw[EL];exact TriplesOk_snoc _ _ _ _ tr,λp cv z=>?_};rw[EL] at z;rcases zPK _ tr z with z|z
    .obtain⟨c2,o2,Xl,t2,r1,r2,r3⟩:=al p cv z
     exact{c2,o2,Xl,t2,r1,EC c2 _ r2 (nL c2 _ r2 λ_ z=>by cases z),r3}
    .exact{c',o,vs,t,z,HB,hd,hv}
   .rw[EV hb,EV Lh] at e
    refine(I.hok b u e).stay (λd v hc z=>hx d v ?_ z) (λd z=>EC d _ z (nL d _ z λ_ y=>by cases y)) (λd xs z=>EC d _ z (nL d _ z λ_ y=>by cases y)) λd ob x z=>EC d _ z (nL d _ z λ_ y=>by cases y);rcases hc with rfl|hc
    .exact Lh
    .exact nL d _ hc λ_ y=>by cases y
theorem zU8{c T:AQ}{clos:List (CT×AQ)}{body:C8}
  (I:Inv X AE σ H s) (ZB:X.env.code=.ref c) (C:JH X.base c T) (tb:TB X.K T q) (hq:X.env.qual++("<lambda>":CT)=q) (Lg:YL scope X.env=pure clos) (oG:defaultsOf EW X.env=([],[]))
  (h:∀(f c':AQ) (pm RD:AH) (s':AT) (H':Hp) (o:IE),Inv X ((f,M0 "<lambda>" q EW body scope clos pm c' RD)::AE) σ H' s'->LamStp T q H H'->H' c'=AA (.frz o (.own c'))->s'.heap.CodeRec (.ref c') q->s.heap.objs.size<=f->Q (.ref f) s') :
  A0 (A1 X.prog X.w) A (eval (.Lambda EW body scope pos) X.env) Q E s:=by
 refine PySem.W.kla_eval oG ?_;rw[hq];obtain⟨ps,hT⟩:=I.tab T q tb;obtain⟨e1,tr,al⟩:=I.hok T _ hT;have hg:=I.mod.glob.keeps I.bk
 have hgT:BK≠T:=λz=>by
  obtain⟨o,es,ep,e,hd,_⟩:=hg;rw[z,e1] at e;cases e;cases hd
 have Bb:s.heap.BuiltinsAt X.mg T:=by
  obtain⟨bm,ob,b1,b2,b3,b4,b5,b6⟩:=I.mod.bmain;have e3:=I.bk _ _ b3;refine{bm,ob,b1,b2,λz=>?_,λz=>?_,e3,b4,b5,b6}
  .obtain⟨o,es,ep,e,hd,_⟩:=hg
   rw[z,e] at e3;cases e3;rw[hd] at b6;cases b6
  .rw[z,e1] at e3;cases e3;cases b4
 cases hf:QM pos ps.toList with
 |none =>
  refine PySem.W.kla_makeFunction (mg:=X.mg) Lg I.ok.glob hg ZB (C.keeps I.bk) e1 tr hf hgT Bb λc' RD h' tk hx k8 JL iW As=>?_;obtain⟨o,I1,fY,oJ⟩:=I.table (t':=tk) hT hx k8 iW As;have I2:=I1.pinNew (t':=tk) (o:=M0 "<lambda>" q EW body scope clos ((X.mg "__name__").getD .none) c' RD) rfl λv z=>by cases z
  exact h _ c' _ RD _ _ o I2 (.inr {_,_,c',o,hT,fY,oJ,rfl}) HB (iW.push _) (AZ k8 (CW JL))
 |some cv =>
  obtain⟨c',o,vs,t,rfl,r2,r3,r4⟩:=al _ _ hf;refine PySem.W.kla_makeFunctionHit (mg:=X.mg) Lg I.ok.glob hg ZB (C.keeps I.bk) e1 tr hf Bb λRD h' tk hk hsz=>?_;have I1:Inv X AE σ H { s with heap:=h',toks:=tk }:=I.un (t':=tk) (Un.kept hk) (I.hok.kept hk);have I2:=I1.pinNew (t':=tk) (o:=M0 "<lambda>" q EW body scope clos ((X.mg "__name__").getD .none) c' RD) rfl λv z=>by cases z
  exact h _ c' _ RD _ _ o I2 (.inl rfl) r2 {c',o,vs,t,rfl,(I2.hok _ _ r2).1,r3,r4} hsz
end
noncomputable def eZ(X:Cx)(A:DQ)(q:CT)(scope:NG)(cl:List (CT×AQ))(nm:List CT)(f:AQ)(cd:AH)(s:AT)(H:Hp):Cx where
 prog:=X.prog
 w:=X.w
 K:=X.K
 mg:=X.mg
 base:=X.base
 A:=A.deeper (PK q scope s.heap.objs.size f cd cl)
 N:=nm
 s₀:=s
 H₀:=H
 env:=PK q scope s.heap.objs.size f cd cl
 outer:=X.stack
 stack:=PK q scope s.heap.objs.size f cd cl::X.stack
 ex:=[]
 fn:=λ_=>AD
 calm:=AL
 pn:=[]
 xe:=λ_ _=>False
structure LamNm(X:Cx)(scope:NG)(cl:List (CT×AQ))(p:CT)(CV:List CT)(js:List Nat):Prop where
 clos:YL scope X.env=pure cl
 kind:scope.kind=.function
 co:scope.isCoroutine=AD
 gen:scope.isGenerator=AD
 nocell:∀y∈scope.names,y.2≠.cell
 dom:∀y∈scope.names,y.2=.free->y.1∈CV
 nm:cl.map (·.1)=CV
 cells:∀p∈cl,X.env.cells.lookup p.1=AA p.2
 slot:CV.map AA=js.map λj=>X.N[j]?
 vis:∀x∈CV,X.env.kindOf x=AA .cell\/X.env.kindOf x=AA .free
 fr:∀x∈CV,scope.names.lookup x=AA .free
 loc:scope.names.lookup p=AA .local
section
variable{p:CT}
theorem LamNm.cl_of(n:LamNm X scope cl p CV js){c:AQ}(h:cl.lookup x=AA c):X.env.cells.lookup x=AA c:=n.cells _ (sX h)
theorem LamNm.has(n:LamNm X scope cl p CV js)(h:x∈CV):∃c,cl.lookup x=AA c:=Fp (by rw[n.nm];exact h)
noncomputable def jO(js:List Nat)(v:V)(σ:St):St:=AA v::js.map λj=>(σ[j]?).getD AK
theorem zR1{tk:Nat}(n:LamNm X scope cl p CV js)(I:Inv X AE σ H s)(hA:A.frames=AA X.stack)(hh:A.handled=AK)
  (i4:JF.Ns s.heap.objs.size (λy=>[(p,u)].reverse.lookup y)) (H9:∀b o,s.heap.get? b=AA o->JF.get? b=AA o) (r:RelV v u) :
  Inv (eZ X A q scope cl (p::CV) f cd s H) [] (jO js v σ) H { s with heap:=JF,toks:=tk }:=by
 have hl:js.length=CV.length:=by
  have:=congrArg MD n.slot;simpa using this.symm
 refine{{I.tab,I.ok.mod,n.kind,rfl,rfl,AM _,λx y c h1 h2=>I.ok.inj x y c (n.cl_of h1) (n.cl_of h2),λx hx=>?_,(λx c h=>nomatch h),λ_=>hh,XU hA,.inr {rfl,rfl},(λb hb=>nomatch hb),
   I.bs,AZ I.ok.bsz I.sz,(λb o e hb=>nomatch hb),(λb hb=>nomatch hb),I.stack,I.stkFree},
  rfl,I.bare,Un.kept H9,{_,i4,λi x v' e1 e2 e3=>?_},λx c e=>?_,I.hok.fresh (AM _),λx c e=>I.freeC x c (n.cl_of e),(λp hp=>nomatch hp),I.hok.kept H9,?_}
 .have hx:scope.names.lookup x=AA .cell\/scope.names.lookup x=AA .free:=hx
  rcases hx with h|h
  .exact absurd rfl (n.nocell _ (sX h))
  .exact n.has (n.dom _ (sX h) rfl)
 .cases i with
  |zero =>
   have e1:AA p=AA x:=e1;have e2:AA (AA v)=AA (AA v'):=e2;cases e1;cases e2;exact{u,r,.inl {n.loc,by show List.lookup p [(p,u)]=AA u;rw[M1,beq_self_eq_true]}}
  |succ i =>
   have e1:CV[i]?=AA x:=e1;have e2:(js.map λj=>(σ[j]?).getD AK)[i]?=AA (AA v'):=e2;rw[AU] at e2
   cases ej:js[i]? with
   |none=>rw[ej] at e2;cases e2
   |some j =>
    rw[ej] at e2;have e2:AA ((σ[j]?).getD AK)=AA (AA v'):=e2
    have hj:X.N[j]?=AA x:=by
     have q:=congrArg (λl=>l[i]?) n.slot;simp only[AU,e1,ej,GT] at q;exact(BL q).symm
    have hv:σ[j]?=AA (AA v'):=by
     cases es:σ[j]? with
     |none=>rw[es] at e2;cases e2
     |some o=>rw[es] at e2;exact e2
    have a8:x∈CV:=C4 e1;obtain⟨m0,hn0,rG⟩:=I.loc
    have vis:Z2 X.env.scope x:=by
     rcases n.vis x a8 with k|k
     .exact .inr (.inl k)
     .exact .inr (.inr k)
    obtain⟨u,r,lk⟩:=rG j x v' hj hv vis;refine{u,r,.inr {.inr (n.fr x a8),?_}};obtain⟨c,hc⟩:=n.has a8;refine{c,hc,?_};rcases lk with⟨k,_⟩|⟨_,c',ZC,z⟩
    .rcases n.vis x a8 with k'|k'
     .rw[k] at k';cases k'
     .rw[k] at k';cases k'
    .rw[n.cl_of hc] at ZC
     cases ZC;obtain⟨o,ho,hd⟩:=z;exact{o,H9 _ _ ho,hd}
 .obtain⟨v,o,ho,hd⟩:=I.cell x c (n.cl_of e)
  exact{v,o,H9 _ _ ho,hd}
 .show(jO js v σ).length=(p::CV).length
  unfold jO;rw[BB,BB,AJ,hl]
theorem zU9{body:C8}{t:TE}{Q:VK}(n:LamNm X scope cl p CV js)(I:Inv X AE σ H s)(hA:A.frames=AA X.stack)(hr:Room 1 A)
  (ho:s.heap.get? f=AA (M0 "<lambda>" q EW body scope cl pm c' RD)) (L9:s.heap.CodeRec (.ref c') q) (O9:OA (eF "<lambda>" q EW body scope cl pm (.ref c') RD) {[u],[]}=pure [(p,u)])
  (hb:PE (eZ X A q scope cl (p::CV) f (.ref c') s H) body t) (r:RelV v u) (hq:t (jO js v σ) H Q) :
  HN (A1 X.prog X.w) A (.call (.ref f) {[u],[]}) (λr s'=>∃u',r=.ok (.ret u')/\CE X.stack X.prog X.w H s Q u' s') s:=by
 refine PySem.W.kla_callFunE (by have:=hr.dp;lia) ho rfl n.co n.gen rfl L9 ?_;rw[O9];refine wpAny_pure ?_;refine jA n.nocell (λy hy=>by rw[A3.mp hy];exact n.loc) (λJF i4 vR=>{I.nolimit.fresh _ vR,?_}) n.kind;have H9:∀b o,s.heap.get? b=AA o->JF.get? b=AA o:=λb o e=>vR.extBut b o (CA (A9 e)) (AF _ e);have I1:=zR1 (q:=q) (f:=f) (cd:=.ref c') (tk:=s.toks+1) n I hA hr.hd i4 H9 r;show HN _ _ (.expr body (PK q scope s.heap.objs.size f (.ref c') cl)) _ _;refine PySem.W.kla_codeExpr (C7 (hb [] _ _ _ _ I1 hq) (λu' s' h=>?_) λe s' h=>h.elim);obtain⟨v',H',J,rv,qv⟩:=h;exact{u',rfl,v',H',J.os,J.bare,J.base,J.hok,rv,qv}
end
end L2
variable{tl:L2.TE}{p1:gK}
namespace L2
open PySem PySem.Spec PyProof.Rows PySem.W
theorem Paired.perm{F:α->β->Prop}{us ws:List β}(p:ws.Perm us):∀{xs:List α},Paired F xs us->∃ys,ys.Perm xs/\Paired F ys ws:=by
 induction p with
 |nil=>intro xs r;cases r;exact{[],G4 _,.nil}
 |cons a _ ih =>
  intro xs r
  cases r with
  |cons h t =>
   obtain⟨ys,q,r'⟩:=ih t;exact{_::ys,q.cons _,.cons h r'}
 |swap a b l =>
  intro xs r
  cases r with
  |cons h t =>
   cases t with
   |cons h' t'=>exact{_::_::_,HW _ _ _,.cons h' (.cons h t')}
 |trans _ _ a7 ih2 =>
  intro xs r;obtain⟨ys,q,r'⟩:=ih2 r;obtain⟨zs,q2,r2⟩:=a7 r';exact{zs,q2.trans q,r2}
theorem pAL:∀{kz:List Int},Vals ys us->Paired (λ(a:Int×V) (b:Int×AH)=>a.1=b.1/\RelV a.2 b.2) (kz.zip ys) (kz.zip us):=by
 intro kz r
 induction kz generalizing ys us with
 |nil=>exact .nil
 |cons k kz ih=>cases r with
  |nil=>exact .nil
  |cons h t=>exact .cons {rfl,h} (ih t)
theorem pAM:∀{a:List (Int×V)} {b:List (Int×AH)},Paired (λ(a:Int×V) (b:Int×AH)=>a.1=b.1/\RelV a.2 b.2) a b->Vals (a.map FU) (b.map FU)/\a.map QP=b.map QP
 |_,_,.nil=>{.nil,rfl}
 |_,_,.cons h t=>by
  obtain⟨h1,h2⟩:=pAM t;exact{.cons h.2 h1,by rw[AV,AV,h.1,h2]}
def aT(t:Hp->TE)(js:List Nat)(σ:St):List V->List Int->Hp->(List Int->Hp->Prop)->Prop
 |[],acc,H,R=>R acc H
 |y::ys,acc,H,R=>t H (jO js y σ) H λv H'=>∃k,v=.int k/\aT t js σ ys (acc++[k]) H' R
theorem yC4{L:AQ}{m m':CT->Option AH}(a:h.Ns L m)(b:h.Ns L m'):m=m':=by
 obtain⟨o,es,ep,e,d,_,f⟩:=a;obtain⟨o',lG,lH,e',d',_,f'⟩:=b;rw[e] at e';cases e';rw[d] at d';cases d'
 funext x
 rw[<-f x,f' x]
structure Mine(X:Cx)(AE:List (AQ×IE))(b:AQ):Prop where
 loc:b≠X.env.locals
 fs:b∉X.fs
 ab:X.s₀.heap.objs.size<=b
 bs:X.base.get? b=AK
 cel:∀x c,X.env.cells.lookup x=AA c->c≠b
 pin:∀p∈X.pn++AE,p.1≠b
theorem Inv.mine(I:Inv X AE σ H s){b:AQ}(h:s.heap.objs.size<=b):Mine X AE b where
 loc:=FR (AN I.lt h)
 fs:=I.nofs h
 ab:=AZ I.sz h
 bs:=ZK (AZ (AZ I.ok.bsz I.sz) h)
 cel:=λx c e z=>by
  obtain⟨v,o,ho,_⟩:=I.cell x c e;subst z;exact GJ _ (AN (A9 ho) h)
 pin:=λp hp z=>by
  subst z;exact GJ _ (AN (A9 (I.pin p hp).1) h)
theorem Inv.stkNo(I:Inv X AE σ H s){b:AQ}(m:Mine X AE b):b∉RA X.stack:=λhb=>by
 rcases BC.mp (I.stkSub b hb) with z|z
 .exact m.loc z
 .exact m.fs z
theorem Inv.unpin{p:AQ×IE}(I:Inv X (p::AE) σ H s):Inv X AE σ H s :=
 {I.ok,I.os,I.bare,I.base,I.loc,I.cell,I.free,I.freeC,λq hq=>I.pin q ((BX.mp hq).elim (DH _) λz=>BM _ (A4 _ z)),I.hok,I.len}
def bZ(Q:VK)(ys:List V):List Int->Hp->Prop:=λkz H=>∀ps:List (Int×V),ps.Perm (kz.zip ys)->(ps.Pairwise λa b=>a.1<=b.1)->∀D,H D=AK->Q (.ref D) (D6 H D (.lst (ps.map FU)))
section
variable{p:CT}{body:C8}{t:Hp->TE}{o:IE}
theorem zR3{kS:AQ}{kA:Array AH}{e e1:Nat}{kz:List Int}{Q:VK}{P:eJ->AT->Prop}
  (I:Inv X AE σ H s) (ma:Mine X AE a) (mk:Mine X AE kS) (Aw:kS≠a) (ea:s.heap.get? a=AA (D8 "list" #[] e1)) (ek:s.heap.get? kS=AA (D8 "list" kA e)) (na:H a=AK) (nk:H kS=AK)
  (hk:GP kA.toList kz) (EX:kz.length=BZ.length) (gA:BZ.length<64) (rv:Vals ys BZ)
  (hq:bZ Q ys kz H)
  (hP:∀s',EP X AE σ Q (.ref a) s'->P (.done (.ret .none)) s') :
  A0 (A1 X.prog X.w) A (ksk_end a AD BZ.toArray e1 (.ref kS) kA) P E s:=by
 obtain⟨m,F⟩:=I.fr
 have N:News X.base X.env.locals s.heap ((sP X.base s.heap X.env.locals).filter (λp=>decide (p.1≠kS/\p.1≠a))++[(kS,D8 "list" kA e),(a,D8 "list" #[] e1)]):=λp hp=>by
  rcases BX.mp hp with hp|hp
  .exact zTI p (DI.mp hp).1
  .rcases BC.mp hp with rfl|hp
   .exact{ek,mk.loc,mk.bs}
   .rw[A3.mp hp];exact{ea,ma.loc,ma.bs}
 refine ksk_end_ (b:=AD) F N Aw (λp hp=>(of_decide_eq_true (DI.mp hp).2).1) (λp hp=>(of_decide_eq_true (DI.mp hp).2).2) hk EX gA λh' tk out c F' N' ko=>hP _ ?_;obtain⟨ps,pp,eo,pw⟩:=ko;obtain⟨qs,qp,qr⟩:=Paired.perm pp (pAL (kz:=kz) rv);obtain⟨r1,r2⟩:=pAM qr
 have cV:∀b ob,b≠X.env.locals->b≠kS->b≠a->s.heap.get? b=AA ob->h'.get? b=AA ob:=λb ob h1 h2 h3 eb=>by
  cases g:X.base.get? b with
  |some u =>
   have:=I.bk b u g;rw[eb] at this;cases this;exact F'.keep b _ g
  |none=>exact(N' (b,ob) (A4 _ (DI.mpr {zMQ h1 g eb,decide_eq_true {h2,h3}}))).1
 have hL:∃oL,h'.get? X.env.locals=AA oL:=let ⟨oL,_,_,eL,_⟩:=F'.ns;{oL,eL};have qW:∀b u,H b=AA u->b≠X.env.locals/\b≠kS/\b≠a:=λb u eb=>{λz=>(by rw[z,I.free] at eb;cases eb),λz=>(by rw[z,nk] at eb;cases eb),λz=>(by rw[z,na] at eb;cases eb)};have up:∀b u,H b=AA u->D6 H a (.lst (qs.map FU)) b=AA u:=λb u eb=>by rw[EV (qW b u eb).2.2];exact eb
 have hz:(qs.map FU).length<64:=by
  rw[AJ,qp.length_eq,List.length_zip,EX,rv.length];exact AS (lQ _ _) gA
 refine{.ref a,D6 H a (.lst (qs.map FU)),I.step (g':=s.gens) (d':=s.drawn) (t':=tk) (ch:=[kS,a]) (λb hb=>?_) (λb ob h1 _ hc eb _=>cV b ob h1 (λz=>hc (by simp[z])) (λz=>hc (by simp[z])) eb)
  (λb ob h1 _ hc eb _=>{ob.slots,cV b ob h1 (λz=>hc (by simp[z])) (λz=>hc (by simp[z])) eb}) (λb ob hc eb n=>by rw[EV (λz=>hc (by simp[z]))];exact n) (λb ob hc eb=>?_)
  (λb xs eb=>up b _ eb) (λb ob u eb=>up b _ eb) (λb t ps eb=>{#[],by rw[up b _ eb];simp}) (λm0 Yx=>by rw[yC4 Yx F.ns];exact F'.ns) (λb u eb=>?_) I.bare,rfl,hq qs qp ?_ a na}
 .rcases BC.mp hb with rfl|hb
  .exact{.inr mk.ab,mk.loc,mk.cel,mk.pin}
  .rw[A3.mp hb]
   exact{.inr ma.ab,ma.loc,ma.cel,ma.pin}
 .by_cases h1:b=X.env.locals
  .subst h1;exact hL
  .exact{ob,cV b ob h1 (λz=>hc (by simp[z])) (λz=>hc (by simp[z])) eb}
 .by_cases hb:b=a
  .subst hb
   rw[HB] at eb;cases eb;refine{by rw[GE];lia,out.toList,c,by rw[eo];exact r1,?_};have:=(N' (b,D8 "list" out c) (.head _)).1;simpa using this
  .rw[EV hb] at eb
   refine(I.hok b u eb).stay (λd v hc z=>?_) (λd z=>up d _ z) (λd xs z=>up d _ z) λd ob x z=>up d _ z;rcases hc with rfl|hc
   .obtain⟨h1,h2,h3⟩:=qW d u eb
    exact cV d v h1 h2 h3 z
   .obtain⟨h1,h2,h3⟩:=qW d _ hc
    exact cV d v h1 h2 h3 z
 .have:(qs.map QP).Pairwise (·<=·):=by
   rw[r2,D2];exact pw.imp λh=>by simpa using h
  rw[D2] at this;exact this
end
section
variable{p:CT}{body:C8}{t:Hp->TE}{o:IE}
theorem zPL{kS:AQ}{e1:Nat}{Q:VK}{P:eJ->AT->Prop}{vs:Array AH}{tq:eE}(n:LamNm X scope cl p CV js)
  (I:Inv X ((f,kla_obj "<lambda>" q EW body scope cl pm c' RD)::AE) σ H s) (ma:Mine X ((f,kla_obj "<lambda>" q EW body scope cl pm c' RD)::AE) a) (mk:Mine X ((f,kla_obj "<lambda>" q EW body scope cl pm c' RD)::AE) kS) (Aw:kS≠a)
  (ea:s.heap.get? a=AA (D8 "list" #[] e1)) (ek:s.heap.get? kS=AA (D8 "list" #[] 0)) (na:H a=AK) (nk:H kS=AK) (hc:H c'=AA (.frz o (.own c'))) (ho:o.data=.fields vs) (hv:vs[1]?=AA (.str q tq))
  (gA:BZ.length<64) (rv:Vals ys BZ) (hA:A.frames=AA X.stack) (hr:Room 1 A) (O9:∀u,OA (kla_fn "<lambda>" q EW body scope cl pm (.ref c') RD) {[u],[]}=pure [(p,u)])
  (hb:∀s H,PE (eZ X A q scope cl (p::CV) f (.ref c') s H) body (t H))
  (UM:aT t js σ ys [] H (bZ Q ys))
  (hP:∀s',EP X AE σ Q (.ref a) s'->P (.done (.ret .none)) s') :
  A0 (A1 X.prog X.w) A (ksk_rest a (.ref f) AD BZ.toArray e1 (.ref kS)) P E s:=by
 unfold ksk_rest;refine AB (FJ ?_)
 first
  |rw[List.forIn_toArray]
  |(rw[<-LB];simp only[List.toList_toArray])
  |rw[<-LB]
 refine AB (ksk_fold (λi s'=>∃kA e H' acc,Inv X ((f,kla_obj "<lambda>" q EW body scope cl pm c' RD)::AE) σ H' s'/\s'.heap.get? a=AA (D8 "list" #[] e1)/\s'.heap.get? kS=AA (D8 "list" kA e)/\H' a=AK/\H' kS=AK /\
  GP kA.toList acc/\acc.length=i/\aT t js σ (ys.drop i) acc H' (bZ Q ys)/\H' c'=AA (.frz o (.own c'))) BZ 0 s
  {#[],0,H,[],I,ea,ek,na,nk,by simpa using IntsAre.nil,rfl,UM,hc} ?step ?done)
 case step =>
  rintro j x s' hx ⟨kA,e,H',acc,I',Bg,oW,rB,Ap,hk,EX,oE,ZC⟩;simp only[ES] at EX oE ⊢;have hj:j<BZ.length:=(AR.mp hx).1;have hy:j<ys.length:=by rw[rv.length];exact hj
  obtain⟨u,hu,r⟩:=rv.get (BO hy);rw[hx] at hu;cases hu;rw[FL hy] at oE;have L9:s'.heap.CodeRec (.ref c') q:={c',o,vs,tq,rfl,(I'.hok _ _ ZC).1,ho,hv};have hfo:=(I'.pin _ (BM _ (.head _))).1
  have wI:A0 (A1 X.prog X.w) A (call (.ref f) [x]) (λu' fP=>CE X.stack X.prog X.w H' s' (λv Bk=>∃k,v=.int k/\aT t js σ (ys.drop (j+1)) (acc++[k]) Bk (bZ Q ys)) u' fP) (λ_ _=>False) s' :=
   SI (MA (zU9 n I' hA hr hfo L9 (O9 x) (hb s' H') r oE) λr fP h=>by
    obtain⟨u',rfl,ce⟩:=h
    exact ce)
  refine AB (GR (C7 wI (λu' fP he=>?_) λ_ _ hF=>hF.elim));obtain⟨v,Bk,os,bare,un,hok,rv',k,rfl,Kk⟩:=he;obtain⟨t2,rfl⟩:∃t2,u'=.int k t2:=rv';obtain⟨hh,g,d,Xq,Ig⟩:=fP;obtain rfl:Ig=s'.os:=os;have I2:=I'.call (h':=hh) (g':=g) (d':=d) (t':=Xq) (ch:=[]) un hok bare (λb z=>absurd z 's');have Zp:hh.get? kS=AA (D8 "list" kA e):=un.keep kS _ oW Ap (I'.stkNo mk) 's';have ea2:hh.get? a=AA (D8 "list" #[] e1):=un.keep a _ Bg rB (I'.stkNo ma) 's';have Yf:=un.free kS _ oW Ap 's';have na2:=un.free a _ Bg rB 's';have dR:=un.frzs _ _ _ ZC
  have hz:kA.size<=BZ.length:=by
   have h1:=hk.length;rw[KO] at h1;lia
  try dsimp only
  have s1:=GU hh kS (DD (·.push (.int k t2)));obtain⟨e2,Kz⟩:∃c2,(hh.update kS (DD (·.push (.int k t2)))).get? kS=AA (D8 "list" (kA.push (.int k t2)) c2):={_,XA Zp (·.push (.int k t2))};refine AB (NX Zp rfl ?_ (by rw[GE];lia) (AZ (CY (EH ..)) (by rw[GE];lia)));have I3:=I2.turned (h':=hh.update kS (DD (·.push (.int k t2)))) (t':=Xq) (it:=kS) (λb ob hb eb=>(s1.2 b hb).trans eb) Yf mk.loc (.inr mk.ab) mk.cel mk.pin;have el:(kA.push (MV k t2)).toList=kA.toList++[MV k t2]:=by simp
  exact wpAny_pure {rfl,kA.push (.int k t2),e2,Bk,acc++[k],I3,(s1.2 a Aw.symm).trans ea2,Kz,na2,Yf,by rw[el];exact ksk_snoc hk,by rw[BH,EX];rfl,Kk,dR}
 case done =>
  rintro s' ⟨kA,e,H',acc,I',Bg,oW,rB,Ap,hk,EX,oE,ZC⟩;rw[ES] at EX oE;rw[JV (by rw[rv.length];exact AM _)] at oE
  try dsimp only
  refine AB (eD oW rfl ?_);refine zR3 I'.unpin {ma.loc,ma.fs,ma.ab,ma.bs,ma.cel,λp hp=>ma.pin p ?_} {mk.loc,mk.fs,mk.ab,mk.bs,mk.cel,λp hp=>mk.pin p ?_} Aw Bg oW rB Ap hk EX gA rv oE hP
  all_goals exact(BX.mp hp).elim (DH _) λz=>BM _ (A4 _ z)
end
section
variable{p:CT}{body:C8}{t:Hp->TE}{o:IE}
theorem zR4{Q:VK}{vs:Array AH}{tq:eE}(n:LamNm X scope cl p CV js)
  (I:Inv X ((f,kla_obj "<lambda>" q EW body scope cl pm c' RD)::AE) σ H s) (hc:H c'=AA (.frz o (.own c'))) (ho:o.data=.fields vs) (hv:vs[1]?=AA (.str q tq))
  (hl:SqL X.K H l ys) (gA:ys.length<64) (hr:Room 3 X.A) (O9:∀u,OA (kla_fn "<lambda>" q EW body scope cl pm (.ref c') RD) {[u],[]}=pure [(p,u)])
  (hb:∀s H,PE (eZ X X.A.in1.in1 q scope cl (p::CV) f (.ref c') s H) body (t H)) (UM:aT t js σ ys [] H (bZ Q ys)) :
  A0 (A1 X.prog X.w) X.A (call (.builtin "sorted") [.ref l] [(EE "key",.ref f)]) (EP X AE σ Q) X.xe s:=by
 obtain⟨BZ,rv,pl,z⟩:=I.list hl;have EX:=rv.length;refine call_function_entry_kw kind_sorted plain_sorted entry_sorted (ksk_s1 _ _) ?_;unfold FG.«sorted»;refine AB (m:=checkCount "sorted" 1 1 _) (wpAny_pure ?_);refine AB (collect_list pl.isList ?_ (by rw[GE];lia));refine AB (RF ?_ (by rw[GE];lia))
 have hsz:((s.heap.push (D8 "list" #[] 0)).update s.heap.objs.size (DD (·++BZ.toArray))).objs.size=s.heap.objs.size+1:=by
  rw[M4,YI]
 have k4:(((s.heap.push (D8 "list" #[] 0)).update s.heap.objs.size (DD (·++BZ.toArray))).push (D8 "list" BZ.toArray 0)).get? (s.heap.objs.size+1)=AA (D8 "list" BZ.toArray 0):=by
  rw[<-hsz];exact AX _ rfl
 have keep:∀b o,s.heap.get? b=AA o->(((s.heap.push (D8 "list" #[] 0)).update s.heap.objs.size (DD (·++BZ.toArray))).push (D8 "list" BZ.toArray 0)).get? b=AA o:=λb o q=>by
  have JL:b<s.heap.objs.size:=A9 q;rw[MF _ _ _ (by rw[hsz];exact CA (JZ JL)),OZ _ _ _ _ (CA JL),MF _ _ _ (CA JL)];exact q
 have M6:(((s.heap.push (D8 "list" #[] 0)).update s.heap.objs.size (DD (·++BZ.toArray))).push (D8 "list" BZ.toArray 0)).objs.size=s.heap.objs.size+2:=by rw[YI,hsz]
 show A0 _ _ _ _ _ { s with heap:=((s.heap.push (D8 "list" #[] 0)).update s.heap.objs.size (DD (·++BZ.toArray))).push (D8 "list" BZ.toArray 0) };rw[hsz];generalize hg0:((s.heap.push (D8 "list" #[] 0)).update s.heap.objs.size (DD (·++BZ.toArray))).push (D8 "list" BZ.toArray 0)=g0 at k4 keep M6;refine AB (CZ (wpAny_call_entry_kw slot_list_sort {_,k4,rfl} entry_list_sort ?body (ksk_l1 _ _)))
 case body =>
  show A0 (A1 X.prog X.w) X.A.in1.in1 (FG.«list.sort» {[.ref (s.heap.objs.size+1)],[(EE "key",.ref f)]}) _ _ _;rw[ksk_t1];have s1:=GU g0 (s.heap.objs.size+1) (DD λ_=>(#[]:Array AH));obtain⟨e1,rF⟩:∃e1,(g0.update (s.heap.objs.size+1) (DD λ_=>(#[]:Array AH))).get? (s.heap.objs.size+1)=AA (D8 "list" #[] e1):={_,XA k4 λ_=>#[]};unfold ksk_tree;refine AB (eD k4 rfl ?_);refine AB (NX k4 rfl ?_ (by rw[AW,GE];lia) (BS _));refine AB (WC rF rfl ?_);refine AB (MS ?_ (by show BZ.length<=_;rw[GE];lia));refine AB (RF ?_ (BS _));refine CZ ?_;have hg1:(g0.update (s.heap.objs.size+1) (DD λ_=>(#[]:Array AH))).objs.size=s.heap.objs.size+2:=by rw[M4,M6]
  have kR:∀b o,s.heap.get? b=AA o->(((g0.update (s.heap.objs.size+1) (DD λ_=>(#[]:Array AH))).push (D8 "tuple" BZ.toArray 0)).push (D8 "list" #[] 0)).get? b=AA o:=λb o e =>
   AF _ (AF _ ((s1.2 b (CA (JZ (A9 e)))).trans (keep b o e)))
  have Km:((g0.update (s.heap.objs.size+1) (DD λ_=>(#[]:Array AH))).push (D8 "tuple" BZ.toArray 0)).objs.size=s.heap.objs.size+3:=by rw[YI,hg1]
  have I2:Inv X ((f,kla_obj "<lambda>" q EW body scope cl pm c' RD)::AE) σ H { s with heap:=((g0.update (s.heap.objs.size+1) (DD λ_=>(#[]:Array AH))).push (D8 "tuple" BZ.toArray 0)).push (D8 "list" #[] 0) } :=
   I.un (t':=s.toks) (Un.kept kR) (I.hok.kept kR)
  refine zPL (s:={ s with heap:=((g0.update (s.heap.objs.size+1) (DD λ_=>(#[]:Array AH))).push (D8 "tuple" BZ.toArray 0)).push (D8 "list" #[] 0) }) (a:=s.heap.objs.size+1) (kS:=((g0.update (s.heap.objs.size+1) (DD λ_=>(#[]:Array AH))).push (D8 "tuple" BZ.toArray 0)).objs.size) n I2 (I.mine (KM _)) (I.mine (by rw[Km];exact A2 _ 3)) (by rw[Km];intro z;have:s.heap.objs.size+3=s.heap.objs.size+1:=z;lia)
   (AF _ (AF _ rF)) (AX _ rfl) (I.hok.fresh (KM _)) (I.hok.fresh (by rw[Km];exact A2 _ 3)) hc ho hv (by rw[<-EX];exact gA) rv I.ok.frames hr.in1.in1 O9 hb UM λs' h=>{_,rfl,?_}
  exact wpAny_pure {_,rfl,h}
end
theorem LamStp.rd{T:AQ}(st:LamStp T q H H'){u:HO}(h:H a=AA u)(hu:∀ps,u≠.tbl q ps):H' a=AA u:=by
 rcases st with rfl|⟨ps,aZ,c',o,hT,hc,oJ,rfl⟩
 .exact h
 .rw[EV (λz=>by rw[z,hc] at h;cases h),EV (λz=>by rw[z,hT] at h;cases h;exact hu _ rfl)]
  exact h
theorem LamStp.sq{T:AQ}{K:Frag}(st:LamStp T q H H')(h:SqL K H l ys):SqL K H' l ys :=
 h.imp (λz=>z.imp (λz=>st.rd z λ_ y=>by cases y) (λq0=>by obtain⟨o,z⟩:=q0;exact{o,st.rd z λ_ y=>by cases y})) id
def Nt(K:Frag)(T:AQ)(q:CT)(tl:TE)(t:Hp->TE)(js:List Nat):TE:=λσ H Q=>tl σ H λx H1=>∃l ys,x=.ref l/\SqL K H1 l ys/\ys.length<64/\∀H2,LamStp T q H1 H2->aT t js σ ys [] H2 (bZ Q ys)
section
variable{p:CT}{body:C8}{t:Hp->TE}{c T:AQ}{l:C8}
theorem Qf(hm:X.mg "sorted"=AK)(hl:PE X l tl)(n:LamNm X scope cl p CV js)(hr:Room 3 X.A)(ZB:X.env.code=.ref c)(C:CodeHd X.base c T)(tb:TB X.K T q)(hq:X.env.qual++("<lambda>":CT)=q)(oG:defaultsOf EW X.env=([],[]))
  (O9:∀pm c' RD u,OA (kla_fn "<lambda>" q EW body scope cl pm (.ref c') RD) {[u],[]}=pure [(p,u)]) (hb:∀f c' s H,PE (eZ X X.A.in1.in1 q scope cl (p::CV) f (.ref c') s H) body (t H)) (hg:Gl X "sorted":=by rfl)
  (he:DO pos (AO [l] X.env)=(AD,eval l X.env)::DO pos (AO [] X.env):=by rfl) (JW:(DO pos (AO [l] X.env)).any (·.1)=AD:=by rfl)
  (a9:AO [l] X.env=(AD,eval l X.env)::AO [] X.env:=by rfl) :
  PE X (.Call (.Name "sorted" p1) [l] [{AA "key",.Lambda EW body scope Z5,TN}] pos) (Nt X.K T q tl t js):=by
 intro AE s σ H Q I h;refine IA (j9 I hg hm rfl ?_);refine callWith_kw (GV (TC hl HZ a9 pos AE s σ H (λvs H1=>∃l ys,vs=[.ref l]/\SqL X.K H1 l ys/\ys.length<64/\∀H2,LamStp T q H1 H2->aT t js σ ys [] H2 (bZ Q ys)) I ?_) λus s1 h1=>?_) he JW rfl rfl
 .have h':tl σ H λx H1=>∃l ys,x=.ref l/\SqL X.K H1 l ys/\ys.length<64/\∀H2,LamStp T q H1 H2->aT t js σ ys [] H2 (bZ Q ys):=h
  show tl σ H λx H1=>∃l ys,[x]=[.ref l]/\SqL X.K H1 l ys/\ys.length<64/\∀H2,LamStp T q H1 H2->aT t js σ ys [] H2 (bZ Q ys)
  have ee:(λ(x:V) (H1:Hp)=>∃l ys,[x]=[V.ref l]/\SqL X.K H1 l ys/\ys.length<64/\∀H2,LamStp T q H1 H2->aT t js σ ys [] H2 (bZ Q ys))=λx H1=>∃l ys,x=V.ref l/\SqL X.K H1 l ys/\ys.length<64/\∀H2,LamStp T q H1 H2->aT t js σ ys [] H2 (bZ Q ys):=by
   funext x H1
   simp only[ZJ,and_true]
  rw[ee];exact h'
 .obtain⟨vs,H1,I1,r,l',ys,rfl,hs,gA,hk⟩:=h1
  obtain⟨u,rfl,ru⟩:=ZV r;cases ru;show A0 _ _ (evalAll [(do let v <-eval (.Lambda EW body scope Z5) X.env;IZ pos;pure v)]) _ _ s1;refine wpAny_evalAll_cons (AB (zU8 I1 ZB C tb hq n.clos oG λf c' pm RD s2 H2 o I2 st hc L9 hsz=>AB (IK (wpAny_pure (wpAny_evalAll_nil ?_)))));obtain⟨c2,o2,Xl,tq,e2,g2,d2,v2⟩:=L9;cases e2;have:=(I2.hok _ _ hc).1;rw[g2] at this;cases this;exact zR4 n I2 hc d2 v2 (st.sq hs) gA hr (O9 pm c' RD) (hb f c') (hk H2 st)
end
end L2
variable{E1 E2:L2.Ev}
namespace L2
open PySem PySem.Spec PyProof.Rows
def Nr(ge:G)(ds:List D)(y:D):Out Int:=(ge (.val y::ds.map .val)).bind λr=>match r.1 with|.int k=>.ok k|_=>.bad
def eR(ge:G)(ds:List D):List D->Out (List Int)
 |[]=>.ok []
 |y::ys=>(Nr ge ds y).bind λk=>(eR ge ds ys).bind λks=>.ok (k::ks)
noncomputable def shareJ:List Nat->Ev->Ev
 |[],E=>E
 |j::js,E=>shareJ js (match E[j]? with|some (.own _ d)=>E.set j (.val d)|_=>E)
noncomputable def valsJ(E:Ev):List Nat->Option (List D)
 |[]=>AA []
 |j::js=>match E[j]? with
  |some (.val d)=>(valsJ E js).map (d::·)
  |_=>AK
def bY(kz:List Int)(ys:List D)(qs:List (Int×D)):Prop:=qs.Perm (kz.zip ys)/\qs.Pairwise λa b=>a.1<=b.1
section
variable{K:AC}{E:Ev}{T:AQ}
theorem LamStp.new(s:Sub F H)(st:LamStp T q H H'):∃F',New F H F' H':=by
 rcases st with rfl|⟨ps,aZ,c',o,hT,hc,oJ,rfl⟩
 .exact{F,.refl s}
 .have hFc:F c'=AK:=by
   cases e:F c' with
   |none=>rfl
   |some u=>rw[s _ _ e] at hc;cases hc
  have ot:∀a,a≠T->a≠c'->D6 (D6 H T (.tbl q aZ)) c' (.frz o (.own c')) a=H a:=λa h1 h2=>by rw[EV h2,EV h1]
  have tt:D6 (D6 H T (.tbl q aZ)) c' (.frz o (.own c')) T=AA (.tbl q aZ):=by rw[EV (E8 oJ),HB]
  refine{λa=>if a=T then(F T).map λ_=>.tbl q aZ else F a,{λa u e hw _ _=>?_,λa e=>?_,λa u e=>?_,λa u e=>?_,λ_ z=>z.elim},λa u e=>?_}
  .rw[ot a (λz=>by rw[z,hT] at e;cases e;exact hw) (λz=>by rw[z,hc] at e;cases e)];exact e
  .by_cases h1:a=T
   .rw[h1,tt] at e;cases e
   .by_cases h2:a=c'
    .rw[h2];exact hc
    .rw[ot a h1 h2] at e;exact e
  .by_cases h1:a=T
   .subst h1
    have:=s _ _ e;rw[hT] at this;cases this;exact .inr (.inr {q,ps,aZ,rfl,by rw[if_pos rfl,e];rfl})
   .exact .inl (by rw[if_neg h1];exact e)
  .by_cases h1:a=T
   .subst h1
    rw[if_pos rfl] at e
    cases e1:F a with
    |none=>rw[e1] at e;cases e
    |some v=>exact .inl nofun
   .rw[if_neg h1] at e;exact .inl (by rw[e];exact nofun)
  .dsimp only at e
   by_cases h1:a=T
   .subst h1
    rw[if_pos rfl] at e
    cases e1:F a with
    |none=>rw[e1] at e;cases e
    |some v=>rw[e1] at e;cases e;exact tt
   .rw[if_neg h1] at e
    rw[ot a h1 (λz=>by rw[z,hFc] at e;cases e)];exact s a u e
theorem Sim.shareJ:∀(js:List Nat) {F:Hp} {E:Ev},Sim K H₀ τ F H σ E->∃F',Stp (DY σ E) F H F' H (DY σ (L2.shareJ js E))/\Sim K H₀ τ F' H σ (L2.shareJ js E)
 |[],F,E,S=>{F,.refl,S}
 |j::js,F,E,S=>by
  unfold L2.shareJ;split
  .rename_i t d e
   obtain⟨a,F1,_,st,S1,_⟩:=S.share e;obtain⟨F2,st2,S2⟩:=Sim.shareJ js S1;exact{F2,st.trans st2,S2}
  .exact Sim.shareJ js S
theorem Sim.valsJ(S:Sim K H₀ τ F H σ E):∀{js:List Nat} {ds:List D},L2.valsJ E js=AA ds->∃ws,(js.map λj=>(σ[j]?).getD AK)=ws.map AA/\Reps K F ws ds
 |[],_,e=>by cases e;exact{[],rfl,.nil}
 |j::js,ds,e=>by
  unfold L2.valsJ at e;split at e
  .rename_i d ej
   cases e2:L2.valsJ E js with
   |none=>rw[e2] at e;cases e
   |some VH =>
    rw[e2] at e;cases e;obtain⟨ws,h1,h2⟩:=S.valsJ e2;obtain⟨v,hv,hr⟩:=S.val j d ej;exact{v::ws,by rw[AV,h1,hv];rfl,.cons hr h2}
  .cases e
theorem yC5{ge:G}{ds:List D}(hv:L2.valsJ E js=AA ds){R:List Int->Hp->Prop}:∀{ys:List D} {vs:List V} {acc kz:List Int} {F H:Hp},Sim K H₀ τ F H σ E->Reps K F vs ys->eR ge ds ys=.ok kz ->
  (∀F' H',New F H F' H'->R (acc++kz) H')->aT (λH=>tV K H ge) js σ vs acc H R
  := by
 intro ys
 induction ys with
 |nil =>
  intro vs acc kz F H S r e k;cases r;cases e;have:=k F H (.refl S.sub);rw[DJ] at this;exact this
 |cons y ys ih =>
  intro vs acc kz F H S r e k
  cases r with
  |@cons v _ kL _ ry rys =>
  unfold eR at e;obtain⟨k1,e1,e⟩:=pA3 e;obtain⟨ks,e2,e⟩:=pA3 e;cases e;unfold Nr at e1;obtain⟨rr,e3,e1⟩:=pA3 e1;obtain⟨ws,hws,rws⟩:=S.valsJ hv;have oI:jO js v σ=(v::ws).map AA:=by unfold jO;rw[hws];rfl
  show tV K H ge (jO js v σ) H _;rw[oI];refine{0,F,(y::ds).map Sl.val,rr.1,rr.2,Sim.args S.sub (.cons ry rws),e3,λv2 F2 H2 st S2 r2=>?_};split at e1
  .rename_i kk ek
   cases e1;rw[ek] at r2;obtain rfl:=r2.vI;have n:New F H F2 H2:={{λa o q1 q2 q3 _=>st.keep a o q1 q2 q3 (xC a),st.dom,st.le,λa o z=>(st.new a o z).imp_right λz=>z.imp_right λz=>(xC a z).elim,λ_ z=>z.elim},S2.sub}
   exact{_,rfl,ih (S.new n) (rys.le n.1.le) e2 λF' H' n'=>by
    rw[CM]
    exact k F' H' (n.trans n')}
  .cases e1
theorem yH5{ys:List D}:∀{kz:List Int},Reps K F vs ys->Paired (λ(b:Int×D) (a:Int×V)=>a.1=b.1/\Rep K F a.2 b.2) (kz.zip ys) (kz.zip vs):=by
 intro kz r
 induction kz generalizing vs ys with
 |nil=>exact .nil
 |cons k kz ih=>cases r with
  |nil=>exact .nil
  |cons h t=>exact .cons {rfl,h} (ih t)
theorem Wd:∀{a:List (Int×D)} {b:List (Int×V)},Paired (λ(b:Int×D) (a:Int×V)=>a.1=b.1/\Rep K F a.2 b.2) a b->Reps K F (b.map FU) (a.map FU)/\a.map QP=b.map QP
 |_,_,.nil=>{.nil,rfl}
 |_,_,.cons h t=>by
  obtain⟨h1,h2⟩:=Wd t;exact{.cons h.2 h1,by rw[AV,AV,h.1,h2]}
theorem Qe{gl ge:G}{Q:VK}(h:∃τ F E ys E1 ds kz,Sim K H₀ τ F H σ E/\gl E=.ok (.lst ys,E1)/\ys.length<64/\L2.valsJ (L2.shareJ js E1) js=AA ds/\eR ge ds ys=.ok kz /\
   ∀qs,bY kz ys qs->∀a F' H',Stp (DY σ E) F H F' H' (DY σ (L2.shareJ js E1))->Sim K H₀ τ F' H' σ (L2.shareJ js E1)->F' a=AK->H a=AK->OwnAt K F' H' a (.lst (qs.map FU))->¬DY σ (L2.shareJ js E1) a->Q (.ref a) H') :
  Nt K T q (tV K H₀ gl) (λH=>tV K H ge) js σ H Q:=by
 obtain⟨τ,F,E,ys,E1,ds,kz,S,e1,gA,hv,hk,k⟩:=h;refine{τ,F,E,_,_,S,e1,λv F1 H1 st1 S1 r1=>?_}
 cases r1 with
 |@lst l vs _ sq rs =>
 refine{l,vs,rfl,sq.imp S1.sub.rd id,by rw[rs.length];exact gA,λH2 ls=>?_};obtain⟨F2,n2⟩:=ls.new S1.sub;obtain⟨F3,KN,S3⟩:=(S1.new n2).shareJ js;have Xw:Reps K F3 vs ys:=(rs.le n2.1.le).le KN.le;refine yC5 hv S3 Xw hk λF4 H4 n4 ps pp pw D hD=>?_;rw[GC] at pp;have rs4:=Xw.le n4.1.le;obtain⟨qs,qp,qr⟩:=Paired.perm pp (yH5 (kz:=kz) rs4);obtain⟨r5,r6⟩:=Wd qr
 have hF:F4 D=AK:=by
  cases e:F4 D with
  |none=>rfl
  |some u=>rw[n4.2 _ _ e] at hD;cases hD
 have n5:New F4 H4 F4 (D6 H4 D (.lst (ps.map FU))):=pA6 n4.2 (Gr.new hD);have S4:=S3.new n4;have st:Stp (DY σ E) F H F4 (D6 H4 D (.lst (ps.map FU))) (DY σ (L2.shareJ js E1)):=(((st1.trans n2.stp).trans KN).trans n4.stp).trans n5.stp;refine k qs {qp,?_} D F4 _ st (S4.new n5) hF ?_ {_,HB,r5} (S4.fresh hD)
 .have:(qs.map QP).Pairwise (·<=·):=by rw[r6,D2];exact pw
  rw[D2] at this;exact this
 .exact(((st1.trans n2.stp).trans KN).trans n4.stp:Stp (DY σ E) F H F4 H4 _).dom D hD
end
section
variable{K:AC}{g:GS}
theorem yC7{t:Tg}{E:Ev}{ds:List D}{r:Fl}(k:FlOk K H₀ τ (DY σ E) F H D' r)(s1:Stp (DY σ E) F H F1 H1 (DY σ E1))(S1:Sim K H₀ τ F1 H1 σ E1)(w1:Walks K J F1 ds)(hg:UD t g ds E1=.ok r) :
  ∃W:Nat->Nat->St->Hp->Prop,(∃m,W 0 m σ H1)/\∀i m σ H,W i m σ H ->
   (J.stop i H/\D'.nx σ H)\/(J.go i H/\∃N:St->Hp->Prop,(∀σ' H',N σ' H'->∃m',m'<m/\W (i+1) m' σ' H')/\∀x H',J.yld i H x H'->tG K H₀ t x σ H' λσ2 H2=>tS K H₀ g { D' with nx:=N,ct:=N,bk:=D'.nx } σ2 H2):=by
 refine{λi m σ2 H2=>m=ds.length-i/\i<=ds.length/\∃F2 E2,Sim K H₀ τ F2 H2 σ2 E2/\Stp (DY σ E) F H F2 H2 (DY σ2 E2)/\Le F1 F2/\UD t g (ds.drop i) E2=.ok r,{_,rfl,BS _,F1,E1,S1,s1,.refl _,by rw[OG];exact hg},?_};rintro i m σ2 H2 ⟨rfl,Ax,F2,E2,S2,s2,l2,h2⟩;obtain⟨w2,w3,w4⟩:=w1 i F2 H2 l2 S2.sub
 by_cases hi:i<ds.length
 .obtain⟨d,hd⟩:∃d,ds[i]?=AA d:={ds[i],by simp[hi]}
  have wD:ds.drop i=d::ds.drop (i+1):=by
   rw[FL hi];have:ds[i]=d:=by rw[BO hi] at hd;exact BL hd
   rw[this]
  rw[wD,UD] at h2;obtain⟨E3,e3,h2⟩:=pA3 h2;obtain⟨q,e4,h2⟩:=pA3 h2;refine .inr {w2 hi,λσ5 H5=>∃F5 E5,Sim K H₀ τ F5 H5 σ5 E5/\Stp (DY σ E) F H F5 H5 (DY σ5 E5)/\Le F1 F5/\UD t g (ds.drop (i+1)) E5=.ok r,λσ5 H5 ⟨F5,E5,a1,a2,a3,a4⟩=>{_,by omega,rfl,hi,F5,E5,a1,a2,a3,a4},λx H' y=>?_};obtain⟨F3,n3,r3⟩:=w4 x H' d hd y;refine{τ,F3,E2,d,E3,S2.new n3,r3,e3,λσ4 S4 h4 _=>{τ,F3,E3,q,S4,e4,?_}};have s4:Stp (DY σ E) F H F3 H' (DY σ4 E3):=(s2.trans n3.stp).weak h4;have l3:Le F1 F3:=l2.trans n3.1.le
  cases q with
  |nx E5=>exact λσ5 F5 H5 s5 S5=>{F5,E5,S5,s4.trans s5,l3.trans s5.le,h2}
  |ct E5=>exact λσ5 F5 H5 s5 S5=>{F5,E5,S5,s4.trans s5,l3.trans s5.le,h2}
  |bk E5=>cases h2;exact λσ5 F5 H5 s5 S5=>k σ5 F5 H5 (s4.trans s5) S5
  |rt b d E5=>cases h2;exact λσ5 v F5 H5 s5 S5 q=>k σ5 v F5 H5 (s4.trans s5) S5 (q.pre s4)
 .have hi:i=ds.length:=by omega
  rw[JV 'o',UD] at h2;cases h2;exact .inl {w3 hi,k σ2 F2 H2 s2 S2}
end
def mK(gl:G)(js:List Nat)(ge:G):Ev->Out ((List D×List Int)×Ev):=λE=>(gl E).bind λp=>match p.1,valsJ (shareJ js p.2) js with
 |.lst ys,AA ds=>if ys.length<64 then(eR ge ds ys).bind λkz=>.ok ((ys,kz),shareJ js p.2) else .bad
 |_,_=>.bad
theorem Rh{gl ge:G}{E:Ev}{ys:List D}{kz:List Int}(h:mK gl js ge E=.ok ((ys,kz),E2)) :
  ∃E1 ds,gl E=.ok (.lst ys,E1)/\ys.length<64/\valsJ (shareJ js E1) js=AA ds/\eR ge ds ys=.ok kz/\E2=shareJ js E1:=by
 unfold mK at h;obtain⟨p,e,h⟩:=pA3 h;obtain⟨d,E1⟩:=p;dsimp only at h
 cases hv:valsJ (shareJ js E1) js with
 |none=>rw[hv] at h;cases d<;>cases h
 |some ds =>
  rw[hv] at h
  cases d with
  |lst ys' =>
   dsimp only at h
   by_cases hl:ys'.length<64
   .rw[if_pos hl] at h
    obtain⟨kz',e3,h⟩:=pA3 h;cases h;exact{E1,ds,e,hl,hv,e3,rfl}
   .rw[if_neg hl] at h;cases h
  |_=>cases h
noncomputable def hush:List Nat->Ev->Ev
 |[],E=>E
 |k::ks,E=>hush ks (match E[k]? with|some (.val _)=>E.set k .no|_=>E)
theorem Sim.hush{K:AC}{H₀ F H:Hp}{τ:AQ}{σ:St}:∀(ks:List Nat) {E:Ev},Sim K H₀ τ F H σ E->Sim K H₀ τ F H σ (L2.hush ks E)/\∀a,DY σ (L2.hush ks E) a->DY σ E a
 |[],_,S=>{S,λ_ h=>h}
 |k::ks,E,S=>by
  rw[L2.hush];split
  .rename_i d e
   have hk:=(AR.mp e).1
   have H9:∀(j:Nat) s,(E.set k .no)[j]?=AA s->s≠.no->E[j]?=AA s:=λj s q n=>by
    by_cases hj:k=j
    .subst hj;rw[BF hk] at q;exact absurd (BL q).symm n
    .rw[A5 hj] at q;exact q
   have S1:Sim K H₀ τ F H σ (E.set k .no):={S.sub,by rw[B9];exact S.len,λj d q=>S.val j d (H9 j _ q (λz=>by cases z)),λj t d q=>S.own j t d (H9 j _ q (λz=>by cases z)),
    λi j t u d d' a q1 q2=>S.inj i j t u d d' a (H9 i _ q1 (λz=>by cases z)) (H9 j _ q2 (λz=>by cases z))}
   obtain⟨S2,h2⟩:=Sim.hush ks S1;refine{S2,λa h=>?_};obtain⟨j,t,d,q1,q2⟩:=h2 a h;exact{j,t,d,H9 j _ q1 (λz=>by cases z),q2}
  .exact Sim.hush ks S
open Classical in
def sD(gl:G)(js:List Nat)(ge:G):G:=λE=>(mK gl js ge E).bind λp=>if h:∃zs,∀qs,bY p.1.2 p.1.1 qs->qs.map FU=zs then .ok (.lst h.choose,p.2) else .bad
open Classical in
def rR(gl:G)(js:List Nat)(ge:G)(t:Tg)(g:GS)(ks:List Nat):GS:=λE=>(mK gl js ge E).bind λp=>if h:∃E1,∀qs,bY p.1.2 p.1.1 qs->∃E2,UD t g (qs.map FU) p.2=.ok (.nx E2)/\hush ks E2=E1 then .ok (.nx h.choose) else .bad
section
variable{body:C8}{c T:AQ}{l:C8}{gl ge:G}
structure LamOk(X:Cx)(scope:NG)(cl:List (CT×AQ))(x:CT)(CV:List CT)(js:List Nat)(q:CT)(EW:Arguments)(body:C8)(c T:AQ):Prop where
 nm:LamNm X scope cl x CV js
 room:Room 3 X.A
 code:X.env.code=.ref c
 hd:JH X.base c T
 tb:TB X.K T q
 qual:∃n:CT,X.env.qual=n/\n++("<lambda>":CT)=q
 dflt:defaultsOf EW X.env=([],[])
 bind:∀pm c' RD u,OA (eF "<lambda>" q EW body scope cl pm (.ref c') RD) {[u],[]}=pure [(x,u)]
theorem LamOk.qu(n:LamOk X scope cl x CV js q EW body c T):X.env.qual++("<lambda>":CT)=q:=by
 obtain⟨m,h1,h2⟩:=n.qual;rw[h1];exact h2
theorem zY8(hm:X.mg "sorted"=AK)(hl:VE X l gl)(n:LamOk X scope cl x CV js q EW body c T)(hb:∀f c' s H,VE (eZ X X.A.in1.in1 q scope cl (x::CV) f (.ref c') s H) body ge)(hg:Gl X "sorted":=by rfl)
  (he:DO pos (AO [l] X.env)=(AD,eval l X.env)::DO pos (AO [] X.env):=by rfl) (JW:(DO pos (AO [l] X.env)).any (·.1)=AD:=by rfl)
  (a9:AO [l] X.env=(AD,eval l X.env)::AO [] X.env:=by rfl) :
  FE X (.Call (.Name "sorted" p1) [l] [{AA "key",.Lambda EW body scope Z5,TN}] pos) (sD gl js ge) :=
 (Qf (t:=λH=>tV X.K H ge) hm hl n.nm n.room n.code n.hd n.tb n.qu n.dflt n.bind hb hg he JW a9).imp λσ H Q h=>by
  obtain⟨τ,F,E,d,E',S,hg,k⟩:=h;unfold sD at hg;obtain⟨⟨⟨ys,kz⟩,E2⟩,e1,hg⟩:=pA3 hg;obtain⟨E1,ds,a1,a2,a3,a4,rfl⟩:=Rh e1;split at hg
  .rename_i h
   cases hg;exact Qe {τ,F,E,ys,E1,ds,kz,S,a1,a2,a3,a4,λqs hq a F' H' st S' n1 n2 ow no=>k a F' H' st S' n1 n2 (by rw[<-h.choose_spec qs hq];exact ow) no}
  .cases hg
theorem zY9{bd:List E6}{t:Tg}{g:GS}{ks:List Nat}(hp:VU (A1 X.prog X.w) X.A X.env X.xe)(hc:X.calm=AL)(hm:X.mg "sorted"=AK)(hl:VE X l gl)(n:LamOk X scope cl x CV js q EW body c T)
  (hb:∀f c' s H,VE (eZ X X.A.in1.in1 q scope cl (x::CV) f (.ref c') s H) body ge) (hgt:VG X tg t) (hbd:Z3 X bd g) (hg:Gl X "sorted":=by rfl)
  (he:DO pos (AO [l] X.env)=(AD,eval l X.env)::DO pos (AO [] X.env):=by rfl) (JW:(DO pos (AO [l] X.env)).any (·.1)=AD:=by rfl)
  (a9:AO [l] X.env=(AD,eval l X.env)::AO [] X.env:=by rfl)
  (hs:∀x,DF (.Call (.Name "sorted" p1) [l] [{AA "key",.Lambda EW body scope Z5,TN}] pos) X.env x=pure x:=by intro _;rfl) :
  VS X (.For tg (.Call (.Name "sorted" p1) [l] [{AA "key",.Lambda EW body scope Z5,TN}] pos) bd [] WX) (rR gl js ge t g ks) :=
 (pM hp hc (Po (Qf (t:=λH=>tV X.K H ge) hm hl n.nm n.room n.code n.hd n.tb n.qu n.dflt n.bind hb hg he JW a9)) hgt hbd hs).imp λD' σ H h=>by
  obtain⟨τ,F,E,r,S,hg,k⟩:=h;unfold rR at hg;obtain⟨⟨⟨ys,kz⟩,E2⟩,e1,hg⟩:=pA3 hg;obtain⟨E1,ds,a1,a2,a3,a4,rfl⟩:=Rh e1;split at hg
  .rename_i hr
   cases hg;refine Qe {τ,F,E,ys,E1,ds,kz,S,a1,a2,a3,a4,λqs hq a F' H' st S' n1 n2 ow no=>?_};obtain⟨vs,ha,rv⟩:=ow;have gr:Gr F' (D6 F' a (.lst vs)):=Gr.new n1
   have S2:Sim X.K X.H₀ τ (D6 F' a (.lst vs)) H' σ (shareJ js E1):=by
    refine{λb u e=>?_,S'.len,λi d e=>?_,λi t d e=>?_,S'.inj}
    .by_cases hb:b=a
     .subst hb;rw[HB] at e;rw[ha];exact e
     .rw[EV hb] at e;exact S'.sub b u e
    .obtain⟨v,h1,h2⟩:=S'.val i d e;exact{v,h1,h2.le (.of_gr gr)}
    .obtain⟨b,h1,h2,h3,h4⟩:=S'.own i t d e
     refine{b,h1,?_,h3.mono (.of_gr gr) rfl,h4};rw[EV (λz=>no {i,t,d,e,by rw[<-z];exact h1})];exact h2
   have st2:Stp (DY σ E) F H (D6 F' a (.lst vs)) H' (DY σ (shareJ js E1)):={st.keep,st.dom,st.le.trans (.of_gr gr),λb u e=>by
    by_cases hb:b=a
    .subst hb;exact .inr (.inl (.none n2))
    .rw[EV hb] at e;exact st.new b u e,st.own}
   obtain⟨E',oD,hh⟩:=hr.choose_spec qs hq;rw[<-hh] at k;have k':FlOk X.K X.H₀ τ (DY σ E) F H D' (.nx E'):=λσ' F' H' st S=>k σ' F' H' (st.weak (S.hush ks).2) (S.hush ks).1;exact{a,rfl,{vs,.inl (.inl ha)},yC7 k' st2 S2 (Tj (.inl (.inl HB)) (rv.le (.of_gr gr))) oD}
  .cases hg
end
theorem fm_range{α:Type}:∀l:List α,(CI l.length).filterMap (λi=>l[i]?)=l
 |[]=>rfl
 |a::l=>by
  rw[BB,List.range_succ_eq_map,DN];simp only[List.getElem?_cons_zero,LJ]
  congr 1
  exact fm_range l
theorem zJP(BZ:List AH):bG BZ.toArray AK AK (AA (-1))=BZ.reverse.toArray:=by
 have h:=picked_rev BZ.length;unfold bG
 have e:sliceRange (HD AK AK (AA (-1)) BZ.toArray.size).1 (HD AK AK (AA (-1)) BZ.toArray.size).2.1 (HD AK AK (AA (-1)) BZ.toArray.size).2.2=(CI BZ.length).map λk=>BZ.length-1-k:=by
  rw[<-h];simp[HD,Builtin.Str.strSliceIndices]
 rw[e]
 congr 1
 rw[LJ]
 have g:∀ks:List Nat,(∀k∈ks,k<BZ.length)->ks.filterMap ((λi=>BZ.toArray[i]?)∘λk=>BZ.length-1-k)=ks.filterMap λi=>BZ.reverse[i]?:=by
  intro ks
  induction ks with
  |nil=>intro _;rfl
  |cons k ks ih =>
   intro hk
   have e:((λi=>BZ.toArray[i]?)∘λk=>BZ.length-1-k) k=BZ.reverse[k]?:=by
    show BZ.toArray[BZ.length-1-k]?=BZ.reverse[k]?;rw[N1 (hk k (.head _)),YW]
   rw[DN,DN,e,ih λk XO=>hk k (.tail _ XO)]
 refine(g _ λk hk=>FW.mp hk).trans ?_;have:=fm_range BZ.reverse;rw[FH] at this;exact this
section
variable{st:C8}{ts:TE}
def yFW(K:AC)(te ts:TE):TE:=λσ H Q=>te σ H λx H1=>ts σ H1 λy H2=>y=.int (-1)/\∃a xs,x=.ref a/\SqL K H2 a xs/\∀p,H2 p=AK->Q (.ref p) (D6 H2 p (.lst xs.reverse))
theorem zZA(he:PE X e te)(hs:PE X st ts):PE X (.Subscript e (.Slice AK AK (AA st) p2) pos) (yFW X.K te ts):=by
 intro AE s σ H Q I h;refine YO (GV (he AE s σ H _ I h) λv s1 ⟨x,H1,I1,r1,q1⟩=>?_);refine jC ?_;rw[aH];refine wpAny_pure (wpAny_pure ?_);rw[aG];refine GV (hs AE s1 σ H1 _ I1 q1) λu s3 q0=>?_;obtain⟨y,H3,I3,r3,q3⟩:=q0;obtain⟨rfl,a,xs,rfl,hx,q⟩:=q3;obtain⟨t,rfl⟩:=r3;cases r1;have I4:Inv X AE σ H3 { s3 with heap:=s3.heap.push { cls:=.type "slice",data:=.fields #[.none,.none,.int (-1) t] } }:=I3.kept (t':=s3.toks) λb ob q=>AF _ q;obtain⟨BZ,r,ht,hz⟩:=I4.list hx;have EX:=r.length;show A0 (A1 X.prog X.w) X.A (RH e (.Slice AK AK (AA st) p2) (.ref a) (.ref s3.heap.objs.size)) (EP X AE σ Q) X.xe { s3 with heap:=s3.heap.push { cls:=.type "slice",data:=.fields #[.none,.none,.int (-1) t] } };refine YH (ops:=[.ref a,.ref s3.heap.objs.size]) ht.isList.typeIs TX.lookup ?_ (by with_unfolding_all rfl);refine aB ht.isList (M5 ..) .none .none (.int (-1) t) 's' ?_ (by rw[AW]<;>lia);rw[zJP];refine{.ref (s3.heap.push { cls:=.type "slice",data:=.fields #[.none,.none,.int (-1) t] }).objs.size,_,I4.laid (t':=s3.toks) (o:=.lst xs.reverse) (λb ob q=>AF _ q) (AM _) ?_,rfl,q _ (I4.hok.fresh (AM _))};refine{by rw[FH];exact hz,BZ.reverse,0,?_,AX _ rfl};exact Vals.reverse r
end
def zP(ge gs:G):G:=λE=>(ge E).bind λp=>(gs p.2).bind λq=>match p.1 with
 |.lst xs=>if q.1 matches .int (-1) then .ok (.lst xs.reverse,q.2) else .bad
 |_=>.bad
section
variable{st:C8}{ge gs:G}
theorem yFX(he:VE X e ge)(hs:VE X st gs):FE X (.Subscript e (.Slice AK AK (AA st) p2) pos) (zP ge gs):=(zZA he hs).imp λσ H Q h=>by
 obtain⟨τ,F,E,d,E',S,hg,k⟩:=h;unfold zP at hg;obtain⟨p,e1,hg⟩:=pA3 hg;obtain⟨q,e2,hg⟩:=pA3 hg;refine{τ,F,E,p.1,p.2,S,e1,λv F1 H1 st1 S1 r1=>{τ,F1,p.2,q.1,q.2,S1,e2,λu F2 H2 st2 S2 r2=>?_}};obtain⟨pd,pE⟩:=p;obtain⟨qd,qE⟩:=q
 cases pd with
 |lst xs =>
  dsimp only at hg r2 r1;split at hg
  .cases hg
   obtain rfl:=r2.vI
   cases r1 with
   |@lst a vs _ sq rs =>
   refine{rfl,a,vs,rfl,(sq.imp (λz=>st2.le.rd z) id).imp S2.sub.rd id,λD hD=>?_};have n5:New F2 H2 F2 (D6 H2 D (.lst vs.reverse)):=pA6 S2.sub (Gr.new hD)
   have hF:F2 D=AK:=by
    cases e:F2 D with
    |none=>rfl
    |some u=>rw[S2.sub _ _ e] at hD;cases hD
   exact k D F2 _ ((st1.trans st2).trans n5.stp) (S2.new n5) hF ((st1.trans st2).dom D hD) {_,HB,(rs.le st2.le).reverse} (S2.fresh hD)
  .cases hg
 |_=>cases hg
end
theorem Wc{nm:List CT}{g:G}(hr:Room 3 X.A)
  (h:(eZ X X.A.in1.in1 q scope cl nm f cd s H).A.units+64<GZ->VE (eZ X X.A.in1.in1 q scope cl nm f cd s H) e g):VE (eZ X X.A.in1.in1 q scope cl nm f cd s H) e g :=
 h (hr.in1.in1.deeper _).units
section
variable{K:AC}{c T:AQ}{Ye:AH}{Yd:Option AQ}{sl uI:Array (Option AH)}{vs:Array AH}
theorem tabIn_of(a:BW K BK x=AA (AA (.ref f)))(l:K.lookup f=AA {oc,od,.func fd,sl})(hc:fd.code=.ref c)(m:K.lookup c=AA {Ye,Yd,.fields vs,uI})(hv:vs[11]?=AA (.ref T)):EN K x=AA (c,T):=by
 unfold EN;rw[a];simp only[l,hc,m,hv]
theorem zVA(a:BW K BK x=AA AK):EN K x=AK:=by
 unfold EN;rw[a]
inductive TabE(K:AC)(q:CQ)(x:CT):Option AQ->Prop
 |no:BW K BK x=AA AK->TabE K q x AK
 |tab {c T:AQ} {d:DefRec}:EN K x=AA (c,T)->K.lookup T=AK->(recsOf q).find? (λe=>e.name==x)=AA d->TabE K q x (AA T)
theorem Tabs.of{q:CQ}{ts:List (CT×Option AQ)}(h:∀p∈ts,TabE K q p.1 p.2)(hn:ts.map (·.1)=iG)(ap:ts.Pairwise λa b=>a.2=AK\/a.2≠b.2):Tabs K q:=by
 have g:∀{x:CT} {t:Option AQ},TabE K q x t->∀c T,EN K x=AA (c,T)->t=AA T/\K.lookup T=AK/\∃d,(recsOf q).find? (λe=>e.name==x)=AA d:=λ{x t} h c T e=>by
  cases h with
  |no z=>rw[zVA z] at e;cases e
  |tab z1 z2 z3=>rw[z1] at e;cases e;exact{rfl,z2,_,z3}
 have all:∀x∈iG,∃t,(x,t)∈ts:=λx hx=>by
  rw[<-hn] at hx;obtain⟨p,hp,rfl⟩:=C1.mp hx;exact{_,hp}
 refine{λx hx c T e=>let ⟨t,z⟩:=all x hx;(g (h _ z) c T e).2.2,λx hx c T e=>let ⟨t,z⟩:=all x hx;(g (h _ z) c T e).2.1,λx hx y hy c c' T e e'=>?_};obtain⟨t,z⟩:=all x hx;obtain⟨u,z'⟩:=all y hy;have a:=(g (h _ z) c T e).1;have b:=(g (h _ z') c' T e').1;dsimp only at a b;subst a b;clear g all hn hx hy h e e'
 induction ts with
 |nil=>cases z
 |cons p r ih =>
  obtain⟨a1,a2⟩:=JE.mp ap;rcases BC.mp z with e|z1<;>rcases BC.mp z' with e'|z2
  .rw[<-e] at e';cases e';rfl
  .subst e;rcases a1 _ z2 with w|w
   .cases w
   .exact absurd rfl w
  .subst e';rcases a1 _ z1 with w|w
   .cases w
   .exact absurd rfl w
  .exact ih a2 z1 z2
theorem tabs5{q:CQ}{t1 t2 t3 t4 t5:Option AQ}(h1:TabE K q "holders" t1)(h2:TabE K q "_law_table" t2)(h3:TabE K q "_law_back" t3)(h4:TabE K q "_law_kept_right" t4)(h5:TabE K q "law" t5)
  (ap:[t1,t2,t3,t4,t5].Pairwise λa b=>a=AK\/a≠b):Tabs K q :=
 Tabs.of (ts:=[("holders",t1),("_law_table",t2),("_law_back",t3),("_law_kept_right",t4),("law",t5)]) (λp hp=>by
  simp only[BC,C9,or_false] at hp;rcases hp with rfl|rfl|rfl|rfl|rfl
  .exact h1
  .exact h2
  .exact h3
  .exact h4
  .exact h5) rfl (D2 (f:=(FU:CT×Option AQ->Option AQ)) (R:=λa b=>a=AK\/a≠b) |>.mp ap)
end
end L2
namespace HT
open PySem PySem.Spec PyProof.Rows
theorem places_rev(n:Nat):C5 ((n:Int)-1) (-1) (-1)=n:=by
 unfold C5;rw[if_neg 'd'];split
 .rw[show -(-1:Int)=1 from rfl,Y0];lia
 .lia
theorem zF2{sl:AQ}{t:eE}{Q:Int×Int×Nat->AT->Prop}(hs:s.heap.IsSliceOf sl .none .none (.int (-1) t))
  (h:Q ((n:Int)-1,-1,n) s):A0 (A1 prog w) A (ET (.ref sl) (pure (n:Int))) Q E s:=by
 obtain⟨os,V9,UN,RC⟩:=id hs;unfold ET KI;refine AB (AB (CG V9 RC (x:=.none) rfl (AB (CG V9 RC (x:=.none) rfl (AB (CG V9 RC (x:=.int (-1) t) rfl (wpAny_pure ?_)))))));refine AB (slicePart_int ?_);show A0 _ _ (if((-1:Int)==0)=AL then _ else _) _ _ s;rw[if_neg 'd'];refine AB (QB (AB (QB (AB (wpAny_pure ?_)))));show A0 _ _ (pure ((n:Int)-1,(-1:Int),C5 ((n:Int)-1) (-1) (-1))) _ _ s;rw[places_rev];exact wpAny_pure h
theorem zVB(BZ:List AH):((CI BZ.length).filterMap λ(m:Nat)=>BZ.toArray[(((BZ.length:Int)-1)+(m:Int) * (-1)).toNat]?).toArray=BZ.reverse.toArray:=by
 congr 1
 have g:∀ks:List Nat,(∀k∈ks,k<BZ.length)->ks.filterMap (λ(m:Nat)=>BZ.toArray[(((BZ.length:Int)-1)+(m:Int) * (-1)).toNat]?)=ks.filterMap λi=>BZ.reverse[i]?:=by
  intro ks
  induction ks with
  |nil=>intro _;rfl
  |cons k ks ih =>
   intro hk;have hkl:=hk k (.head _)
   have e:BZ.toArray[(((BZ.length:Int)-1)+(k:Int) * (-1)).toNat]?=BZ.reverse[k]?:=by
    rw[N1 hkl,YW]
    congr 1;lia
   rw[DN,DN,e,ih λk XO=>hk k (.tail _ XO)]
 refine(g _ λk hk=>FW.mp hk).trans ?_;have:=L2.fm_range BZ.reverse;rw[FH] at this;exact this
theorem getItem_tuple_rev{t sl:AQ}{tk:eE}(ht:QE s.heap t BZ.toArray)(hs:s.heap.IsSliceOf sl .none .none (.int (-1) tk))
  (h:Q (.ref s.heap.objs.size) { s with heap:=s.heap.push { cls:=.type "tuple",data:=.seq BZ.reverse.toArray } })
  (hsz:BZ.length<=sizeLine):A0 (A1 prog w) A (K4 (.ref t) (.ref sl)) Q E s:=by
 have LF:sizeOk (.seq BZ.reverse.toArray):=by
  show BZ.reverse.toArray.size<=sizeLine;rw[AW,FH];exact hsz
 obtain⟨os,V9,UN,RC⟩:=id hs;have oN:s.TypeIs (.ref sl) "slice":={os,V9,UN};unfold K4
 try with_reducible refine CZ ?_
 first|refine AB (wpAny_pure ?_)|skip
 refine AB (NE ht.typeIs 'd' ?_)
 refine AB (CJ (name:=EE "__getitem__") ht.typeIs CD
  (C3 CD ht.typeIs LY ?_ (MU _ _)))
 show A0 _ _ (HM (.ref t) >>= _) _ _ s;refine AB (RG ht ?_);refine AB (OM oN ?_);rw[if_pos 'd'];have hz:BZ.toArray.size=BZ.length:=AW;rw[hz];refine AB (zF2 hs ?_);show A0 _ _ (if((((BZ.length:Int)-1)==0&&(-1:Int)==1&&BZ.length==BZ.toArray.size)=AL) then _ else _) _ _ s;rw[if_neg 's',zVB]
 first
  |exact AB (m:=CH _) (BY (wpAny_pure {_,rfl,wpAny_pure h}) LF)
  |exact AB (m:=CH _) (BY (AB (wpAny_pure (wpAny_pure {_,rfl,wpAny_pure h}))) LF)
  |exact AB (AB (m:=CH _) (BY (wpAny_pure (wpAny_pure {_,rfl,wpAny_pure h})) LF))
  |exact AB (AB (m:=CH _) (BY (wpAny_pure {_,rfl,wpAny_pure h}) LF))
end HT
namespace L2
open PySem PySem.Spec PyProof.Rows
section
variable{st:C8}{ts:TE}
def yFY(K:AC)(te ts:TE):TE:=λσ H Q=>te σ H λx H1=>ts σ H1 λy H2=>y=.int (-1)/\∃a xs,x=.ref a/\SqT K H2 a xs/\∀p,H2 p=AK->Q (.ref p) (D6 H2 p (.tup xs.reverse))
theorem Oz(he:PE X e te)(hs:PE X st ts):PE X (.Subscript e (.Slice AK AK (AA st) p2) pos) (yFY X.K te ts):=by
 intro AE s σ H Q I h;refine YO (GV (he AE s σ H _ I h) λv s1 ⟨x,H1,I1,r1,q1⟩=>?_);refine jC ?_;rw[aH];refine wpAny_pure (wpAny_pure ?_);rw[aG];refine GV (hs AE s1 σ H1 _ I1 q1) λu s3 q0=>?_;obtain⟨y,H3,I3,r3,q3⟩:=q0;obtain⟨rfl,a,xs,rfl,hx,q⟩:=q3;obtain⟨t,rfl⟩:=r3;cases r1;have I4:Inv X AE σ H3 { s3 with heap:=s3.heap.push { cls:=.type "slice",data:=.fields #[.none,.none,.int (-1) t] } }:=I3.kept (t':=s3.toks) λb ob q=>AF _ q;obtain⟨BZ,r,ht,hz⟩:=I4.tuple hx;have EX:=r.length;show A0 (A1 X.prog X.w) X.A (RH e (.Slice AK AK (AA st) p2) (.ref a) (.ref s3.heap.objs.size)) (EP X AE σ Q) X.xe { s3 with heap:=s3.heap.push { cls:=.type "slice",data:=.fields #[.none,.none,.int (-1) t] } };refine YH (ops:=[.ref a,.ref s3.heap.objs.size]) ht.typeIs slot_tuple_getitem.lookup ?_ (by with_unfolding_all rfl);refine HT.getItem_tuple_rev ht (M5 ..) ?_ (by rw[<-EX];exact hz);refine{.ref (s3.heap.push { cls:=.type "slice",data:=.fields #[.none,.none,.int (-1) t] }).objs.size,_,I4.laid (t':=s3.toks) (o:=.tup xs.reverse) (λb ob q=>AF _ q) (AM _) ?_,rfl,q _ (I4.hok.fresh (AM _))};exact{by rw[FH];exact hz,BZ.reverse,Vals.reverse r,IsTupP.new _ _}
end
end L2
namespace HT
open PySem PySem.Spec PyProof.Rows
section
open PySem.SeqAt
open PySem.AutoSeq1 (wpAny_loadPart')
open PySem.MeetsSeq PySem.MeetsSeq2 PySem.MeetsSeq3
end
end HT
variable{bm:List AH}{Y7:String}{s₀:AT}{kn:CT}{WA:AQ}{ie ik:Nat}
namespace L2
open PySem PySem.Spec PyProof.Rows
def pA(ge gs:G):G:=λE=>(ge E).bind λp=>(gs p.2).bind λq=>match p.1 with
 |.tup xs=>if q.1 matches .int (-1) then .ok (.tup xs.reverse,q.2) else .bad
 |_=>.bad
section
variable{K:AC}{a b st:C8}{ga gb ge gs:G}{gss:List G}
theorem yC9(he:VE X e ge)(hs:VE X st gs):VE X (.Subscript e (.Slice AK AK (AA st) p2) pos) (pA ge gs):=(Oz he hs).imp λσ H Q h=>by
 obtain⟨τ,F,E,d,E',S,hg,k⟩:=h;unfold pA at hg;obtain⟨p,e1,hg⟩:=pA3 hg;obtain⟨q,e2,hg⟩:=pA3 hg;refine{τ,F,E,p.1,p.2,S,e1,λv F1 H1 st1 S1 r1=>{τ,F1,p.2,q.1,q.2,S1,e2,λu F2 H2 st2 S2 r2=>?_}};obtain⟨pd,pE⟩:=p;obtain⟨qd,qE⟩:=q
 cases pd with
 |tup xs =>
  dsimp only at hg r2 r1;split at hg
  .cases hg
   obtain rfl:=r2.vI;obtain⟨a,vs,rfl,rs,sq⟩:=r1.tupSq;refine{rfl,a,vs,rfl,sq F2 H2 st2.le S2.sub,λD hD=>?_};have n:=New.laid (o:=.tup vs.reverse) S2.sub hD;exact k _ _ _ ((st1.trans st2).trans n.stp) (S2.new n) (.tup HB ((rs.le st2.le).reverse.le n.1.le))
  .cases hg
 |_=>cases hg
end
section
variable{K:AC}
end
structure ExK(K:AC)(C:AQ)(bm:List AH)(Y7:String):Prop where
 ex:J3 K C bm Y7=AL
 ga:K0 K (.ref C) "__getattribute__"=AA (AA (.builtin "BaseException.__getattribute__"))
 gb:K0 K (.ref C) "__getattr__"=AA AK
 ha:K0 K (.ref C) "__class__"=AA (AA (.builtin "object.__class__"))
 hn:ZF K (.builtin "object.__class__") "__get__"=AA (AA (.builtin "getset_descriptor.__get__"))
 ht:bN K (.builtin "object.__class__")=AA AL
 hm:T7 K C (.type "object")=AA AL
 hb:T7 K C (.type "BaseException")=AA AL
def XAt(x C:AQ)(h:D4):Prop:=∃o,h.get? x=AA o/\o.cls=.ref C
section
variable{K:AC}{x:AQ}
open PySem.W Builtin Builtin.ObjectAttr Builtin.Getset_descriptor in
theorem XAt.type(I:XAt x C h):Looks M h (typeOf (.ref x)) (.ref C):=by
 obtain⟨o,e,c⟩:=I;exact c▸(Looks.ld e).andThen .now
open PySem.W Builtin Builtin.ObjectAttr Builtin.Getset_descriptor in
theorem ExK.find(Z:ExK K C bm Y7)(X:K.In h):Looks M h (find (.ref x) (.ref C) "__class__") (.bind (.builtin "getset_descriptor.__get__") (.builtin "object.__class__")) :=
 (looks_findIn X Z.ha).andThen ((show Looks M h (getOf (AA (.builtin "object.__class__"))) (AA (.builtin "getset_descriptor.__get__")) from looks_specialIn X Z.hn).andThen
  ((show Looks M h (dataDescriptor? (AA (.builtin "object.__class__")) (AA (.builtin "getset_descriptor.__get__"))) (AA (.builtin "getset_descriptor.__get__",.builtin "object.__class__")) from(looks_takesIn X Z.ht).andThen .now).andThen (Looks.tag .now)))
open PySem.W Builtin Builtin.ObjectAttr Builtin.Getset_descriptor in
theorem ExK.get(Z:ExK K C bm Y7)(X:K.In s.heap)(I:XAt x C s.heap){tp:AH}(q:R (.ok (.ret (.ref C))) s):HN (A1 prog w) A (.call (.builtin "getset_descriptor.__get__") {[.builtin "object.__class__",.ref x,tp],[]}) R s:=by
 obtain⟨hh,g,dr,t,os⟩:=s;have L0:=I.type (M:=A1 prog w);have L1:=looks_mroIn (M:=A1 prog w) X Z.hm;refine jH KF.slot_gs.plain KF.entry_gs (KF.slot_gs.check _ _ _ _ _ _ _ _ KF.type_class (KF.args_gs _ _ _) ?_);unfold FG.«getset_descriptor.__get__» descrGet;rw[dga_obj];refine AB (wpAny_pure ?_);unfold descrGetter descrCheckInstance descrNameAndClass isInstance;simp only[KF.owner_class]
 repeat lk
 refine{Code.quiet_builtin _ (by decide +kernel),codeAny_builtin KF.entry_class ?_};unfold FG.«object.__class__» shownTypeOf
 repeat lk
 exact q
open PySem.W Builtin Builtin.ObjectAttr Builtin.Getset_descriptor in
theorem ExK.cls(Z:ExK K C bm Y7)(X:K.In s.heap)(I:XAt x C s.heap){Q:Option AH->AT->Prop}(q:Q (AA (.ref C)) { s with toks:=s.toks+1 }):A0 (A1 prog w) A (getAttr? (.ref x) "__class__") Q E s:=by
 obtain⟨hh,g,d,t,os⟩:=s;have L0:=I.type (M:=A1 prog w);have L1:=looks_findIn (M:=A1 prog w) X Z.ga;have L2:=Z.find (M:=A1 prog w) (x:=x) X;have L3:=looks_findIn (M:=A1 prog w) X Z.gb;have L4:=looks_mroIn (M:=A1 prog w) X Z.hb;have hk:builtinKind "BaseException.__getattribute__"=AA .slot:=by decide +kernel
 have nV:splitId "BaseException.__getattribute__"=AA ("BaseException","__getattribute__"):=by decide +kernel
 have ha:=λn=>F.args_bexc_ga (.ref x) n;have R6:(OX "BaseException.__getattribute__"==OX "object.__getattribute__")=AD:=by decide +kernel
 unfold getAttr? getAttrBy? getAttrBy;refine AB (wpAny_mkText (AB (GR (CZ (AB (L0.at (AB (L1.at ?_))))))));show A0 _ _ (if(onTheHeap (DP C)&&OX "BaseException.__getattribute__"==OX "object.__getattribute__")=AL then _ else getAttrByItsOwn _ _ _ _ _ _) _ _ _;rw[R6,lT,if_neg CN];unfold getAttrByItsOwn;refine AB (L3.at (AB (GR (CZ ?_))));show A0 _ _ (bindSpecial _ _ >>= _) _ _ _;rw[F.excAttr_ValueError.ga.bind];refine AB (wpAny_pure (SI (jH F.excAttr_ValueError.ga.plain F.entry_bexc_ga ?_)));simp only[checkBuiltinCall,hk,nV];unfold isInstance
 repeat lk
 refine wpAny_run (h:=AK) (Z.get (s:={hh,g,d,t+1,os}) X I ?_);exact wpAny_pure (wpAny_pure (handed_on rfl (wpAny_pure q)))
open PySem.W Builtin Builtin.ObjectAttr Builtin.Getset_descriptor in
theorem ExK.kit(Z:ExK K C bm Y7):KitX K (.ref x) (.ref C) (XAt x C) where
 ty:=λ_ _ _ I=>I.type
 it:=λ_ _ X _=>by
  have z:=Z.ex;unfold excIn at z;split at z
  .rename_i ho
   intro A' Q' E' s' k q;unfold isType loadHead;exact AB (wpAny_loadPart (k _ _ (X _ _ ho)) (wpAny_pure q))
  .cases z
 ne:=λh tp dd BZ n sl X htp=>by
  refine QR.mpr λq=>?_;obtain rfl:C=tp:=Value.ref.inj (beq_iff_eq.mp q);have z:=Z.ex;unfold excIn at z;split at z
  .rename_i ho
   have e:=congrArg Obj.cls (BL ((X _ _ ho).symm.trans htp));exact absurd (Value.type.inj e) 'd'
  .cases z
 ca:=λX I k=>Z.cls X I k
end
structure Fly(P:CQ)(w:D3)(C:AQ)(outer:List XC)(H:Hp)(s:AT)(a:AQ)(H1:Hp)(h1:D4)(fr:List AQ)(a0:AH)(s':AT):Prop where
 os:s'.os=s.os
 bare:NJ s'.gens
 un:Un (RA outer) [] H H1 s.heap h1
 hok:HOk P w H1 h1
 frs_:∀b∈fr,H1 b=AK/\(b∈RA outer\/s.heap.objs.size<=b)/\∃o,h1.get? b=AA o/\∀vs,o.data≠.fields vs
 new:h1.get? a=AK
 fl:Heap.FlyingW (IT h1 fr) outer a (.ref C) a0 s'.heap
 up:h1.UpToSlots s'.heap
def QJ(P:CQ)(w:D3)(C:AQ):CXT:=λouter H s E e s'=>∃a H1 h1 fr a0,e=.ref a/\Fly P w C outer H s a H1 h1 fr a0 s'/\E (.ref C) AK H1
section
variable{h2:D4}{fr:List AQ}{a0:AH}
theorem Fly.kept(F:Fly P w C outer H s a H1 h1 fr a0 s')(st:(IT h1 fr).StaysIn h2)(up:h1.UpToSlots h2):Un (RA outer) [] H H1 s.heap h2/\HOk P w H1 h2:=by
 have any:∀b o,h1.get? b=AA o->(b∉fr->h2.get? b=AA o)/\∃o',h2.get? b=AA o'/\(b∈fr->∃sl,o'={ o with slots:=sl }):=λb o e=>by
  refine{λn=>st b o (OB _ e n),?_}
  by_cases hb:b∈fr
  .obtain⟨_,_,o',e',d⟩:=F.frs_ b hb
   rw[e] at e';cases e';obtain⟨sl,q⟩:=up b o e d;exact{_,q,λ_=>{sl,rfl}}
  .exact{o,st b o (OB _ e hb),λz=>absurd z hb}
 have H9:∀b o,s.heap.get? b=AA o->b∉RA outer->b∉fr:=λb o e n z=>by
  rcases(F.frs_ b z).2.1 with q|q
  .exact n q
  .exact absurd (A9 e) (VX.mpr q)
 refine{{λb o e n hb hx=>(any b o (F.un.keep b o e n hb hx)).1 (H9 b o e hb),λb o e n hb hx=>?_,F.un.free,λb o e hx=>?_,F.un.tups,F.un.frzs,F.un.tbls},λb u e=>?_}
 .obtain⟨sl,q⟩:=F.un.slot b o e n hb hx
  by_cases hf:b∈fr
  .obtain⟨o',q1,q2⟩:=(any b _ q).2
   obtain⟨uI,rfl⟩:=q2 hf;exact{uI,q1}
  .exact{sl,(any b _ q).1 hf}
 .obtain⟨o',q⟩:=F.un.there b o e hx
  obtain⟨o2,q2,_⟩:=(any b o' q).2;exact{o2,q2}
 .refine(F.hok b u e).stay (λc v hc q=>(any c v q).1 λz=>?_) (λ_ q=>q) (λ_ _ q=>q) λ_ _ _ q=>q
  have n:=(F.frs_ c z).1;rcases hc with rfl|hc
  .rw[n] at e;cases e
  .rw[n] at hc;cases hc
end
section
variable{K:AC}{E:XK}
theorem zPN{vs:List AH}(I:Inv (O1 (QJ P w C) P w K mg base N qual scope f cd A outer s₀ H₀ E) AE σ H s)(hx:Heap.MadeExcOf s.heap h' a (.ref C) vs)
  (q:E (.ref C) AK H):(O1 (QJ P w C) P w K mg base N qual scope f cd A outer s₀ H₀ E).xe (.ref a) { s with heap:=h' }:=by
 have XQ:∀env∈(O1 (QJ P w C) P w K mg base N qual scope f cd A outer s₀ H₀ E).stack,∀b,env.frame=AA b->b∈RA (O1 (QJ P w C) P w K mg base N qual scope f cd A outer s₀ H₀ E).stack:=λenv he b hb=>HP.mpr {env,he,hb};refine wpAny_leaves_madeW (base:=IT s.heap (RA (O1 (QJ P w C) P w K mg base N qual scope f cd A outer s₀ H₀ E).stack)) I.ok.frames rfl (λb o e=>YR _ e) (PySem.W.funFrames_hide I.stack XQ) hx λh2 t fl _ _ up=>?_;refine{a,H,s.heap,_,.ref t,rfl,{I.os,I.bare,I.base,I.hok,λb hb=>{I.stkFree b hb,?_,(I.stack.mem hb).2},hx.new,fl,(Heap.UpToSlots.of_keeps hx.keeps).trans up},q};rcases BC.mp (I.stkSub b hb) with e|e
 .exact .inr (CY e.symm)
 .exact .inl e
theorem zZB(X:K.In h)(Z:J3 K C bm Y7=AL):∃tl N nm q bs hd sn sub ab col dd k0 k1 k2 k3 k5 mN,h.get? C=AA (excClassObj nm q C N bs tl hd sn sub ab col dd k0 k1 k2 k3 k5 Y7)/\h.Ns N mN/\mN "__init__"=AK/\OwnTail h bm tl:=by
 unfold J3 at Z;split at Z
 .rename_i dd cd sl ho
  split at Z
  .rename_i C' tl k0 k1 k2 k3 n k5 em es
   simp only[EB,beq_iff_eq,MG] at Z;obtain⟨⟨⟨⟨⟨e1,e2⟩,e3⟩,e4⟩,e5⟩,e6⟩:=Z;cases cd;cases sl;dsimp only at em e3 e5 e6 es;subst e1 e2 em e3 es;exact{tl,_,_,_,_,_,_,_,_,_,dd,k0,k1,k2,k3,k5,_,X _ _ ho,.of_isNs (PySem.W.isNs_of_in X e5),PySem.W.nsMap_none_of_in X e5 e6,PySem.W.tail_of_in X e4}
  .cases Z
 .cases Z
theorem zVC{np:gK}{ta:TA}{B ini:String}(FB:ExcBaseFacts B Y7 ini bm)(Z:J3 K C bm Y7=AL)(hm:mg x=AA (.ref C))(hh:A.handled=AK)
  (ha:PA (O1 (QJ P w C) P w K mg base N qual scope f cd A outer s₀ H₀ E) (e::es) ta) (hg:Gl (O1 (QJ P w C) P w K mg base N qual scope f cd A outer s₀ H₀ E) x:=by rfl) (hd:(x==("__debug__":CT))=AD:=by decide)
  (he:AO (e::es) (FY qual scope s₀.heap.objs.size f cd)=(AD,eval e (FY qual scope s₀.heap.objs.size f cd))::AO es (FY qual scope s₀.heap.objs.size f cd):=by rfl)
  (JW:(DO GW (AO es (FY qual scope s₀.heap.objs.size f cd))).any (·.1)=AD:=by rfl) :
  PS (O1 (QJ P w C) P w K mg base N qual scope f cd A outer s₀ H₀ E) (.Raise (AA (.Call (.Name x np) (e::es) [] GW)) AK pos) (λD σ H=>ta σ H λvs H1=>vs.length<=sizeLine/\E (.ref C) AK H1):=by
 intro AE s σ H D I h;obtain⟨tl,Nn,nm,q,bs,hdct,sn,sub,ab,col,dd,k0,k1,k2,k3,k5,mN,hC,hN,hni,TL⟩:=zZB (K:=K) (h:=base) I.ok.mod.kin Z;refine wpAny_Raise_call_subT (C:=C) (nm:=nm) (q:=q) (N:=Nn) (bs:=bs) (bm:=tl) (hdct:=hdct) (sn:=sn) (sub:=sub) (ab:=ab) (col:=col) (dd:=dd) (k0:=k0) (k1:=k1) (k2:=k2) (k3:=k3) (k5:=k5) FB (mN:=mN) (TL.hasType FB.hasBase) hh ?_ hni (pU I hg hm {rfl,?_} hd)
 .show(DO GW (AO (e::es) (FY qual scope s₀.heap.objs.size f cd))).any (·.1)=AD
  rw[he];exact JW
 .have h:=ha GW AE s σ H _ I h
  show A0 _ _ (evalArgs (.ref C) AL (DO GW (AO (e::es) (FY qual scope s₀.heap.objs.size f cd))) []) _ _ _;have h:A0 (A1 P w) _ (spliced (DO GW (AO (e::es) (FY qual scope s₀.heap.objs.size f cd)))) _ _ s:=h;rw[he] at h ⊢;refine OC (C7 h (λus s2 q=>?_) λ_ _ y=>y);obtain⟨vs,H1,I1,r,z,q⟩:=q;exact{rfl,by rw[<-r.length];exact z,I1.bk _ _ hC,hN.keeps I1.bk,TL.keeps I1.bk,λh' a m=>zPN I1 m q}
end
theorem Inv.frame{t:Nat}{m':CT->Option AH}(I:Inv X AE σ H s)(hs:DM X.env.locals s.heap h')(hn:h'.Ns X.env.locals m')(hl:σ'.length=σ.length)
  (hv:∀(i:Nat) (x:CT) (v:V),X.N[i]?=AA x->σ'[i]?=AA (AA v)->Z2 X.env.scope x->∃u,RelV v u/\Uz X.env h' m' x u):Inv X AE σ' H { s with heap:=h',toks:=t }:=by
 obtain⟨m,⟨oL,es,ep,k4,r⟩,_⟩:=id I.loc;have ne:∀b o,X.s₀.heap.get? b=AA o->b≠X.env.locals:=λb o e=>CA (AN (A9 e) I.ok.above);refine{I.ok,I.os,I.bare,{λb o e n hb hx=>(hs.2 b (ne b o e)).trans (I.base.keep b o e n hb hx),λb o e n hb hx=>?_,I.base.free,λb o e hx=>?_,I.base.tups,I.base.frzs,I.base.tbls},{m',hn,hv},λy c e=>?_,I.free,I.freeC,λp hp=>?_,λb u e=>?_,hl.trans I.len}
 .obtain⟨sl,e1⟩:=I.base.slot b o e n hb hx
  exact{sl,(hs.2 b (ne b o e)).trans e1}
 .obtain⟨o',e1⟩:=I.base.there b o e hx
  exact{o',(hs.2 b (ne b o e)).trans e1}
 .obtain⟨v,z⟩:=I.cell y c e
  exact{v,z.sameBut hs (I.cne y c e)}
 .obtain⟨e,n,ne,nf,d⟩:=I.pin p hp
  exact{(hs.2 p.1 ne).trans e,n,ne,nf,d}
 .refine(I.hok b u e).stay (λc v hc q=>(hs.2 c ?_).trans q) (λ_ q=>q) (λ_ _ q=>q) λ_ _ _ q=>q
  rintro rfl;rcases hc with rfl|hc
  .rw[I.free] at e;cases e
  .rw[I.free] at hc;cases hc
theorem zR8{Q:Unit->AT->Prop}(I:Inv X AE σ H s)(hN:X.N.Nodup)(hi:X.N[i]?=AA x)(hk:X.env.scope.names.lookup x=AA .local)(hv:σ[i]?=AA (AA v))
  (h:∀s',Inv X AE (σ.set i AK) H s'->Q () s'):A0 M A (unbindName X.env x) Q E s:=by
 obtain⟨m,hn,hl⟩:=id I.loc;obtain⟨u,_,q⟩:=hl i x v hi hv (.inl hk);rcases q with⟨_,hm⟩|⟨q,_⟩
 .refine wpAny_unbindName_local hk hn hm (by rw[I.ok.kind];rfl) λh' z Kd hs=>h _ (I.frame hs Kd (B9 ..) λj y w e1 e2 e3=>?_)
  have hj:i≠j:=λe=>by
   subst e;rw[BF (AR.mp hv).1] at e2;cases e2
  rw[A5 hj] at e2;obtain⟨u',r',q⟩:=hl j y w e1 e2 e3;have hy:y≠x:=λe=>hj (yS hN hi (e▸e1));refine{u',r',?_};rcases q with⟨k,e⟩|⟨k,c,e,z'⟩
  .exact .inl {k,(if_neg hy).trans e}
  .exact .inr {k,c,e,z'.sameBut hs (I.cne y c e)}
 .have q:X.env.scope.names.lookup x=AA .cell\/X.env.scope.names.lookup x=AA .free:=q
  rw[hk] at q;rcases q with q|q<;>cases q
noncomputable def Cx.hot(X:Cx)(a:AQ):Cx:={ X with A:=X.A.mark (AA (.ref a)),calm:=AD,xe:=λ_ _=>False }
theorem Inv.heat(I:Inv X AE σ H s)(a:AQ):Inv (X.hot a) AE σ H s :=
 {{I.ok.tab,I.ok.mod,I.ok.kind,I.ok.glob,I.ok.blt,I.ok.above,I.ok.inj,I.ok.has,I.ok.cab,(λz=>by cases z),I.ok.frames,I.ok.stk,I.ok.exf,I.ok.bs,I.ok.bsz,I.ok.noex,I.ok.exfs,I.ok.funs,I.ok.frf},I.os,I.bare,I.base,I.loc,I.cell,I.free,I.freeC,I.pin,I.hok,I.len}
theorem pAN(ok:X.Ok)(I:Inv (X.hot a) AE σ H s):Inv X AE σ H s:={ok,I.os,I.bare,I.base,I.loc,I.cell,I.free,I.freeC,I.pin,I.hok,I.len}
def Bp(A:DQ):DQ:={ A with handled:=AK }
def Ac(P:CQ)(w:D3)(K:AC)(mg:CT->Option AH)(base:D4)(N:List CT)(qual:CT)(scope:NG)(f:AQ)(cd:AH)(A:DQ)(outer:List XC)(s:AT)(H:Hp):Cx :=
 { O1 LM P w K mg base N qual scope f cd A outer s H E0 with calm:=AD,xe:=λ_ _=>False }
section
variable{K:AC}
theorem yH6{st:E6}{ps:List CT}{Q:VK}(F:Fun K x qual st f fd)(S:FnScope N ps (J1 st))
  (hr:Room (k+1) (Bp A)) (e0:Env0 P w K mg base A outer s H) (hb:UB s fd {us,[]} (ps.zip us)) (hl:vs.length=ps.length) (r:Vals vs us)
  (KR:∀G6,∃t,PSs (Ac P w K mg base N qual (J1 st) f G6 A outer s H) (V6 st) t/\t { nx:=λ_ H'=>Q .non H',rt:=Q } (start N vs) H) :
  HN (A1 P w) A (.call (.ref f) {us,[]}) (CR LM outer P w H s Q E0) s:=by
 obtain⟨oc,od,kV,SF,pm,an,G6,ct,Z4,rfl,lk,L9⟩:=F.ex;have KX:K.In s.heap:=e0.mod.kin.keeps λb o e=>(e0.bs b o e).1;have Iz:s.heap.NoLimit:=e0.mod.nolimit.keeps λb o e=>(e0.bs b o e).1;refine gG (A:=A) hr.depth (KX _ _ lk) rfl S.co S.gen rfl (YT KX L9) (hb _ _ _ _ ?_);refine YG S.kind (λy hy=>?_) λenv he s1 x=>?_
 .rcases S.par y.1 (JB hy).1 with q|q
  .exact .inl q
  .exact .inr {q,MX _ _ _ (.inl q)}
 subst he;refine{Iz.keeps x.toInCall.keep,codeAny_func ?_};obtain⟨t,ht,hq⟩:=KR G6;have e1:Env0 P w K mg base (Bp A) outer s H:={e0.tab,e0.frames,e0.mod,e0.bs,e0.bsz,e0.funs,e0.frf,e0.hok,e0.bare};have I:=Ry (CX:=LM) (E:=E0) (qual:=qual) (f:=f) (cd:=G6) S hr.hd e1 hl r x
 have I:Inv (Ac P w K mg base N qual (J1 st) f G6 A outer s H) [] (start N vs) H s1 :=
  {{I.ok.tab,I.ok.mod,I.ok.kind,I.ok.glob,I.ok.blt,I.ok.above,I.ok.inj,I.ok.has,I.ok.cab,(λz=>by cases z),I.ok.frames,I.ok.stk,I.ok.exf,I.ok.bs,I.ok.bsz,I.ok.noex,I.ok.exfs,I.ok.funs,I.ok.frf},I.os,I.bare,I.base,I.loc,I.cell,I.free,I.freeC,I.pin,I.hok,I.len}
 refine C7 (ht [] s1 (start N vs) H _ I hq) (λfl s' hs=>?_) λe s' hs=>hs.elim
 cases fl with
 |ret u =>
  obtain⟨v,σ',H',J,rv,q⟩:=hs;exact{v,H',J.os,J.bare,J.base,J.hok,rv,q}
 |next =>
  obtain⟨σ',H',J,q⟩:=hs;exact{.non,H',J.os,J.bare,J.base,J.hok,rfl,q}
 |brk=>obtain⟨_,_,_,q⟩:=hs;exact q.elim
 |cont=>obtain⟨_,_,_,q⟩:=hs;exact q.elim
end
def Wp(a:AQ)(b:Bool):TE:=λσ H Q=>σ[0]?=AA (AA (.ref a))/\Q (.bl b) H
def qR(a:AQ)(bs:List Bool):TA:=λσ H Q=>σ[0]?=AA (AA (.ref a))/\Q (bs.map V.bl) H
theorem cB{n:CT}{ce:C8}{cv:V}{uc:AH}{b:Bool}(hX:∀AE σ H s,Inv X AE σ H s->XAt a C s.heap)(Z:ExK X.K C bm Y7)(hm:X.mg "isinstance"=AK)(hc:PE X ce (tC cv))(hv:∀u,RelV cv u->u=uc)(he:BQ X.K (.ref C) uc=AA b)
  (hN:X.N[0]?=AA n:=by rfl) (hl:Z2 X.env.scope n:=by first|exact BN rfl|exact EF (BN rfl)) (hg:Gl X "isinstance":=by rfl) (hd:(n==("__debug__":CT))=AD:=by decide) (L9:(n==("__classdict__":CT))=AD:=by decide)
  (h1:AO [.Name n p1,ce] X.env=(AD,eval (.Name n p1) X.env)::AO [ce] X.env:=by rfl) (h2:AO [ce] X.env=(AD,eval ce X.env)::AO [] X.env:=by rfl) (JW:(DO pos (AO [ce] X.env)).any (·.1)=AD:=by rfl) :
  PE X (.Call (.Name "isinstance" p) [.Name n p1,ce] [] pos) (Wp a b):=by
 have hc:CallR X (.builtin "isinstance") (λxs H Q=>xs=[.ref a,cv]/\Q (.bl b) H)/\PE X ce (tC cv):={λAE s σ H xs us Q I r h=>by
  obtain⟨rfl,q⟩:=h
  cases r with
  |cons r1 r2 =>
   cases r2 with
   |cons r2 r3 =>
    cases r3;cases r1;obtain rfl:=hv _ r2
    exact DG Z.kit I.kIn (hX _ _ _ _ I) he (λz=>nomatch z) λtk=>{.bl b,H,I.tok tk,rfl,q},hc}
 refine(yQ hc.1 hg hm Boot.isinstance (TC (iD hN hl hd L9) (TC hc.2 HZ h2) h1) 'd' 'd' h1 JW).imp λσ H Q h=>?_;exact{_,h.1,rfl,h.2}
theorem Cq:PA X [] (qR a []):=λpos AE s σ H Q I h=>HZ pos AE s σ H Q I h.2
theorem cA{b:Bool}{bs:List Bool}(h:PE X e (Wp a b))(r:PA X es (qR a bs))(hs:AO (e::es) X.env=(AD,eval e X.env)::AO es X.env:=by rfl):PA X (e::es) (qR a (b::bs)) :=
 λpos AE s σ H Q I q=>TC h r hs pos AE s σ H Q I {q.1,q.1,q.2}
def yDA(a:AQ)(l1 l2 l3:List Bool):TS:=qQ (l6 (qP (qR a l1)) (b9 1)) (qQ (l6 (kJ Gi (eV 1) (qP (qR a l2))) (b9 1)) (Uy (kJ Gi (eV 1) (qP (qR a l3)))))
def KU(P:CQ)(w:D3)(K:AC)(mg:CT->Option AH)(base:D4)(f C:AQ)(bs:List Bool):Prop :=
 ∀(A:DQ) (outer:List XC) (s:AT) (H:Hp) (a:AQ) (Q:VK),Room 2 (Bp A)->Env0 P w K mg base A outer s H->XAt a C s.heap->H a=AK->a∉RA outer ->
  (∀p H',Gr H H'->H p=AK->H' p=AA (.lst (bs.map V.bl))->Q (.ref p) H')->HN (A1 P w) A (.call (.ref f) {[.ref a],[]}) (CR LM outer P w H s Q E0) s
section
variable{K:AC}{st:E6}{l1 l2 l3:List Bool}
theorem zVD{n:CT}(Fn:Fun K x x st f fd)(S:FnScope [n,kn] [n] (J1 st))(hb:Binds K fd [n] [])(hz:l1.length+l2.length+l3.length<=100)
  (KR:∀G6 A outer s H a,(∀AE σ H' s',Inv (Ac P w K mg base [n,kn] x (J1 st) f G6 A outer s H) AE σ H' s'->XAt a C s'.heap)->PSs (Ac P w K mg base [n,kn] x (J1 st) f G6 A outer s H) (V6 st) (yDA a l1 l2 l3)) :
  KU P w K mg base f C (l1++l2++l3):=λA outer s H a Q hr e0 ha hn ho k=>by
 obtain⟨o,rF,ZA⟩:=ha;refine yH6 (k:=1) (vs:=[.ref a]) (us:=[.ref a]) Fn S hr e0 ?_ rfl (.cons rfl .nil) λG6=>{_,KR G6 A outer s H a λAE σ H' s' I=>{o,I.base.keep a o rF hn ho (by exact C9),ZA},?_}
 .exact hb s [.ref a] (e0.mod.kin.keeps λb o e=>(e0.bs b o e).1) rfl
 .have z:∀n,n<=100->n<=sizeLine:=λn h=>AZ h 'd'
  refine{rfl,by rw[AJ];exact z _ 'l',λp1 h1=>{_,rfl,rfl,by rw[AJ];exact z _ 'l',λp2 h2=>?_}};have n21:=UX (HB (H:=H) (a:=p1) (o:=.lst (l1.map V.bl))) h2;refine{p1,p2,_,_,rfl,rfl,by rw[EV n21];exact HB,HB,by rw[AJ,AJ];exact z _ 'l',λp3 h3=>?_};refine{_,rfl,rfl,by rw[AJ];exact z _ 'l',λp4 h4=>?_};have n43:=UX (HB (a:=p3)) h4;refine{p3,p4,_,_,rfl,rfl,by rw[EV n43];exact HB,HB,by simp only[AJ,BH];exact z _ 'l',λp5 h5=>?_};refine k p5 _ ((((Gr.new h1).trans (Gr.new h2)).trans (Gr.new h3)).trans ((Gr.new h4).trans (Gr.new h5))) ?_ ?_
  .exact Gr.dom ((((Gr.new h1).trans (Gr.new h2)).trans (Gr.new h3)).trans (Gr.new h4)) _ h5
  .rw[HB,GD,GD]
end
theorem ObjOk.there(x:ObjOk P w H h a o):∃ob,h.get? a=AA ob:=by
 cases o with
 |lst xs=>obtain⟨_,_,_,_,e⟩:=x;exact{_,e}
 |tup xs=>obtain⟨_,_,_,o,e,_⟩:=x;exact{_,e}
 |dK kvs=>obtain⟨_,_,_,_,o,es,ep,e,_⟩:=x;exact{_,e}
 |dT kvs=>obtain⟨_,_,_,_,o,es,ep,e,_⟩:=x;exact{_,e}
 |set S n=>obtain⟨ob,es,ep,t,e,c⟩:=x;exact{_,e}
 |ins C dx fs=>obtain⟨_,_,_,e,_⟩:=x;exact{_,e}
 |own y=>exact x
 |xd fs=>obtain⟨mA,⟨od,es,ep,e,c⟩,r⟩:=x;exact{_,e}
 |rng lo hi=>obtain⟨t,u,v,e⟩:=x;exact{_,e}
 |frz ob u=>exact{_,x.1}
 |tbl q ps=>exact{_,x.1}
 |met f y=>exact{_,x}
 |ext φ=>exact x.2.1
theorem zVE{bs:List Bool}{W n kf:CT}{np YA p3 p4:gK}{fr:List AQ}{a0:AH}{D:Ends}(I:Inv X AE σ H s)(F:Fly X.prog X.w C X.stack H s a H1 h1 fr a0 s')
  (KK:KU X.prog X.w X.K X.mg X.base f C bs) (hr:Room 2 X.A) (hkf:X.mg kf=AA (.ref f)) (hkk:EO X.K (.ref f)=AL) (hW:X.mg W=AA (.ref WA)) (hx:NY X.K (.ref C) (.ref WA)=AA AL)
  (hN:X.N.Nodup) (hi:X.N[ie]?=AA n) (hj:X.N[ik]?=AA kn) (LX:ie≠ik) (XQ:X.env.scope.names.lookup n=AA .local) (R9:X.env.scope.names.lookup kn=AA .local)
  (stk:X.stack=X.env::X.outer) (hf:X.env.frame=AA X.env.locals)
  (q:∀p H',Gr H1 H'->H1 p=AK->H' p=AA (.lst (bs.map V.bl))->D.nx ((σ.set ik (AA (.ref p))).set ie AK) H')
  (Kt:Gl X W:=by rfl) (Ks:Gl X kf:=by rfl) (Ld:(W==("__debug__":CT))=AD:=by decide) (Lc:(kf==("__debug__":CT))=AD:=by decide) (La:(n==("__debug__":CT))=AD:=by decide) (Az:(n==("__classdict__":CT))=AD:=by decide)
  (he:AO [.Name n p1] X.env=(AD,eval (.Name n p1) X.env)::AO [] X.env:=by rfl) (nS:IL (.Call (.Name kf p2) [.Name n p1] [] TN) (AA (.Name kn p3)) YA.line X.env=pure AD:=by rfl) :
  A0 (A1 X.prog X.w) X.A (bI (.ref a) X.env) (λ_ O4=>A0 (A1 X.prog X.w) X.A (setFlight (.ref a) AK) (λ_ U7 =>
   A0 (A1 X.prog X.w) X.A (handleBy (.ref a) X.env [.ExceptHandler (AA (.Name W np)) (AA n) [.Assign [.Name kn p3] (.Call (.Name kf p2) [.Name n p1] [] TN) YA] p4]) (SP X AE D) X.xe U7) X.xe O4) X.xe s':=by
 have vC:∀h5,(IT h1 fr).StaysIn h5->h1.UpToSlots h5->Inv X AE σ H1 { s' with heap:=h5 }:=λh5 st up=>by
  obtain⟨un,hok⟩:=F.kept st up;exact I.call' (s':={ s' with heap:=h5 }) (ch:=[]) F.os un hok F.bare λb z=>absurd z 's'
 have na:H1 a=AK:=by
  cases z:H1 a with
  |none=>rfl
  |some u =>
   obtain⟨o,e⟩:=(F.hok a u z).there;rw[F.new] at e;cases e
 have aL:a∉RA X.stack:=λz=>by
  obtain⟨_,o,e,_⟩:=I.stack.mem z;obtain⟨o',e'⟩:=F.un.there a o e 's';rw[F.new] at e';cases e'
 have Zx:a≠X.env.locals:=λz=>aL (by rw[stk,z];unfold RA;rw[DN,hf];exact A8);refine wpAny_looks_onW (by rw[I.ok.frames,stk]) hf (stk▸F.fl) λh4 Ky up4=>?_;refine wpAny_landsW Ky λh5 Ll Aj=>?_;have Aj:=(F.up.trans up4).trans Aj;have I5:=vC h5 Ll.1 Aj;refine wpAny_handleBy_cons (codeAny_handlers_test (pU (I5.heat a) Kt hW ?_ Ld)) (by intro z;cases z);refine(PySem.W.exm_one I5.kIn (XAt.type Ll.there) hx).here ?_;refine codeAny_handlers_suite_as ?_;refine lands_againW Ll λh6 Zm up6=>?_;have I6:=vC h6 Zm.1 (Aj.trans up6);obtain⟨oa,vs,ea,ca,da,_⟩:=Zm.first;refine Em (v:=.ref a) I6 hN hi (.inl XQ) rfl (λs7 I7 hs7=>?_) (.inr XQ);obtain⟨c,sb,hc⟩:=hs7
 have ea7:s7.heap.get? a=AA oa:=by
  refine(sb.2 a λz=>?_).trans ea;rcases hc with hc|hc
  .exact Zx (z.trans hc)
  .obtain⟨v,o,e,d⟩:=I6.cell n c hc
   have e:h6.get? c=AA o:=e;rw[<-z,ea] at e;cases e;rw[da] at d;cases d
 have I7:Inv (X.hot a) ((a,oa)::AE) _ H1 s7:=(I7.heat a).pins_of λp hp=>by
  rcases BC.mp hp with rfl|hp
  .exact{ea7,na,Zx,λz=>aL (by rw[stk];unfold RA;rw[DN,hf];exact A4 _ z),λv d=>by rw[da] at d;cases d}
  .exact I7.pin p (BM _ hp)
 have Kn:ie < σ.length:=by rw[I.len];exact(AR.mp hi).1
 have fV:n≠kn:=λe=>LX (yS hN hi (e▸hj))
 have uH:A0 (A1 X.prog X.w) (X.hot a).A (execs [.Assign [.Name kn p3] (.Call (.Name kf p2) [.Name n p1] [] TN) YA] X.env) (λfl s8=>fl=.next/\∃p H',Gr H1 H'/\H1 p=AK/\H' p=AA (.lst (bs.map V.bl))/\Inv (X.hot a) ((a,oa)::AE) ((σ.set ie (AA (.ref a))).set ik (AA (.ref p))) H' s8) (λ_ _=>False) s7:=by
  refine KW (C7 (Q:=λfl s8=>fl=.next/\∃p H',Gr H1 H'/\H1 p=AK/\H' p=AA (.lst (bs.map V.bl))/\Inv (X.hot a) ((a,oa)::AE) ((σ.set ie (AA (.ref a))).set ik (AA (.ref p))) H' s8) ?_ (λfl s8 z=>?_) λ_ _ z=>z)
  .refine TV (IA (pU (X:=X.hot a) I7 Ks hkf ?_ Lc)) nS
   refine OR (h₀:=X.base) I7.ok.mod.kin hkk (GV (TC (iD (X:=X.hot a) hi (.inl XQ) La Az) HZ he TN _ s7 _ H1 (λvs H2=>vs=[.ref a]/\H2=H1) I7 {_,BF Kn,rfl,rfl}) λus s8 z=>?_) he rfl;obtain⟨vs,H2,I8,r8,rfl,rfl⟩:=z
   cases r8 with
   |cons r8 r9 =>
    cases r8;cases r9;refine{I8.kIn,SI (MA (KK (X.hot a).A X.stack s8 H2 a (λv H'=>∃p,v=.ref p/\Gr H2 H'/\H2 p=AK/\H' p=AA (.lst (bs.map V.bl))) {rfl,hr.dp,hr.un,hr.gd} I8.env0 ?_ na aL λp H' g1 g2 g3=>{p,rfl,g1,g2,g3}) λr s9 hq=>?_)}
    .exact{oa,(I8.pin (a,oa) (BM _ A8)).1,ca}
    .cases r with
     |error e=>exact hq.elim
     |ok fl =>
      cases fl with
      |ret u =>
       obtain⟨v,H3,I9,rv,p,rfl,g1,g2,g3⟩:=I8.after hq;cases rv;exact yR (X:=X.hot a) (v:=.ref p) I9 hN hj (.inl R9) rfl (λIa wX=>{rfl,p,H3,g1,g2,g3,wX}) (.inr R9)
      |next=>exact hq.elim
      |brk=>exact hq.elim
      |cont=>exact hq.elim
  .obtain⟨rfl,z⟩:=z
   exact IJ {rfl,z}
 refine C7 uH (λfl s8 z=>?_) λ_ _ z=>z.elim;obtain⟨rfl,p,H',g,hp,hl,I8⟩:=z;have I8:=(pAN I.ok I8).pins_of (pins':=AE) λp hp=>I8.pin p (BM _ (A4 _ hp));refine AB (wpAny_bindName (yR I8 hN hi (.inl XQ) (v:=.non) rfl (λs9 I9=>?_) (.inr XQ)));refine NW (zR8 I9 hN hi XQ (v:=.non) (by rw[BF (by rw[B9,B9];exact Kn)]) λIa wX=>?_);refine{(σ.set ik (AA (.ref p))).set ie AK,H',wX.weak (by simp only[B9]) λi v e=>?_,q p H' g hp hl}
 by_cases h1:ie=i
 .subst h1
  rw[BF (by rw[B9];exact Kn)] at e;cases e
 .rw[A5 h1] at e
  rw[A5 h1,A5 h1]
  by_cases h2:ik=i
  .subst h2
   have dN:ik < σ.length:=by rw[I.len];exact(AR.mp hj).1
   rw[BF dN] at e;rw[BF (by rw[B9];exact dN)];exact e
  .rw[A5 h2] at e
   rw[A5 h2,A5 h1];exact e
abbrev GX:=Ev->Out Ev
def tX(K:AC)(H₀:Hp)(W:Hp->Prop)(g:GX):TS:=λ_ σ H=>∃τ F E E',Sim K H₀ τ F H σ E/\g E=.ok E'/\∀F' H',Stp (DY σ E) F H F' H' (λ_=>False)->Sub F' H'->W H'
def Ui(gs:List G):GX:=λE=>(NL gs E).bind λp=>few p.1.length (.ok p.2)
def zO(t:Ev->Out (Bool×Ev))(g:GX):GX:=λE=>(t E).bind λp=>if p.1=AL then g p.2 else .bad
section
variable{K:AC}{E:XK}
theorem zSA{np:gK}{gs:List G}{rest:List E6}{B ini:String}(FB:ExcBaseFacts B Y7 ini bm)(Z:J3 K C bm Y7=AL)(hm:mg x=AA (.ref C))(hh:A.handled=AK)
  (ha:VA (O1 (QJ P w C) P w K mg base N qual scope f cd A outer s₀ H₀ E) (e::es) gs) (hg:Gl (O1 (QJ P w C) P w K mg base N qual scope f cd A outer s₀ H₀ E) x:=by rfl) (hd:(x==("__debug__":CT))=AD:=by decide)
  (he:AO (e::es) (FY qual scope s₀.heap.objs.size f cd)=(AD,eval e (FY qual scope s₀.heap.objs.size f cd))::AO es (FY qual scope s₀.heap.objs.size f cd):=by rfl)
  (JW:(DO GW (AO es (FY qual scope s₀.heap.objs.size f cd))).any (·.1)=AD:=by rfl) :
  PSs (O1 (QJ P w C) P w K mg base N qual scope f cd A outer s₀ H₀ E) (.Raise (AA (.Call (.Name x np) (e::es) [] GW)) AK pos::rest) (tX K H₀ (λH'=>E (.ref C) AK H') (Ui gs)) :=
 (cE (zVC FB Z hm hh ha hg hd he JW) El).imp λD σ H h=>by
  obtain⟨τ,F,E1,E2,S,hg,k⟩:=h;obtain⟨p,e1,hg⟩:=pA3 hg;obtain⟨hl,hg⟩:=XY hg;exact{τ,F,E1,p.1,p.2,S,e1,λvs F1 H1 s1 S1 r1=>{by rw[r1.length];exact CW (cC hl),k F1 H1 (s1.weak λ_ z=>z.elim) S1.sub}}
end
section
variable{W:Hp->Prop}{gx:GX}
theorem yDB{a rest:List E6}{t:Ev->Out (Bool×Ev)}(hc:VT X c t)(ha:PSs X a (tX X.K X.H₀ W gx)):PSs X (.If c a [] pos::rest) (tX X.K X.H₀ W (zO t gx)) :=
 (cE (Cc hc ha UY) El).imp λD σ H h=>by
  obtain⟨τ,F,E1,E2,S,hg,k⟩:=h;obtain⟨p,e1,hg⟩:=pA3 hg;refine{τ,F,E1,p.1,p.2,S,e1,λF1 H1 s1 S1=>?_}
  by_cases hp:p.1=AL
  .rw[if_pos hp] at hg ⊢
   exact{τ,F1,p.2,E2,S1,hg,λF2 H2 s2 b=>k F2 H2 (s1.trans s2) b}
  .rw[if_neg hp] at hg;cases hg
end
theorem Sim.pad{K:AC}{ds:List D}(N:List CT)(s:Sub F H)(r:Reps K F vs ds):Sim K H₀ τ F H (start N vs) (ds.map Sl.val++BG (N.length-ds.length) .no):=by
 have lv:=r.length;have S:=Sim.args (K:=K) (H₀:=H₀) (τ:=τ) s r
 have ZD:∀(i:Nat) x,(ds.map Sl.val++BG (N.length-ds.length) Sl.no)[i]?=AA x->x≠.no->i<ds.length/\(ds.map Sl.val)[i]?=AA x:=λi x q n=>by
  by_cases hi:i<ds.length
  .rw[CC (by rw[AJ];exact hi)] at q;exact{hi,q}
  .rw[B0 (by rw[AJ];exact E4 hi),DW] at q
   split at q
   .cases q;exact absurd rfl n
   .cases q
 have no:∀(i:Nat) t d,(ds.map Sl.val++BG (N.length-ds.length) Sl.no)[i]?≠AA (.own t d):=λi t d q=>by
  have:=(ZD i _ q λz=>by cases z).2;rw[AU] at this
  cases z:ds[i]? with
  |none=>rw[z] at this;cases this
  |some x=>rw[z] at this;cases this
 refine{s,?_,λi d q=>?_,λi t d q=>absurd q (no i t d),λi j t u d e a q=>absurd q (no i t d)}
 .unfold start
  rw[BH,BH,DC,DC,AJ,AJ,lv]
 .obtain⟨hi,q⟩:=ZD i _ q λz=>by cases z
  unfold start;rw[CC (by rw[AJ,lv];exact hi)];exact S.val i d q
def qS(K:AC)(C:AQ)(np:Nat)(mx:List D->Out Ev):Sp:=λvs H _ E=>vs.length=np/\∃F ds z,Sub F H/\Reps K F vs ds/\mx ds=.ok z/\∀F' H',New F H F' H'->E (.ref C) AK H'
noncomputable def zN(n:Nat)(g:GX):List D->Out Ev:=λds=>g (ds.map Sl.val++BG (n-ds.length) .no)
def qH(P:CQ)(w:D3)(K:AC)(mg:CT->Option AH)(base:D4)(C:AQ)(x:CT)(k np:Nat)(mx:List D->Out Ev):Prop :=
 ∃(f:AQ) (fd:JR) (ps:List CT),FnOk P w K mg base (QJ P w C) k f fd ps (qS K C np mx)/\mg x=AA (.ref f)/\EO K (.ref f)=AL/\Binds K fd ps []
section
variable{K:AC}
theorem Ft{st:E6}{ps:List CT}{gx:GX}(Fn:Fun K x qual st f fd)(S:FnScope N ps (J1 st))
  (KR:∀(G6:AH) (A:DQ) (outer:List XC) (s:AT) (H:Hp) (E:XK),Room k (A.deeper (FY qual (J1 st) s.heap.objs.size f G6))->A.handled=AK ->
   PSs (O1 (QJ P w C) P w K mg base N qual (J1 st) f G6 A outer s H E) (V6 st) (tX K H (λH'=>E (.ref C) AK H') gx)):FnOk P w K mg base (QJ P w C) (k+1) f fd ps (qS K C ps.length (zN N.length gx)):=by
 obtain⟨oc,od,kV,SF,pm,an,G6,ct,Z4,rfl,lk,L9⟩:=Fn.ex;refine Cb lk L9 S (λvs H Q E h=>h.1) λA outer s H vs Q E hr bB=>{_,KR G6 A outer s H E hr hr.hd,?_};obtain⟨hl,F,ds,z,sb,r,hm,q⟩:=bB;have S:=Sim.pad (K:=K) (H₀:=H) (τ:=f) N sb r;refine{f,F,_,z,S,hm,λF' H' st Hz=>q F' H' {{λa o e1 e2 e3 _=>st.keep a o e1 e2 e3 λz=>?_,st.dom,st.le,λa o e=>?_,λ_ z=>z.elim},Hz}}
 .obtain⟨i,t,d,e,_⟩:=z
  by_cases hi:i<ds.length
  .rw[CC (by rw[AJ];exact hi),AU,BO hi] at e;cases e
  .rw[B0 (by rw[AJ];exact E4 hi),DW] at e
   split at e<;>cases e
 .rcases st.new a o e with z|z|⟨i,t,d,e,_⟩
  .exact .inl z
  .exact .inr (.inl z)
  .by_cases hi:i<ds.length
   .rw[CC (by rw[AJ];exact hi),AU,BO hi] at e;cases e
   .rw[B0 (by rw[AJ];exact E4 hi),DW] at e
    split at e<;>cases e
theorem pAO{ps:List CT}{st:E6}{mx:List D->Out Ev}(Fn:Fun K x x st f fd)(h:FnOk P w K mg base (QJ P w C) k f fd ps (qS K C np mx))(hm:mg x=AA (.ref f))(hb:Binds K fd ps []):qH P w K mg base C x k np mx:={f,fd,ps,h,hm,Fn.kp,hb}
end
def lV(g:GS)(gs:List G)(mx:List D->Out Ev)(ik ie:Nat)(bs:List Bool):GS:=λE=>match g E with
 |.ok r=>.ok r
 |_=>(NL gs E).bind λp=>(mx p.1).bind λ_=>.ok (.nx ((p.2.set ik (.val (.lst (bs.map D.bl)))).set ie .no))
theorem Sim.lose{K:AC}{E:Ev}{u:Option V}(S:Sim K H₀ τ F H σ E):Sim K H₀ τ F H (σ.set i u) (E.set i .no)/\∀a,DY (σ.set i u) (E.set i .no) a->DY σ E a:=by
 have H9:∀(j:Nat) x,(E.set i Sl.no)[j]?=AA x->x≠.no->E[j]?=AA x/\(σ.set i u)[j]?=σ[j]?:=λj x q n=>by
  by_cases hj:i=j
  .subst hj
   by_cases hi:i<E.length
   .rw[BF hi] at q;cases q;exact absurd rfl n
   .rw[N2 (by rw[B9];exact E4 hi)] at q;cases q
  .rw[A5 hj] at q;exact{q,A5 hj}
 have ow:∀{j:Nat} {t d},(E.set i Sl.no)[j]?=AA (.own t d)->E[j]?=AA (.own t d)/\(σ.set i u)[j]?=σ[j]?:=λ{j t d} q=>H9 j _ q λz=>by cases z
 refine{{S.sub,by rw[B9,B9];exact S.len,λj d q=>?_,λj t d q=>?_,λj k t1 t2 d1 d2 a q1 q2 z1 z2=>?_},λa ⟨j,t,d,q1,q2⟩=>?_}
 .obtain⟨q1,q2⟩:=H9 j _ q λz=>by cases z
  rw[q2];exact S.val j d q1
 .rw[(ow q).2];exact S.own j t d (ow q).1
 .rw[(ow q1).2] at z1
  rw[(ow q2).2] at z2;exact S.inj j k _ _ _ _ a (ow q1).1 (ow q2).1 z1 z2
 .rw[(ow q1).2] at q2
  exact{j,t,d,(ow q1).1,q2}
theorem Og{K:AC}{F:Hp}:∀(bs:List Bool),Reps K F (bs.map V.bl) (bs.map D.bl)
 |[]=>.nil
 |b::bs=>.cons (.bl b) (Og bs)
theorem yDC{fk:AQ}{bs:List Bool}{W n kf tn:CT}{nw YA p3 p4 p5 p6:gK}{gs:List G}{g:GS}{mx:List D->Out Ev}
  (hb:VS X (.Assign [.Name tn p5] (.Call (.Name x p6) (e::es) [] GW) MQ) g) (CL:qH X.prog X.w X.K X.mg X.base C x k np mx) (hr:Room k X.A) (ha:VA X (e::es) gs)
  (KK:KU X.prog X.w X.K X.mg X.base fk C bs) (nZ:Room 2 X.A) (hkf:X.mg kf=AA (.ref fk)) (hkk:EO X.K (.ref fk)=AL) (hW:X.mg W=AA (.ref WA)) (hx:NY X.K (.ref C) (.ref WA)=AA AL)
  (hN:X.N.Nodup) (hi:X.N[ie]?=AA n) (hj:X.N[ik]?=AA kn) (LX:ie≠ik) (XQ:X.env.scope.names.lookup n=AA .local) (R9:X.env.scope.names.lookup kn=AA .local)
  (stk:X.stack=X.env::X.outer:=by rfl) (hf:X.env.frame=AA X.env.locals:=by rfl) (vP:X.xe=λ_ _=>False:=by rfl) (Ay:gs.length=np:=by rfl)
  (Kt:Gl X W:=by rfl) (Ks:Gl X kf:=by rfl) (hgx:Gl X x:=by rfl) (Ld:(W==("__debug__":CT))=AD:=by decide) (Lc:(kf==("__debug__":CT))=AD:=by decide) (hdx:(x==("__debug__":CT))=AD:=by decide) (La:(n==("__debug__":CT))=AD:=by decide) (Az:(n==("__classdict__":CT))=AD:=by decide)
  (he:AO [.Name n p1] X.env=(AD,eval (.Name n p1) X.env)::AO [] X.env:=by rfl) (nS:IL (.Call (.Name kf p2) [.Name n p1] [] TN) (AA (.Name kn p3)) YA.line X.env=pure AD:=by rfl)
  (Kz:AO (e::es) X.env=(AD,eval e X.env)::AO es X.env:=by rfl) (JW:(DO GW (AO es X.env)).any (·.1)=AD:=by rfl) (hsx:IL (.Call (.Name x p6) (e::es) [] GW) (AA (.Name tn p5)) MQ.line X.env=pure AD:=by rfl) :
  VS X (.Try [.Assign [.Name tn p5] (.Call (.Name x p6) (e::es) [] GW) MQ] [.ExceptHandler (AA (.Name W nw)) (AA n) [.Assign [.Name kn p3] (.Call (.Name kf p2) [.Name n p1] [] TN) YA] p4] [] [] pos) (lV g gs mx ik ie bs):=by
 intro AE s σ H D' I h;obtain⟨τ,F,E,r,S,hg,q⟩:=h;refine wpAny_Try_except ?_;unfold lV at hg;split at hg
 .rename_i r' eg
  cases hg;refine KW (C7 (hb AE s σ H D' I {τ,F,E,r,S,eg,q}) (λfl s1 z=>?_) λe s1 z=>?_)
  .cases fl with
   |next=>exact IJ (IJ z)
   |brk=>exact z
   |cont=>exact z
   |ret u=>exact z
  .rw[vP] at z;exact z.elim
 .obtain⟨p,e1,hg⟩:=pA3 hg
  obtain⟨z,e2,hg⟩:=pA3 hg;cases hg;obtain⟨f,fd,ps,Fn,hm,hk,hbn⟩:=CL;refine KW (TV (IA (pU I hgx hm ?_ hdx)) hsx);refine OR (h₀:=X.base) I.ok.mod.kin hk (C7 (ha GW AE s σ H (λvs H1=>∃F1,Stp (DY σ E) F H F1 H1 (DY σ p.2)/\Sim X.K X.H₀ τ F1 H1 σ p.2/\Reps X.K F1 vs p.1) I {τ,F,E,p.1,p.2,S,e1,λvs F1 H1 s1 S1 r1=>{F1,s1,S1,r1}}) (λus s1 z0=>?_) λ_ _ z=>by rw[vP] at z;exact z.elim) Kz JW;obtain⟨vs,H1,I1,r1,F1,s1',S1,rp⟩:=z0;refine{I1.kIn,?_}
  have hl:us.length=ps.length:=by
   rw[<-r1.length];exact Fn.len vs H1 (λ_ _=>False) (λcls _ H2=>cls=.ref C/\∃F2,New F1 H1 F2 H2) {by rw[rp.length,kG e1];exact Ay,F1,p.1,z,S1.sub,rp,e2,λF2 H2 n=>{rfl,F2,n}}
  refine SI (MA (Fn.run X.A X.stack s1 H1 {us,[]} us vs (λ_ _=>False) (λcls _ H2=>cls=.ref C/\∃F2,New F1 H1 F2 H2) hr I1.env0 ?_ r1 {by rw[rp.length,kG e1];exact Ay,F1,p.1,z,S1.sub,rp,e2,λF2 H2 n=>{rfl,F2,n}}) λrr s2 hq=>?_)
  .have:=hbn s1 us I1.kIn (by rw[DJ];exact hl)
   rw[DJ] at this;exact this
  .cases rr with
   |ok fl =>
    cases fl with
    |ret u=>obtain⟨_,_,_,_,_,_,_,z⟩:=hq;exact z.elim
    |next=>exact hq.elim
    |brk=>exact hq.elim
    |cont=>exact hq.elim
   |error ee =>
    obtain⟨a,H2,h1,fr,a0,rfl,Fy,_,F2,n2⟩:=hq;refine zVE (D:=D') I1 Fy KK nZ hkf hkk hW hx hN hi hj LX XQ R9 stk hf (λpp H3 gr hp hl3=>?_) Kt Ks Ld Lc La Az he nS;have n3:=n2.trans (New.gro n2.2 gr);have rr:Rep X.K (gro F2 H2 H3) (.ref pp) (.lst (bs.map D.bl)):=.lst (.inl (.inl (by rw[yC hp];exact hl3))) (Og bs);obtain⟨S4,w4⟩:=(S1.new n3).put (i:=ik) rr;obtain⟨S5,w5⟩:=S4.lose (i:=ie) (u:=AK);exact q _ _ _ (((s1'.trans n3.stp).weak w4).weak w5) S5
section
variable{K:AC}
end
end L2
namespace L2
open PySem
structure TryS(P:CQ)(w:D3)(K:AC)(mg:CT->Option AH)(base:D4)(C WA fk:AQ)(bs:List Bool):Prop where
 KK:KU P w K mg base fk C bs
 hkf:mg "_law_kinds"=AA (.ref fk)
 hkk:EO K (.ref fk)=AL
 hW:mg "WayError"=AA (.ref WA)
 hx:NY K (.ref C) (.ref WA)=AA AL
end L2
namespace L2
open PySem PySem.Spec PyProof.Rows
section
variable{d:AQ}{es:Array J4}
end
end L2
variable{gm:L2.GM}{E':L2.Ev}{m:L2.Mr}{t2:Bool}
namespace L2
open PySem
theorem HQ{x:Out α}{a:α}{f:α->Out β}{r:Out β}(h:x=.ok a)(h2:f a=r):x.bind f=r:=by rw[h];exact h2
theorem HV{g g':GS}{E:Ev}{r:Out Fl}(h:g E=.ok (.nx E1))(h2:g' E1=r):G5 g g' E=r:=by
 unfold G5;rw[h];exact h2
theorem sC{g g':GS}{E:Ev}{b:Bool}{d:D}(h:g E=.ok (.rt b d E1)):G5 g g' E=.ok (.rt b d E1):=by
 unfold G5;rw[h];rfl
theorem aP{t:Ev->Out (Bool×Ev)}{g g':GS}{E:Ev}{r:Out Fl}(h:t E=.ok (AL,E1))(h2:g E1=r):OT t g g' E=r:=by
 unfold OT;rw[h];exact h2
theorem UT{t:Ev->Out (Bool×Ev)}{g g':GS}{E:Ev}{r:Out Fl}(h:t E=.ok (AD,E1))(h2:g' E1=r):OT t g g' E=r:=by
 unfold OT;rw[h];exact h2
theorem yM{t:Tg}{g:GS}(P:Nat->Ev->Prop):∀{ds:List D} {E:Ev} (o:Nat),P o E ->
  (∀i d E,ds[i]?=AA d->P (o+i) E->∃E1,WS t d E=.ok E1/\∃E2,g E1=.ok (.nx E2)/\P (o+(i+1)) E2)->∃E',UD t g ds E=.ok (.nx E')/\P (o+ds.length) E'
 |[],E,o,h0,_=>{E,rfl,h0}
 |d::ds,E,o,h0,hs=>by
  obtain⟨E1,e1,E2,e2,p2⟩:=hs 0 d E rfl h0
  obtain⟨E',e',p'⟩:=yM P (ds:=ds) (E:=E2) (o+1) p2 λi d' E3 hd hp=>by
   have:=hs (i+1) d' E3 (by simpa using hd) (by rw[show o+(i+1)=o+1+i by lia];exact hp);rw[show o+(i+1+1)=o+1+(i+1) by lia] at this;exact this
  refine{E',?_,?_}
  .unfold UD;rw[e1];simp only[Out.bind];rw[e2];exact e'
  .rw[BB,show o+(ds.length+1)=o+1+ds.length by lia];exact p'
theorem iE{t:Tg}{g:GS}{E:Ev}{ds:List D}(P:Nat->Ev->Prop)(hi:gi E=.ok (ds,E1))(h0:P 0 E1)
  (hs:∀i d E,ds[i]?=AA d->P i E->∃E1,WS t d E=.ok E1/\∃E2,g E1=.ok (.nx E2)/\P (i+1) E2):∃E',QT gi t g E=.ok (.nx E')/\P ds.length E':=by
 obtain⟨E',e,p⟩:=yM (t:=t) (g:=g) P (ds:=ds) (E:=E1) 0 h0 (λi d E hd hp=>by
  rw[ES] at hp ⊢;exact hs i d E hd hp)
 refine{E',?_,by simpa using p};unfold QT;rw[hi];exact e
theorem sB{t:Ev->Out (Bool×Ev)}{g:GS}(P:Nat->Ev->Prop)(Q:Ev->Prop)
  (hs:∀n E,P n E->(∃E1,t E=.ok (AD,E1)/\Q E1)\/(∃E1 E2 m,t E=.ok (AL,E1)/\g E1=.ok (.nx E2)/\m<n/\P m E2)) :
  ∀(fuel n:Nat) (E:Ev),n<fuel->P n E->∃E',XJ t g fuel E=.ok (.nx E')/\Q E'
 |0,n,E,hn,_=>by lia
 |fuel+1,n,E,hn,h=>by
  rcases hs n E h with⟨E1,e1,q⟩|⟨E1,E2,m,e1,e2,hm,p⟩
  .refine{E1,?_,q}
   unfold XJ;rw[e1];rfl
  .obtain⟨E',e',q⟩:=sB P Q hs fuel m E2 (AN hm (IG hn)) p
   refine{E',?_,q};unfold XJ;rw[e1];simp only[Out.bind,if_true];rw[e2];exact e'
theorem ZQ{x:Out α}(h:n<10000):few n x=x:=if_pos h
theorem yDD{t:Tg}(f:D->List D)(M:Nat)(P:Ev->Prop):∀{ds acc:List D} {E:Ev},P E->acc.length+ds.length * M<10000->(∀d∈ds,(f d).length<=M) ->
  (∀d∈ds,∀(acc:List D) (E:Ev),acc.length+M<10000->P E->∃E1,WS t d E=.ok E1/\∃b E2,tt E1=.ok (b,E2)/\((b=AL/\∃E3,gm (.lst acc) E2=.ok (.lst (acc++f d),E3)/\P E3)\/(b=AD/\f d=[]/\P E2))) ->
  ∃E',ZP t tt gm ds (.lst acc) E=.ok (.lst (acc++ds.flatMap f),E')/\P E'
  := by
 intro ds
 induction ds with
 |nil=>intro acc E h0 _ _ _;exact{E,by simp[ZP],h0}
 |cons d ds ih =>
  intro acc E h0 hl hM hs;rw[BB,Nat.succ_mul] at hl;obtain⟨E1,e1,b,E2,e2,h⟩:=hs d A8 acc E 'l' h0;have hd:=hM d A8;rcases h with⟨rfl,E3,e3,p⟩|⟨rfl,ef,p⟩
  .obtain⟨E',e',p'⟩:=ih (acc:=acc++f d) (E:=E3) p (by rw[BH];lia) (λd hd=>hM d (A4 _ hd)) λd hd=>hs d (A4 _ hd)
   refine{E',?_,p'};unfold ZP;rw[e1];simp only[Out.bind];rw[e2];simp only[if_true];rw[e3];simp only;rw[e',FF,CM]
  .obtain⟨E',e',p'⟩:=ih (acc:=acc) (E:=E2) p 'l' (λd hd=>hM d (A4 _ hd)) λd hd=>hs d (A4 _ hd)
   refine{E',?_,p'};unfold ZP;rw[e1];simp only[Out.bind];rw[e2];simp only[if_false,D7];rw[e',FF,ef,GC]
theorem zZE{ge:G}{acc:List D}{E:Ev}{x:D}(h:ge E=.ok (x,E'))(hl:acc.length<10000):Bw ge (.lst acc) E=.ok (.lst (acc++[x]),E'):=HQ h (ZQ hl)
theorem zVF{t:Tg}{E:Ev}{ds:List D}(f:D->List D)(M:Nat)(P:Ev->Prop)(hi:gi E=.ok (ds,E1))(h0:P (XG k js E1))(hl:ds.length * M<10000)(hM:∀d∈ds,(f d).length<=M)
  (hs:∀d∈ds,∀(acc:List D) (E:Ev),acc.length+M<10000->P E->∃E1,WS t d E=.ok E1/\∃b E2,tt E1=.ok (b,E2)/\((b=AL/\∃E3,gm (.lst acc) E2=.ok (.lst (acc++f d),E3)/\P E3)\/(b=AD/\f d=[]/\P E2)))
  (hb:∀Ec,P Ec->aX E1 Ec k js=E1):mM gi k js (.lst []) t tt gm E=.ok (.lst (ds.flatMap f),E1):=by
 obtain⟨E',e',p'⟩:=yDD f M P (ds:=ds) (acc:=[]) h0 (by simpa using hl) hM hs;unfold mM;rw[hi];simp only[Out.bind];rw[e'];simp only[Out.bind,GC];rw[hb _ p']
theorem pQ{t:Tg}{ge:G}{E:Ev}{ds:List D}(f:D->List D)(P:Ev->Prop)(hi:gi E=.ok (ds,E1))(h0:P (XG k js E1))(hl:ds.length<10000)
  (hs:∀d∈ds,∀E,P E->∃E1,WS t d E=.ok E1/\∃b E2,tt E1=.ok (b,E2)/\((b=AL/\∃x E3,ge E2=.ok (x,E3)/\f d=[x]/\P E3)\/(b=AD/\f d=[]/\P E2)))
  (hb:∀Ec,P Ec->aX E1 Ec k js=E1):V3 gi k js t tt ge E=.ok (.lst (ds.flatMap f),E1):=by
 by_cases hP:∀d∈ds,∃E,P E
 .refine zVF f 1 P hi h0 'l' (λd hd=>?_) (λd hd acc E dU hE=>?_) hb
  .obtain⟨E,hE⟩:=hP d hd
   obtain⟨_,_,_,_,_,⟨_,x,_,_,ef,_⟩|⟨_,ef,_⟩⟩:=hs d hd E hE
   .rw[ef];exact AM _
   .rw[ef];exact BS _
  .obtain⟨E1,e1,b,E2,e2,⟨hb,x,E3,e3,ef,p⟩|h⟩:=hs d hd E hE
   .exact{E1,e1,b,E2,e2,.inl {hb,E3,by rw[ef];exact zZE e3 (AS (A2 _ _) dU),p}}
   .exact{E1,e1,b,E2,e2,.inr h}
 .exact absurd (λd hd=>{_,h0}) hP
def Pl(n:Nat)(d:D):Prop:=∃p,d.py=AA p/\p.depth<=n/\p.canLay0=AL
def Pls(n:Nat)(ds:List D):Prop:=∃ps,pAH ds=AA ps/\RL ps<=n/\FZ ps=AL
theorem Pl.int(n:Nat)(i:Int):Pl n (.int i):={_,rfl,BS _,rfl}
theorem Pls.nil(n:Nat):Pls n []:={_,rfl,BS _,rfl}
theorem Pls.cons{d:D}{ds:List D}(h:Pl n d)(t:Pls n ds):Pls n (d::ds):=by
 obtain⟨p,e,a,b⟩:=h;obtain⟨ps,e2,a2,b2⟩:=t;exact{p::ps,by simp[pAH,e,e2],by simp only[RL];lia,by simp[FZ,b,b2]}
theorem Pls.tup{n:Nat}{ds:List D}(t:Pls n ds):Pl (n+1) (.tup ds):=by
 obtain⟨ps,e2,a2,b2⟩:=t;exact{.tuple ps,by simp[D.py,e2],by simp only[IM];lia,b2}
theorem Pls.lst{n:Nat}{ds:List D}(t:Pls n ds):Pl (n+1) (.lst ds):=by
 obtain⟨ps,e2,a2,b2⟩:=t;exact{.list ps,by simp[D.py,e2],by simp only[IM];lia,b2}
theorem Pls.of{α:Type}{n:Nat}{f:α->D}:∀{xs:List α},(∀x∈xs,Pl n (f x))->Pls n (xs.map f)
 |[],_=>.nil n
 |x::xs,h=>.cons (h x A8) (Pls.of λy hy=>h y (A4 _ hy))
theorem Pls.ints(n:Nat)(ns:List Int):Pls n (ns.map D.int):=Pls.of λ_ _=>.int _ _
theorem zVG{d:D}(h:Pl 60 d):Z1 d d=.ok (.bl AL):=by
 obtain⟨p,e,a,b⟩:=h;unfold Z1;simp only[e];rw[if_pos (AZ (lQ _ _) a),SeqAt.eqv_refl p b]
theorem zZF(a b:Int):Z1 (.int a) (.int b)=.ok (.bl (decide (a=b))):=by
 simp only[Z1,D.py,IM,EJ]
 by_cases h:a=b<;>simp[h]
theorem sQ(a b:Int):NO (.int a) (.int b)=.ok (.bl (decide (a≠b))):=by
 simp only[NO,D.py,IM,EJ]
 by_cases h:a=b<;>simp[h]
theorem zVH(a:Int):NO (.int a) .non=.ok (.bl AL):=by
 simp[NO,D.py,IM,EJ]
theorem Of{ds:List D}(h:Pls n ds):NO (.lst ds) (.lst [])=.ok (.bl (!ds.isEmpty)):=by
 obtain⟨ps,e2,a2,b2⟩:=h;have e0:pAH []=AA []:=by simp[pAH]
 unfold NO;simp only[D.py,e2,e0,Option.map];rw[if_pos (by simp only[IM,RL];lia),EJ]
 cases ds with
 |nil=>rw[e0] at e2;cases e2;rfl
 |cons d ds =>
  cases ps with
  |nil =>
   simp only[pAH] at e2;split at e2<;>simp at e2
  |cons p ps=>rfl
theorem Dx:∀ns:List Int,pAH (ns.map D.int)=AA (ns.map ZG)
 |[]=>by simp[pAH]
 |n::ns=>by simp[pAH,D.py,Dx ns]
theorem Oe(x:Int)(ns:List Int):UG (.int x) (.lst (ns.map D.int))=.ok (.bl (decide (x∈ns))):=by
 simp only[UG,Dx,D.py];rw[if_pos (show IM (.int x)<=60 from BS _),Ei]
theorem Dg(x:Int)(ns:List Int):UG (.int x) (.tup (ns.map D.int))=.ok (.bl (decide (x∈ns))):=by
 simp only[UG,Dx,D.py];rw[if_pos (show IM (.int x)<=60 from BS _),Ei]
theorem Tw(ps:List (Int×Int)):jW [.lst (ps.map S7)]=.ok (.lst ((ZS ps).map S7)):=by
 cases ps with
 |nil=>simp[jW,Q5,pC,ZS]
 |cons p ps =>
  have:=yY (p::ps);simp only[jW];rw[this,show Q5 ((p::ps).map S7)=AK from rfl]
theorem sA{xs:List α}{i:Int}{x:α}(h0:0<=i)(h:xs[i.toNat]?=AA x):atI xs i=AA x:=by
 have:=Ph (xs:=xs) (j:=i.toNat) h
 rwa [show((i.toNat:Nat):Int)=i by lia] at this
theorem Ci{i:Int}(h0:0<=i)(h:i<n):XI n i=AA i.toNat:=by
 unfold XI;rw[if_pos h0,if_pos h]
section
variable[DecidableEq κ]
theorem zJS(kvs:List (κ×D))(k:κ)(v:D):NK (PY kvs k v) k=AA v:=by
 unfold PY;split
 .rename_i h
  unfold NK
  induction kvs with
  |nil=>simp at h
  |cons kv kvs ih =>
   by_cases e:kv.1=k
   .simp[e]
   .simp only[FP,e,decide_false,Bool.false_or] at h
    have:=ih h;simpa[e] using this
 .rename_i h
  unfold NK;rw[eN]
  have:(kvs.find? λkv=>decide (kv.1=k))=AK:=by
   rw[List.find?_eq_none];intro x hx z;exact h (IQ.mpr {x,hx,z})
  rw[this];simp
theorem zNG(kvs:List (κ×D)){k k':κ}(v:D)(hk:k'≠k):NK (PY kvs k v) k'=NK kvs k':=by
 unfold PY;split
 .rename_i hh
  clear hh;unfold NK
  induction kvs with
  |nil=>rfl
  |cons kv kvs ih =>
   rw[AV]
   by_cases e:kv.1=k
   .rw[if_pos e,DU,DU]
    have:¬kv.1=k':=λz=>hk (z.symm.trans e);simp only[this,decide_false];exact ih
   .rw[if_neg e,DU,DU]
    by_cases e2:kv.1=k'
    .simp[e2]
    .simp only[e2,decide_false]
     exact ih
 .unfold NK
  rw[eN];have:(List.find? (λkv:κ×D=>decide (kv.1=k')) [(k,v)])=AK:=by simp[E8 hk]
  rw[this];simp
theorem Dw(kvs:List (κ×D))(k:κ)(v:D):(PY kvs k v).length<=kvs.length+1:=by
 unfold PY;split
 .simp
 .simp
end
theorem Q7{gs:List G}{E:Ev}{ds:List D}{b:Bool}{d d':D}(h1:NL gs E=.ok (ds,E'))(h2:m (ds.map Sl.val)=.ok (b,d,d')):K8 m gs E=.ok (d,E'):=HQ h1 (HQ h2 rfl)
theorem zVI{E:Ev}:NL [] E=.ok ([],E):=rfl
theorem PZ{g:G}{gs:List G}{E:Ev}{d:D}{ds:List D}(h1:g E=.ok (d,E1))(h2:NL gs E1=.ok (ds,E2)):NL (g::gs) E=.ok (d::ds,E2):=HQ h1 (HQ h2 rfl)
theorem LW{g:G}{E:Ev}{d:D}(h1:g E=.ok (d,E1)):NL [g] E=.ok ([d],E1):=PZ h1 zVI
theorem SZ{f:List D->Out D}{gs:List G}{E:Ev}{ds:List D}{d:D}(h1:NL gs E=.ok (ds,E'))(h2:f ds=.ok d):gN f gs E=.ok (d,E'):=HQ h1 (HQ h2 rfl)
theorem rZ{gs:List G}{E:Ev}{ds:List D}(h1:NL gs E=.ok (ds,E'))(h2:ds.length<10000):WM gs E=.ok (.tup ds,E'):=HQ h1 (ZQ h2)
theorem j5{gs:List G}{E:Ev}{ds:List D}(h1:NL gs E=.ok (ds,E'))(h2:ds.length<10000):J5 gs E=.ok (.lst ds,E'):=HQ h1 (ZQ h2)
theorem RS{g:G}{E:Ev}{d:D}(h:g E=.ok (d,E')):N4 g E=.ok (.rt AD d E'):=HQ h rfl
theorem Od{g:G}{E:Ev}{d:D}(h:g E=.ok (d,E')):xD g E=.ok (.rt AL d E'):=HQ h rfl
theorem OU{g:G}{t:Tg}{E:Ev}{d:D}(h:g E=.ok (d,E'))(h2:WS t d E'=.ok E2):J0 t g E=.ok (.nx E2):=HQ h (HQ h2 rfl)
theorem aU{g:G}{E:Ev}{d:D}(h:g E=.ok (d,E')):WN i g E=.ok (.nx (E'.set i (.own AD d))):=HQ h rfl
theorem xQ{g:G}{E:Ev}{d:D}(h:g E=.ok (d,E')):fB g E=.ok (.nx E'):=HQ h rfl
theorem GA{f:D->D->Out D}{ga gb:G}{E:Ev}{x y d:D}(h1:ga E=.ok (x,E1))(h2:gb E1=.ok (y,E2))(h3:f x y=.ok d):g2 f ga gb E=.ok (d,E2):=HQ h1 (HQ h2 (HQ h3 rfl))
theorem PQ{g:G}{E:Ev}{b:Bool}(h:g E=.ok (.bl b,E')):gB g E=.ok (b,E'):=HQ h rfl
theorem l8{g:G}{E:Ev}{d:D}{b:Bool}(h:g E=.ok (d,E'))(h2:Uj d=.ok b):ZN g E=.ok (b,E'):=HQ h (HQ h2 rfl)
theorem Df{t:Ev->Out (Bool×Ev)}{E:Ev}{b:Bool}(h:t E=.ok (b,E')):iB t E=.ok (!b,E'):=HQ h rfl
theorem yF0{t u:Ev->Out (Bool×Ev)}{E:Ev}{r:Out (Bool×Ev)}(h:t E=.ok (AD,E'))(h2:u E'=r):zS t u E=r:=HQ h h2
theorem pD{t u:Ev->Out (Bool×Ev)}{E:Ev}{r:Out (Bool×Ev)}(h:t E=.ok (AL,E'))(h2:u E'=r):iA t u E=r:=HQ h h2
theorem Ch{t u:Ev->Out (Bool×Ev)}{E:Ev}(h:t E=.ok (AD,E')):iA t u E=.ok (AD,E'):=HQ h rfl
theorem ZX{g:G}{E:Ev}{d:D}(h:g (OE is E)=.ok (d,E'))(h2:fF is E d=AL):O0 is g E=.ok (d,E):=HQ h (if_pos h2)
theorem zZG{g:G}{E:Ev}{d:D}(h:g (OE is E)=.ok (d,E'))(h2:d.kids=AL):By is g E=.ok (d,E):=HQ h (if_pos h2)
theorem Y3{g:Ev->Out (Bool×Ev)}{E:Ev}{d:Bool}(h:g (OE is E)=.ok (d,E')):UW is g E=.ok (d,E):=HQ h rfl
theorem QU{gb:GS}{sl:Ev}{b:Bool}{d:D}{r:Out (Bool×D×D)}(h:gb (sl++BG (n-sl.length) .no)=.ok (.rt b d E'))(h2:fin sl E' b d=r):PP n gb sl=r:=HQ h h2
theorem xP{c:String}{g:G}{E:Ev}{d:D}(h:g E=.ok (d,E')):pB c g E=.ok (.bl (tQ (zZ d) c),E'):=HQ h rfl
theorem xO{g:G}{E:Ev}{j:Int}(h:g E=.ok (.int j,E'))(h2:mL j):ZR g E=.ok (SX 0 j.toNat,E'):=HQ h (if_pos h2)
theorem zZH{g g':G}{E:Ev}{i j:Int}(h:g E=.ok (.int i,E1))(h1:g' E1=.ok (.int j,E'))(h2:mL i/\mL j):rO g g' E=.ok (SX i (j-i).toNat,E'):=HQ h (HQ h1 (if_pos h2))
theorem kB{g:G}{E:Ev}{ds:List D}(h:g E=.ok (.lst ds,E')):MZ g E=.ok (ds,E'):=HQ h rfl
theorem De{g:G}{E:Ev}{ds:List D}(h:g E=.ok (.tup ds,E')):MZ g E=.ok (ds,E'):=HQ h rfl
theorem cH{gk gv:G}{E:Ev}{t:Bool}{d0 d v k d':D}(h0:E[i]?=AA (.own t2 d0))(h1:gv E=.ok (v,E1))(h2:gk E1=.ok (k,E2))(h3:E2[i]?=AA (.own t d))(h4:lY d k v=.ok d'):Q8 i gk gv E=.ok (.nx (E2.set i (.own t d'))):=by
 unfold Q8;rw[h0];simp only;rw[h1];simp only[Out.bind];rw[h2];simp only[h3];rw[h4]
theorem Qd{gs:List G}{E:Ev}{t:Bool}{d0 d x d':D}{ds:List D}{b:Bool}(h0:E[i]?=AA (.own t2 d0))(h1:NL gs E=.ok (ds,E1))(h2:E1[i]?=AA (.own t d))(h3:m (.own AL d::ds.map Sl.val)=.ok (b,x,d')):LC m i gs E=.ok (x,E1.set i (.own t d')):=by
 unfold LC;rw[h0];simp only;rw[h1];simp only[Out.bind,h2];rw[h3]
theorem pP{f:List D->List D->Out (D×List D)}{gs:List G}{E:Ev}{t:Bool}{xs0 xs:List D}{ds VH:List D}{x:D}(h0:E[i]?=AA (.own t2 (.lst xs0)))(h1:NL gs E=.ok (ds,E1))(h2:E1[i]?=AA (.own t (.lst xs)))(h3:f xs ds=.ok (x,VH)):RQ i f gs E=.ok (x,E1.set i (.own t (.lst VH))):=by
 unfold RQ;rw[h0];simp only;rw[h1];simp only[Out.bind,h2];rw[h3]
theorem zVJ{gf:G}{gs:List G}{E:Ev}{d x d':D}{ds:List D}{b:Bool}(h0:gf E=.ok (d,E1))(h1:NL gs E1=.ok (ds,E2))(h3:m (.own AL d::ds.map Sl.val)=.ok (b,x,d')):pG m gf gs E=.ok (x,E2):=HQ h0 (HQ h1 (HQ h3 rfl))
theorem zVK{gs:List G}{E:Ev}{ds:List D}{d d':D}(h1:NL gs E=.ok (ds,E'))(h2:m (ds.map Sl.val)=.ok (AL,d,d')):pI m gs E=.ok (d,E'):=HQ h1 (HQ h2 rfl)
theorem Nq{gd gk gx:G}{E E3:Ev}{a k x:D}{o:Option D}(h1:gd E=.ok (a,E1))(h2:gk E1=.ok (k,E2))(h3:gx E2=.ok (x,E3))(h4:hG a k=AA o):bV gd gk gx E=.ok (o.getD x,E3):=HQ h1 (HQ h2 (HQ h3 (by simp only[h4])))
theorem yF1{ga gb:G}{E:Ev}{r:Out (D×Ev)}(h:ga E=.ok (.bl AL,E1))(h2:gb E1=r):Gb ga gb E=r:=HQ h h2
theorem yDE{ga:G}{E:Ev}{b:Bool}(h:ga E=.ok (.bl b,E1)):Ga ga E=.ok (.bl (!b),E1):=HQ h rfl
theorem Vr{ds:List D}(h:ds.length=n):RO [.lst ds]=.ok (.int n):=by subst h;rfl
theorem yF2{ds:List D}(h:ds.length=n):RO [.tup ds]=.ok (.int n):=by subst h;rfl
theorem Vq{a b c:List D}(h:a.length+b.length<10000)(e:a++b=c):NB (.lst a) (.lst b)=.ok (.lst c):=by subst e;exact ZQ h
theorem Np{o:Option D}{d:D}(h:o=AA d):(match o with|some d=>Out.ok d|none=>.bad)=.ok d:=by subst h;rfl
theorem tD{ds:List D}{i:Int}{d:D}(h:atI ds i=AA d):FI (.lst ds) (.int i)=.ok d:=Np h
theorem yH7{ds:List D}{i:Int}{d:D}(h:atI ds i=AA d):FI (.tup ds) (.int i)=.ok d:=Np h
theorem zZI{o:Option (Option D)}{d:D}(h:o=AA (AA d)):(match o with|some (AA d)=>Out.ok d|_=>.bad)=.ok d:=by subst h;rfl
theorem Gd{kvs:List (Key×D)}{i:Int}{d:D}(h:NK kvs (.inl i)=AA d):FI (.dk kvs) (.int i)=.ok d:=zZI (congrArg AA h)
theorem Bo{ds:List D}{i:Int}{v:D}(h:XI ds.length i=AA j):lY (.lst ds) (.int i) v=.ok (.lst (ds.set j v)):=by
 show(match XI ds.length i with|some j=>Out.ok (D.lst (ds.set j v))|none=>.bad)=_;rw[h]
theorem Vp{kvs:List (Key×D)}{i:Int}{v:D}(h:kvs.length<10000):lY (.dk kvs) (.int i) v=.ok (.dk (PY kvs (.inl i) v)):=ZQ h
theorem Sw(x:Int)(ns:List Int):S8 (.int x) (.tup (ns.map D.int))=.ok (.bl (decide (x∉ns))):=by
 rw[S8,Dg];simp[Out.bind]
theorem zPO(x:Int)(ns:List Int):S8 (.int x) (.lst (ns.map D.int))=.ok (.bl (decide (x∉ns))):=by
 rw[S8,Oe];simp[Out.bind]
theorem Tv{f:D->List D}{g:Int->D}(p:Int->Bool)(h:∀x,f (.int x)=if p x=AL then[g x] else[]):∀l:List Int,(l.map D.int).flatMap f=(l.filter p).map g
 |[]=>rfl
 |x::l=>by
  rw[AV,FF,Tv p h l,h x,KD]
  by_cases e:p x=AL
  .rw[if_pos e,if_pos e];rfl
  .rw[if_neg e,if_neg e];rfl
end L2
variable{vn vg:L2.V}{u4 u5 u6:Option L2.V}{ρ:Int->AQ}{Fs Hs:L2.Hp}{IW:AQ->Prop}{g':Int->List Int}{tb:L2.TS}
namespace L2
open PySem PySem.Spec PyProof.Rows
section
variable{K:AC}{E:Ev}{ow M:AQ->Prop}
theorem Stp.fr(h:∀a,¬ow a)(x:Stp ow F H F1 H1 UJ):Stp M F H F1 H1 M :=
 {λa o e w n _=>x.keep a o e w n (h a),x.dom,x.le,λa o e=>(x.new a o e).imp_right λz=>z.imp_right λq=>(h a q).elim,λ_ q=>.inl q}
theorem Oc{b:AQ}(e:D6 H a o b=AK):H b=AK:=by
 by_cases z:b=a
 .rw[z,HB] at e;cases e
 .rw[EV z] at e;exact e
theorem Stp.mine(h:M a):Stp M F H F (D6 H a o) M :=
 {λb u e _ _ n=>by rw[EV (λz:b=a=>n (by rw[z];exact h))];exact e,λb e=>Oc e,.refl _,λb u e=>.inl (by rw[e];exact nofun),λ_ q=>.inl q}
theorem pAP{M':AQ->Prop}{p:AQ}(h:H p=AK)(hM:∀b,M' b->M b\/b=p):Stp M F H F (D6 H p o) M' :=
 {λb u e _ _ _=>by rw[EV (UX e h)];exact e,λb e=>Oc e,.refl _,λb u e=>.inl (by rw[e];exact nofun),λb q=>(hM b q).imp id λz:b=p=>by rw[z];exact h}
theorem yDJ(s:Sub F H)(hl:E.length=σ.length)(hv:∀(i:Nat) d,E[i]?=AA (.val d)->∃v,σ[i]?=AA (AA v)/\Rep K F v d)(ho:∀(i:Nat) t d,E[i]?≠AA (.own t d)):Sim K H₀ τ F H σ E :=
 {s,hl,hv,λi t d e=>absurd e (ho i t d),λi j t u d d' a e=>absurd e (ho i t d)}
def slO:Option D->Sl
 |none=>.no
 |some d=>.val d
def fK(net BI:D)(x2 x3 x4 x5:Option D):Ev:=[.val net,.val BI,slO x2,slO x3,slO x4,slO x5,.no]
theorem Vo{net BI:D}{x2 x3 x4 x5:Option D}:∀(i:Nat) t d,(fK net BI x2 x3 x4 x5)[i]?≠AA (.own t d)
 |0,_,_=>λh=>by cases h
 |1,_,_=>λh=>by cases h
 |2,_,_=>λh=>by cases x2<;>cases h
 |3,_,_=>λh=>by cases x3<;>cases h
 |4,_,_=>λh=>by cases x4<;>cases h
 |5,_,_=>λh=>by cases x5<;>cases h
 |6,_,_=>λh=>by cases h
 |_+7,_,_=>λh=>by cases h
theorem rY{net BI:D}{x2 x3 x4 x5:Option D}(a:AQ):¬DY σ (fK net BI x2 x3 x4 x5) a:=(λq0=>by obtain⟨i,t,d,e,_⟩:=q0;exact Vo i t d e)
def OptR(K:AC)(F:Hp)(u:Option V)(x:Option D):Prop:=∀d,x=AA d->∃v,u=AA v/\Rep K F v d
theorem OptR.none{u:Option V}:OptR K F u AK:=λ_ h=>by cases h
theorem OptR.some{v:V}{d:D}(h:Rep K F v d):OptR K F (AA v) (AA d):=λ_ e=>by cases e;exact{_,rfl,h}
theorem OptR.sl{u:Option V}{x:Option D}{d:D}(h:OptR K F u x)(e:slO x=.val d):∃v,u=.some v/\Rep K F v d:=by
 cases x with
 |none=>cases e
 |some y=>cases e;exact h _ rfl
theorem rX{net BI:D}{x2 x3 x4 x5:Option D}{u2 u3:Option V}(s:Sub F H)(hn:Rep K F vn net)(hg:Rep K F vg BI)(h2:OptR K F u2 x2)(h3:OptR K F u3 x3)(h4:OptR K F u4 x4)(h5:OptR K F u5 x5) :
  Sim K H₀ τ F H [AA vn,AA vg,u2,u3,u4,u5,u6] (fK net BI x2 x3 x4 x5):=by
 refine yDJ s rfl (λi d e=>?_) Vo
 have op:∀{u:Option V} {x:Option D},OptR K F u x->AA (slO x)=AA (.val d)->∃v,AA u=AA (AA v)/\Rep K F v d:=λh e=>by
  obtain⟨v,rfl,r⟩:=h.sl (BL e);exact{v,rfl,r}
 match i,e with
 |0,e=>cases e;exact{_,rfl,hn}
 |1,e=>cases e;exact{_,rfl,hg}
 |2,e=>exact op h2 e
 |3,e=>exact op h3 e
 |4,e=>exact op h4 e
 |5,e=>exact op h5 e
 |6,e=>cases e
 |_+7,e=>cases e
noncomputable def cP(ρ:Int->AQ)(l:List Int):List (Key×V):=l.map λp=>(CS p,V.ref (ρ p))
structure Rws(F H:Hp)(a:AQ)(ρ:Int->AQ)(l:List Int)(g:Int->List Int):Prop where
 at':∀p∈l,H (ρ p)=AA (.lst ((g p).map V.int))/\F (ρ p)=AK/\ρ p≠a
 inj:∀p∈l,∀q∈l,ρ p=ρ q->p=q
theorem Qc{ρ:Int->AQ}{p:Int}:∀{l:List Int},p∈l->QH (cP ρ l) (CS p:Key)=AA (.ref (ρ p))
 |x::l,h=>by
  unfold QH cP;rw[AV,DU]
  by_cases e:x=p
  .subst e;simp
  .have:decide ((CS x:Key)=CS p)=AD:=decide_eq_false λz=>e (IC z)
   simp only[this];exact Qc (l:=l) ((BC.mp h).resolve_left (E8 e))
theorem zVL{p:Int}{r:AQ}{l:List Int}(h:p∉l):QS (cP ρ l) (CS p:Key) (.ref r)=cP (λq=>if q=p then r else ρ q) (l++[p]):=by
 unfold QS;rw[if_neg]
 .unfold cP
  rw[GD]
  congr 1
  .exact IU λq hq=>by
    have:q≠p:=λz=>h (z▸hq);simp only[this,if_false]
  .simp
 .unfold cP
  simp only[XS,IQ,SV,decide_eq_true_eq,not_exists,not_and];exact λq hq z=>h (IC z▸hq)
structure Tb(K:AC)(net BI:D)(vn vg:V)(ow:AQ->Prop)(Fs Hs F H:Hp)(M:AQ->Prop):Prop where
 sub:Sub F H
 n:Rep K F vn net
 g:Rep K F vg BI
 st:Stp ow Fs Hs F H M
variable{net BI:D}
theorem Tb.to(T:Tb K net BI vn vg IW Fs Hs F H M){M':AQ->Prop}(s:Stp M F H F1 H1 M')(sb:Sub F1 H1):Tb K net BI vn vg IW Fs Hs F1 H1 M' :=
 {sb,T.n.le s.le,T.g.le s.le,T.st.trans s}
theorem Tb.step(T:Tb K net BI vn vg IW Fs Hs F H M)(h:∀a,¬ow a)(s:Stp ow F H F1 H1 UJ)(sb:Sub F1 H1):Tb K net BI vn vg IW Fs Hs F1 H1 M:=T.to (s.fr h) sb
theorem Rws.step{l:List Int}{g:Int->List Int}(R:Rws F H a ρ l g)(h:∀a,¬ow a)(s:Stp ow F H F1 H1 UJ):Rws F1 H1 a ρ l g :=
 {λp hp=>let ⟨x,y,z⟩:=R.at' p hp;{s.keep _ _ x trivial y (h _),s.nF y x trivial (h _),z},R.inj}
theorem Sub.off(s:Sub F H)(h:F a=AK):Sub F (D6 H a o):=λb u e=>by
 rw[EV (UX e h)];exact s b u e
theorem Qb{a b:List Int}(h:a.map D.int=b.map D.int):a=b:=by
 have:=congrArg Q5 h;rw[Ff,Ff] at this;exact BL this
theorem Rs{ρ:Int->AQ}{g:Int->List Int}:∀{l:List Int},(∀p∈l,F (ρ p)=AA (.lst ((g p).map V.int)))->RepK K F (cP ρ l) (l.map λp=>(CS p,.lst ((g p).map D.int)))
 |[],_=>.nil
 |p::l,h=>.cons (.lst (.inl (.inl (h p A8))) (Reps.ints _)) (Rs λq hq=>h q (A4 _ hq))
end
theorem yF4{p:Prop}[Decidable p]{A:Prop}(h:¬p)(b:B):if p then A else B:=by rw[if_neg h];exact b
theorem yF5{p:Prop}[Decidable p]{A:Prop}(h:p)(b:A):if p then A else B:=by rw[if_pos h];exact b
theorem tR(h:n+64<GZ):n+1<GZ:=by omega
theorem take_mem{L:List Int}(h:i<L.length)(q:Int):q∈L.take (i+1)↔q∈L.take i\/q=L[i]:=by
 rw[BE h,BX,A3]
theorem Qa{L:List Int}(nd:L.Nodup)(h:i<L.length):L[i]∉L.take i:=λz=>by
 have:(L.take (i+1)).Nodup:=nd.sublist (MC _ _);rw[BE h,F8] at this;exact this.2.2 _ z _ (A3.mpr rfl) rfl
theorem zZK{L:List Int}:(cP ρ L).length=L.length:=AJ ..
theorem Rws.congr{l:List Int}{g:Int->List Int}(R:Rws F H a ρ l g)(h:∀p∈l,g p=g' p):Rws F H a ρ l g':={λp hp=>by rw[<-h p hp];exact R.at' p hp,R.inj}
theorem Rws.app{l:List Int}{g:Int->List Int}{p c:Int}(R:Rws F H a ρ l g)(hp:p∈l)(h1:g' p=g p++[c])(h2:∀q∈l,q≠p->g' q=g q) :
  Rws F (D6 H (ρ p) (.lst ((g p).map V.int++[.int c]))) a ρ l g':={λq hq=>by
 obtain⟨x,y,z⟩:=R.at' q hq;refine{?_,y,z}
 by_cases e:q=p
 .subst e;rw[HB,h1,GD];rfl
 .rw[EV (λw=>e (R.inj q hq p hp w)),x,h2 q hq e],R.inj}
theorem Bn{g:TG}(I:Nat->St->Hp->Prop)(h0:I 0 σ H)(hg:∀i σ H,i<n->I i σ H->J.go i H)(hd:∀σ H,I n σ H->J.stop n H/\D'.nx σ H)
  (hs:∀i σ H x H',i<n->I i σ H->J.yld i H x H'->g x σ H' λσ2 H2=>tb { D' with nx:=I (i+1),ct:=I (i+1),bk:=D'.nx } σ2 H2) :
  ∃W:Nat->Nat->St->Hp->Prop,(∃m,W 0 m σ H)/\∀i m σ H,W i m σ H ->
   (J.stop i H/\D'.nx σ H)\/(J.go i H/\∃N:St->Hp->Prop,(∀σ' H',N σ' H'->∃m',m'<m/\W (i+1) m' σ' H')/\∀x H',J.yld i H x H'->g x σ H' λσ2 H2=>tb { D' with nx:=N,ct:=N,bk:=D'.nx } σ2 H2):=by
 refine{λi m σ H=>m=n-i/\i<=n/\I i σ H,{n,rfl,BS _,h0},λi m σ H h=>?_};have hm:=h.1;have hi:=h.2.1;have hI:=h.2.2
 by_cases e:i<n
 .exact .inr {hg i σ H e hI,I (i+1),λσ' H' h=>{n-(i+1),by omega,rfl,e,h},λx H' y=>hs i σ H x H' e hI y}
 .have e:i=n:=by omega
  rw[e] at hI ⊢;exact .inl (hd σ H hI)
section
variable{K:AC}{E:Ev}{net BI:D}{o:IE}{L xs:List Int}{c:Int}{g:Int->List Int}{u3:Option V}
theorem lU{l:List α}(h:n+1=l.length):∃a t,l=a::t/\n=t.length:=by
 cases l with
 |nil=>simp at h
 |cons a t=>exact{a,t,rfl,Nat.succ.inj h}
theorem yF6{l:List α}(h:7=l.length):∃a b c d e f g,l=[a,b,c,d,e,f,g]:=by
 obtain⟨a,t0,e0,h0⟩:=lU h;obtain⟨b,t1,e1,h1⟩:=lU h0;obtain⟨c,t2,e2,h2⟩:=lU h1;obtain⟨d,t3,e3,h3⟩:=lU h2;obtain⟨e,t4,e4,h4⟩:=lU h3;obtain⟨f,t5,e5,h5⟩:=lU h4;obtain⟨g,t6,e6,h6⟩:=lU h5;exact{a,b,c,d,e,f,g,by rw[e0,e1,e2,e3,e4,e5,e6,List.eq_nil_of_length_eq_zero h6.symm]}
end
def yH8(n:Nat):List D:=(CI n).map λi:Nat=>D.int ((n:Int)-1-(i:Int))
def yH9(g:G):GI:=λE=>(g E).bind λp=>match p.1 with|.int j=>guard (0<=j/\j<=1000) (.ok (yH8 j.toNat,p.2))|_=>.bad
section
variable{a:C8}{ga:G}
def gJ:CT->List (CT ⊕ G)->G
 |acc,[],E=>.ok (.str acc,E)
 |acc,.inl c::r,E=>gJ (acc++c) r E
 |acc,.inr g::r,E=>(g E).bind λp=>match p.1 with
  |.int a=>guard (0<=a/\a<100) (gJ (acc++(toString a:CT)) r p.2)
  |_=>.bad
inductive JP(X:Cx):List C8->List (CT ⊕ G)->Prop
 |nil:JP X [] []
 |txt {c:CT} {j pos} {es:List C8} {ps:List (CT ⊕ G)} (h:c.length<=100) (r:JP X es ps):JP X (.Constant (.str c) j pos::es) (.inl c::ps)
 |val {e:C8} {g:G} {pos:gK} {es:List C8} {ps:List (CT ⊕ G)} (h:VE X e g) (r:JP X es ps):JP X (.FormattedValue e (-1) AK pos::es) (.inr g::ps)
theorem yDL:∀n:Nat,n<100->(toString (n:Int):CT).length<=100:=by decide +kernel
theorem yDM:∀n:Nat,n<100->n.log2<1920:=by decide +kernel
theorem zZN{ps:List (CT ⊕ G)}(h:JP X es ps):∀{acc:CT} {AE:List (AQ×IE)} {s:AT} {σ:St} {H:Hp} {Q:VK},acc.length+100 * ps.length<10000->Inv X AE σ H s->tV X.K X.H₀ (gJ acc ps) σ H Q ->
  A0 (A1 X.prog X.w) X.A (joinParts acc (evalEach es X.env)) (EP X AE σ Q) X.xe s:=by
 induction h with
 |nil =>
  intro acc AE s σ H Q hl I q;obtain⟨τ,F,E,d,E',S,hg,k⟩:=q;cases hg;exact joinParts_nil {.str acc,H,I.tok _,{_,rfl},k _ F H .refl S (.str _)} (cO (by simpa using hl))
 |@txt c j pos es ps hc r ih =>
  intro acc AE s σ H Q hl I q
  have oD:(acc++c).length+100 * ps.length<10000:=by
   rw[aE];rw[BB] at hl;lia
  show A0 _ _ (joinParts acc (eval (.Constant (.str c) j pos) X.env::evalEach es X.env)) _ _ _;exact joinParts_cons (Calls.Constant_str {cO 'l',ih oD (I.tok _) q})
 |@val e g pos es ps h r ih =>
  intro acc AE s σ H Q hl I q;obtain⟨τ,F,E,d,E',S,hg,k⟩:=q;obtain⟨p,e1,hg⟩:=pA3 hg;show A0 _ _ (joinParts acc (eval (.FormattedValue e (-1) AK pos) X.env::evalEach es X.env)) _ _ _;refine joinParts_cons (FormattedValue_plain (C7 (h AE s σ H _ I {τ,F,E,p.1,p.2,S,e1,λv F1 H1 s1 S1 r1=>({F1,s1,S1,r1}:∃F1,Stp (DY σ E) F H F1 H1 (DY σ p.2)/\Sim X.K X.H₀ τ F1 H1 σ p.2/\Rep X.K F1 v p.1)}) (λu s1 z=>?_) λ_ _ z=>z));obtain⟨v,H1,I1,rv,F1,st,S1,r1⟩:=z;split at hg
  .rename_i n en
   obtain⟨⟨g1,g2⟩,hg⟩:=fI hg;rw[en] at r1;obtain rfl:=r1.vI;obtain⟨t,rfl⟩:=rv;have ea:((n.toNat:Nat):Int)=n:=bT g1;have h1:=yDL n.toNat 'l';rw[ea] at h1;refine formatField_int_small (by have:=yDM n.toNat 'l';rwa [show n.natAbs=n.toNat by lia]) {cO ?_,ih ?_ ((I1.tok _).tok _) {τ,F1,p.2,d,E',S1,hg,λv F2 H2 s2 S2 r2=>k v F2 H2 (st.trans s2) S2 r2}}
   .rw[aE];rw[BB] at hl;lia
   .rw[aE];rw[BB] at hl;lia
  .cases hg
theorem yDN{uC uB:C8}{rest:List C8}{ps:List (CT ⊕ G)}(h:JP X (uC::uB::rest) ps)(hl:ps.length<=50:=by decide):VE X (.JoinedStr (uC::uB::rest) pos) (gJ OY ps) :=
 λAE s σ H Q I q=>JoinedStr_many (zZN h (by have:OY.length=0:=rfl;lia) I q)
end
section
variable{K:AC}{E:Ev}{net:D}{vb:V}{L:List Int}{c gi:Int}{g:Int->List Int}{u2:Option V}{left:Int->Int->List Int}
def Wz(K:AC)(H₀:Hp):TS:=zX (tI K H₀ (MZ (A6 2))) (b9 4) (Wg (eV 3) (eV 4) (qP zW))
def Uh(K:AC)(H₀:Hp)(m:Mr):TS:=zX (tI K H₀ (MZ (A6 2))) (b9 4) (Ux (tT K H₀ (gB (g2 S8 (A6 1) (K8 m [A6 0,A6 4,A6 5])))) (Wk (Wq K "list" Dl (kJ xT (eV 3) (eV 4)) (rV (eV 5) zW))) Wl)
def Gu(K:AC)(H₀:Hp)(m:Mr):TS:=zX (tI K H₀ (MZ (A6 2))) (b9 5) (Uh K H₀ m)
structure BkC(m:Mr)(E:Ev)(net:D)(gi:Int)(L:List Int)(left:Int->Int->List Int):Prop where
 env:E=[.val net,.val (.int gi),.val (.lst (L.map D.int)),.own AD (.dk []),.no,.no,.no]
 nd:L.Nodup
 len:L.length<=1000
 each:∀p∈L,∀c∈L,∃b d',m [.val net,.val (.int p),.val (.int c)]=.ok (b,.lst ((left p c).map D.int),d')
noncomputable def jZ(L:List Int)(gi:Int)(left:Int->Int->List Int):D:=.dk (L.map λp=>(CS p,.lst ((L.filter λc=>decide (gi∉left p c)).map D.int)))
open Classical in
def nB(m:Mr):GS:=λE=>if h:∃q:D×Int×List Int×(Int->Int->List Int),BkC m E q.1 q.2.1 q.2.2.1 q.2.2.2 then .ok (.nx (fK h.choose.1 (.int h.choose.2.1) (AA (.lst (h.choose.2.2.1.map D.int))) (AA (jZ h.choose.2.2.1 h.choose.2.1 h.choose.2.2.2)) AK AK)) else .bad
theorem yF7{r:Fl}(h:nB m E=.ok r):∃net gi L left,BkC m E net gi L left/\r=.nx (fK net (.int gi) (AA (.lst (L.map D.int))) (AA (jZ L gi left)) AK AK):=by
 unfold nB at h;split at h
 .rename_i e
  cases h;exact{_,_,_,_,e.choose_spec,rfl}
 .cases h
theorem yDO(h:BkC m E net gi L left):nB m E=.ok (.nx (fK net (.int gi) (AA (.lst (L.map D.int))) (AA (jZ L gi left)) AK AK)):=by
 have e:∃q:D×Int×List Int×(Int->Int->List Int),BkC m E q.1 q.2.1 q.2.2.1 q.2.2.2:={(net,gi,L,left),h};unfold nB;rw[dif_pos e];have z:=e.choose_spec;generalize e.choose=q at z;obtain⟨n',g',L',kQ⟩:=q;have ee:=h.env.symm.trans z.env;injection ee with e1 ee;injection ee with e2 ee;injection ee with e3 ee;injection e1 with e1;injection e2 with e2;injection e2 with e2;injection e3 with e3;injection e3 with e3;simp only at e1 e2 e3 z ⊢;have eL:=Qb e3;subst e1 e2 eL
 have:jZ L gi kQ=jZ L gi left:=by
  unfold jZ
  congr 1
  refine IU λp hp=>?_
  congr 3
  refine eO λc hc=>?_;obtain⟨b,d,x⟩:=h.each p hp c hc;obtain⟨b',d',y⟩:=z.each p hp c hc;rw[x] at y;have:left p c=kQ p c:=Qb (by injection y with y;injection y with _ y;injection y with y;injection y);rw[this]
 rw[this]
structure Tn(K:AC)(net:D)(gi:Int)(vn vg vb:V)(IW:AQ->Prop)(Fs Hs:Hp)(a:AQ)(ρ:Int->AQ)(L l:List Int)(g:Int->List Int)(F H:Hp):Prop where
 tb:Tb K net (.int gi) vn vg IW Fs Hs F H (λb=>b=a\/∃p∈l,b=ρ p)
 fa:F a=AK
 ha:H a=AA (.dK (cP ρ l))
 rw:Rws F H a ρ l g
 rb:Rep K F vb (.lst (L.map D.int))
theorem Tn.congr{l:List Int}{g':Int->List Int}(T:Tn K net gi vn vg vb IW Fs Hs a ρ L l g F H)(h:∀p∈l,g p=g' p):Tn K net gi vn vg vb IW Fs Hs a ρ L l g' F H:={T.tb,T.fa,T.ha,T.rw.congr h,T.rb}
theorem Tn.step{l:List Int}{ow UJ:AQ->Prop}{F1 H1:Hp}(T:Tn K net gi vn vg vb IW Fs Hs a ρ L l g F H)(h:∀a,¬ow a)(s:Stp ow F H F1 H1 UJ)(sb:Sub F1 H1):Tn K net gi vn vg vb IW Fs Hs a ρ L l g F1 H1 :=
 {T.tb.step h s sb,s.nF T.fa T.ha trivial (h a),s.keep _ _ T.ha trivial T.fa (h a),T.rw.step h s,T.rb.le s.le}
theorem Tn.app{l:List Int}{p:Int}{g':Int->List Int}(T:Tn K net gi vn vg vb IW Fs Hs a ρ L l g F H)(hp:p∈l)(h1:g' p=g p++[c])(h2:∀q∈l,q≠p->g' q=g q):Tn K net gi vn vg vb IW Fs Hs a ρ L l g' F (D6 H (ρ p) (.lst ((g p).map V.int++[.int c]))) :=
 {T.tb.to (Stp.mine (.inr {p,hp,rfl})) (T.tb.sub.off (T.rw.at' p hp).2.1),T.fa,by rw[EV (E8 (T.rw.at' p hp).2.2)];exact T.ha,T.rw.app hp h1 h2,T.rb}
def Xf(K:AC)(net:D)(gi:Int)(vn vg vb:V)(IW:AQ->Prop)(Fs Hs F1:Hp)(a:AQ)(ρ:Int->AQ)(L:List Int)(g:Nat->Int->List Int)(w5 w6:Option V)(b5:Bool)(i:Nat)(σ:St)(H:Hp):Prop :=
 ∃F u4 u5,σ=[AA vn,AA vg,AA vb,AA (.ref a),u4,u5,w6]/\Tn K net gi vn vg vb IW Fs Hs a ρ L L (g i) F H/\Le F1 F/\(b5=AL->u5=w5)
theorem zSI(T:Tn K net gi vn vg vb IW Fs Hs a ρ L L g F H)(nd:L.Nodup)(hl:∀p∈L,(g p).length<9000)(each:∀p∈L,∃b d',m [.val net,.val (.int p),.val (.int c)]=.ok (b,.lst ((left p c).map D.int),d'))
  (k:∀F' H' u4,Le F F'->Tn K net gi vn vg vb IW Fs Hs a ρ L L (λp=>g p++if gi∉left p c then[c] else[]) F' H'->D'.nx [AA vn,AA vg,AA vb,AA (.ref a),u4,AA (.int c),u6] H') :
  Uh K H₀ m D' [AA vn,AA vg,AA vb,AA (.ref a),u4,AA (.int c),u6] H:=by
 refine{a,F,fK net (.int gi) (AA (.lst (L.map D.int))) AK AK AK,L.map D.int,_,rX T.tb.sub T.tb.n T.tb.g (.some T.rb) .none .none .none,kB rfl,λJ F1 H1 s1 S1 w1=>?_};have T1:=T.step rY s1 S1.sub;refine Bn (n:=L.length) (Xf K net gi vn vg vb IW Fs Hs F1 a ρ L (λi p=>g p++if p∈L.take i/\gi∉left p c then[c] else[]) (AA (.int c)) u6 AL) {F1,u4,_,rfl,T1.congr λp _=>by simp,.refl _,λ_=>rfl} (λi σ H hi h=>?_) (λσ H h=>?_) λi σ H x H2 JL h y=>?_
 .obtain⟨F',_,_,_,T',l',_⟩:=h
  exact(w1 i F' H l' T'.tb.sub).1 (by rw[AJ];exact hi)
 .obtain⟨F',u4,u5,rfl,T',l',h5⟩:=h
  obtain rfl:=h5 rfl;refine{(w1 L.length F' H l' T'.tb.sub).2.1 (by rw[AJ]),k F' H u4 (s1.le.trans l') (T'.congr λp hp=>?_)};dsimp only;rw[EA];simp only[hp,true_and]
 .obtain⟨F',u4,u5,rfl,T',l',h5⟩:=h
  obtain rfl:=h5 rfl;obtain⟨F2,n2,r2⟩:=(w1 i F' H l' T'.tb.sub).2.2 x H2 (.int L[i]) (by rw[AU,BO JL];rfl) y;have no:∀a:AQ,¬(λ_:AQ=>False) a:=λ_ z=>z;have T2:=T'.step no n2.1 n2.2;obtain⟨p,hp⟩:∃p,p=L[i]:={_,rfl};have fS:p∈L:=by rw[hp];exact HH JL
  have Jw:p∉L.take i:=by rw[hp];exact Qa nd JL
  have tm:∀q,q∈L.take (i+1)↔q∈L.take i\/q=p:=by rw[hp];exact take_mem JL
  have tn:∀q,q≠p->(q∈L.take (i+1)↔q∈L.take i):=λq e=>(tm q).trans {λz=>z.resolve_right e,.inl};rw[<-hp] at r2;cases r2;obtain⟨b,d',hm⟩:=each p fS;refine{a,F2,fK net (.int gi) AK AK (AA (.int p)) (AA (.int c)),decide (gi∉left p c),_,rX T2.tb.sub T2.tb.n T2.tb.g .none .none (.some (.int p)) (.some (.int c)),PQ (GA (x:=.int gi) (y:=.lst ((left p c).map D.int)) rfl (Q7 (ds:=[net,.int p,.int c]) rfl hm) (zPO gi (left p c))),λF3 H3 s3 S3=>?_};have T3:=T2.step rY s3 S3.sub;have l3:Le F1 F3:=(l'.trans n2.1.le).trans s3.le
  by_cases hx:gi∈left p c
  .refine yF4 (by simp[hx]) {F3,AA (.int p),_,rfl,T3.congr λq hq=>?_,l3,λ_=>rfl}
   by_cases e:q=p
   .subst e;simp[hx]
   .simp only[tn q e]
  .obtain⟨h1,h2,h3⟩:=T3.rw.at' p fS
   refine yF5 (by simp[hx]) {_,rfl,_,rfl,a,.ref (ρ p),rfl,.inl {cP ρ L,.inl p,.inl T3.ha,rfl,(Qc fS).symm},.inl {rfl,_,SqL.of h1},_,rfl,ρ p,_,.int c,rfl,rfl,h1,cC ?_,F3,AA (.int p),_,rfl,?_,l3,λ_=>rfl}
   .have:=hl p fS
    rw[AJ,BH];split
    .simp only[EQ];lia
    .simp only[JC];lia
   .refine T3.app fS ?_ λq hq e=>?_
    .dsimp only
     rw[if_pos {(tm p).mpr (.inr rfl),hx},if_neg (λz=>Jw z.1),DJ]
    .simp only[tn q e]
theorem zVM(T:Tn K net gi vn vg vb IW Fs Hs a ρ L L (λ_=>[]) F H)(nd:L.Nodup)(EX:L.length<=1000)(each:∀p∈L,∀c∈L,∃b d',m [.val net,.val (.int p),.val (.int c)]=.ok (b,.lst ((left p c).map D.int),d'))
  (k:∀F' H' u4 u5,Tn K net gi vn vg vb IW Fs Hs a ρ L L (λp=>L.filter λc=>decide (gi∉left p c)) F' H'->D'.nx [AA vn,AA vg,AA vb,AA (.ref a),u4,u5,u6] H') :
  Gu K H₀ m D' [AA vn,AA vg,AA vb,AA (.ref a),u4,u5,u6] H:=by
 refine{a,F,fK net (.int gi) (AA (.lst (L.map D.int))) AK AK AK,L.map D.int,_,rX T.tb.sub T.tb.n T.tb.g (.some T.rb) .none .none .none,kB rfl,λJ F1 H1 s1 S1 w1=>?_};have T1:=T.step rY s1 S1.sub;refine Bn (n:=L.length) (Xf K net gi vn vg vb IW Fs Hs F1 a ρ L (λi p=>(L.take i).filter λc=>decide (gi∉left p c)) AK u6 AD) {F1,u4,u5,rfl,T1.congr λp _=>by simp,.refl _,λz=>by cases z} (λi σ H hi h=>?_) (λσ H h=>?_) λi σ H x H2 JL h y=>?_
 .obtain⟨F',_,_,_,T',l',_⟩:=h
  exact(w1 i F' H l' T'.tb.sub).1 (by rw[AJ];exact hi)
 .obtain⟨F',u4,u5,rfl,T',l',h5⟩:=h
  exact{(w1 L.length F' H l' T'.tb.sub).2.1 (by rw[AJ]),k F' H u4 u5 (T'.congr λp hp=>by dsimp only;rw[EA])}
 .obtain⟨F',u4,u5,rfl,T',l',h5⟩:=h
  obtain⟨F2,n2,r2⟩:=(w1 i F' H l' T'.tb.sub).2.2 x H2 (.int L[i]) (by rw[AU,BO JL];rfl) y;have no:∀a:AQ,¬(λ_:AQ=>False) a:=λ_ z=>z;have T2:=T'.step no n2.1 n2.2;obtain⟨c,hc⟩:∃c,c=L[i]:={_,rfl};have hcL:c∈L:=by rw[hc];exact HH JL
  rw[<-hc] at r2;cases r2;refine zSI (c:=c) T2 nd (λp _=>?_) (λp hp=>each p hp c hcL) λF5 H5 u4' l5 T5=>{F5,u4',_,rfl,T5.congr λp hp=>?_,(l'.trans n2.1.le).trans l5,λz=>by cases z}
  .have:=GO (λc=>decide (gi∉left p c)) (L.take i)
   rw[EZ] at this;dsimp only;lia
  .dsimp only
   rw[BE JL,bR,<-hc]
   congr 1
   by_cases e:gi∈left p c
   .simp[e]
   .simp[e]
def yIA(K:AC)(net:D)(gi:Int)(vn vg vb:V)(ow:AQ->Prop)(F H F1:Hp)(a:AQ)(L:List Int)(u5 u6:Option V)(i:Nat)(σ':St)(H':Hp):Prop :=
 ∃F' u4 ρ,σ'=[AA vn,AA vg,AA vb,AA (.ref a),u4,u5,u6]/\Tn K net gi vn vg vb ow F H a ρ L (L.take i) (λ_=>[]) F' H'/\Le F1 F'
open Classical in
theorem zZO{gr:GS}(h:tS K H₀ (G5 (nB m) gr) D' σ H):qQ (Wz K H₀) (qQ (Gu K H₀ m) (tS K H₀ gr)) D' σ H:=by
 obtain⟨τ,F,E,r,S,hg,k⟩:=h;obtain⟨r1,e1,hg⟩:=pA3 hg;obtain⟨net,gi,L,left,⟨rfl,nd,EX,each⟩,rfl⟩:=yF7 e1;obtain⟨w0,w1,w2,w3,u4,u5,u6,rfl⟩:=yF6 S.len;obtain⟨vn,hvn,rn⟩:=S.val 0 net rfl;obtain⟨vg,hvg,rg⟩:=S.val 1 (.int gi) rfl;obtain⟨vb,hvb,rb⟩:=S.val 2 (.lst (L.map D.int)) rfl;obtain⟨a,ha,fa,⟨kv0,i5,rk0⟩,na,_⟩:=S.own 3 AD (.dk []) rfl;cases rk0;cases hvn;cases hvg;cases hvb;cases ha;have qZ:DY [AA vn,AA vg,AA vb,AA (.ref a),u4,u5,u6] [.val net,.val (.int gi),.val (.lst (L.map D.int)),.own AD (.dk []),.no,.no,.no] a:={3,AD,.dk [],rfl,rfl};generalize DY [AA vn,AA vg,AA vb,AA (.ref a),u4,u5,u6] [.val net,.val (.int gi),.val (.lst (L.map D.int)),.own AD (.dk []),.no,.no,.no]=ow at qZ k;refine{τ,F,fK net (.int gi) (AA (.lst (L.map D.int))) AK AK AK,L.map D.int,_,rX S.sub rn rg (.some rb) .none .none .none,kB rfl,λJ F1 H1 s1 S1 w1=>?_}
 have om:∀b,(b=a\/∃p∈L.take 0,b=(λ_:Int=>a) p)->ow b:=λb h=>by
  rcases h with h|⟨p,hp,_⟩
  .rw[h];exact qZ
  .simp at hp
 have T0:Tn K net gi vn vg vb ow F H a (λ_=>a) L (L.take 0) (λ_=>[]) F H:={{S.sub,rn,rg,Stp.refl.weak om},fa,i5,{λp hp=>by simp at hp,λp hp=>by simp at hp},rb};have T1:=T0.step rY s1 S1.sub;refine Bn (n:=L.length) (yIA K net gi vn vg vb ow F H F1 a L u5 u6) {F1,u4,λ_=>a,rfl,T1,.refl _} (λi σ Hj hi h=>?_) (λσ Hj h=>?_) λi σ Hj x H2 JL h y=>?_
 .obtain⟨F',_,_,_,T',l'⟩:=h
  exact(w1 i F' Hj l' T'.tb.sub).1 (by rw[AJ];exact hi)
 .obtain⟨F',u4,ρ,rfl,T',l'⟩:=h
  refine{(w1 L.length F' Hj l' T'.tb.sub).2.1 (by rw[AJ]),?_};rw[EA] at T';refine zVM (H₀:=H₀) (m:=m) (left:=left) T' nd EX each λF5 H5 u4 u5 T5=>?_
  -- all is shared from now on
  have Yj:∀b u,(if b=a\/∃p∈L,b=ρ p then H5 b else F5 b)=AA u->H5 b=AA u:=λb u e=>by
   by_cases z:b=a\/∃p∈L,b=ρ p
   .rw[if_pos z] at e;exact e
   .rw[if_neg z] at e;exact T5.tb.sub b u e
  have hl:Le F5 (λb=>if b=a\/∃p∈L,b=ρ p then H5 b else F5 b):=λb u e=>.inl (by
   show(if b=a\/∃p∈L,b=ρ p then H5 b else F5 b)=_
   by_cases z:b=a\/∃p∈L,b=ρ p
   .rw[if_pos z];exact T5.tb.sub b u e
   .rw[if_neg z];exact e)
  have T6:Tb K net (.int gi) vn vg ow F H (λb=>if b=a\/∃p∈L,b=ρ p then H5 b else F5 b) H5 (λ_=>False):=by
   refine T5.tb.to (M':=λ_=>False) {λb u e _ _ _=>e,λb e=>e,hl,λb u e=>?_,λb z=>HL z} Yj
   by_cases z:b=a\/∃p∈L,b=ρ p
   .exact .inr (.inr z)
   .have e:(if b=a\/∃p∈L,b=ρ p then H5 b else F5 b)=_:=e
    rw[if_neg z] at e;exact .inl (by rw[e];exact nofun)
  refine{τ,_,_,r,rX Yj T6.n T6.g (.some (T5.rb.le hl)) (.some (.dk (kvs:=cP ρ L) (.inl ?_) (Rs (ρ:=ρ) λp hp=>?_))) .none .none,hg,k.pre (T6.st.weak λb z=>(rY b z).elim)}
  .show(if a=a\/∃p'∈L,a=ρ p' then H5 a else F5 a)=_
   rw[if_pos (.inl rfl)];exact T5.ha
  .show(if ρ p=a\/∃p'∈L,ρ p=ρ p' then H5 (ρ p) else F5 (ρ p))=_
   rw[if_pos (.inr {p,hp,rfl})];exact(T5.rw.at' p hp).1
 .obtain⟨F',u4,ρ,rfl,T',l'⟩:=h
  obtain⟨F2,n2,r2⟩:=(w1 i F' Hj l' T'.tb.sub).2.2 x H2 (.int L[i]) (by rw[AU,BO JL];rfl) y;obtain⟨p,hp⟩:∃p,p=L[i]:={_,rfl};have Jw:p∉L.take i:=by rw[hp];exact Qa nd JL
  rw[<-hp] at r2;cases r2;have no:∀a:AQ,¬(λ_:AQ=>False) a:=λ_ z=>z;have T2:=T'.step no n2.1 n2.2;refine{BS _,λq hq=>{_,rfl,_,rfl,a,_,rfl,DPut.kk (k:=.inl p) (by rw[EV (UX T2.ha hq)];exact T2.ha) ?_,F2,AA (.int p),λz=>if z=p then q else ρ z,rfl,{?_,T2.fa,?_,?_,T2.rb},l'.trans n2.1.le}}
  .rw[zZK,EZ];exact cC 'l'
  .have fq:F2 q=AK:=pAG n2.2 hq
   refine(T2.tb.to (M':=λb=>b=a\/∃z∈L.take (i+1),b=if z=p then q else ρ z) (pAP hq λb h=>?_) (n2.2.off fq)).to (Stp.mine (.inl rfl)) ((n2.2.off fq).off T2.fa);rcases h with h|⟨z,hz,h⟩
   .exact .inl (.inl h)
   .by_cases e:z=p
    .rw[if_pos e] at h;exact .inr h
    .rw[if_neg e] at h
     exact .inl (.inr {z,((take_mem JL z).mp hz).resolve_right (by rw[<-hp];exact e),h})
  .rw[HB,zVL Jw,BE JL,<-hp]
  .have ne:∀z∈L.take i,ρ z≠q:=λz hz=>UX (T2.rw.at' z hz).1 hq
   have qa:q≠a:=E8 (UX T2.ha hq);have mem:∀z,z∈L.take (i+1)->z≠p->z∈L.take i:=λz hz e=>((take_mem JL z).mp hz).resolve_right (by rw[<-hp];exact e);refine{λz hz=>?_,λz hz z' fQ h=>?_}
   .by_cases e:z=p
    .simp only[e,if_true]
     rw[EV qa,HB];exact{rfl,pAG n2.2 hq,qa}
    .simp only[e,if_false]
     obtain⟨x,y,w⟩:=T2.rw.at' z (mem z hz e);rw[EV w,EV (ne z (mem z hz e))];exact{x,y,w}
   .by_cases e:z=p
    .by_cases e':z'=p
     .rw[e,e']
     .simp only[e,e',if_true,if_false] at h
      exact absurd h.symm (ne z' (mem z' fQ e'))
    .by_cases e':z'=p
     .simp only[e,e',if_true,if_false] at h
      exact absurd h (ne z (mem z hz e))
     .simp only[e,e',if_false] at h
      exact T2.rw.inj z (mem z hz e) z' (mem z' fQ e') h
theorem yDP{gr:GS}{s2 s3:E6}{rest:List E6}(h2:PS X s2 (Wz X.K X.H₀))(h3:PS X s3 (Gu X.K X.H₀ m))(hr:Z3 X rest gr):Z3 X (s2::s3::rest) (G5 (nB m) gr):=(cE h2 (cE h3 hr)).imp λ_ _ _ h=>zZO h
end
section
variable{K:AC}{E:XK}
theorem yF8:xK (QJ P w C) (O1 (QJ P w C) P w K mg base N qual scope f cd A outer s₀ H₀ E) E:=by
 intro AE σ H s e s' I h;obtain⟨a,H1,h1,fr,a0,rfl,F,q⟩:=h;have XQ:s₀.heap.objs.size∈RA (O1 (QJ P w C) P w K mg base N qual scope f cd A outer s₀ H₀ E).stack:=HP.mpr {FY qual scope s₀.heap.objs.size f cd,A8,rfl};obtain⟨o,ho,_⟩:=(I.stack.mem XQ).2;have JL:=A9 ho;have I1:Inv (O1 (QJ P w C) P w K mg base N qual scope f cd A outer s₀ H₀ E) AE σ H1 { s with heap:=h1 }:=I.call (h':=h1) (g':=s.gens) (d':=s.drawn) (t':=s.toks) (ch:=[]) F.un F.hok I.bare (λb z=>absurd z 's');refine wpAny_leaves_onW (base:=IT h1 fr) I.ok.frames rfl F.fl λh' fl up=>?_;refine{a,H1,h1,fr,a0,rfl,{F.os.trans I.os,F.bare,I1.base,F.hok,λb hb=>?_,F.new,fl,F.up.trans up},q};obtain⟨h1,h2,h3⟩:=F.frs_ b hb;refine{h1,?_,h3};rcases h2 with h2|h2
 .rcases BC.mp (I.stkSub b h2) with e|e
  .exact .inr (CY e.symm)
  .exact .inl e
 .exact .inr (AZ (CW JL) h2)
def Wn(K:AC)(H₀:Hp)(W:Hp->Prop)(gs:List G)(mx:List D->Out Ev):TE:=λσ H _=>∃τ F E p z,Sim K H₀ τ F H σ E/\NL gs E=.ok p/\mx p.1=.ok z/\∀F' H',Stp (DY σ E) F H F' H' (λ_=>False)->Sub F' H'->W H'
def Aa(gs:List G)(mx:List D->Out Ev):GX:=λE=>(NL gs E).bind λp=>(mx p.1).bind λ_=>.ok p.2
theorem Ob{mx:List D->Out Ev}{gs:List G}(CL:qH P w K mg base C x k np mx)(hr:Room k (O1 (QJ P w C) P w K mg base N qual scope f cd A outer s₀ H₀ E).A)
  (ha:VA (O1 (QJ P w C) P w K mg base N qual scope f cd A outer s₀ H₀ E) (e::es) gs) (Ay:gs.length=np:=by rfl) (hg:Gl (O1 (QJ P w C) P w K mg base N qual scope f cd A outer s₀ H₀ E) x:=by rfl) (SC:(x==("__debug__":CT))=AD:=by decide)
  (he:AO (e::es) (FY qual scope s₀.heap.objs.size f cd)=(AD,eval e (FY qual scope s₀.heap.objs.size f cd))::AO es (FY qual scope s₀.heap.objs.size f cd):=by rfl)
  (JW:(DO pos (AO es (FY qual scope s₀.heap.objs.size f cd))).any (·.1)=AD:=by rfl) :
  PE (O1 (QJ P w C) P w K mg base N qual scope f cd A outer s₀ H₀ E) (.Call (.Name x p) (e::es) [] pos) (Wn K H₀ (λH'=>E (.ref C) AK H') gs mx):=by
 obtain⟨f',fd,ps,Fn,hm,hk,hb⟩:=CL;refine(sO Fn hr hg hm hk hb .nil yF8 ha SC he JW).imp λσ H Q h=>?_;obtain⟨τ,F,E1,p,z,S,e1,e2,k⟩:=h;refine{τ,F,E1,p.1,p.2,S,e1,λvs F1 H1 s1 S1 r1=>?_};refine{by rw[DJ,r1.length,kG e1];exact Ay,F1,p.1,z,S1.sub,by rw[DJ];exact r1,e2,λF' H' n=>k F' H' ((s1.trans n.stp).weak λ_ z=>z.elim) n.2}
theorem Oa{gs:List G}{mx:List D->Out Ev}{rest:List E6}{W:Hp->Prop}(he:PE X e te)(ht:∀σ H Q,Wn X.K X.H₀ W gs mx σ H Q->te σ H Q):PSs X (.Return (AA e) pos::rest) (tX X.K X.H₀ W (Aa gs mx)) :=
 (cE (sH he) El).imp λD σ H h=>by
  obtain⟨τ,F,E1,E2,S,hg,k⟩:=h;obtain⟨p,e1,hg⟩:=pA3 hg;obtain⟨z,e2,hg⟩:=pA3 hg;exact ht σ H _ {τ,F,E1,p,z,S,e1,e2,k}
end
end L2
variable{AI DZ:Int}{aw OW:List (Option Int)}{GQ cs:List Int}{φ:Int->Option Int}
namespace My
open PySem L2
noncomputable def SO(i:Nat):E6:=PySem.Challenge.pw_waymusts_k19_musts_back.main.body.getD i (.Pass {0,0,0,0})
structure Bt(mg:CT->Option AH):Prop where
 b_ValueError:mg "ValueError"=AK
 b_all:mg "all"=AK
 b_bool:mg "bool"=AK
 b_enumerate:mg "enumerate"=AK
 b_isinstance:mg "isinstance"=AK
 b_len:mg "len"=AK
 b_list:mg "list"=AK
 b_min:mg "min"=AK
 b_range:mg "range"=AK
 b_sorted:mg "sorted"=AK
 b_tuple:mg "tuple"=AK
 b_zip:mg "zip"=AK
abbrev Dv:E6:=SO 13
abbrev zK:E6:=SO 15
abbrev zD:E6:=SO 22
abbrev Fe:E6:=SO 27
abbrev Fc:E6:=SO 28
abbrev Ez:E6:=SO 29
abbrev Fi:E6:=SO 32
abbrev Fh:E6:=SO 34
abbrev Ey:E6:=SO 35
abbrev Fg:E6:=SO 16
abbrev Fq:E6:=SO 30
abbrev Fo:E6:=SO 17
abbrev Et:E6:=SO 31
abbrev Ep:E6:=SO 18
abbrev Eo:E6:=SO 20
abbrev En:E6:=SO 33
abbrev p7:E6:=SO 21
abbrev qD:E6:=SO 37
abbrev xN:E6:=SO 23
abbrev zC:E6:=SO 25
abbrev Ew:E6:=SO 36
abbrev g7:E6:=SO 38
theorem TH{P:List CT}{sc:NG}(h1:sc.kind=.function:=by rfl)(h2:sc.isCoroutine=AD:=by rfl)(h3:sc.isGenerator=AD:=by rfl)(h4:N.Nodup:=by decide +kernel)(h5:N.take P.length=P:=by rfl)(h6:∀x∈P,sc.names.lookup x=AA .local\/sc.names.lookup x=AA .cell:=by decide +kernel)(h7:∀y∈sc.names,y.2≠.free:=by decide +kernel):FnScope N P sc:={h1,h2,h3,h4,h5,h6,h7}
theorem cn(h1:YL scope X.env=pure cl)(h2:scope.kind=.function:=by rfl)(h3:∀y∈scope.names,y.2≠.cell:=by decide +kernel)(h4:∀y∈scope.names,y.2=.local->scope.names.lookup y.1=AA .local:=by decide +kernel)(h5:∀y∈scope.names,y.2=.free->y.1∈CV:=by decide +kernel)(h6:cl.map (·.1)=CV:=by rfl)
  (h7:∀p∈cl,X.env.cells.lookup p.1=AA p.2:=by first|exact lZ|exact fN rfl|exact Ae rfl rfl|exact Ad rfl rfl rfl|exact Gw rfl rfl rfl rfl) (h8:CV.map AA=js.map λj=>X.N[j]?:=by rfl)
  (h9:∀x∈CV,X.env.kindOf x=AA .cell\/X.env.kindOf x=AA .free:=by first|exact lZ|(refine fN ?_<;>first|exact BN rfl|exact EF rfl)|(refine Ae ?_ ?_<;>first|exact BN rfl|exact EF rfl)|(refine Ad ?_ ?_ ?_<;>first|exact BN rfl|exact EF rfl)|(refine Gw ?_ ?_ ?_ ?_<;>first|exact BN rfl|exact EF rfl))
  (h10:∀x∈CV,(TY scope X.env).names.lookup x=AA .cell\/(TY scope X.env).names.lookup x=AA .free:=by first|exact lZ|(refine fN ?_<;>first|exact BN rfl|exact EF rfl)|(refine Ae ?_ ?_<;>first|exact BN rfl|exact EF rfl)|(refine Ad ?_ ?_ ?_<;>first|exact BN rfl|exact EF rfl)|(refine Gw ?_ ?_ ?_ ?_<;>first|exact BN rfl|exact EF rfl))
  (h11:∀x∈own,x∉CV:=by decide +kernel) (h12:∀x∈own,scope.names.lookup x=AA .local:=by decide +kernel):CompNm X scope cl own CV js:={h1,h2,h3,h4,h5,h6,h7,h8,h9,h10,h11,h12}
theorem ZY(i:Nat)(hN:(own++CV).Nodup:=by decide +kernel)(hi:(own++CV)[i]?=AA x:=by rfl)(hx:L2.Loc (MI X scope cl (own++CV) C s H fp).env.scope x:=by exact BN rfl)(hf:(MI X scope cl (own++CV) C s H fp).fn x=AL\/(MI X scope cl (own++CV) C s H fp).env.scope.names.lookup x=AA .local:=by exact EF rfl):VG (MI X scope cl (own++CV) C s H fp) (.Name x pos) (.nm i):=WP hN hi hx hf
theorem zZP{g:TG}{tt:TT}{acc:AQ}{σ₀:St}{N:St->Hp->Prop}(Pv:Nat->List V->St->Hp->Prop)(h0:Pv 0 [] σ₀ (D6 H1 acc (.lst [])))(ha:∀i ys σ H,i<=n->Pv i ys σ H->H acc=AA (.lst ys))
  (hs:∀i ys σ H,i<n->Pv i ys σ H->J.go i H/\∀x H',J.yld i H x H'->g x σ H' λσ2 H2=>tt σ2 H2 λb H3 =>
   if b=AL then te σ2 H3 λy H4=>H4 acc=AA (.lst ys)/\ys.length<sizeLine/\∃m',m'<n-i/\m'=n-(i+1)/\i+1<=n/\Pv (i+1) (ys++[y]) σ2 (D6 H4 acc (.lst (ys++[y])))
   else ∃m',m'<n-i/\m'=n-(i+1)/\i+1<=n/\Pv (i+1) ys σ2 H3)
  (hd:∀ys σ H,Pv n ys σ H->J.stop n H/\N σ H) (mg:∀x σ H P P',(∀σ2 H2,P σ2 H2->P' σ2 H2)->g x σ H P->g x σ H P') (mt:∀σ H P P',(∀b H2,P b H2->P' b H2)->tt σ H P->tt σ H P') (me:∀σ H P P',(∀v H2,P v H2->P' v H2)->te σ H P->te σ H P'):tWalkC J g tt (j2 acc te) σ₀ (D6 H1 acc (.lst [])) N:=by
 refine{λi m σ H=>m=n-i/\i<=n/\∃ys,Pv i ys σ H,{n,by lia,BS _,[],h0},?_};rintro i m σ H ⟨rfl,hi,ys,p⟩
 by_cases JL:i<n
 .obtain⟨go,st⟩:=hs i ys σ H JL p
  refine .inr {go,λx H' y=>mg _ _ _ _ _ (λσ2 H2 q=>mt _ _ _ _ (λb H3 q=>?_) q) (st x H' y)}
  cases b with
  |true =>
   rw[if_pos rfl] at q ⊢;exact me _ _ _ _ (λv H4 ⟨q1,q2,m',a,b,c,q3⟩=>{ys,q1,q2,m',a,b,c,_,q3}) q
  |false =>
   rw[if_neg CN] at q ⊢;obtain⟨m',a,b,c,q3⟩:=q;exact{m',a,b,c,_,q3}
 .have e:i=n:=by lia
  subst e;exact .inl (hd ys σ H p)
theorem Eu(f:α->Bool){l:List α}{x:α}(h:l[i]?=AA x):(l.take (i+1)).filter f=(l.take i).filter f++(if f x=AL then[x] else[]):=by
 obtain⟨hi,e⟩:=AR.mp h;rw[BE hi,bR,e]
 by_cases hf:f x=AL
 .simp[hf]
 .simp[hf]
theorem Pz{K:AC}{H:Hp}:∀{zs:List V} {ps:List (Int×Int)} {i:Nat} {z:V},PairsAt K H zs ps->zs[i]?=AA z->∃(q:AQ) (x y:Int),z=.ref q/\SqT K H q [.int x,.int y]/\ps[i]?=AA (x,y)
 |_,_,_,_,.nil,h=>by simp at h
 |_,_,0,_,.cons ⟨q,e,s⟩ t,h=>by simp at h;subst h;exact{q,_,_,e,s,rfl}
 |_,_,i+1,_,.cons _ t,h=>by simp at h;simpa using Pz t h
theorem Gr.acc{H1 H':Hp}{acc:AQ}{o:HO}(g:Gr H1 H')(h:H1 acc=AK):Gr H1 (D6 H' acc o):=λb u e=>by
 rw[EV (UX e h)];exact g b u e
def yIB(K:AC)(H:Hp)(q:AQ)(AI:Int)(ps:List (Int×Int)):Prop:=∃(t:AQ) (zs:List V),SqT K H q [.int AI,.ref t]/\SqT K H t zs/\PairsAt K H zs ps
noncomputable def UV(ps:List (Int×Int))(j:Nat):List Int:=(ps.filter λp=>decide (p.1=(j:Int))).map (·.2)
def zZQ(H:Hp)(L:AQ)(rs:List AQ)(AI:Int)(ps:List (Int×Int)):Prop:=H L=AA (.lst (rs.map V.ref))/\(rs.length:Int)=AI/\∀(j:Nat) (hj:j<rs.length),H rs[j]=AA (.lst ((UV ps j).map V.int))
def zZR(K:AC):Sp:=λvs H Q _=>∃(q:AQ) (AI:Int) (ps:List (Int×Int)),vs=[.ref q]/\yIB K H q AI ps/\ps.length<=1000/\0<=AI/\AI<=100/\(∀p∈ps,0<=p.1/\p.1<AI) /\
 ∀(L:AQ) (H':Hp) (rs:List AQ),Gr H H'->zZQ H' L rs AI ps->H L=AK->(∀r∈rs,H r=AK)->Q (.ref L) H'
section
variable{K:AC}
theorem ZZ:FnScope ["net","many","lanes","nexts","one","other"] ["net"] (J1 zK):={rfl,rfl,rfl,by decide +kernel,rfl,by decide +kernel,by decide +kernel}
theorem yIC:((["place"]:List CT)++([]:List CT)).Nodup:=by decide +kernel
theorem zVN(F:Fun K "next_places" "next_places" zK f fd)(T:Bt mg):FnOk P w K mg base LM 1 f fd ["net"] (zZR K):=by
 refine F.ok ZZ (λvs H Q E h=>?_) (λG6 A outer s H vs Q E hr h=>?_)
 .obtain⟨q,AI,ps,rfl,_⟩:=h
  rfl
 .obtain⟨q,AI,ps,rfl,⟨t,zs,hq,ht,iY⟩,JW,Yx,W2,hrg,q0⟩:=h
  refine{_,cE (Cy (pv 0) (Cz rfl (sT (iF (i:=1) ZZ.nd rfl (BN rfl)) (sT (iF (i:=2) ZZ.nd rfl (BN rfl)) UZ))))
   (cE (Sz (i:=3) (own:=["place"]) (CV:=[]) (js:=[]) {rfl,rfl,by decide +kernel,by decide +kernel,by decide +kernel,rfl,lZ,rfl,lZ,lZ,by decide +kernel,by decide +kernel} rfl (Sd rfl T.b_range (TC (pv 1) HZ))
     (λC s H fp=>iF (i:=0) yIC rfl (BN rfl) (EF rfl)) (λC s H fp=>Y5) (λC s H fp=>mQ HZ) ZZ.nd rfl rfl rfl)
   (cE (pM CO rfl (Ng (pv 2)) (Cz rfl (sT (iF (i:=4) ZZ.nd rfl (BN rfl)) (sT (iF (i:=5) ZZ.nd rfl (BN rfl)) UZ)))
    (kE (Dn (xG G9 LR LQ yU (Ca Y6 (pv 3) (pv 4) (λ_ _=>rfl)) (TC (pv 5) HZ)))))
   (kE (sH (pv 3))))),?_}
  have sm:∀n:Nat,n<=1000->n<=sizeLine:=λn h=>CW (Ek h);have hzl:zs.length=ps.length:=Paired.length iY;refine{_,rfl,q,_,rfl,hq,rfl,_,_,rfl,_,_,rfl,rfl,?_};refine{_,rfl,_,rfl,by lia,by lia,λacc dU=>?_}
  refine zZP (J:=qU 0 AI.toNat) (g:=b9 0) (tt:=Uk) (te:=qP zW) (n:=AI.toNat) (λi ys σ H'=>∃(u:Option V) (rs:List AQ),σ=[u]/\ys=rs.map V.ref/\rs.length=i/\rs.Nodup/\(∀r∈rs,H' r=AA (.lst [])/\H r=AK/\r≠acc)/\H' acc=AA (.lst ys)/\Gr H H')
   {AK,[],rfl,rfl,rfl,FV,lZ,HB,Gr.new dU} (λi ys σ H' _ ⟨_,_,_,_,_,_,_,h,_⟩=>h) ?_ ?_ (λx σ H P P' h q=>h _ _ q) (λσ H P P' h q=>h _ _ q) (λσ H P P' h q=>{q.1,λp hp=>h _ _ (q.2 p hp)})
  .rintro i ys σ H' hi ⟨u,rs,rfl,rfl,hl,nd,iV,ha,gr⟩
   refine{hi,?_};rintro x Bk ⟨rfl,rfl⟩;refine{sm 0 'd',λpt rE=>?_};have Yv:pt≠acc:=E8 (UX ha rE)
   have Jy:H pt=AK:=by
    cases e:H pt with
    |none=>rfl
    |some o=>have:=gr _ _ e;rw[rE] at this;cases this
   have hnr:pt∉rs:=λz=>by have:=(iV pt z).1;rw[rE] at this;cases this
   refine{Gr.new rE _ _ ha,Ek (by rw[AJ];lia),_,by lia,rfl,by lia,_,rs++[pt],rfl,by simp,by simp[hl],?_,λr W1=>?_,HB,Gr.acc (gr.trans (Gr.new rE)) dU}
   .rw[F8]
    exact{nd,ER.mpr {by simp,FV},λa wL b dS=>by rw[A3.mp dS];exact λz=>hnr (z▸wL)}
   .rcases BX.mp W1 with h|h
    .obtain⟨h1,h2,h3⟩:=iV r h
     exact{by rw[EV h3,EV (UX h1 rE)];exact h1,h2,h3}
    .rw[A3.mp h]
     exact{by rw[EV Yv,HB],Jy,Yv}
  .rintro ys σ H2 ⟨u,rs,rfl,rfl,hl,nd,iV,ha,gr⟩
   refine{AM _,?_}
   refine{_,rfl,t,rfl,{_,ht.gr gr},zXG (K:=K) (a:=t) (xs:=zs) (λi σ H3=>∃u4 u5:Option V,σ=[AA (.ref q),AA (.int AI),AA (.ref t),AA (.ref acc),u4,u5]/\H3 acc=AA (.lst (rs.map V.ref))/\(∀(j:Nat) (hj:j<rs.length),H3 rs[j]=AA (.lst ((UV (ps.take i) j).map V.int)))/\Gr H H3)
    {AK,AK,rfl,ha,λj hj=>(iV _ (HH hj)).1,gr} (λi σ H3 _ ⟨_,_,_,_,_,g⟩=>ht.gr g) ?_ ?_}
   .rintro i z σ H3 hi ⟨u4,u5,rfl,Bd,rD,g3⟩
    obtain⟨pq,x,y,rfl,NR,Jx⟩:=Pz (iY.gr g3) hi;obtain⟨x0,x9⟩:=hrg _ (C4 Jx);have fR:x.toNat<rs.length:=by rw[hl];have:=x9;have:=x0;simp only at *;lia
    have a8:((x.toNat:Nat):Int)=x:=by simp only at x0;lia
    have wK:atI (rs.map V.ref) x=AA (.ref rs[x.toNat]):=by
     have z:=Ph (xs:=rs.map V.ref) (j:=x.toNat) (v:=.ref rs[x.toNat]) (by rw[AU,BO fR];rfl);rw[a8] at z;exact z
    have Ax:=(AR.mp Jx).1
    have Jr:(UV (ps.take i) x.toNat).length<=1000:=by
     unfold UV;rw[AJ];have h1:=GO (λp:Int×Int=>decide (p.1=((x.toNat:Nat):Int))) (ps.take i);rw[EZ] at h1;lia
    refine{pq,_,rfl,NR,rfl,_,_,rfl,_,_,rfl,rfl,?_};refine{_,rfl,_,rfl,acc,_,_,_,rfl,rfl,SqL.of Bd,wK,.inl {rfl,_,SqL.of (rD _ fR)},_,rfl,rs[x.toNat],_,_,rfl,rfl,rD _ fR,Ek (by rw[AJ];exact Jr),_,_,rfl,?_,λj hj=>?_,?_}
    .rw[EV (E8 (iV _ (HH fR)).2.2)]
     exact Bd
    .have hf:=Eu (λp:Int×Int=>decide (p.1=(j:Int))) Jx
     by_cases Zb:j=x.toNat
     .subst Zb
      rw[HB];unfold UV;rw[hf,if_pos (decide_eq_true (show x=((x.toNat:Nat):Int) from a8.symm))];simp
     .have fV:rs[j]≠rs[x.toNat]:=λz=>by
       rcases Nat.lt_or_gt_of_ne Zb with h|h
       .exact EK.mp nd _ _ hj fR h z
       .exact EK.mp nd _ _ fR hj h z.symm
      rw[EV fV,rD j hj];unfold UV;rw[hf,if_neg (by simp only[decide_eq_true_eq];lia),DJ]
    .exact Gr.acc g3 (iV _ (HH fR)).2.1
   .rintro σ H3 ⟨u4,u5,rfl,Bd,rD,g3⟩
    rw[hzl,EA] at rD;exact{_,rfl,q0 acc H3 rs g3 {Bd,by rw[hl];lia,rD} dU λr W1=>(iV r W1).2.1}
end
def eY(AI:Int)(ps:List (Int×Int)):D:=.lst ((CI AI.toNat).map λj=>.lst ((UV ps j).map D.int))
def zM(AI:Int)(ps:List (Int×Int)):D:=.tup [.int AI,.tup (ps.map S7)]
def tO(sl:Ev)(q:Int×List (Int×Int)):Prop:=sl=[.val (zM q.1 q.2)]/\0<=q.1/\q.1<=100/\q.2.length<=1000/\∀p∈q.2,0<=p.1/\p.1<q.1
open Classical in
def kI:Mr:=λsl=>if h:∃q,tO sl q then .ok (AD,eY h.choose.1 h.choose.2,.non) else .bad
theorem yF9{sl:Ev}{r:Bool×D×D}(h:kI sl=.ok r):∃AI ps,tO sl (AI,ps)/\r=(AD,eY AI ps,.non):=by
 unfold kI at h
 by_cases e:∃q,tO sl q
 .rw[dif_pos e] at h;cases h;exact{_,_,e.choose_spec,rfl}
 .rw[dif_neg e] at h;cases h
theorem yGA(h:tO [.val (zM AI ps)] (AI,ps)):kI [.val (zM AI ps)]=.ok (AD,eY AI ps,.non):=by
 have e:∃q,tO [.val (zM AI ps)] q:={_,h};unfold kI;rw[dif_pos e];have z:=e.choose_spec.1;generalize e.choose=q at z;injection z with z _;injection z with z;injection z with z;injection z with z1 z2;injection z1 with z1;injection z2 with z2 _;injection z2 with z2;have:=congrArg kC z2;rw[yY,yY] at this;injection this with this;rw[<-z1,<-this]
theorem pAQ{K:AC}(s:Sub F H):∀{ps:List (Int×Int)} {ys:List V},Reps K F ys (ps.map S7)->PairsAt K H ys ps:=λr=>pA0 (r.prs s) λ_ _ ⟨q,e,h⟩=>{q,e,SqT.of h}
theorem zHQ{K:AC}(Fn:Fun K "next_places" "next_places" zK f fd)(T:Bt mg):FnOk P w K mg base LM 1 f fd ["net"] (NM K 1 kI) :=
 FnOk.imp (zVN Fn T) λvs H Q E h=>by
  obtain⟨hl,τ,F,sl,b,d,d',S,sh,hm,k⟩:=h;obtain⟨AI,ps,⟨rfl,g1,g2,g3,g4⟩,er⟩:=yF9 hm;cases er;obtain⟨v,e1,r⟩:=S.val 0 _ rfl;obtain⟨v',rfl⟩:=List.length_eq_one_iff.mp hl;cases e1;obtain⟨q,ws,rfl,r2,sq⟩:=r.tupSq
  cases r2 with
  |cons ra r2 =>
   cases r2 with
   |cons rb r2 =>
    cases r2;cases ra;obtain⟨t,zs,rfl,r3,sq3⟩:=rb.tupSq;refine{q,AI,ps,rfl,{t,zs,sq F H (.refl _) S.sub,sq3 F H (.refl _) S.sub,pAQ S.sub r3},g3,g1,g2,g4,λL H' rs gr na hL iV=>?_};have n:=New.gro (F:=F) S.sub gr;refine k _ _ _ n.stp (S.new n) ?_;obtain⟨n1,n2,n3⟩:=na;have hL':gro F H H' L=AA (.lst (rs.map V.ref)):=by rw[yC hL];exact n1
    refine .lst (.inl (.inl hL')) ?_
    have J2:∀(l:List AQ) (o:Nat),(∀r∈l,H r=AK)->(∀(j:Nat) (hj:j<l.length),H' l[j]=AA (.lst ((UV ps (o+j)).map V.int))) ->
      Reps K (gro F H H') (l.map V.ref) ((List.range' o l.length).map λj=>D.lst ((UV ps j).map D.int)):=by
     intro l
     induction l with
     |nil=>intro o _ _;exact .nil
     |cons a l ih =>
      intro o h1 h2;rw[AV,BB,List.range'_succ,AV];refine .cons ?_ (ih (o+1) (λr hr=>h1 r (A4 _ hr)) λj hj=>?_)
      .have:=h2 0 's'
       have hA':gro F H H' a=AA (.lst ((UV ps o).map V.int)):=by rw[yC (h1 a A8)];simpa using this
       exact .lst (.inl (.inl hA')) (Reps.ints _)
      .have:=h2 (j+1) (by simp;lia)
       rw[show o+1+j=o+(j+1) by lia];simpa using this
    have:=J2 rs 0 iV (by simpa using n3);rw[show rs.length=AI.toNat by lia] at this;rw[List.range_eq_range'];exact this
def Py:GS :=
 (G5 (J0 (.tp [(.nm 1),(.nm 2)]) (A6 0))
 (N4 (WM [(A6 1),(gN bW [(gN jW [(V3 (MZ (A6 2)) 2 [] (.tp [(.nm 0),(.nm 1)]) V1 (WM [(A6 1),(A6 0)]))])])])))
def fJ:Mr:=PP 3 Py
theorem RT:FnScope ["net","many","lanes"] ["net"] (J1 Dv):=TH
theorem zSL{K:AC}(Fn:Fun K "turned" "turned" Dv f fd)(T:Bt mg) :FnOk P w K mg base LM 1 f fd ["net"] (NM K 1 fJ) :=
 V2 Fn RT λG6 A outer s H E hr=>by
  have hu:=hr.units;unfold Py
  exact(IS (Mq (CP 0) (mO rfl (Y4 (WP (i:=1) RT.nd rfl (BN rfl)) (Y4 (WP (i:=2) RT.nd rfl (BN rfl)) mT))))
   (KB (QI (hU (D9 (CP 1) (D9 (mS T.b_tuple (D9 (pA8 (Qg T.b_sorted (D9 (pA8 (pH (own:=["one","other"]) (CV:=[]) (js:=[]) (cn rfl) rfl (Y2 (CP 2)) (λC s H fp=>(mO rfl (Y4 (ZY 0) (Y4 (ZY 1) mT)))) (λC s H fp=>pS) (λC s H fp=>(hU (D9 (CP 1) (D9 (CP 0) FS)))))) FS))) FS)) FS))))))
def Uc:GS :=
 (G5 (OT (gB (g2 eT (g2 FI (A6 0) (A6 1)) (gC .non)))
 Fx
 RV)
 (G5 (WN 2 (J5 [(A6 1)]))
 (G5 (XJ (UW [2] (gB (g2 NO (g2 FI (A6 0) (g2 FI (A6 2) (g1 SY (gC (.int 1))))) (g2 FI (A6 2) (g1 SY (gC (.int 1)))))))
 (fB (RQ 2 WJ [(O0 [2] (g2 FI (A6 0) (g2 FI (A6 2) (g1 SY (gC (.int 1))))))])) 100000)
 (N4 (O0 [2] (gN bW [(zP (A6 2) (g1 SY (gC (.int 1))))]))))))
def qF:Mr:=PP 3 Uc
theorem MM:FnScope ["held","place","line"] ["held","place"] (J1 zD):=TH
theorem zJ0{K:AC}(Fn:Fun K "musts_held" "musts_held" zD f fd)(T:Bt mg) :FnOk P w K mg base LM 1 f fd ["held","place"] (NM K 2 qF) :=
 V2 Fn MM λG6 A outer s H E hr=>by
  have hu:=hr.units;unfold Uc
  exact(IS (XH (Co (ML hu (CP 0) (CP 1)) jX)
   (KB Ms)
   X0)
   (IS (aV (i:=2) MM.nd rfl (BN rfl) (UE (D9 (CP 1) FS)))
   (IS (yO 100000 CO (mP [2] (hJ hu (ML hu (CP 0) (ML hu (CP 2) (mD HU))) (ML hu (CP 2) (mD HU))))
   (KB (xY (yN 2 (D9 (ZU [2] (ML hu (CP 0) (ML hu (CP 2) (mD HU)))) FS)))))
   (KB (QI (ZU [2] (mS T.b_tuple (D9 (pA8 (yFX (CP 2) (mD HU))) FS))))))))
def Fk:GX :=
 (zO (gB (g2 eT (g2 FI (A6 0) (A6 1)) (gC .non))) (Ui [(gJ OY [.inl "no way leads to ",.inr (A6 1)])]))
def zJ:List D->Out Ev:=zN 3 Fk
theorem zJ1{K:AC}(Fn:Fun K "musts_held" "musts_held" zD f fd)(T:Bt mg)(hmC:mg "NotReached"=AA (.ref C))(Z:J3 K C [.type "ValueError",.type "Exception",.type "BaseException",.type "object"] "ValueError.__new__"=AL) :FnOk P w K mg base (QJ P w C) 1 f fd ["held","place"] (qS K C 2 zJ) :=
 Ft Fn MM λG6 A outer s H E hr hh=>by
  have hu:=hr.units;unfold Fk;exact(yDB (Co (ML hu (CP 0) (CP 1)) jX) (zSA PySem.F.excBase_ValueError Z hmC hh (D9 (yDN (.txt 'd' (.val (CP 1) .nil))) FS)))
def Tu:GS :=
 (G5 (OT (gB (g2 aW (A6 1) (gN RO [(A6 0)])))
 (N4 (g2 FI (A6 0) (A6 1)))
 RV)
 (N4 (gC (.int 0))))
def qC:Mr:=PP 2 Tu
theorem zNK:FnScope ["script","k"] ["script","k"] (J1 Fe):=TH
theorem zL2{K:AC}(Fn:Fun K "_law_cell" "_law_cell" Fe f fd)(T:Bt mg) :FnOk P w K mg base LM 1 f fd ["script","k"] (NM K 2 qC) :=
 V2 Fn zNK λG6 A outer s H E hr=>by
  have hu:=hr.units;unfold Tu
  exact(IS (XH (Bv hu (CP 1) (l9 T.b_len (D9 (CP 0) FS)))
   (KB (QI (ML hu (CP 0) (CP 1))))
   X0)
   (KB (QI HU)))
def Tt:GS :=
 (G5 (OT (gB (g2 Gp (A6 0) (g2 aQ (gC (.int 10)) (gC (.int 18)))))
 (xD (J5 [(g2 bX (A6 0) (g2 aQ (gC (.int 10)) (gC (.int 18)))),(g2 RP (A6 0) (gC (.int 2305843009213693951))),(A6 1)]))
 RV)
 (xD (J5 [(gC (.int 0)),(g2 RP (A6 0) (gC (.int 2305843009213693951))),(A6 1)])))
def qB:Mr:=PP 2 Tt
theorem zNL:FnScope ["cell","turn"] ["cell","turn"] (J1 Fc):=TH
theorem zL3{K:AC}(Fn:Fun K "_law_well" "_law_well" Fc f fd)(T:Bt mg) :FnOk P w K mg base LM 1 f fd ["cell","turn"] (NM K 2 qB) :=
 V2 Fn zNL λG6 A outer s H E hr=>by
  have hu:=hr.units;unfold Tt
  exact(IS (XH (yFO (CP 0) (w8 HU HU))
   (KB (Pk (UE (D9 (xA (CP 0) (w8 HU HU)) (D9 (g9 (CP 0) HU) (D9 (CP 1) FS))))))
   X0)
   (KB (Pk (UE (D9 HU (D9 (g9 (CP 0) HU) (D9 (CP 1) FS)))))))
def Ti:GS :=
 (G5 (OT (UW [0] (gB (g2 Go (g2 FI (A6 0) (gC (.int 0))) (gC (.int 0)))))
 (G5 (J0 (.nm 2) (O0 [0] (g2 RP (g2 FI (A6 0) (gC (.int 0))) (A6 1))))
 (G5 (Q8 0 (gC (.int 0)) (O0 [0] (g2 mF (g2 FI (A6 0) (gC (.int 0))) (A6 1))))
 (N4 (A6 2))))
 RV)
 (G5 (Q8 0 (gC (.int 2)) (O0 [0] (g2 NB (g2 FI (A6 0) (gC (.int 2))) (gC (.int 1)))))
 (G5 (J0 (.nm 3) (gC (.int 2305843009213693951)))
 (G5 (J0 (.nm 4) (O0 [0] (g2 RP (g2 NB (g2 FI (A6 0) (gC (.int 1))) (g2 XW (gC (.int 1000003)) (g2 FI (A6 0) (gC (.int 2))))) (A6 3))))
 (G5 (J0 (.nm 4) (O0 [0] (g2 RP (g2 NB (g2 NB (g2 XW (A6 4) (A6 4)) (g2 XW (gC (.int 7919)) (g2 aQ (g2 FI (A6 0) (gC (.int 2))) (gC (.int 2))))) (gC (.int 5))) (A6 3))))
 (N4 (g2 RP (g2 mF (g2 RP (g2 aQ (A6 4) (gC (.int 3))) (A6 3)) (gC (.int 13))) (A6 1))))))))
def LL:Mr:=PP 5 Ti
theorem J7:FnScope ["bag","many","found","p","n"] ["bag","many"] (J1 Ez):=TH
theorem zL4{K:AC}(Fn:Fun K "_law_take" "_law_take" Ez f fd)(T:Bt mg) :FnOk P w K mg base LM 1 f fd ["bag","many"] (NM K 2 LL) :=
 V2 Fn J7 λG6 A outer s H E hr=>by
  have hu:=hr.units;unfold Ti
  exact(IS (XH (mP [0] (yFN (ML hu (CP 0) HU) HU))
   (IS (Q6 (i:=2) J7.nd rfl (BN rfl) (ZU [0] (g9 (ML hu (CP 0) HU) (CP 1))))
   (IS (cI 0 hu HU (ZU [0] (Mm (ML hu (CP 0) HU) (CP 1))))
   (KB (QI (CP 2)))))
   X0)
   (IS (cI 0 hu HU (ZU [0] (ZT (ML hu (CP 0) HU) HU)))
   (IS (Q6 (i:=3) J7.nd rfl (BN rfl) HU)
   (IS (Q6 (i:=4) J7.nd rfl (BN rfl) (ZU [0] (g9 (ZT (ML hu (CP 0) HU) (w9 HU (ML hu (CP 0) HU))) (CP 3))))
   (IS (Q6 (i:=4) J7.nd rfl (BN rfl) (ZU [0] (g9 (ZT (ZT (w9 (CP 4) (CP 4)) (w9 HU (w8 (ML hu (CP 0) HU) HU))) HU) (CP 3))))
   (KB (QI (g9 (Mm (g9 (w8 (CP 4) HU) (CP 3)) HU) (CP 1)))))))))
def Ub:GS :=
 (G5 (WN 3 (gC (.dk [])))
 (G5 (QT (MZ (g2 FI (A6 0) (gC (.int 1)))) (.tp [(.nm 4),(.nm 5)])
 (Q8 3 (A6 4) (O0 [3] (g2 NB (bV (A6 3) (A6 4) (J5 [])) (J5 [(A6 5)])))))
 (G5 (WN 6 (tU (gB (g2 NO (A6 1) (A6 2))) (Ck (A6 1) (gC (.bl AL))) (gC (.dk []))))
 (G5 (WN 7 (By [6] (gN jV [(A6 6)])))
 (G5 (XJ (UW [7] (gB (g2 NO (A6 7) (J5 []))))
 (QT (MZ (bV (A6 3) (RQ 7 eS []) (J5 []))) (.nm 5)
 (OT (UW [6] (iA (gB (g2 NO (A6 5) (A6 2))) (gB (g2 S8 (A6 5) (A6 6)))))
 (G5 (Q8 6 (A6 5) (gC (.bl AL)))
 (fB (RQ 7 WJ [(A6 5)])))
 RV)) 100000)
 (N4 (O0 [6] (gN jV [(A6 6)]))))))))
def cG:Mr:=PP 8 Ub
theorem HI:FnScope ["net","gate","closed","ahead","one","other","found","row"] ["net","gate","closed"] (J1 Fi):=TH
theorem zJ2{K:AC}(Fn:Fun K "_law_reach" "_law_reach" Fi f fd)(T:Bt mg) :FnOk P w K mg base LM 1 f fd ["net","gate","closed"] (NM K 3 cG) :=
 V2 Fn HI λG6 A outer s H E hr=>by
  have hu:=hr.units;unfold Ub
  exact(IS (aV (i:=3) HI.nd rfl (BN rfl) xR)
   (IS (fE CO rfl (Y2 (ML hu (CP 0) HU)) (mO rfl (Y4 (WP (i:=4) HI.nd rfl (BN rfl)) (Y4 (WP (i:=5) HI.nd rfl (BN rfl)) mT)))
   (KB (cI 3 hu (CP 4) (ZU [3] (ZT (We hu (CP 3) (CP 4) (pA8 (UE FS))) (pA8 (UE (D9 (CP 5) FS))))))))
   (IS (aV (i:=6) HI.nd rfl (BN rfl) (yH4 (hJ hu (CP 1) (CP 2)) (zY1 (CP 1) jR) xR))
   (IS (aV (i:=7) HI.nd rfl (BN rfl) (yFV [6] (xJ rfl T.b_list (D9 (CP 6) FS))))
   (IS (yO 100000 CO (mP [7] (hJ hu (CP 7) (pA8 (UE FS))))
   (KB (fE CO rfl (Y2 (We hu (CP 3) (yFS 7) (pA8 (UE FS)))) (WP (i:=5) HI.nd rfl (BN rfl))
   (KB (XH (mP [6] (VW.t (Cu (hJ hu (CP 5) (CP 2)) (Dp (sS hu (CP 5) (CP 6))))))
   (IS (cI 6 hu (CP 5) jR)
   (KB (xY (yN 7 (D9 (CP 5) FS)))))
   X0)))))
   (KB (QI (ZU [6] (pA8 (xJ rfl T.b_list (D9 (CP 6) FS)))))))))))
theorem MN:FnScope ["e","kinds"] ["e"] (J1 Fh):=TH
theorem ku{K:AC}{c0 c1 c2 c3 c4 c5 c6 c7 c8 c9:AQ}(Fn:Fun K "_law_kinds" "_law_kinds" Fh f fd)(T:Bt mg)(hb:Binds K fd ["e"] [])(Z:ExK K C bm Y7)(m0:mg "NotReached"=AA (.ref c0))(e0:BQ K (.ref C) (.ref c0)=AA AL)(m1:mg "NoPaper"=AA (.ref c1))(e1:BQ K (.ref C) (.ref c1)=AA AD)(m2:mg "TooMany"=AA (.ref c2))(e2:BQ K (.ref C) (.ref c2)=AA AD)(m3:mg "NoSuch"=AA (.ref c3))(e3:BQ K (.ref C) (.ref c3)=AA AD)(m4:mg "NoLane"=AA (.ref c4))(e4:BQ K (.ref C) (.ref c4)=AA AD)(m5:mg "NoRound"=AA (.ref c5))(e5:BQ K (.ref C) (.ref c5)=AA AD)(m6:mg "NoText"=AA (.ref c6))(e6:BQ K (.ref C) (.ref c6)=AA AD)(m7:mg "NoRow"=AA (.ref c7))(e7:BQ K (.ref C) (.ref c7)=AA AD)(m8:mg "NoPlace"=AA (.ref c8))(e8:BQ K (.ref C) (.ref c8)=AA AD)(m9:mg "NothingLeft"=AA (.ref c9))(e9:BQ K (.ref C) (.ref c9)=AA AD)(e10:BQ K (.ref C) (.type "ValueError")=AA AL):KU P w K mg base f C [AL,AD,AD,AD,AD,AD,AD,AD,AD,AD,AL] :=
 zVD (l1:=[AL,AD,AD,AD]) (l2:=[AD,AD,AD,AD]) (l3:=[AD,AD,AL]) Fn MN hb 'd' λG6 A outer s H a hX=>by
  exact(cE (xL (i:=1) MN.nd rfl (BN rfl) (mQ (cA (cB hX Z T.b_isinstance (fH (v:=.ref c0) rfl m0 rfl) (λ_ h=>h) e0) (cA (cB hX Z T.b_isinstance (fH (v:=.ref c1) rfl m1 rfl) (λ_ h=>h) e1) (cA (cB hX Z T.b_isinstance (fH (v:=.ref c2) rfl m2 rfl) (λ_ h=>h) e2) (cA (cB hX Z T.b_isinstance (fH (v:=.ref c3) rfl m3 rfl) (λ_ h=>h) e3) Cq)))))) (cE (xL (i:=1) MN.nd rfl (BN rfl) (xH Nb (pv 1) (mQ (cA (cB hX Z T.b_isinstance (fH (v:=.ref c4) rfl m4 rfl) (λ_ h=>h) e4) (cA (cB hX Z T.b_isinstance (fH (v:=.ref c5) rfl m5 rfl) (λ_ h=>h) e5) (cA (cB hX Z T.b_isinstance (fH (v:=.ref c6) rfl m6 rfl) (λ_ h=>h) e6) (cA (cB hX Z T.b_isinstance (fH (v:=.ref c7) rfl m7 rfl) (λ_ h=>h) e7) Cq))))))) (kE (sH (xH Nb (pv 1) (mQ (cA (cB hX Z T.b_isinstance (fH (v:=.ref c8) rfl m8 rfl) (λ_ h=>h) e8) (cA (cB hX Z T.b_isinstance (fH (v:=.ref c9) rfl m9 rfl) (λ_ h=>h) e9) (cA (cB hX Z T.b_isinstance (Pn (v:=.ty "ValueError") rfl T.b_ValueError (by decide +kernel) rfl) (λ_ h=>h) e10) Cq)))))))))
def Th:GS :=
 (N4 (V3 (ZR (gC (.int 11))) 1 [0] (.nm 0) V1 (Wy (g2 Z1 (A6 0) (A6 1)) (g2 Z1 (A6 0) (gC (.int 10))))))
def sY:Mr:=PP 1 Th
theorem zNM:FnScope ["which"] ["which"] (J1 Ey):=TH
theorem zL5{K:AC}(Fn:Fun K "_law_only" "_law_only" Ey f fd)(T:Bt mg) :FnOk P w K mg base LM 1 f fd ["which"] (NM K 1 sY) :=
 V2 Fn zNM λG6 A outer s H E hr=>by
  have hu:=hr.units;unfold Th;exact(KB (QI (pA8 (pH (own:=["k"]) (CV:=["which"]) (js:=[0]) (cn rfl) rfl (sV T.b_range HU) (λC s H fp=>(ZY 0)) (λC s H fp=>pS) (λC s H fp=>(yHX (Fv hu (CP 0) (CP 1)) (Wi (Fv hu (CP 0) HU))))))))
def Ua:GS :=
 (G5 (J0 (.nm 3) (g2 FI (A6 0) (gC (.int 0))))
 (G5 (WN 4 (g2 gX (J5 [(gC .non)]) (A6 3)))
 (G5 (OT (gB (g2 UG (A6 1) (A6 2)))
 (N4 (A6 4))
 RV)
 (G5 (J0 (.nm 5) (K8 kI [(A6 0)]))
 (G5 (J0 (.nm 6) (V3 (ZR (A6 3)) 1 [2] (.nm 0) V1 (g2 UG (A6 0) (A6 1))))
 (G5 (Q8 4 (A6 1) (gC (.int 0)))
 (G5 (J0 (.nm 7) (J5 [(A6 1)]))
 (G5 (XJ (ZN (A6 7))
 (G5 (WN 8 (J5 []))
 (G5 (QT (MZ (A6 7)) (.nm 9)
 (QT (MZ (g2 FI (A6 5) (A6 9))) (.nm 10)
 (OT (UW [4] (iA (gB (g2 eT (g2 FI (A6 4) (A6 10)) (gC .non))) (iB (ZN (g2 FI (A6 6) (A6 10))))))
 (G5 (Q8 4 (A6 10) (O0 [4] (g2 NB (g2 FI (A6 4) (A6 9)) (gC (.int 1)))))
 (fB (RQ 8 WJ [(A6 10)])))
 RV)))
 (J0 (.nm 7) (A6 8)))) 100000)
 (N4 (A6 4))))))))))
def zB:Mr:=PP 11 Ua
theorem FM:FnScope ["net","start","closed","many","away","nexts","shut","layer","further","place","head"] ["net","start","closed"] (J1 Fg):=TH
theorem zJ3{K:AC}(Fn:Fun K "lanes_away" "lanes_away" Fg f fd)(T:Bt mg)(TR:NP P w K mg base "next_places" 1 1 kI):FnOk P w K mg base LM 2 f fd ["net","start","closed"] (NM K 3 zB) :=
 V2 Fn FM λG6 A outer s H E hr=>by
  have hu:=hr.units;unfold Ua
  exact(IS (Q6 (i:=3) FM.nd rfl (BN rfl) (ML hu (CP 0) HU))
   (IS (aV (i:=4) FM.nd rfl (BN rfl) (Vv (D9 jX FS) (CP 3)))
   (IS (XH (Wa hu (CP 1) (CP 2))
   (KB (QI (CP 4)))
   X0)
   (IS (Q6 (i:=5) FM.nd rfl (BN rfl) (SM TR (hr.mono 'd') (D9 (CP 0) FS)))
   (IS (Tr (i:=6) (own:=["place"]) (CV:=["closed"]) (js:=[2]) (cn rfl) rfl (sV T.b_range (CP 3)) (λC s H fp=>(ZY 0)) (λC s H fp=>pS) (λC s H fp=>(yH0 hu (CP 0) (CP 1))) FM.nd rfl rfl rfl)
   (IS (cI 4 hu (CP 1) HU)
   (IS (Q6 (i:=7) FM.nd rfl (BN rfl) (pA8 (UE (D9 (CP 1) FS))))
   (IS (yO 100000 CO (sR (CP 7))
   (IS (aV (i:=8) FM.nd rfl (BN rfl) (UE FS))
   (IS (fE CO rfl (Y2 (CP 7)) (WP (i:=9) FM.nd rfl (BN rfl))
   (KB (fE CO rfl (Y2 (ML hu (CP 5) (CP 9))) (WP (i:=10) FM.nd rfl (BN rfl))
   (KB (XH (mP [4] (VW.t (Cu (Co (ML hu (CP 4) (CP 10)) jX) (Dp (Cv (sR (ML hu (CP 6) (CP 10))))))))
   (IS (cI 4 hu (CP 10) (ZU [4] (ZT (ML hu (CP 4) (CP 9)) HU)))
   (KB (xY (yN 8 (D9 (CP 10) FS)))))
   X0)))))
   (KB (Q6 (i:=7) FM.nd rfl (BN rfl) (CP 8))))))
   (KB (QI (CP 4)))))))))))
def Ug:GS :=
 (G5 (WN 2 (gN jV [(A6 1)]))
 (G5 (WN 3 (J5 []))
 (G5 (XJ (UW [2] (gB (g2 NO (A6 2) (J5 []))))
 (fB (RQ 3 WJ [(RQ 2 j6 [(LC LL 0 [(O0 [2] (gN RO [(A6 2)]))])])])) 100000)
 (N4 (A6 3)))))
def tB:Mr:=PP 4 Ug
theorem KE:FnScope ["bag","some","left","found"] ["bag","some"] (J1 Fq):=TH
theorem zF3{K:AC}(Fn:Fun K "_law_shuffled" "_law_shuffled" Fq f fd)(T:Bt mg)(D0:NP P w K mg base "_law_take" 1 2 LL):FnOk P w K mg base LM 2 f fd ["bag","some"] (NM K 2 tB) :=
 V2 Fn KE λG6 A outer s H E hr=>by
  have hu:=hr.units;unfold Ug
  exact(IS (aV (i:=2) KE.nd rfl (BN rfl) (xJ rfl T.b_list (D9 (CP 1) FS)))
   (IS (aV (i:=3) KE.nd rfl (BN rfl) (UE FS))
   (IS (yO 100000 CO (mP [2] (hJ hu (CP 2) (pA8 (UE FS))))
   (KB (xY (yN 3 (D9 (zYY 2 (D9 (WO 0 D0 (hr.mono 'd') (D9 (ZU [2] (l9 T.b_len (D9 (CP 2) FS))) FS)) FS)) FS)))))
   (KB (QI (CP 3))))))
def Uf:GS :=
 (G5 (J0 (.nm 3) (K8 zB [(A6 0),(A6 1),(A6 2)]))
 (N4 (gN bW [(V3 (Cj (A6 3)) 2 [] (.tp [(.nm 0),(.nm 1)]) (gB (g2 rQ (A6 1) (gC .non))) (A6 0))])))
def qG:Mr:=PP 4 Uf
theorem NN:FnScope ["net","gate","closed","away"] ["net","gate","closed"] (J1 Fo):=TH
theorem zHC{K:AC}(Fn:Fun K "reached_past" "reached_past" Fo f fd)(T:Bt mg)(VL:NP P w K mg base "lanes_away" 2 3 zB):FnOk P w K mg base LM 3 f fd ["net","gate","closed"] (NM K 3 qG) :=
 V2 Fn NN λG6 A outer s H E hr=>by
  have hu:=hr.units;unfold Uf
  exact(IS (Q6 (i:=3) NN.nd rfl (BN rfl) (SM VL (hr.mono 'd') (D9 (CP 0) (D9 (CP 1) (D9 (CP 2) FS)))))
   (KB (QI (mS T.b_tuple (D9 (pA8 (pH (own:=["place","steps"]) (CV:=[]) (js:=[]) (cn rfl) rfl (zU6 T.b_enumerate (CP 3)) (λC s H fp=>(mO rfl (Y4 (ZY 0) (Y4 (ZY 1) mT)))) (λC s H fp=>(Do (zYG (CP 1) jX))) (λC s H fp=>(CP 0)))) FS)))))
def Sv:GS :=
 (G5 (J0 (.nm 2) (g2 FI (J5 [(A6 1),(g2 NB (gC (.int 1)) (LC LL 0 [(A6 1)])),(g2 NB (gC (.int 1)) (LC LL 0 [(gN g8 [(gC (.int 7)),(A6 1)])]))]) (LC LL 0 [(gC (.int 3))])))
 (G5 (J0 (.nm 3) (LC LL 0 [(gC (.int 4))]))
 (G5 (J0 (.nm 4) (g2 FI (J5 [(gC (.int 0)),(gC (.int 1)),(LC LL 0 [(g2 NB (A6 2) (gC (.int 1)))]),(g2 NB (A6 2) (LC LL 0 [(g2 XW (gC (.int 5)) (A6 2))])),(gC (.int 120))]) (LC LL 0 [(gC (.int 5))])))
 (G5 (WN 5 (gC (.dt [])))
 (G5 (QT (rO (gC (.int 1)) (A6 2)) (.nm 6)
 (OT (gB (g2 aW (A6 3) (gC (.int 3))))
 (Q8 5 (WM [(g2 FI (J5 [(LC LL 0 [(A6 6)]),(g2 bX (g2 bX (A6 6) (gC (.int 1))) (LC LL 0 [(gN g8 [(A6 6),(gC (.int 2))])])),(gC (.int 0))]) (A6 3)),(A6 6)]) (gC (.bl AL)))
 RV))
 (G5 (QT (ZR (A6 4)) (.nm 7)
 (G5 (J0 (.nm 8) (LC LL 0 [(A6 2)]))
 (G5 (J0 (.nm 9) (g2 FI (J5 [(LC LL 0 [(A6 2)]),(g2 RP (g2 NB (g2 NB (A6 8) (gC (.int 1))) (LC LL 0 [(gC (.int 2))])) (A6 2))]) (LC LL 0 [(gC (.int 2))])))
 (OT (UW [5] (iA (gB (g2 NO (A6 8) (A6 9))) (gB (g2 aW (gN RO [(A6 5)]) (gC (.int 120))))))
 (Q8 5 (WM [(A6 8),(A6 9)]) (gC (.bl AL)))
 RV))))
 (G5 (J0 (.nm 10) (LC tB 0 [(Gq (A6 2))]))
 (G5 (J0 (.nm 11) (g2 FI (J5 [(g2 FI (A6 10) (gC (.int 0))),(g2 FI (A6 10) (gC (.int 0))),(LC LL 0 [(A6 2)])]) (LC LL 0 [(gC (.int 3))])))
 (N4 (O0 [5] (WM [(WM [(A6 2),(gN bW [(gN jW [(V3 (MZ (A6 5)) 2 [10] (.tp [(.nm 0),(.nm 1)]) V1 (WM [(g2 FI (A6 2) (A6 0)),(g2 FI (A6 2) (A6 1))]))])])]),(A6 11)])))))))))))
def pX:Mr:=PP 12 Sv
theorem GH:FnScope ["bag","most","many","way","more","lanes","k","turn","one","other","names","gate"] ["bag","most"] (J1 Et):=TH
theorem zNN{K:AC}(Fn:Fun K "_law_net" "_law_net" Et f fd)(T:Bt mg)(D0:NP P w K mg base "_law_take" 1 2 LL)(QY:NP P w K mg base "_law_shuffled" 2 2 tB):FnOk P w K mg base LM 3 f fd ["bag","most"] (NM K 2 pX) :=
 V2 Fn GH λG6 A outer s H E hr=>by
  have hu:=hr.units;unfold Sv
  exact(IS (Q6 (i:=2) GH.nd rfl (BN rfl) (ML hu (pA8 (UE (D9 (CP 1) (D9 (ZT HU (WO 0 D0 (hr.mono 'd') (D9 (CP 1) FS))) (D9 (ZT HU (WO 0 D0 (hr.mono 'd') (D9 (Mk rfl T.b_min (D9 HU (D9 (CP 1) FS))) FS))) FS))))) (WO 0 D0 (hr.mono 'd') (D9 HU FS))))
   (IS (Q6 (i:=3) GH.nd rfl (BN rfl) (WO 0 D0 (hr.mono 'd') (D9 HU FS)))
   (IS (Q6 (i:=4) GH.nd rfl (BN rfl) (ML hu (pA8 (UE (D9 HU (D9 HU (D9 (WO 0 D0 (hr.mono 'd') (D9 (ZT (CP 2) HU) FS)) (D9 (ZT (CP 2) (WO 0 D0 (hr.mono 'd') (D9 (w9 HU (CP 2)) FS))) (D9 HU FS))))))) (WO 0 D0 (hr.mono 'd') (D9 HU FS))))
   (IS (aV (i:=5) GH.nd rfl (BN rfl) zY0)
   (IS (fE CO rfl (zRY T.b_range HU (CP 2)) (WP (i:=6) GH.nd rfl (BN rfl))
   (KB (XH (Bv hu (CP 3) HU)
   (KB (cI 5 hu (hU (D9 (ML hu (pA8 (UE (D9 (WO 0 D0 (hr.mono 'd') (D9 (CP 6) FS)) (D9 (xA (xA (CP 6) HU) (WO 0 D0 (hr.mono 'd') (D9 (Mk rfl T.b_min (D9 (CP 6) (D9 HU FS))) FS))) (D9 HU FS))))) (CP 3)) (D9 (CP 6) FS))) jR))
   X0)))
   (IS (fE CO rfl (sV T.b_range (CP 4)) (WP (i:=7) GH.nd rfl (BN rfl))
   (IS (Q6 (i:=8) GH.nd rfl (BN rfl) (WO 0 D0 (hr.mono 'd') (D9 (CP 2) FS)))
   (IS (Q6 (i:=9) GH.nd rfl (BN rfl) (ML hu (pA8 (UE (D9 (WO 0 D0 (hr.mono 'd') (D9 (CP 2) FS)) (D9 (g9 (ZT (ZT (CP 8) HU) (WO 0 D0 (hr.mono 'd') (D9 HU FS))) (CP 2)) FS)))) (WO 0 D0 (hr.mono 'd') (D9 HU FS))))
   (KB (XH (mP [5] (VW.t (Cu (hJ hu (CP 8) (CP 9)) (Dp (Bv hu (l9 T.b_len (D9 (CP 5) FS)) HU)))))
   (KB (cI 5 hu (hU (D9 (CP 8) (D9 (CP 9) FS))) jR))
   X0)))))
   (IS (Q6 (i:=10) GH.nd rfl (EF rfl) (WO 0 QY (hr.mono 'd') (D9 (pA8 (zNE rfl T.b_range T.b_list (CP 2))) FS)))
   (IS (Q6 (i:=11) GH.nd rfl (BN rfl) (ML hu (pA8 (UE (D9 (ML hu (CP 10) HU) (D9 (ML hu (CP 10) HU) (D9 (WO 0 D0 (hr.mono 'd') (D9 (CP 2) FS)) FS))))) (WO 0 D0 (hr.mono 'd') (D9 HU FS))))
   (KB (QI (ZU [5] (hU (D9 (hU (D9 (CP 2) (D9 (mS T.b_tuple (D9 (pA8 (Qg T.b_sorted (D9 (pA8 (pH (own:=["one","other"]) (CV:=["names"]) (js:=[10]) (cn rfl) rfl (Y2 (CP 5)) (λC s H fp=>(mO rfl (Y4 (ZY 0) (Y4 (ZY 1) mT)))) (λC s H fp=>pS) (λC s H fp=>(hU (D9 (ML hu (CP 2) (CP 0)) (D9 (ML hu (CP 2) (CP 1)) FS)))))) FS))) FS)) FS))) (D9 (CP 11) FS))))))))))))))
def Rr:GS :=
 (N4 (K8 qG [(A6 0),(A6 1),(WM [])]))
def mV:Mr:=PP 2 Rr
theorem zSM:FnScope ["net","gate"] ["net","gate"] (J1 Ep):=TH
theorem zPP{K:AC}(Fn:Fun K "reached" "reached" Ep f fd)(T:Bt mg)(KS:NP P w K mg base "reached_past" 3 3 qG):FnOk P w K mg base LM 4 f fd ["net","gate"] (NM K 2 mV) :=
 V2 Fn zSM λG6 A outer s H E hr=>by
  have hu:=hr.units;unfold Rr;exact(KB (QI (SM KS (hr.mono 'd') (D9 (CP 0) (D9 (CP 1) (D9 (hU FS) FS))))))
def Rq:GS :=
 (G5 (J0 (.nm 3) (K8 mV [(A6 0),(A6 1)]))
 (G5 (OT (gB (g2 S8 (A6 2) (A6 3)))
 Fx
 RV)
 (G5 (J0 (.nm 4) (K8 qG [(A6 0),(A6 1),(WM [(A6 2)])]))
 (N4 (gN bW [(V3 (MZ (A6 3)) 1 [4] (.nm 0) (gB (g2 S8 (A6 0) (A6 1))) (A6 0))])))))
def mU:Mr:=PP 5 Rq
theorem P0:FnScope ["net","gate","place","all_reached","still"] ["net","gate","place"] (J1 Eo):=TH
theorem zPQ{K:AC}(Fn:Fun K "cut_off" "cut_off" Eo f fd)(T:Bt mg)(P3:NP P w K mg base "reached" 4 2 mV)(KS:NP P w K mg base "reached_past" 3 3 qG):FnOk P w K mg base LM 5 f fd ["net","gate","place"] (NM K 3 mU) :=
 V2 Fn P0 λG6 A outer s H E hr=>by
  have hu:=hr.units;unfold Rq
  exact(IS (Q6 (i:=3) P0.nd rfl (BN rfl) (SM P3 (hr.mono 'd') (D9 (CP 0) (D9 (CP 1) FS))))
   (IS (XH (sS hu (CP 2) (CP 3))
   (KB Ms)
   X0)
   (IS (Q6 (i:=4) P0.nd rfl (EF rfl) (SM KS (hr.mono 'd') (D9 (CP 0) (D9 (CP 1) (D9 (hU (D9 (CP 2) FS)) FS)))))
   (KB (QI (mS T.b_tuple (D9 (pA8 (pH (own:=["other"]) (CV:=["still"]) (js:=[4]) (cn rfl) rfl (Y2 (CP 3)) (λC s H fp=>(ZY 0)) (λC s H fp=>(Do (sS hu (CP 0) (CP 1)))) (λC s H fp=>(CP 0)))) FS)))))))
def Ej(zAY:Mr):GS :=
 (G5 (OT (ZN (pB "tuple" (A6 1)))
 (G5 (OT (zS (iB (ZN (pB "tuple" (A6 0)))) (gB (g2 NO (gN RO [(A6 0)]) (gN RO [(A6 1)]))))
 (N4 (gC (.bl AD)))
 RV)
 (N4 (gN qI [(V3 (Fu (A6 0) (A6 1)) 2 [] (.tp [(.nm 0),(.nm 1)]) V1 (K8 zAY [(A6 0),(A6 1)]))])))
 RV)
 (N4 (Gb (Ga (pB "bool" (A6 0))) (g2 Z1 (A6 0) (A6 1)))))
def zAY:Nat->Mr
 |0=>λ_=>.bad
 |n+1=>PP 2 (Ej (zAY n))
theorem zSN:FnScope ["found","due"] ["found","due"] (J1 En):=TH
theorem Su{P:CQ}{w:D3}{K:AC}{mg:CT->Option AH}{base:D4}{f:AQ}{fd:JR}(Fn:Fun K "_law_is" "_law_is" En f fd)(T:Bt mg)(hm:mg "_law_is"=AA (.ref f))(hb:Binds K fd ["found","due"] []) :∀n:Nat,FnOk P w K mg base LM (n+0) f fd ["found","due"] (NM K 2 (zAY n))
 |0=>fn_bad
 |n+1=>by
  have P5:NP P w K mg base "_law_is" (n+0) 2 (zAY n):=Fun.cal Fn (Su Fn T hm hb  n) hm hb;have hl:n+1+0=(n+0)+1:=by lia
  rw[hl];show FnOk P w K mg base LM ((n+0)+1) f fd ["found","due"] (NM K 2 (PP 2 (Ej (zAY n))))
  exact V2 Fn zSN λG6 A outer s H E hr=>by
   have hu:=hr.units;unfold Ej
   exact(IS (XH (sR (Cm Rj T.b_isinstance T.b_tuple (by decide +kernel) (CP 1)))
   (IS (XH (VW.t (yFC (Cv (sR (Cm Rj T.b_isinstance T.b_tuple (by decide +kernel) (CP 0)))) (yB6 (hJ hu (l9 T.b_len (D9 (CP 0) FS)) (l9 T.b_len (D9 (CP 1) FS))))))
   (KB (QI jR))
   X0)
   (KB (QI (yFR rfl T.b_all (D9 (pA8 (pH (own:=["one","other"]) (CV:=[]) (js:=[]) (cn rfl) rfl (yC2 T.b_zip (CP 0) (CP 1)) (λC s H fp=>(mO rfl (Y4 (ZY 0) (Y4 (ZY 1) mT)))) (λC s H fp=>pS) (λC s H fp=>(SM P5 (hr.mono 'l') (D9 (CP 0) (D9 (CP 1) FS)))))) FS)))))
   X0)
   (KB (QI (yFF (yFG (Cm zU4 T.b_isinstance T.b_bool (by decide +kernel) (CP 0))) (Wi (Fv hu (CP 0) (CP 1)))))))
def Rp:GS :=
 (G5 (J0 (.nm 2) (mM (MZ (K8 mV [(A6 0),(A6 1)])) 1 [0,1] (.dk []) (.nm 0) V1 (pF (A6 0) (K8 mU [(A6 1),(A6 2),(A6 0)]))))
 (G5 (WN 3 (g2 gX (J5 [(gC .non)]) (g2 FI (A6 0) (gC (.int 0)))))
 (G5 (rR (gN jV [(A6 2)]) [2] (g1 SY (gN RO [(g2 FI (A6 1) (A6 0))])) (.nm 4)
 (QT (MZ (g2 FI (A6 2) (A6 4))) (.nm 5)
 (OT (gB (g2 NO (A6 5) (A6 4)))
 (Q8 3 (A6 5) (A6 4))
 RV)) [4,5])
 (G5 (Q8 3 (A6 1) (A6 1))
 (N4 (O0 [3] (gN bW [(A6 3)])))))))
def pZ:Mr:=PP 6 Rp
theorem L6:FnScope ["net","gate","cuts","held","place","below"] ["net","gate"] (J1 p7):=TH
theorem zPR{K:AC}(Fn:Fun K "holders" "holders" p7 f fd)(T:Bt mg){cc TT:AQ}(L9:fd.code=.ref cc)(hC:JH base cc TT)(hT:TB K TT ("holders"++".<locals>.<lambda>"))(aA:NP P w K mg base "cut_off" 5 3 mU)(P3:NP P w K mg base "reached" 4 2 mV):FnOk P w K mg base LM 6 f fd ["net","gate"] (NM K 2 pZ) :=
 Bx Fn L6 λG6 A outer s H E oH hr=>by
  have hu:=hr.units;have oH:=oH.trans L9;unfold Rp
  exact(IS (Q6 (i:=2) L6.nd rfl (EF rfl) (pA8 (zY7 (own:=["place"]) (CV:=["net","gate"]) (js:=[0,1]) (cn rfl) rfl (Y2 (SM P3 (hr.mono 'd') (D9 (CP 0) (D9 (CP 1) FS)))) (λC s H fp=>(ZY 0)) (λC s H fp=>pS) (λC s H fp=>(CP 0)) (λC s H fp=>(SM aA (hr.mono 'd') (D9 (CP 1) (D9 (CP 2) (D9 (CP 0) FS))))))))
   (IS (aV (i:=3) L6.nd rfl (BN rfl) (Vv (D9 jX FS) (ML hu (CP 0) HU)))
   (IS (zY9 CO rfl T.b_sorted (pA8 (xJ rfl T.b_list (D9 (CP 2) FS))) ({{rfl,rfl,rfl,rfl,by decide +kernel,by decide +kernel,rfl,(fN rfl),rfl,(fN (by first|exact BN rfl|exact EF rfl)),(fN rfl),rfl},hr.mono 'd',oH,hC,hT,{"holders"++".<locals>.",rfl,(by decide +kernel:("holders"++".<locals>.":CT)++("<lambda>":CT)=("holders"++".<locals>.<lambda>":CT))},rfl,λ_ _ _ _=>rfl}:LamOk _ _ _ "must" ["cuts"] [2] _ _ _ _ _) (λf c s H=>Wc (hr.mono 'd') λhu=>(mD (l9 T.b_len (D9 (ML hu (CP 1) (CP 0)) FS)))) (WP (i:=4) L6.nd rfl (BN rfl))
   (KB (fE CO rfl (Y2 (ML hu (CP 2) (CP 4))) (WP (i:=5) L6.nd rfl (BN rfl))
   (KB (XH (hJ hu (CP 5) (CP 4))
   (KB (cI 3 hu (CP 5) (CP 4)))
   X0)))))
   (IS (cI 3 hu (CP 1) (CP 1))
   (KB (QI (ZU [3] (mS T.b_tuple (D9 (CP 3) FS)))))))))
def Tf:GS :=
 (G5 (J0 (.nm 2) (V3 (ZR (g2 FI (A6 0) (gC (.int 0)))) 1 [0,1] (.nm 0) (gB (g2 UG (A6 2) (K8 cG [(A6 1),(A6 0),(gC .non)]))) (A6 0)))
 (G5 (WN 3 (gC (.dk [])))
 (G5 (nB cG)
 (G5 (WN 6 (gC (.dk [])))
 (G5 (QT (MZ (A6 2)) (.nm 4)
 (Q8 6 (A6 4) (gN bW [(sD (g2 FI (A6 3) (A6 4)) [3] (g2 bX (gC (.int 0)) (gN RO [(g2 FI (A6 1) (A6 0))])))])))
 (N4 (A6 6)))))))
def qA:Mr:=PP 7 Tf
theorem HG:FnScope ["net","gate","begins","rows","place","closed","found"] ["net","gate"] (J1 qD):=TH
theorem zL9{K:AC}(Fn:Fun K "_law_back" "_law_back" qD f fd)(T:Bt mg){cc TT:AQ}(L9:fd.code=.ref cc)(hC:JH base cc TT)(hT:TB K TT ("_law_back"++".<locals>.<lambda>"))(PD:NP P w K mg base "_law_reach" 1 3 cG):FnOk P w K mg base LM 6 f fd ["net","gate"] (NM K 2 qA) :=
 Bx Fn HG λG6 A outer s H E oH hr=>by
  have hu:=hr.units;have oH:=oH.trans L9;unfold Tf
  exact(IS (Tr (i:=2) (own:=["place"]) (CV:=["net","gate"]) (js:=[0,1]) (cn rfl) rfl (sV T.b_range (ML hu (CP 0) HU)) (λC s H fp=>(ZY 0)) (λC s H fp=>(Do (Wa hu (CP 2) (SM PD (hr.mono 'd') (D9 (CP 1) (D9 (CP 0) (D9 jX FS))))))) (λC s H fp=>(CP 0)) HG.nd rfl rfl rfl)
   (IS (aV (i:=3) HG.nd rfl (EF rfl) xR)
   (yDP (m:=cG) (pM CO rfl (Y2 (CP 2)) (iF (i:=4) HG.nd rfl (BN rfl)) (kE (Dk (tR hu) (pv 3) (pv 4) (mQ HZ) rfl)))
   (pM CO rfl (Y2 (CP 2)) (iF (i:=5) HG.nd rfl (BN rfl)) (kE (pM CO rfl (Y2 (CP 2)) (iF (i:=4) HG.nd rfl (BN rfl)) (kE (Cc (sS hu (CP 1) (SM PD (hr.mono 'd') (D9 (CP 0) (D9 (CP 4) (D9 (CP 5) FS))))) (kE (Dn (xG G9 LR LQ yU (Ca (Os hu) (pv 3) (pv 4) (λ_ _=>rfl)) (TC (pv 5) HZ)))) UY)))))
   (IS (aV (i:=6) HG.nd rfl (BN rfl) xR)
   (IS (fE CO rfl (Y2 (CP 2)) (WP (i:=4) HG.nd rfl (BN rfl))
   (KB (cI 6 hu (CP 4) (mS T.b_tuple (D9 (pA8 (zY8 T.b_sorted (ML hu (CP 3) (CP 4)) ({{rfl,rfl,rfl,rfl,by decide +kernel,by decide +kernel,rfl,(fN rfl),rfl,(fN (by first|exact BN rfl|exact EF rfl)),(fN rfl),rfl},hr.mono 'd',oH,hC,hT,{"_law_back"++".<locals>.",rfl,(by decide +kernel:("_law_back"++".<locals>.":CT)++("<lambda>":CT)=("_law_back"++".<locals>.<lambda>":CT))},rfl,λ_ _ _ _=>rfl}:LamOk _ _ _ "one" ["rows"] [3] _ _ _ _ _) (λf c s H=>Wc (hr.mono 'd') λhu=>(xA HU (l9 T.b_len (D9 (ML hu (CP 1) (CP 0)) FS)))))) FS)))))
   (KB (QI (CP 6))))))))
def Nz:GS :=
 (N4 (K8 qF [(K8 pZ [(A6 0),(A6 1)]),(A6 2)]))
def kF:Mr:=PP 3 Nz
theorem Ny:FnScope ["net","gate","place"] ["net","gate","place"] (J1 xN):=TH
theorem zVO{K:AC}(Fn:Fun K "musts" "musts" xN f fd)(T:Bt mg)(PC:NP P w K mg base "musts_held" 1 2 qF)(P4:NP P w K mg base "holders" 6 2 pZ):FnOk P w K mg base LM 7 f fd ["net","gate","place"] (NM K 3 kF) :=
 V2 Fn Ny λG6 A outer s H E hr=>by
  have hu:=hr.units;unfold Nz;exact(KB (QI (SM PC (hr.mono 'd') (D9 (SM P4 (hr.mono 'd') (D9 (CP 0) (D9 (CP 1) FS))) (D9 (CP 2) FS)))))
def Dz:GX :=
 (Aa [(K8 pZ [(A6 0),(A6 1)]),(A6 2)] zJ)
def yL:List D->Out Ev:=zN 3 Dz
theorem zVP{K:AC}(Fn:Fun K "musts" "musts" xN f fd)(T:Bt mg)(MO:qH P w K mg base C "musts_held" 1 2 zJ)(PC:NP P w K mg base "musts_held" 1 2 qF)(P4:NP P w K mg base "holders" 6 2 pZ):FnOk P w K mg base (QJ P w C) 7 f fd ["net","gate","place"] (qS K C 3 yL) :=
 Ft Fn Ny λG6 A outer s H E hr hh=>by
  have hu:=hr.units;unfold Dz;exact(Oa (Ob MO (hr.mono 'd') (D9 (SM P4 (hr.mono 'd') (D9 (CP 0) (D9 (CP 1) FS))) (D9 (CP 2) FS))) λ_ _ _ h=>h)
def Tz:GS :=
 (N4 (pA (K8 kF [(K8 fJ [(A6 0)]),(A6 1),(A6 2)]) (g1 SY (gC (.int 1)))))
def kH:Mr:=PP 3 Tz
theorem Tx:FnScope ["net","gate","place"] ["net","gate","place"] (J1 zC):=TH
theorem zJ5{K:AC}(Fn:Fun K "musts_back" "musts_back" zC f fd)(T:Bt mg)(ZE:NP P w K mg base "musts" 7 3 kF)(SG:NP P w K mg base "turned" 1 1 fJ):FnOk P w K mg base LM 8 f fd ["net","gate","place"] (NM K 3 kH) :=
 V2 Fn Tx λG6 A outer s H E hr=>by
  have hu:=hr.units;unfold Tz;exact(KB (QI (yC9 (SM ZE (hr.mono 'd') (D9 (SM SG (hr.mono 'd') (D9 (CP 0) FS)) (D9 (CP 1) (D9 (CP 2) FS)))) (mD HU))))
def Fj:GX :=
 (Aa [(K8 fJ [(A6 0)]),(A6 1),(A6 2)] yL)
def zI:List D->Out Ev:=zN 3 Fj
theorem zJ6{K:AC}(Fn:Fun K "musts_back" "musts_back" zC f fd)(T:Bt mg)(U5:qH P w K mg base C "musts" 7 3 yL)(ZE:NP P w K mg base "musts" 7 3 kF)(SG:NP P w K mg base "turned" 1 1 fJ):FnOk P w K mg base (QJ P w C) 8 f fd ["net","gate","place"] (qS K C 3 zI) :=
 Ft Fn Tx λG6 A outer s H E hr hh=>by
  have hu:=hr.units;unfold Fj;exact(Oa (Oz (Ob U5 (hr.mono 'd') (D9 (SM SG (hr.mono 'd') (D9 (CP 0) FS)) (D9 (CP 1) (D9 (CP 2) FS)))) (mD HU)) λ_ _ _ h=>h)
def Te:GS :=
 (G5 (J0 (.nm 3) (gC .non))
 (G5 (J0 (.nm 4) (J5 []))
 (G5 (lV (J0 (.nm 3) (K8 kH [(A6 0),(A6 1),(A6 2)])) [(A6 0),(A6 1),(A6 2)] zI 4 5 [AL,AD,AD,AD,AD,AD,AD,AD,AD,AD,AL])
 (N4 (tU (gB (g2 Z1 (A6 4) (J5 []))) (A6 3) (A6 4))))))
def p9:Mr:=PP 6 Te
theorem J6:FnScope ["net","gate","place","told","kinds","e"] ["net","gate","place"] (J1 Ew):=TH
theorem zMA{K:AC}(Fn:Fun K "_law_told" "_law_told" Ew f fd)(T:Bt mg){fk:AQ}(ts:TryS P w K mg base C WA fk [AL,AD,AD,AD,AD,AD,AD,AD,AD,AD,AL])(MP:qH P w K mg base C "musts_back" 8 3 zI)(VJ:NP P w K mg base "musts_back" 8 3 kH):FnOk P w K mg base LM 9 f fd ["net","gate","place"] (NM K 3 p9) :=
 V2 Fn J6 λG6 A outer s H E hr=>by
  have hu:=hr.units;unfold Te
  exact(IS (Q6 (i:=3) J6.nd rfl (BN rfl) jX)
   (IS (Q6 (i:=4) J6.nd rfl (BN rfl) (pA8 (UE FS)))
   (IS (yDC (ik:=4) (ie:=5) (Q6 (i:=3) J6.nd rfl (BN rfl) (SM VJ (hr.mono 'd') (D9 (CP 0) (D9 (CP 1) (D9 (CP 2) FS))))) MP (hr.mono 'd') (D9 (CP 0) (D9 (CP 1) (D9 (CP 2) FS))) ts.KK (hr.mono 'd') ts.hkf ts.hkk ts.hW ts.hx J6.nd rfl rfl 'd' rfl rfl)
   (KB (QI (yHY (yFL hu (CP 4) (pA8 (UE FS))) (CP 3) (CP 4)))))))
def Vn:GS :=
 (G5 (QT (MZ (g2 NB (J5 [(K8 qC [(A6 0),(gC (.int 0))])]) (Cn (A6 0) (AA (gC (.int 1))) (AA (gC (.int 8)))))) (.nm 1)
 (G5 (J0 (.tp [(.nm 2),(.nm 3)]) (pG pX (pI qB [(A6 1),(gC (.int 0))]) [(g2 FI (J5 [(gC (.int 24)),(gC (.int 12))]) (g2 RP (A6 1) (gC (.int 2))))]))
 (G5 (J0 (.nm 4) (K8 qA [(A6 2),(A6 3)]))
 (QT (ZR (g2 FI (A6 2) (gC (.int 0)))) (.nm 5)
 (G5 (J0 (.nm 6) (K8 p9 [(A6 2),(A6 3),(A6 5)]))
 (OT (gB (g2 S8 (A6 5) (A6 4)))
 (OT (gB (g2 NO (A6 6) (K8 sY [(gC (.int 0))])))
 (N4 (gC (.bl AD)))
 RV)
 (OT (iB (ZN (K8 (zAY 5) [(A6 6),(g2 FI (A6 4) (A6 5))])))
 (N4 (gC (.bl AD)))
 RV)))))))
 (N4 (gC (.bl AL))))
def m_law:Mr:=PP 7 Vn
theorem RU:FnScope ["script","cell","net","gate","table","place","found"] ["script"] (J1 g7):=TH
theorem yDR{K:AC}(Fn:Fun K "law" "law" g7 f fd)(T:Bt mg)(YF:NP P w K mg base "_law_net" 3 2 pX)(W7:NP P w K mg base "_law_back" 6 2 qA)(W6:NP P w K mg base "_law_cell" 1 2 qC)(W3:NP P w K mg base "_law_well" 1 2 qB)(W4:NP P w K mg base "_law_told" 9 3 p9)(W5:NP P w K mg base "_law_only" 1 1 sY)(P5:NP P w K mg base "_law_is" 5 2 (zAY 5)):FnOk P w K mg base LM 10 f fd ["script"] (NM K 1 m_law) :=
 V2 Fn RU λG6 A outer s H E hr=>by
  have hu:=hr.units;unfold Vn
  exact(IS (fE CO rfl (Y2 (ZT (pA8 (UE (D9 (SM W6 (hr.mono 'd') (D9 (CP 0) (D9 HU FS))) FS))) (zYR (CP 0) (Oq HU) (Oq HU)))) (WP (i:=1) RU.nd rfl (BN rfl))
   (IS (Mq (zY5 YF (hr.mono 'd') (yCE W3 (hr.mono 'd') (D9 (CP 1) (D9 HU FS))) (D9 (ML hu (pA8 (UE (D9 HU (D9 HU FS)))) (g9 (CP 1) HU)) FS)) (mO rfl (Y4 (WP (i:=2) RU.nd rfl (BN rfl)) (Y4 (WP (i:=3) RU.nd rfl (BN rfl)) mT))))
   (IS (Q6 (i:=4) RU.nd rfl (BN rfl) (SM W7 (hr.mono 'd') (D9 (CP 2) (D9 (CP 3) FS))))
   (KB (fE CO rfl (sV T.b_range (ML hu (CP 2) HU)) (WP (i:=5) RU.nd rfl (BN rfl))
   (IS (Q6 (i:=6) RU.nd rfl (BN rfl) (SM W4 (hr.mono 'd') (D9 (CP 2) (D9 (CP 3) (D9 (CP 5) FS)))))
   (KB (XH (sS hu (CP 5) (CP 4))
   (KB (XH (hJ hu (CP 6) (SM W5 (hr.mono 'd') (D9 HU FS)))
   (KB (QI jR))
   X0))
   (KB (XH (Cv (sR (SM P5 (hr.mono 'd') (D9 (CP 6) (D9 (ML hu (CP 4) (CP 5)) FS)))))
   (KB (QI jR))
   X0))))))))))
   (KB (QI jR)))
theorem jS{i j:Int}(h:0<j):RP (.int i) (.int j)=.ok (.int (i % j)):=if_pos h
theorem No{i j:Int}(h:0<j/\j<2 ^ 200):mF (.int i) (.int j)=.ok (.int (i / j)):=if_pos h
theorem Bm{i j:Int}(h:pR i\/pR j):XW (.int i) (.int j)=.ok (.int (i * j)):=if_pos h
theorem Bl{i j:Int}(h:0<=j/\j<=1000000/\i.natAbs<2 ^ 64):aQ (.int i) (.int j)=.ok (.int (i ^ j.toNat)):=if_pos h
noncomputable def UU(a b c n:Int)(u2 u3 u4:Sl):Ev:=[.own AL (.lst [.int a,.int b,.int c]),.val (.int n),u2,u3,u4]
theorem Nm{a b c n:Int}{u2 u3 u4:Sl}:UW [0] (gB (g2 Go (g2 FI (A6 0) (gC (.int 0))) (gC (.int 0)))) (UU a b c n u2 u3 u4)=.ok (decide (0<a),UU a b c n u2 u3 u4) :=
 Y3 (PQ (GA (GA (x:=.lst [.int a,.int b,.int c]) (y:=.int 0) rfl rfl (d:=.int a) rfl) (y:=.int 0) rfl rfl))
theorem zVQ{a b c n:Int}(ha:0<a)(hn:1<=n)(Z6:n<2 ^ 200) :
  LL [.own AL (.lst [.int a,.int b,.int c]),.val (.int n)]=.ok (AD,.int (a % n),.lst [.int (a / n),.int b,.int c]):=by
 have h1:0<n:=by lia
 have t:=Nm (a:=a) (b:=b) (c:=c) (n:=n) (u2:=.no) (u3:=.no) (u4:=.no);rw[decide_eq_true ha] at t
 exact QU (sC (aP t (HV (E1:=UU a b c n (.val (.int (a % n))) .no .no) (OU (ZX (GA (GA (x:=.lst [.int a,.int b,.int c]) (y:=.int 0) rfl rfl (d:=.int a) rfl) (y:=.int n) rfl (jS h1)) rfl) rfl)
  (HV (E1:=UU (a / n) b c n (.val (.int (a % n))) .no .no) (cH (i:=0) (E1:=UU a b c n (.val (.int (a % n))) .no .no) (E2:=UU a b c n (.val (.int (a % n))) .no .no) (t:=AL) (d:=.lst [.int a,.int b,.int c]) (k:=.int 0) (d':=.lst [.int (a / n),.int b,.int c]) rfl (ZX (GA (GA (x:=.lst [.int a,.int b,.int c]) (y:=.int 0) rfl rfl (d:=.int a) rfl) (y:=.int n) rfl (No {h1,Z6})) rfl) rfl rfl rfl) (RS (d:=.int (a % n)) rfl))))) rfl
def gW(b c:Int):Int:=(b+1000003 * c) % 2305843009213693951
def gU(b c:Int):Int:=(gW b c * gW b c+7919 * c ^ 2+5) % 2305843009213693951
theorem s64{i:Int}(h0:0<=i)(h:i<2305843009213693951):pR i:={by lia,by lia}
theorem zVT{a b c n:Int}(ha:¬0<a)(hc:0<=c)(dR:c<1000000)(hn:1<=n)(Z6:n<2 ^ 200) :
  LL [.own AL (.lst [.int a,.int b,.int c]),.val (.int n)]=.ok (AD,.int (gU b (c+1) ^ 3 % 2305843009213693951 / 13 % n),.lst [.int a,.int b,.int (c+1)]):=by
 have h1:0<n:=by lia
 have m1:0<=gW b (c+1):=K3 _ 'd';have m2:gW b (c+1)<2305843009213693951:=JK _ 'd';have m3:0<=gU b (c+1):=K3 _ 'd';have m4:gU b (c+1)<2305843009213693951:=JK _ 'd';have t:=Nm (a:=a) (b:=b) (c:=c) (n:=n) (u2:=.no) (u3:=.no) (u4:=.no);rw[decide_eq_false ha] at t;have hp:(0:Int)<2305843009213693951:=by decide
 have bag:A6 0 (OE [0] (UU a b (c+1) n .no .no .no))=.ok (.lst [.int a,.int b,.int (c+1)],OE [0] (UU a b (c+1) n .no .no .no)):=rfl
 have s1:Q8 0 (gC (.int 2)) (O0 [0] (g2 NB (g2 FI (A6 0) (gC (.int 2))) (gC (.int 1)))) (UU a b c n .no .no .no)=.ok (.nx (UU a b (c+1) n .no .no .no)) :=
  cH (i:=0) (E1:=UU a b c n .no .no .no) (E2:=UU a b c n .no .no .no) (t:=AL) (d:=.lst [.int a,.int b,.int c]) (k:=.int 2) (d':=.lst [.int a,.int b,.int (c+1)]) rfl (ZX (GA (GA (x:=.lst [.int a,.int b,.int c]) (y:=.int 2) rfl rfl (d:=.int c) rfl) (y:=.int 1) rfl rfl) rfl) rfl rfl rfl
 have s3:J0 (.nm 4) (O0 [0] (g2 RP (g2 NB (g2 FI (A6 0) (gC (.int 1))) (g2 XW (gC (.int 1000003)) (g2 FI (A6 0) (gC (.int 2))))) (A6 3))) (UU a b (c+1) n .no (.val (.int 2305843009213693951)) .no)=.ok (.nx (UU a b (c+1) n .no (.val (.int 2305843009213693951)) (.val (.int (gW b (c+1)))))) :=
  OU (ZX (d:=.int (gW b (c+1))) (GA (GA (GA (x:=.lst [.int a,.int b,.int (c+1)]) (y:=.int 1) rfl rfl (d:=.int b) rfl) (GA (x:=.int 1000003) rfl (GA (x:=.lst [.int a,.int b,.int (c+1)]) (y:=.int 2) rfl rfl (d:=.int (c+1)) rfl) (Bm (.inl {by decide,by decide}))) rfl) (y:=.int 2305843009213693951) rfl (jS hp)) rfl) rfl
 have s4:J0 (.nm 4) (O0 [0] (g2 RP (g2 NB (g2 NB (g2 XW (A6 4) (A6 4)) (g2 XW (gC (.int 7919)) (g2 aQ (g2 FI (A6 0) (gC (.int 2))) (gC (.int 2))))) (gC (.int 5))) (A6 3))) (UU a b (c+1) n .no (.val (.int 2305843009213693951)) (.val (.int (gW b (c+1)))))=.ok (.nx (UU a b (c+1) n .no (.val (.int 2305843009213693951)) (.val (.int (gU b (c+1)))))) :=
  OU (ZX (d:=.int (gU b (c+1))) (GA (GA (GA (GA (x:=.int (gW b (c+1))) (y:=.int (gW b (c+1))) rfl rfl (Bm (.inl (s64 m1 m2)))) (GA (x:=.int 7919) rfl (GA (GA (x:=.lst [.int a,.int b,.int (c+1)]) (y:=.int 2) rfl rfl (d:=.int (c+1)) rfl) (y:=.int 2) rfl (Bl {by decide,by decide,by lia})) (Bm (.inl {by decide,by decide}))) rfl) (y:=.int 5) rfl rfl) (y:=.int 2305843009213693951) rfl (jS hp)) rfl) rfl
 have s5:N4 (g2 RP (g2 mF (g2 RP (g2 aQ (A6 4) (gC (.int 3))) (A6 3)) (gC (.int 13))) (A6 1)) (UU a b (c+1) n .no (.val (.int 2305843009213693951)) (.val (.int (gU b (c+1)))))=.ok (.rt AD (.int (gU b (c+1) ^ 3 % 2305843009213693951 / 13 % n)) (UU a b (c+1) n .no (.val (.int 2305843009213693951)) (.val (.int (gU b (c+1)))))) :=
  RS (GA (GA (GA (GA (x:=.int (gU b (c+1))) (y:=.int 3) rfl rfl (Bl {by decide,by decide,by lia})) (y:=.int 2305843009213693951) rfl (jS hp)) (y:=.int 13) rfl (No {by decide,by decide})) (y:=.int n) rfl (jS h1))
 exact QU (HV (UT t rfl) (HV s1 (HV (E1:=UU a b (c+1) n .no (.val (.int 2305843009213693951)) .no) rfl (HV s3 (HV s4 s5))))) rfl
def Bag(k:Nat)(d:D):Prop:=∃a b c:Int,d=.lst [.int a,.int b,.int c]/\0<=c/\c<=k
theorem Bag.mono{k':Nat}{d:D}(h:Bag k d)(l:k<=k'):Bag k' d:=by
 obtain⟨a,b,c,e,h0,h1⟩:=h;exact{a,b,c,e,h0,by lia}
theorem zZU{d:D}{n:Int}(B:Bag k d)(hk:k<900000)(hn:1<=n)(Z6:n<2 ^ 200) :
  ∃r d',LL [.own AL d,.val (.int n)]=.ok (AD,.int r,d')/\0<=r/\r<n/\Bag (k+1) d':=by
 obtain⟨a,b,c,rfl,h0,h1⟩:=B
 by_cases ha:0<a
 .exact{_,_,zVQ ha hn Z6,K3 _ 'l',JK _ 'l',_,_,_,rfl,h0,by lia}
 .exact{_,_,zVT ha h0 'l' hn Z6,K3 _ 'l',JK _ 'l',_,_,_,rfl,by lia,by lia}
theorem zZV(n:Int):∃d,qB [.val (.int n),.val (.int 0)]=.ok (AL,d,.non)/\Bag 0 d:=by
 have hp:(0:Int)<2305843009213693951:=by decide
 have pw:∀E:Ev,g2 aQ (gC (.int 10)) (gC (.int 18)) E=.ok (.int 1000000000000000000,E):=λE=>GA (x:=.int 10) (y:=.int 18) rfl rfl (Bl {by decide,by decide,by decide});have t:gB (g2 Gp (A6 0) (g2 aQ (gC (.int 10)) (gC (.int 18)))) [.val (.int n),.val (.int 0)]=.ok (decide (1000000000000000000<=n),[.val (.int n),.val (.int 0)]):=PQ (GA (x:=.int n) rfl (pw _) rfl)
 by_cases h:1000000000000000000<=n
 .rw[decide_eq_true h] at t
  exact{.lst [.int (n-1000000000000000000),.int (n % 2305843009213693951),.int 0],QU (sC (aP t (Od (j5 (PZ (GA (x:=.int n) rfl (pw _) (d:=.int (n-1000000000000000000)) rfl) (PZ (GA (x:=.int n) (y:=.int 2305843009213693951) rfl rfl (jS hp)) (LW (d:=.int 0) rfl))) (show 3<10000 by decide))))) rfl,_,_,_,rfl,by decide,by decide}
 .rw[decide_eq_false h] at t
  exact{.lst [.int 0,.int (n % 2305843009213693951),.int 0],QU (HV (UT t rfl) (Od (j5 (PZ (d:=.int 0) rfl (PZ (GA (x:=.int n) (y:=.int 2305843009213693951) rfl rfl (jS hp)) (LW (d:=.int 0) rfl))) (show 3<10000 by decide)))) rfl,_,_,_,rfl,by decide,by decide}
def GG(AI:Int)(ps:List (Int×Int)):D:=.tup [.int AI,.tup (ps.map S7)]
def wY(p:Int×Int):Int×Int:=(p.2,p.1)
structure Net(AI:Int)(ps:List (Int×Int)):Prop where
 m1:1<=AI
 m2:AI<=24
 len:ps.length<=120
 rg:∀p∈ps,0<=p.1/\p.1<AI/\0<=p.2/\p.2<AI/\p.1≠p.2
 pw:ps.Pairwise λa b=>TF a b=AL
def back(ps:List (Int×Int)):List (Int×Int):=ZS (ps.map wY)
theorem yA(Ec:Ev)(k:Nat):∀(j:Nat) (E:Ev),b7 Ec k [] j E=E
 |_,[]=>rfl
 |j,s::E=>by
  rw[b7,yA Ec k (j+1) E];cases s<;>rfl
theorem Cg{E:Ev}(h:E.length=2):∃x y,E=[x,y]:=by
 match E,h with
 |[x,y],_=>exact{x,y,rfl}
theorem zSR{E:Ev}(hi:gi E=.ok (ps.map S7,E1))(hl:ps.length<10000) :
  V3 gi 2 [] (.tp [.nm 0,.nm 1]) V1 (WM [A6 1,A6 0]) E=.ok (.lst ((ps.map wY).map S7),E1):=by
 have:=pQ (k:=2) (js:=[]) (t:=.tp [.nm 0,.nm 1]) (tt:=V1) (ge:=WM [A6 1,A6 0]) (λd=>match d with|.tup [a,b]=>[.tup [b,a]]|_=>[]) (λE=>E.length=2) hi rfl (by simpa using hl) (λd hd E hE=>by
  obtain⟨p,_,rfl⟩:=C1.mp hd;obtain⟨x,y,rfl⟩:=Cg hE
  exact{_,rfl,AL,_,rfl,.inl {rfl,_,_,rfl,rfl,rfl}}) λEc _=>yA Ec 2 0 E1
 rw[this]
 congr 3
 clear this hi hl
 induction ps with
 |nil=>rfl
 |cons p ps ih=>simp only[AV,FF,ih];rfl
theorem Rf(hl:ps.length<10000):fJ [.val (GG AI ps)]=.ok (AD,GG AI (back ps),.non):=by
 have h1:=zSR (gi:=MZ (A6 2)) (E:=[.val (GG AI ps),.val (.int AI),.val (.tup (ps.map S7))]) (E1:=[.val (GG AI ps),.val (.int AI),.val (.tup (ps.map S7))]) (ps:=ps) rfl hl;exact QU (HV (OU (d:=GG AI ps) rfl rfl) (RS (rZ (PZ (d:=.int AI) rfl (LW (SZ (LW (SZ (LW h1) (Tw _))) rfl))) (show 2<10000 by decide)))) rfl
theorem yID(h:ps.Pairwise λa b=>TF a b=AL):ps.Pairwise λa b=>Z0 a b=AL :=
 h.imp λ{a b} e=>by
  simp only[Z0,TF,decide_eq_true_eq,MG,decide_eq_false_iff_not] at *;lia
theorem zNO{a b:Int×Int}(h:Z0 a b=AL)(hn:a≠b):TF a b=AL:=by
 obtain⟨a1,a2⟩:=a;obtain⟨b1,b2⟩:=b;simp only[Z0,TF,decide_eq_true_eq,MG,decide_eq_false_iff_not] at *;have:¬(a1=b1/\a2=b2):=(λq0=>by obtain⟨x,y⟩:=q0;exact hn (by rw[x,y]));lia
theorem yDS{a b:Int×Int}(h:TF a b=AL):a≠b:=λz=>by
 subst z;simp only[TF,decide_eq_true_eq] at h;lia
theorem Px(h:ps.Nodup):(ZS ps).Pairwise λa b=>TF a b=AL:=by
 have h2:(ZS ps).Nodup:=(sZ ps).nodup_iff.mpr h;exact((Qh ps).and h2).imp λ{a b} e=>zNO e.1 e.2
theorem Net.back{AI:Int}{ps:List (Int×Int)}(N:Net AI ps):Net AI (back ps):=by
 have pm:=sZ (ps.map wY);refine{N.m1,N.m2,?_,λp hp=>?_,Px ?_}
 .unfold My.back;rw[pm.length_eq,AJ];exact N.len
 .obtain⟨q,hq,rfl⟩:=C1.mp (pm.mem_iff.mp hp)
  obtain⟨a,b,c,d,e⟩:=N.rg q hq;exact{c,d,a,b,E8 e}
 .have:ps.Nodup:=N.pw.imp λe=>yDS e
  exact UQ _ (λa b hab z=>hab (by obtain⟨a1,a2⟩:=a;obtain⟨b1,b2⟩:=b;simp only[wY,gI] at z;rw[z.1,z.2])) this
theorem zVV{t:Tg}{ge:G}{E:Ev}{ds:List D}(P:Ev->Prop)(hi:gi E=.ok (ds,E1))(h0:P (XG k js E1))(hl:ds.length<10000)
  (hs:∀d∈ds,∀E,P E->∃E1,WS t d E=.ok E1/\∃E3,ge E1=.ok (.bl AL,E3)/\P E3)
  (hb:∀Ec,P Ec->aX E1 Ec k js=E1):V3 gi k js t V1 ge E=.ok (.lst (ds.map λ_=>.bl AL),E1):=by
 have:=pQ (t:=t) (tt:=V1) (ge:=ge) (λ_=>[.bl AL]) P hi h0 hl (λd hd E hE=>by
  obtain⟨E1,e1,E3,e3,p⟩:=hs d hd E hE
  exact{E1,e1,AL,E1,rfl,.inl {rfl,_,_,e3,rfl,p}}) hb
 rw[this]
 congr 3
 clear this hi hl hs
 induction ds with
 |nil=>rfl
 |cons p ps ih=>simp only[AV,FF,ih];rfl
theorem zVW(ds:List α):qI [.lst (ds.map λ_=>.bl AL)]=.ok (.bl AL):=by
 have:jU (ds.map λ_=>D.bl AL)=AA (ds.map λ_=>AL):=by
  induction ds with
  |nil=>rfl
  |cons d ds ih=>simp[jU,ih]
 simp[qI,this]
def LZ:Option Int->D
 |none=>.non
 |some i=>.int i
inductive Rc(ps:List (Int×Int))(cl:List Int)(g:Int):Int->Prop
 |refl:g∉cl->Rc ps cl g g
 |step {x y:Int}:Rc ps cl g x->(x,y)∈ps->y∉cl->Rc ps cl g y
def vis(aw:List (Option Int))(x:Int):Prop:=0<=x/\∃v,aw[x.toNat]?=AA (AA v)
noncomputable def XF:List (Option Int)->Nat
 |[]=>0
 |none::r=>XF r+1
 |some _::r=>XF r
theorem Pw:∀{l:List (Option Int)} {i:Nat} {v:Int},l[i]?=AA AK->XF (l.set i (AA v))+1=XF l
 |[],_,_,h=>by simp at h
 |o::l,0,v,h=>by simp at h;subst h;rfl
 |o::l,i+1,v,h=>by
  have:=Pw (l:=l) (i:=i) (v:=v) (by simpa using h);cases o<;>simp[XF]<;>lia
theorem xZ:∀l:List (Option Int),XF l<=l.length
 |[]=>AM _
 |none::r=>by have:=xZ r;simp[XF];lia
 |some _::r=>by have:=xZ r;simp[XF];lia
theorem mR{j v x:Int}(h0:0<=j)(h1:j.toNat<aw.length):vis (aw.set j.toNat (AA v)) x↔vis aw x\/x=j:=by
 unfold vis
 by_cases e:x=j
 .subst e
  simp only[or_true,iff_true];exact{h0,v,by rw[BF h1]}
 .constructor
  .rintro⟨a,w,b⟩
   rw[A5 'l'] at b;exact .inl {a,w,b}
  .rintro(⟨a,w,b⟩|h)
   .exact{a,w,by rw[A5 'l'];exact b}
   .exact absurd h e
theorem UF{y:Int}:y∈UV ps j↔((j:Int),y)∈ps:=by
 unfold UV;constructor
 .intro h
  obtain⟨p,hp,rfl⟩:=C1.mp h;obtain⟨hp,e⟩:=DI.mp hp;have:=of_decide_eq_true e;rw[<-this];exact hp
 .intro h
  exact C1.mpr {_,DI.mpr {h,decide_eq_true rfl},rfl}
noncomputable def l7(AI:Int)(cl:List Int):D:=.lst ((CI AI.toNat).map λ(j:Nat)=>.bl (decide ((j:Int)∈cl)))
def env(AI:Int)(ps:List (Int×Int))(cl:List Int)(start:Int)(aw:List (Option Int))(GQ:List Int)(u8 u9 u10:Sl):Ev :=
 [.val (GG AI ps),.val (.int start),.val (.tup (cl.map D.int)),.val (.int AI),.own AD (.lst (aw.map LZ)),.val (eY AI ps),.val (l7 AI cl),.val (.lst (GQ.map D.int)),u8,u9,u10]
abbrev V0(D5:List Int):Sl:=.own AD (.lst (D5.map D.int))
structure Rg(AI:Int)(ps:List (Int×Int)):Prop where
 m1:0<=AI
 m2:AI<=100
 len:ps.length<=1000
 rg:∀p∈ps,0<=p.1/\p.1<AI/\0<=p.2/\p.2<AI
section
variable{cl:List Int}{start:Int}
abbrev Gn:GS:=OT (UW [4] (iA (gB (g2 eT (g2 FI (A6 4) (A6 10)) (gC .non))) (iB (ZN (g2 FI (A6 6) (A6 10))))))
 (G5 (Q8 4 (A6 10) (O0 [4] (g2 NB (g2 FI (A6 4) (A6 9)) (gC (.int 1)))))
 (fB (RQ 8 WJ [(A6 10)])))
 RV
theorem Vm{x:Int}{o:Option Int}(h0:0<=x)(h:aw[x.toNat]?=AA o):FI (.lst (aw.map LZ)) (.int x)=.ok (LZ o):=by
 have:=sA (xs:=aw.map LZ) (x:=LZ o) h0 (by rw[AU,h];rfl);exact tD this
theorem zZW{x:Int}(h0:0<=x)(h:x<AI):FI (l7 AI cl) (.int x)=.ok (.bl (decide (x∈cl))):=by
 have:=sA (xs:=(CI AI.toNat).map λ(j:Nat)=>D.bl (decide ((j:Int)∈cl))) (x:=.bl (decide (x∈cl))) h0 (by
  rw[AU,K2 'l',GT,show((x.toNat:Nat):Int)=x by lia])
 exact tD this
theorem zZX{x:Int}(h0:0<=x)(h:x<AI):FI (eY AI ps) (.int x)=.ok (.lst ((UV ps x.toNat).map D.int)):=by
 have:=sA (xs:=(CI AI.toNat).map λ(j:Nat)=>D.lst ((UV ps j).map D.int)) (x:=.lst ((UV ps x.toNat).map D.int)) h0 (by
  rw[AU,K2 'l',GT])
 exact tD this
theorem zZY{D5:List Int}{LO EC v:Int}(hl:aw.length=AI.toNat)(h1:0<=LO)(hv:aw[LO.toNat]?=AA (AA v))(h2:0<=EC)(h3:EC<AI)(hll:D5.length<10000) :
  ∃eA OK,Gn (env AI ps cl start aw GQ (V0 D5) (.val (.int LO)) (.val (.int EC)))=.ok (.nx (env AI ps cl start eA GQ (V0 OK) (.val (.int LO)) (.val (.int EC)))) /\
   ((aw[EC.toNat]?=AA AK/\EC∉cl/\eA=aw.set EC.toNat (AA (v+1))/\OK=D5++[EC])\/(eA=aw/\OK=D5/\(EC∉cl->vis aw EC))):=by
 obtain⟨o,ho⟩:∃o,aw[EC.toNat]?=AA o:={_,BO 'l'}
 have t1:∀b,(match o with|none=>AL|_=>AD)=b->gB (g2 eT (g2 FI (A6 4) (A6 10)) (gC .non)) (OE [4] (env AI ps cl start aw GQ (V0 D5) (.val (.int LO)) (.val (.int EC))))=.ok (b,OE [4] (env AI ps cl start aw GQ (V0 D5) (.val (.int LO)) (.val (.int EC)))):=λb hb =>
  PQ (GA (GA (x:=.lst (aw.map LZ)) (y:=.int EC) rfl rfl (Vm h2 ho)) (y:=.non) rfl (by cases o<;>subst hb<;>rfl))
 have t2:iB (ZN (g2 FI (A6 6) (A6 10))) (OE [4] (env AI ps cl start aw GQ (V0 D5) (.val (.int LO)) (.val (.int EC))))=.ok (!decide (EC∈cl),OE [4] (env AI ps cl start aw GQ (V0 D5) (.val (.int LO)) (.val (.int EC)))) :=
  Df (l8 (GA (x:=l7 AI cl) (y:=.int EC) rfl rfl (zZW h2 h3)) rfl)
 cases o with
 |some w =>
  refine{aw,D5,UT (Y3 (Ch (t1 AD rfl))) rfl,.inr {rfl,rfl,λ_=>{h2,w,ho}}}
 |none =>
  by_cases hc:EC∈cl
  .rw[decide_eq_true hc] at t2
   exact{aw,D5,UT (Y3 (pD (t1 AL rfl) t2)) rfl,.inr {rfl,rfl,λz=>absurd hc z}}
  .rw[decide_eq_false hc] at t2
   refine{_,_,aP (Y3 (pD (t1 AL rfl) t2)) (HV (E1:=env AI ps cl start (aw.set EC.toNat (AA (v+1))) GQ (V0 D5) (.val (.int LO)) (.val (.int EC))) ?_ ?_),.inl {ho,hc,rfl,rfl}}
   .have hb:O0 [4] (g2 NB (g2 FI (A6 4) (A6 9)) (gC (.int 1))) (env AI ps cl start aw GQ (V0 D5) (.val (.int LO)) (.val (.int EC)))=.ok (.int (v+1),env AI ps cl start aw GQ (V0 D5) (.val (.int LO)) (.val (.int EC))) :=
     ZX (GA (GA (x:=.lst (aw.map LZ)) (y:=.int LO) rfl rfl (Vm h1 hv)) (y:=.int 1) rfl rfl) rfl
    have:=cH (i:=4) (gk:=A6 10) (t:=AD) (d:=.lst (aw.map LZ)) (k:=.int EC) (d':=.lst ((aw.set EC.toNat (AA (v+1))).map LZ)) rfl hb rfl rfl (by
     rw[Bo (Ci h2 (by rw[AJ];lia)),List.map_set];rfl)
    exact this
   .have:=pP (i:=8) (f:=WJ) (gs:=[A6 10]) (E:=env AI ps cl start (aw.set EC.toNat (AA (v+1))) GQ (V0 D5) (.val (.int LO)) (.val (.int EC))) (xs:=D5.map D.int) (ds:=[.int EC]) (x:=.non) (VH:=(D5++[EC]).map D.int) rfl rfl rfl (by
     simp only[WJ,AJ]
     rw[ZQ hll];simp)
    exact xQ this
structure Bf(ps:List (Int×Int))(cl:List Int)(start:Int)(n:Nat)(OW aw:List (Option Int))(D5:List Int):Prop where
 len:aw.length=n
 mono:∀x,vis OW x->vis aw x
 new:∀x,vis aw x->vis OW x\/x∈D5
 lat:∀x∈D5,vis aw x
 rc:∀x,vis aw x->Rc ps cl start x
 cnt:XF aw+D5.length=XF OW
theorem Bf.step{OW aw:List (Option Int)}{D5:List Int}{LO EC v:Int}{n:Nat}(B:Bf ps cl start n OW aw D5)(h1:vis aw LO)(he:(LO,EC)∈ps)(h2:0<=EC)(h3:EC.toNat<n)(h4:aw[EC.toNat]?=AA AK)(h5:EC∉cl) :
  Bf ps cl start n OW (aw.set EC.toNat (AA (v+1))) (D5++[EC]) where
 len:=by rw[B9];exact B.len
 mono:=λx h=>(mR h2 (by rw[B.len];exact h3)).mpr (.inl (B.mono x h))
 new:=λx h=>by
  rcases(mR h2 (by rw[B.len];exact h3)).mp h with h|rfl
  .rcases B.new x h with h|h
   .exact .inl h
   .exact .inr (DH _ h)
  .exact .inr 's'
 lat:=λx h=>by
  refine(mR h2 (by rw[B.len];exact h3)).mpr ?_;rcases BX.mp h with h|h
  .exact .inl (B.lat x h)
  .exact .inr (A3.mp h)
 rc:=λx h=>by
  rcases(mR h2 (by rw[B.len];exact h3)).mp h with h|rfl
  .exact B.rc x h
  .exact .step (B.rc LO h1) he h5
 cnt:=by
  have:=Pw (v:=v+1) h4;have:=B.cnt;rw[BH,EQ];lia
abbrev zL:GS:=QT (MZ (g2 FI (A6 5) (A6 9))) (.nm 10) Gn
theorem zVX(R:Rg AI ps){SR:List (Option Int)}{VB:List Int}{LO:Int}{u10:Sl}(B1:Bf ps cl start AI.toNat OW SR VB)(hv:vis SR LO)(ho:LO<AI)(fY:XF OW<=100) :
  ∃aw D5 u,zL (env AI ps cl start SR GQ (V0 VB) (.val (.int LO)) u10)=.ok (.nx (env AI ps cl start aw GQ (V0 D5) (.val (.int LO)) u))/\Bf ps cl start AI.toNat OW aw D5/\(∀x,vis SR x->vis aw x)/\∀y,(LO,y)∈ps->y∉cl->vis aw y:=by
 have h0:=hv.1
 obtain⟨E',e,aw,D5,u,rfl,B,mo,ex⟩:=iE (gi:=MZ (g2 FI (A6 5) (A6 9))) (t:=.nm 10) (g:=Gn) (E:=env AI ps cl start SR GQ (V0 VB) (.val (.int LO)) u10) (ds:=(UV ps LO.toNat).map D.int)
  (λi E=>∃aw D5 u,E=env AI ps cl start aw GQ (V0 D5) (.val (.int LO)) u/\Bf ps cl start AI.toNat OW aw D5/\(∀x,vis SR x->vis aw x)/\∀y∈(UV ps LO.toNat).take i,y∉cl->vis aw y)
  (kB (GA (x:=eY AI ps) (y:=.int LO) rfl rfl (zZX h0 ho))) {SR,VB,u10,rfl,B1,λ_ h=>h,λy h=>by simp at h}
  (λi d E hd q0=>by
   obtain⟨aw,D5,u,hE,B,mo,ex⟩:=q0;subst hE;rw[AU] at hd;obtain⟨y,hy,rfl⟩:=BR.mp hd
   have vM:(LO,y)∈ps:=by
    have:=UF.mp (C4 hy)
    rwa [show((LO.toNat:Nat):Int)=LO by lia] at this
   obtain⟨_,_,y0,y1⟩:=R.rg _ vM;simp only at y0 y1;obtain⟨w,hw⟩:=(mo LO hv).2;have Az:=B.cnt;obtain⟨eA,OK,e,h⟩:=zZY (ps:=ps) (cl:=cl) (start:=start) (GQ:=GQ) (D5:=D5) B.len h0 hw y0 y1 'l';refine{_,rfl,_,e,eA,OK,_,rfl,?_}
   have nR:(UV ps LO.toNat).take (i+1)=(UV ps LO.toNat).take i++[y]:=by
    obtain⟨hi,e⟩:=AR.mp hy;rw[BE hi,e]
   rcases h with⟨a,b,rfl,rfl⟩|⟨rfl,rfl,hz⟩
   .have B':=B.step (v:=w) (mo LO hv) vM y0 'l' a b
    refine{B',λx hx=>(mR y0 (by rw[B.len];lia)).mpr (.inl (mo x hx)),λz hz dB=>?_};rw[nR] at hz;refine(mR y0 (by rw[B.len];lia)).mpr ?_;rcases BX.mp hz with h|h
    .exact .inl (ex z h dB)
    .exact .inr (A3.mp h)
   .refine{B,mo,λz h dB=>?_}
    rw[nR] at h;rcases BX.mp h with h|h
    .exact ex z h dB
    .rw[A3.mp h] at dB ⊢;exact hz dB)
 refine{aw,D5,u,e,B,mo,λy hy kY=>ex y ?_ kY};rw[AJ,EA];exact UF.mpr (by rwa [show((LO.toNat:Nat):Int)=LO by lia])
end
section
variable{cl:List Int}{start:Int}
theorem yDU{x:Int}(hl:aw.length=n)(h:vis aw x):0<=x/\x<n:=by
 obtain⟨a,v,b⟩:=h;have:=(AR.mp b).1;exact{a,by lia}
theorem zVY(R:Rg AI ps){u9 u10:Sl}(hl:OW.length=AI.toNat)(Au:∀x,vis OW x->Rc ps cl start x)(nX:∀x∈GQ,vis OW x) :
  ∃aw D5 u v,QT (MZ (A6 7)) (.nm 9) zL (env AI ps cl start OW GQ (V0 []) u9 u10)=.ok (.nx (env AI ps cl start aw GQ (V0 D5) u v))/\Bf ps cl start AI.toNat OW aw D5/\∀x∈GQ,∀y,(x,y)∈ps->y∉cl->vis aw y:=by
 have fY:XF OW<=100:=by have:=xZ OW;have:=R.m2;lia
 obtain⟨E',e,aw,D5,u,v,rfl,B,ex⟩:=iE (gi:=MZ (A6 7)) (t:=.nm 9) (g:=zL) (E:=env AI ps cl start OW GQ (V0 []) u9 u10) (ds:=GQ.map D.int)
  (λi E=>∃aw D5 u v,E=env AI ps cl start aw GQ (V0 D5) u v/\Bf ps cl start AI.toNat OW aw D5/\∀x∈GQ.take i,∀y,(x,y)∈ps->y∉cl->vis aw y)
  (kB rfl) {OW,[],u9,u10,rfl,{hl,λ_ h=>h,λ_ h=>.inl h,λ_ h=>by simp at h,Au,rfl},λy h=>by simp at h}
  (λi d E hd q0=>by
   obtain⟨aw,D5,u,v,hE,B,ex⟩:=q0;subst hE;rw[AU] at hd;obtain⟨x,hx,rfl⟩:=BR.mp hd;have Yp:=B.mono x (nX x (C4 hx));have JL:=yDU B.len Yp;obtain⟨eA,OK,u',e,B',mo,Zn⟩:=zVX R (GQ:=GQ) (u10:=v) B Yp (by have:=R.m1;lia) fY;refine{_,rfl,_,e,eA,OK,_,u',rfl,B',λz hz y hy kY=>?_};obtain⟨hi,e⟩:=AR.mp hx;rw[BE hi,e] at hz;rcases BX.mp hz with h|h
   .exact mo y (ex z h y hy kY)
   .rw[A3.mp h] at hy;exact Zn y hy kY)
 rw[AJ,EA] at ex;exact{aw,D5,u,v,e,B,ex}
abbrev Wm:GS:=(G5 (WN 8 (J5 []))
 (G5 (QT (MZ (A6 7)) (.nm 9) zL)
 (J0 (.nm 7) (A6 8))))
theorem zVZ(R:Rg AI ps)(hl:OW.length=AI.toNat)(hv:∀x,vis OW x↔x=start)(hs:start∉cl) :
  ∃aw u8 u9 u10,XJ (ZN (A6 7)) Wm 100000 (env AI ps cl start OW [start] .no .no .no)=.ok (.nx (env AI ps cl start aw [] u8 u9 u10))/\aw.length=AI.toNat/\∀x,vis aw x↔Rc ps cl start x:=by
 have fY:XF OW<=100:=by have:=xZ OW;have:=R.m2;lia
 obtain⟨E',e,aw,u8,u9,u10,rfl,h1,h2⟩:=sB (t:=ZN (A6 7)) (g:=Wm)
  (λn E=>∃aw GQ u8 u9 u10,E=env AI ps cl start aw GQ u8 u9 u10/\aw.length=AI.toNat/\(∀x,vis aw x->Rc ps cl start x)/\vis aw start/\(∀x∈GQ,vis aw x)/\(∀x,vis aw x->x∈GQ\/∀y,(x,y)∈ps->y∉cl->vis aw y)/\n=XF aw+(if GQ=[] then 0 else 1))
  (λE=>∃aw u8 u9 u10,E=env AI ps cl start aw [] u8 u9 u10/\aw.length=AI.toNat/\∀x,vis aw x↔Rc ps cl start x)
  (λn E hP=>by
   obtain⟨aw,GQ,u8,u9,u10,hE,hl,Au,a9,nX,hex,hn⟩:=hP;subst hE
   cases GQ with
   |nil =>
    refine .inl {_,l8 (d:=.lst []) rfl rfl,aw,u8,u9,u10,rfl,hl,λx=>{Au x,λh=>?_}}
    induction h with
    |refl _=>exact a9
    |step _ he hc ih =>
     rcases hex _ ih with h|h
     .simp at h
     .exact h _ he hc
   |cons r GQ =>
    obtain⟨eA,D5,u,v,e,B,ex⟩:=zVY R (GQ:=r::GQ) (u9:=u9) (u10:=u10) hl Au nX;refine .inr {_,env AI ps cl start eA D5 (.val (.lst (D5.map D.int))) u v,XF eA+(if D5=[] then 0 else 1),l8 (d:=.lst ((r::GQ).map D.int)) rfl rfl,HV (aU (d:=.lst []) rfl) (HV e (OU (d:=.lst (D5.map D.int)) rfl rfl)),?_,eA,D5,_,_,_,rfl,B.len,B.rc,B.mono _ a9,B.lat,λx hx=>?_,rfl}
    .have:=B.cnt
     rw[show(if(r::GQ:List Int)=[] then 0 else 1)=1 from if_neg 's'] at hn
     cases D5 with
     |nil=>simp at this ⊢;lia
     |cons a l=>simp at this ⊢;lia
    .rcases B.new x hx with h|h
     .refine .inr ?_
      rcases hex x h with h|h
      .exact ex x h
      .exact λy hy hc=>B.mono y (h y hy hc)
     .exact .inl h) 100000 (XF OW+1) (env AI ps cl start OW [start] .no .no .no) 'l'
  {OW,[start],_,_,_,rfl,hl,λx h=>by rw[(hv x).mp h];exact .refl hs,(hv _).mpr rfl,λx h=>by rw[A3.mp h];exact(hv _).mpr rfl,λx h=>.inl (by rw[(hv x).mp h];simp),rfl}
 exact{aw,u8,u9,u10,e,h1,h2}
theorem zZZ(R:Rg AI ps):kI [.val (GG AI ps)]=.ok (AD,eY AI ps,.non):=by
 exact yGA {rfl,R.m1,R.m2,R.len,λp hp=>{(R.rg p hp).1,(R.rg p hp).2.1}}
theorem zZ0(R:Rg AI ps){E:Ev}(h3:E[3]?=AA (.val (.int AI)))(h2:E[2]?=AA (.val (.tup (cl.map D.int))))(hb:∀Ec,aX E Ec 1 [2]=E):V3 (ZR (A6 3)) 1 [2] (.nm 0) V1 (g2 UG (A6 0) (A6 1)) E=.ok (l7 AI cl,E):=by
 have W2:=R.m1;have XN:=R.m2;have hg:A6 3 E=.ok (.int AI,E):=by simp[A6,h3]
 have:=pQ (k:=1) (js:=[2]) (t:=.nm 0) (tt:=V1) (ge:=g2 UG (A6 0) (A6 1)) (λd=>match d with|.int j=>[.bl (decide (j∈cl))]|_=>[]) (λE=>∃x,E=[x,.val (.tup (cl.map D.int))]) (xO hg {by lia,by lia}) {.no,by simp[XG,h2]} (by simp[SX];lia) (λd hd E q0=>by
  obtain⟨x,hE⟩:=q0;subst hE;obtain⟨j,_,rfl⟩:=C1.mp hd
  exact{_,rfl,AL,_,rfl,.inl {rfl,_,_,GA (x:=.int (0+(j:Int))) (y:=.tup (cl.map D.int)) rfl rfl (Dg _ _),rfl,_,rfl}}) λEc _=>hb Ec
 rw[this]
 congr 3
 simp only[l7,SX];clear this;rw[List.flatMap_map];generalize CI AI.toNat=l
 induction l with
 |nil=>rfl
 |cons p ps ih=>simp only[AV,FF];rw[ih];simp
theorem zZ1(R:Rg AI ps)(h0:0<=start)(h1:start<AI):∃aw,zB [.val (GG AI ps),.val (.int start),.val (.tup (cl.map D.int))]=.ok (AD,.lst (aw.map LZ),.non)/\aw.length=AI.toNat/\∀x,vis aw x↔Rc ps cl start x:=by
 have W2:=R.m1;have XN:=R.m2;obtain⟨SR,Z8⟩:∃SR:List (Option Int),SR=BG AI.toNat AK:={_,rfl}
 have Jt:gX (.lst [.non]) (.int AI)=.ok (.lst (SR.map LZ)):=by
  have e:(BG AI.toNat [D.non]).flatten=SR.map LZ:=by
   rw[Z8,List.map_replicate];generalize AI.toNat=n
   induction n with
   |zero=>rfl
   |succ n ih=>rw[EM,EM,G2,ih];rfl
  simp only[gX,L2.guard];rw[if_pos {by lia,by lia,by simp;lia},e]
 have Jm:∀x,¬vis SR x:=by
  rintro x ⟨_,v,b⟩;rw[Z8,DW] at b;split at b<;>simp at b
 obtain⟨E3,fZ⟩:∃E3:Ev,E3=[.val (GG AI ps),.val (.int start),.val (.tup (cl.map D.int)),.val (.int AI),.own AD (.lst (SR.map LZ)),.no,.no,.no,.no,.no,.no]:={_,rfl}
 have Ak:gB (g2 UG (A6 1) (A6 2)) E3=.ok (decide (start∈cl),E3):=by
  rw[fZ];exact PQ (GA (x:=.int start) (y:=.tup (cl.map D.int)) rfl rfl (Dg _ _))
 have s1:∀{g:GS} {r:Out Fl},g E3=r->(G5 (J0 (.nm 3) (g2 FI (A6 0) (gC (.int 0)))) (G5 (WN 4 (g2 gX (J5 [(gC .non)]) (A6 3))) g)) ([.val (GG AI ps),.val (.int start),.val (.tup (cl.map D.int))]++BG 8 .no)=r:=λh =>
  HV (OU (d:=.int AI) (GA (x:=GG AI ps) (y:=.int 0) rfl rfl rfl) rfl) (HV (aU (GA (x:=.lst [.non]) (y:=.int AI) rfl rfl Jt)) (by rw[fZ] at h;exact h))
 by_cases hs:start∈cl
 .rw[decide_eq_true hs] at Ak
  refine{SR,QU (s1 (sC (b:=AD) (d:=.lst (SR.map LZ)) (aP Ak (RS (by rw[fZ];rfl))))) rfl,by rw[Z8];simp,λx=>{λh=>absurd h (Jm x),λh=>?_}}
  induction h with
  |refl h=>exact absurd hs h
  |step _ _ _ ih=>exact absurd ih (Jm _)
 .rw[decide_eq_false hs] at Ak
  have Js:∀x,vis (SR.set start.toNat (AA 0)) x↔x=start:=λx=>by
   rw[mR h0 (by rw[Z8];simp;lia)];exact{λh=>h.resolve_left (Jm x),.inr}
  obtain⟨aw,u8,u9,u10,ew,hl,hr⟩:=zVZ (cl:=cl) (start:=start) R (OW:=SR.set start.toNat (AA 0)) (by rw[Z8];simp) Js hs
  refine{aw,QU (s1 (HV (UT Ak rfl) (HV (E1:=E3.set 5 (.val (eY AI ps))) (OU (Q7 (ds:=[GG AI ps]) (by rw[fZ];rfl) (zZZ R)) rfl) (HV (E1:=(E3.set 5 (.val (eY AI ps))).set 6 (.val (l7 AI cl))) (OU (zZ0 R (by rw[fZ];rfl) (by rw[fZ];rfl) (λEc=>by rw[fZ];rfl)) rfl)
   (HV (E1:=(((E3.set 5 (.val (eY AI ps))).set 6 (.val (l7 AI cl))).set 4 (.own AD (.lst ((SR.set start.toNat (AA 0)).map LZ))))) ?_ (HV (E1:=env AI ps cl start (SR.set start.toNat (AA 0)) [start] .no .no .no) (OU (d:=.lst [.int start]) (by rw[fZ];rfl) (by first|rfl|(rw[fZ];rfl))) (HV ew (RS (d:=.lst (aw.map LZ)) rfl)))))))) rfl,hl,hr}
  rw[fZ]
  exact cH (i:=4) (gk:=A6 1) (gv:=gC (.int 0)) (t:=AD) (d:=.lst (SR.map LZ)) (v:=.int 0) (k:=.int start) (d':=.lst ((SR.set start.toNat (AA 0)).map LZ)) rfl rfl rfl rfl (by
     rw[Bo (Ci h0 (by rw[AJ,Z8];simp;lia)),List.map_set];rfl)
end
noncomputable def eQ:List (Option Int)->Nat->List Int
 |[],_=>[]
 |none::r,k=>eQ r (k+1)
 |some _::r,k=>(k:Int)::eQ r (k+1)
theorem O3:∀{aw:List (Option Int)} {k:Nat} {x:Int},x∈eQ aw k↔(k:Int)<=x/\∃v,aw[x.toNat-k]?=AA (AA v)
 |[],k,x=>by simp[eQ]
 |none::r,k,x=>by
  rw[eQ,O3];constructor
  .rintro⟨a,v,b⟩
   refine{by lia,v,?_};rw[show x.toNat-k=(x.toNat-(k+1))+1 by lia,F9];exact b
  .rintro⟨a,v,b⟩
   by_cases e:x=k
   .subst e;simp at b
   .refine{by lia,v,?_}
    rw[show x.toNat-k=(x.toNat-(k+1))+1 by lia,F9] at b;exact b
 |some w::r,k,x=>by
  rw[eQ,BC,O3];constructor
  .rintro(rfl|⟨a,v,b⟩)
   .exact{aN _,w,by simp}
   .refine{by lia,v,?_}
    rw[show x.toNat-k=(x.toNat-(k+1))+1 by lia,F9];exact b
  .rintro⟨a,v,b⟩
   by_cases e:x=k
   .exact .inl e
   .refine .inr {by lia,v,?_}
    rw[show x.toNat-k=(x.toNat-(k+1))+1 by lia,F9] at b;exact b
theorem Dd:∀(aw:List (Option Int)) (k:Nat),(eQ aw k).Pairwise (· < ·)
 |[],_=>.nil
 |none::r,k=>Dd r (k+1)
 |some _::r,k=>JE.mpr {λx h=>by have:=(O3.mp h).1;lia,Dd r (k+1)}
noncomputable def Bq(d:D):List D:=match d with
 |.tup [_,.non]=>[]
 |.tup [i,_]=>[i]
 |_=>[]
theorem Du:∀(aw:List (Option Int)) (k:Nat),(((aw.map LZ).zipIdx k).map λp=>D.tup [.int (p.2:Int),p.1]).flatMap Bq=(eQ aw k).map D.int
 |[],_=>rfl
 |none::r,k=>by simp only[AV,KC,FF,Du r (k+1)];rfl
 |some _::r,k=>by simp only[AV,KC,FF,Du r (k+1)];rfl
section
variable{cl:List Int}{start:Int}
theorem Nx(R:Rg AI ps)(h0:0<=start)(h1:start<AI):∃xs:List Int,qG [.val (GG AI ps),.val (.int start),.val (.tup (cl.map D.int))]=.ok (AD,.tup (xs.map D.int),.non)/\xs.Pairwise (· < ·)/\∀x,x∈xs↔Rc ps cl start x:=by
 obtain⟨aw,e,hl,hr⟩:=zZ1 (cl:=cl) R h0 h1;have XN:=R.m2;refine{eQ aw 0,?_,Dd aw 0,λx=>?_}
 .have hc:=pQ (gi:=Cj (A6 3)) (k:=2) (js:=[]) (t:=.tp [.nm 0,.nm 1]) (tt:=gB (g2 rQ (A6 1) (gC .non))) (ge:=A6 0) (E:=[.val (GG AI ps),.val (.int start),.val (.tup (cl.map D.int)),.val (.lst (aw.map LZ))]) (E1:=[.val (GG AI ps),.val (.int start),.val (.tup (cl.map D.int)),.val (.lst (aw.map LZ))]) (ds:=jT (aw.map LZ)) Bq (λE=>E.length=2) rfl rfl (by simp[jT];lia) (λd hd E hE=>by
   obtain⟨⟨o,j⟩,ho,rfl⟩:=C1.mp hd;obtain⟨x,y,rfl⟩:=Cg hE
   have:∃w,LZ w=o:=by
    have:=List.mem_zipIdx ho;obtain⟨w,_,hw⟩:=C1.mp (List.mem_of_getElem (this.2.2.symm));exact{w,hw}
   obtain⟨w,rfl⟩:=this
   cases w with
   |none=>exact{_,rfl,AD,_,rfl,.inr {rfl,rfl,rfl}}
   |some w=>exact{_,rfl,AL,_,rfl,.inl {rfl,_,_,rfl,rfl,rfl}}) λEc _=>yA Ec 2 0 _
  have hf:(jT (aw.map LZ)).flatMap Bq=(eQ aw 0).map D.int:=Du aw 0;rw[hf] at hc;exact QU (HV (OU (Q7 (ds:=[GG AI ps,.int start,.tup (cl.map D.int)]) rfl e) rfl) (RS (SZ (LW hc) rfl))) rfl
 .rw[O3,<-hr]
  exact Iff.rfl
theorem Ss(R:Rg AI ps)(h0:0<=start)(h1:start<AI):∃xs:List Int,mV [.val (GG AI ps),.val (.int start)]=.ok (AD,.tup (xs.map D.int),.non)/\xs.Pairwise (· < ·)/\∀x,x∈xs↔Rc ps [] start x:=by
 obtain⟨xs,e,h⟩:=Nx (cl:=[]) R h0 h1;exact{xs,QU (RS (Q7 (ds:=[GG AI ps,.int start,.tup []]) rfl e)) rfl,h}
end
noncomputable def sc(ps:List (Int×Int))(x:Int):List Int:=(ps.filter λp=>decide (p.1=x)).map (·.2)
theorem cN{x y:Int}:y∈sc ps x↔(x,y)∈ps:=by
 unfold sc;constructor
 .intro h
  obtain⟨p,hp,rfl⟩:=C1.mp h;obtain⟨hp,e⟩:=DI.mp hp;have:=of_decide_eq_true e;rw[<-this];exact hp
 .intro h
  exact C1.mpr {_,DI.mpr {h,decide_eq_true rfl},rfl}
theorem yDV(ps:List (Int×Int))(x:Int):(sc ps x).length<=ps.length:=by
 unfold sc;rw[AJ];exact GO _ _
theorem yT:∀ns:List Int,pAA (ns.map D.int)=AL
 |[]=>by simp[pAA]
 |n::ns=>by simp[pAA,D.nod,yT ns]
theorem Es:∀ns:List Int,pA9 (ns.map D.int)=AL
 |[]=>by simp[pA9]
 |n::ns=>by simp[pA9,D.flat,Es ns]
theorem Nl(x:Int)(c:Option Int):NO (.int x) (LZ c)=.ok (.bl (decide (x∉c.toList))):=by
 cases c with
 |none=>rw[LZ,zVH];simp
 |some c=>rw[LZ,sQ];simp
def fM(fs:List Int):D:=.dk (fs.map λx=>(.inl x,.bl AL))
theorem zZ3(fs:List Int)(x:Int):(NK (κ:=Key) (fs.map λx=>(.inl x,.bl AL)) (.inl x)).isSome=decide (x∈fs):=by
 unfold NK
 induction fs with
 |nil=>rfl
 |cons a fs ih =>
  rw[AV,DU]
  by_cases e:a=x
  .subst e;simp
  .have e2:¬((CS a:Key)=.inl x):=λz=>e (IC z)
   simp only[e2,decide_false,ih];have:¬x=a:=λz=>e z.symm;simp[this]
theorem zZ4{fs:List Int}{x:Int}(h:x∉fs):PY (κ:=Key) (fs.map λx=>(.inl x,.bl AL)) (.inl x) (.bl AL)=(fs++[x]).map λx=>(.inl x,.bl AL):=by
 unfold PY;rw[if_neg]
 .simp
 .rw[XS]
  intro z;obtain⟨a,ha,e⟩:=IQ.mp z;have:=IC (of_decide_eq_true e);exact h (this▸ha)
section
variable{BV:Option Int}{BI:Int}
def XE(AI:Int)(ps:List (Int×Int))(BV:Option Int)(BI:Int)(u3 u4 u5 u6 u7:Sl):Ev:=[.val (GG AI ps),.val (.int BI),.val (LZ BV),u3,u4,u5,u6,u7]
def Gy(ps:List (Int×Int))(kvs:List (Key×D)):Prop:=∀x:Int,(NK kvs (.inl x)).getD (.lst [])=.lst ((sc ps x).map D.int)
theorem zV0(hl:ps.length<=1000):∃kvs u4 u5,QT (MZ (g2 FI (A6 0) (gC (.int 1)))) (.tp [(.nm 4),(.nm 5)])
 (Q8 3 (A6 4) (O0 [3] (g2 NB (bV (A6 3) (A6 4) (J5 [])) (J5 [(A6 5)])))) (XE AI ps BV BI (.own AD (.dk [])) .no .no .no .no)=.ok (.nx (XE AI ps BV BI (.own AD (.dk kvs)) u4 u5 .no .no))/\Gy ps kvs:=by
 obtain⟨E',e,kvs,u4,u5,rfl,hk,ht⟩:=iE (gi:=MZ (g2 FI (A6 0) (gC (.int 1)))) (t:=.tp [(.nm 4),(.nm 5)]) (g:=Q8 3 (A6 4) (O0 [3] (g2 NB (bV (A6 3) (A6 4) (J5 [])) (J5 [(A6 5)])))) (E:=XE AI ps BV BI (.own AD (.dk [])) .no .no .no .no) (ds:=ps.map S7)
  (λi E=>∃kvs u4 u5,E=XE AI ps BV BI (.own AD (.dk kvs)) u4 u5 .no .no/\kvs.length<=i/\Gy (ps.take i) kvs) (De (GA (x:=GG AI ps) (y:=.int 1) rfl rfl rfl)) {[],_,_,rfl,AM _,λx=>rfl}
  (λi d E hd hP=>by
   obtain⟨kvs,u4,u5,hE,hk,ht⟩:=hP;subst hE;rw[AU] at hd;obtain⟨⟨a,b⟩,hp,rfl⟩:=BR.mp hd;have Ax:=(AR.mp hp).1;have Jr:=yDV (ps.take i) a;rw[EZ] at Jr;have hf:=Eu (λp:Int×Int=>decide (p.1=a)) hp
   have hg:bV (A6 3) (A6 4) (J5 []) (OE [3] (XE AI ps BV BI (.own AD (.dk kvs)) (.val (.int a)) (.val (.int b)) .no .no))=.ok (.lst ((sc (ps.take i) a).map D.int),OE [3] (XE AI ps BV BI (.own AD (.dk kvs)) (.val (.int a)) (.val (.int b)) .no .no)):=by
    have:=Nq (gd:=A6 3) (gk:=A6 4) (gx:=J5 []) (E:=OE [3] (XE AI ps BV BI (.own AD (.dk kvs)) (.val (.int a)) (.val (.int b)) .no .no)) (a:=.dk kvs) (k:=.int a) (x:=.lst []) (o:=NK kvs (.inl a)) rfl rfl rfl rfl;rw[ht a] at this;exact this
   have hb:O0 [3] (g2 NB (bV (A6 3) (A6 4) (J5 [])) (J5 [(A6 5)])) (XE AI ps BV BI (.own AD (.dk kvs)) (.val (.int a)) (.val (.int b)) .no .no)=.ok (.lst ((sc (ps.take (i+1)) a).map D.int),XE AI ps BV BI (.own AD (.dk kvs)) (.val (.int a)) (.val (.int b)) .no .no):=by
    refine ZX (GA hg (y:=.lst [.int b]) rfl ?_) ?_
    .refine Vq (by rw[AJ];show _+1<10000;lia) ?_
     unfold sc;rw[hf,if_pos (decide_eq_true rfl)];simp
    .simp only[fF,XE,D.flat,D.nod,yT];rfl
   refine{_,rfl,_,cH (i:=3) (t:=AD) (d:=.dk kvs) (k:=.int a) (d':=.dk (PY kvs (.inl a) (.lst ((sc (ps.take (i+1)) a).map D.int)))) rfl hb rfl rfl (by simp only[lY,fA];rw[ZQ 'l']),PY kvs (.inl a) (.lst ((sc (ps.take (i+1)) a).map D.int)),_,_,rfl,AZ (Dw _ _ _) (EI hk (AM _)),λx=>?_}
   by_cases ex:x=a
   .subst ex;rw[zJS];rfl
   .rw[zNG _ _ (λz=>ex (IC z)),ht x]
    have hf:=Eu (λp:Int×Int=>decide (p.1=x)) hp;unfold sc
    rw[hf,if_neg (by simp only[decide_eq_true_eq];exact λz=>ex z.symm),DJ])
 rw[AJ,EA] at ht;exact{kvs,u4,u5,e,ht}
end
section
variable{BV:Option Int}{BI:Int}
abbrev tL:GS:=OT (UW [6] (iA (gB (g2 NO (A6 5) (A6 2))) (gB (g2 S8 (A6 5) (A6 6)))))
 (G5 (Q8 6 (A6 5) (gC (.bl AL)))
 (fB (RQ 7 WJ [(A6 5)])))
 RV
def PX(AI:Int)(ps:List (Int×Int))(BV:Option Int)(BI:Int)(u3 u4 u5:Sl)(fs GQ:List Int):Ev:=XE AI ps BV BI u3 u4 u5 (.own AD (fM fs)) (.own AD (.lst (GQ.map D.int)))
theorem zV1(x:Int)(fs:List Int):S8 (.int x) (fM fs)=.ok (.bl (decide (x∉fs))):=by
 have:=zZ3 fs x;simp only[S8,UG,fM,hG,fA,GT];simp only[Out.bind,this];simp
theorem yGB{u3 u4:Sl}{fs:List Int}{y:Int}(hf:fs.length<10000)(hr:GQ.length<10000) :
  ∃oO OJ,tL (PX AI ps BV BI u3 u4 (.val (.int y)) fs GQ)=.ok (.nx (PX AI ps BV BI u3 u4 (.val (.int y)) oO OJ)) /\
   ((y∉BV.toList/\y∉fs/\oO=fs++[y]/\OJ=GQ++[y])\/((y∈BV.toList\/y∈fs)/\oO=fs/\OJ=GQ)):=by
 obtain⟨E0,dX⟩:∃E0,E0=OE [6] (PX AI ps BV BI u3 u4 (.val (.int y)) fs GQ):={_,rfl}
 have t1:gB (g2 NO (A6 5) (A6 2)) E0=.ok (decide (y∉BV.toList),E0):=by
  rw[dX];exact PQ (GA (x:=.int y) (y:=LZ BV) rfl rfl (Nl _ _))
 have t2:gB (g2 S8 (A6 5) (A6 6)) E0=.ok (decide (y∉fs),E0):=by
  rw[dX];exact PQ (GA (x:=.int y) (y:=fM fs) rfl rfl (zV1 _ _))
 by_cases hc:y∈BV.toList
 .rw[decide_eq_false (λz=>z hc)] at t1
  exact{fs,GQ,UT (Y3 (by rw[<-dX];exact Ch t1)) rfl,.inr {.inl hc,rfl,rfl}}
 rw[decide_eq_true hc] at t1
 by_cases hm:y∈fs
 .rw[decide_eq_false (λz=>z hm)] at t2
  exact{fs,GQ,UT (Y3 (by rw[<-dX];exact pD t1 t2)) rfl,.inr {.inr hm,rfl,rfl}}
 rw[decide_eq_true hm] at t2;refine{fs++[y],GQ++[y],aP (Y3 (by rw[<-dX];exact pD t1 t2)) (HV (E1:=PX AI ps BV BI u3 u4 (.val (.int y)) (fs++[y]) GQ) ?_ ?_),.inl {hc,hm,rfl,rfl}}
 .exact cH (i:=6) (gk:=A6 5) (gv:=gC (.bl AL)) (E:=PX AI ps BV BI u3 u4 (.val (.int y)) fs GQ) (E1:=PX AI ps BV BI u3 u4 (.val (.int y)) fs GQ) (E2:=PX AI ps BV BI u3 u4 (.val (.int y)) fs GQ) (t:=AD) (d:=fM fs) (k:=.int y) (v:=.bl AL) (d':=fM (fs++[y])) rfl rfl rfl rfl (by
   exact(Vp (by rw[AJ];exact hf)).trans (by rw[zZ4 hm];rfl))
 .have:=pP (i:=7) (f:=WJ) (gs:=[A6 5]) (E:=PX AI ps BV BI u3 u4 (.val (.int y)) (fs++[y]) GQ) (xs:=GQ.map D.int) (ds:=[.int y]) (x:=.non) (VH:=(GQ++[y]).map D.int) rfl rfl rfl (by
  simp only[WJ,AJ]
  rw[ZQ hr];simp)
  exact xQ this
structure Fd(ps:List (Int×Int))(cl:List Int)(BI AI:Int)(fs GQ:List Int):Prop where
 nd:fs.Nodup
 rc:∀x∈fs,Rc ps cl BI x
 rg:∀x∈fs,0<=x/\x<AI
 sub:∀x∈GQ,x∈fs
theorem Fd.len{cl:List Int}{fs:List Int}(F:Fd ps cl BI AI fs GQ):fs.length<=AI.toNat:=by
 have:=G3 (l₂:=(CI AI.toNat).map λ(j:Nat)=>(j:Int)) F.nd (λx hx=>by
  obtain⟨a,b⟩:=F.rg x hx
  exact C1.mpr {x.toNat,FW.mpr 'l',by lia})
 simpa using this
theorem zZ5(R:Rg AI ps){kvs:List (Key×D)}{u4 u5:Sl}{NU U9:List Int}{r:Int}(hr:r∈NU)(F0:Fd ps BV.toList BI AI NU U9)(nY:U9.length<=NU.length) :
  ∃fs GQ u,UD (.nm 5) tL ((sc ps r).map D.int) (PX AI ps BV BI (.val (.dk kvs)) u4 u5 NU U9)=.ok (.nx (PX AI ps BV BI (.val (.dk kvs)) u4 u fs GQ))/\Fd ps BV.toList BI AI fs GQ/\(∀x∈NU,x∈fs)/\(∀x∈U9,x∈GQ)/\(∀x∈fs,x∈NU\/x∈GQ)/\fs.length+U9.length=GQ.length+NU.length/\∀y,(r,y)∈ps->y∉BV.toList->y∈fs:=by
 have XN:=R.m2
 obtain⟨E',e,fs,GQ,u,rfl,F,a,b,c,d,ex⟩:=yM (t:=.nm 5) (g:=tL) (λi E=>∃fs GQ u,E=PX AI ps BV BI (.val (.dk kvs)) u4 u fs GQ/\Fd ps BV.toList BI AI fs GQ/\(∀x∈NU,x∈fs)/\(∀x∈U9,x∈GQ)/\(∀x∈fs,x∈NU\/x∈GQ)/\fs.length+U9.length=GQ.length+NU.length/\∀y∈(sc ps r).take i,y∉BV.toList->y∈fs)
  (ds:=(sc ps r).map D.int) (E:=PX AI ps BV BI (.val (.dk kvs)) u4 u5 NU U9) 0 {NU,U9,u5,rfl,F0,λ_ h=>h,λ_ h=>h,λ_ h=>.inl h,Nat.add_comm _ _,λy h=>by simp at h}
  (λi d E hd hP=>by
   rw[ES] at hP ⊢;obtain⟨fs,GQ,u,hE,F,a,b,c,EX,ex⟩:=hP;subst hE;rw[AU] at hd;obtain⟨y,hy,rfl⟩:=BR.mp hd;have vM:(r,y)∈ps:=cN.mp (C4 hy);obtain⟨_,_,y0,y1⟩:=R.rg _ vM;have hfl:=F.len;obtain⟨oO,OJ,e,h⟩:=yGB (AI:=AI) (ps:=ps) (BV:=BV) (BI:=BI) (u3:=.val (.dk kvs)) (u4:=u4) (fs:=fs) (GQ:=GQ) (y:=y) 'l' 'l'
   have nR:(sc ps r).take (i+1)=(sc ps r).take i++[y]:=by
    obtain⟨hi,e⟩:=AR.mp hy;rw[BE hi,e]
   refine{_,rfl,_,e,oO,OJ,_,rfl,?_};rw[nR];rcases h with⟨hc,hm,rfl,rfl⟩|⟨Av,rfl,rfl⟩
   .refine{{?_,?_,?_,?_},λx hx=>DH _ (a x hx),λx hx=>DH _ (b x hx),?_,by simp;lia,?_}
    .rw[F8]
     exact{F.nd,ER.mpr {by simp,FV},λp hp q hq=>by rw[A3.mp hq];exact λz=>hm (z▸hp)}
    .intro x hx
     rcases BX.mp hx with h|h
     .exact F.rc x h
     .rw[A3.mp h];exact .step (F.rc r (a r hr)) vM hc
    .intro x hx
     rcases BX.mp hx with h|h
     .exact F.rg x h
     .rw[A3.mp h];exact{y0,y1}
    .intro x hx
     rcases BX.mp hx with h|h
     .exact DH _ (F.sub x h)
     .exact BM _ h
    .intro x hx
     rcases BX.mp hx with h|h
     .rcases c x h with h|h
      .exact .inl h
      .exact .inr (DH _ h)
     .exact .inr (BM _ h)
    .intro z hz dB
     rcases BX.mp hz with h|h
     .exact DH _ (ex z h dB)
     .exact BM _ h
   .refine{F,a,b,c,EX,λz hz dB=>?_}
    rcases BX.mp hz with h|h
    .exact ex z h dB
    .rw[A3.mp h] at dB ⊢
     exact Av.resolve_left dB)
 refine{fs,GQ,u,e,F,a,b,c,d,λy hy kY=>ex y ?_ kY};rw[ES,AJ,EA];exact cN.mpr hy
theorem zST(R:Rg AI ps){kvs:List (Key×D)}(ht:Gy ps kvs){u3 u4 u5:Sl}(Jo:u3=.own AD (.dk kvs)\/u3=.val (.dk kvs)){NU:List Int}(F0:Fd ps BV.toList BI AI NU NU)(hg:BI∈BV.toList\/BI∈NU) :
  ∃fs v3 v5,XJ (UW [7] (gB (g2 NO (A6 7) (J5 [])))) (QT (MZ (bV (A6 3) (RQ 7 eS []) (J5 []))) (.nm 5) tL) 100000 (PX AI ps BV BI u3 u4 u5 NU NU)=.ok (.nx (PX AI ps BV BI v3 u4 v5 fs []))/\fs.Nodup/\∀x,x∈fs↔Rc ps BV.toList BI x:=by
 have XN:=R.m2
 obtain⟨E',e,fs,u3',u5',rfl,h1,h2⟩:=sB (t:=UW [7] (gB (g2 NO (A6 7) (J5 [])))) (g:=QT (MZ (bV (A6 3) (RQ 7 eS []) (J5 []))) (.nm 5) tL)
  (λn E=>∃fs GQ u3 u5,E=PX AI ps BV BI u3 u4 u5 fs GQ/\(u3=.own AD (.dk kvs)\/u3=.val (.dk kvs))/\Fd ps BV.toList BI AI fs GQ/\(BI∈BV.toList\/BI∈fs)/\(∀x∈fs,x∈GQ\/∀y,(x,y)∈ps->y∉BV.toList->y∈fs)/\GQ.length<=fs.length/\n=2 * (AI.toNat-fs.length)+GQ.length)
  (λE=>∃fs u3 u5,E=PX AI ps BV BI u3 u4 u5 fs []/\fs.Nodup/\∀x,x∈fs↔Rc ps BV.toList BI x)
  (λn E hP=>by
   obtain⟨fs,GQ,u3,u5,hE,Jo,F,hg,hex,nY,hn⟩:=hP;subst hE
   have tw:UW [7] (gB (g2 NO (A6 7) (J5 []))) (PX AI ps BV BI u3 u4 u5 fs GQ)=.ok (!(GQ.map D.int).isEmpty,PX AI ps BV BI u3 u4 u5 fs GQ) :=
    Y3 (PQ (GA (x:=.lst (GQ.map D.int)) (y:=.lst []) rfl rfl (Of (Pls.ints 0 GQ))))
   rcases YX GQ with rfl|⟨OJ,r,Ys⟩
   .refine .inl {_,tw,fs,u3,u5,rfl,F.nd,λx=>{F.rc x,λh=>?_}}
    induction h with
    |refl h=>exact hg.resolve_left h
    |step _ he hc ih =>
     rcases hex _ ih with h|h
     .simp at h
     .exact h _ he hc
   .rw[List.concat_eq_append] at Ys
    subst Ys;have hrf:r∈fs:=F.sub r 's';rw[BH,EQ] at nY hn;have F':Fd ps BV.toList BI AI fs OJ:={F.nd,F.rc,F.rg,λx hx=>F.sub x (DH _ hx)};obtain⟨Zl,uL,u,e,F2,a,b,c,d,ex⟩:=zZ5 (kvs:=kvs) (u4:=u4) (u5:=u5) R hrf F' (AZ (A2 _ _) nY);have hfl:=F2.len;have hfl2:=F.len;have hfl3:=G3 F.nd a
    have n9:RQ 7 eS [] (PX AI ps BV BI (.val (.dk kvs)) u4 u5 fs (OJ++[r]))=.ok (.int r,PX AI ps BV BI (.val (.dk kvs)) u4 u5 fs OJ) :=
     pP (i:=7) (f:=eS) (gs:=[]) (t:=AD) (xs:=(OJ++[r]).map D.int) (ds:=[]) (x:=.int r) (VH:=OJ.map D.int) rfl rfl rfl (by simp[eS])
    have hgi:MZ (bV (A6 3) (RQ 7 eS []) (J5 [])) (PX AI ps BV BI u3 u4 u5 fs (OJ++[r]))=.ok ((sc ps r).map D.int,PX AI ps BV BI (.val (.dk kvs)) u4 u5 fs OJ):=by
     have h3:A6 3 (PX AI ps BV BI u3 u4 u5 fs (OJ++[r]))=.ok (.dk kvs,PX AI ps BV BI (.val (.dk kvs)) u4 u5 fs (OJ++[r])):=by
      rcases Jo with rfl|rfl<;>rfl
     have:=Nq (gx:=J5 []) (x:=.lst []) (o:=NK kvs (.inl r)) h3 n9 rfl rfl;rw[ht r] at this;exact kB this
    refine .inr {_,_,2 * (AI.toNat-Zl.length)+uL.length,?_,HQ hgi e,by lia,Zl,uL,_,u,rfl,.inr rfl,F2,hg.imp id (a _),λx hx=>?_,by lia,rfl}
    .rw[tw];simp
    .rcases c x hx with h|h
     .rcases hex x h with h|h
      .rcases BX.mp h with h|h
       .exact .inl (b x h)
       .rw[A3.mp h];exact .inr ex
      .exact .inr λy hy kY=>a y (h y hy kY)
     .exact .inl h) 100000 (2 * (AI.toNat-NU.length)+NU.length) (PX AI ps BV BI u3 u4 u5 NU NU) (by have:=F0.len;lia)
  {NU,NU,u3,u5,rfl,Jo,F0,hg,λx h=>.inl h,AM _,rfl}
 exact{fs,u3',u5',e,h1,h2}
theorem Re(R:Rg AI ps)(h0:0<=BI)(h1:BI<AI):∃fs:List Int,cG [.val (GG AI ps),.val (.int BI),.val (LZ BV)]=.ok (AD,.lst (fs.map D.int),.non)/\fs.Nodup/\∀x,x∈fs↔Rc ps BV.toList BI x:=by
 obtain⟨kvs,u4,u5,e1,ht⟩:=zV0 (AI:=AI) (ps:=ps) (BV:=BV) (BI:=BI) R.len
 obtain⟨NU,hfs,F0,hg⟩:∃NU:List Int,(tU (gB (g2 NO (A6 1) (A6 2))) (Ck (A6 1) (gC (.bl AL))) (gC (.dk []))) (XE AI ps BV BI (.own AD (.dk kvs)) u4 u5 .no .no)=.ok (fM NU,XE AI ps BV BI (.own AD (.dk kvs)) u4 u5 .no .no)/\Fd ps BV.toList BI AI NU NU/\(BI∈BV.toList\/BI∈NU):=by
  have t:=PQ (GA (E:=XE AI ps BV BI (.own AD (.dk kvs)) u4 u5 .no .no) (ga:=A6 1) (gb:=A6 2) (x:=.int BI) (y:=LZ BV) rfl rfl (Nl _ _))
  by_cases hc:BI∈BV.toList
  .rw[decide_eq_false (λz=>z hc)] at t
   exact{[],HQ t rfl,{FV,λ_ h=>by simp at h,λ_ h=>by simp at h,λ_ h=>h},.inl hc}
  .rw[decide_eq_true hc] at t
   exact{[BI],HQ t rfl,{ER.mpr {by simp,FV},λx h=>by rw[A3.mp h];exact .refl hc,λx h=>by rw[A3.mp h];exact{h0,h1},λ_ h=>h},.inr 's'}
 obtain⟨fs,v3,v5,e2,nd,hm⟩:=zST R ht (u5:=u5) (.inl rfl) F0 hg;have UM:∀l:List Int,(l.map λx=>((.inl x,.bl AL):Key×D)).map (λkv=>jP kv.1)=l.map D.int:=λl=>by rw[ED];rfl
 refine{fs,QU (HV (aU (d:=.dk []) rfl) (HV e1 (HV (aU hfs) (HV (E1:=PX AI ps BV BI (.own AD (.dk kvs)) u4 u5 NU NU) (aU (E':=XE AI ps BV BI (.own AD (.dk kvs)) u4 u5 (.own AD (fM NU)) .no) (zZG (d:=.lst (NU.map D.int)) (SZ (LW (d:=fM NU) rfl) ?_) (Es _))) (HV e2 (RS (ZX (d:=.lst (fs.map D.int)) (SZ (LW (d:=fM fs) rfl) ?_) ?_))))))) rfl,nd,hm}
 .exact congrArg (λl=>Out.ok (D.lst l)) (UM _)
 .exact congrArg (λl=>Out.ok (D.lst l)) (UM _)
 .simp only[fF,PX,XE,D.flat,D.nod,yT];rfl
end
theorem tk{g:G}{E:Ev}{d:D}{n:Int}(h0:E[0]?=AA (.own AL d))(B:Bag k d)(hk:k<900000)(hg:g E=.ok (.int n,E))(hn:1<=n)(Z6:n<2 ^ 200) :
  ∃r d',LC LL 0 [g] E=.ok (.int r,E.set 0 (.own AL d'))/\0<=r/\r<n/\Bag (k+1) d':=by
 obtain⟨r,d',e,a,b,B'⟩:=zZU B hk hn Z6;exact{r,d',Qd h0 (LW hg) h0 e,a,b,B'}
theorem Rb{α β:Type}(f:α->β):∀(l:List α) (i:Nat),(l.map f).eraseIdx i=(l.eraseIdx i).map f
 |[],_=>rfl
 |_::_,0=>rfl
 |a::l,i+1=>by simp[Rb f l i]
theorem Sr{α:Type}:∀{l:List α} {i:Nat} (h:i<l.length),(l[i]::l.eraseIdx i).Perm l
 |a::l,0,_=>.refl _
 |a::l,i+1,h=>by
  have:=Sr (l:=l) (i:=i) (by simpa using h);simp only[List.getElem_cons_succ,XB];exact(HW _ _ _).trans (this.cons a)
theorem zZ6{d:D}{xs:List Int}(B:Bag k d)(hx:xs.length<=1000)(hk:k<800000) :
  ∃(ys:List Int) (d':D),tB [.own AL d,.val (.lst (xs.map D.int))]=.ok (AD,.lst (ys.map D.int),d')/\ys.Perm xs/\Bag (k+xs.length) d':=by
 obtain⟨E',e,ys,d',rfl,hp,B'⟩:=sB (t:=UW [2] (gB (g2 NO (A6 2) (J5 [])))) (g:=fB (RQ 3 WJ [(RQ 2 j6 [(LC LL 0 [(O0 [2] (gN RO [(A6 2)]))])])]))
  (λn E=>∃(rest JG:List Int) (d:D),E=[.own AL d,.val (.lst (xs.map D.int)),.own AD (.lst (rest.map D.int)),.own AD (.lst (JG.map D.int))]/\(JG++rest).Perm xs/\Bag (k+JG.length) d/\n=rest.length)
  (λE=>∃(JG:List Int) (d:D),E=[.own AL d,.val (.lst (xs.map D.int)),.own AD (.lst []),.own AD (.lst (JG.map D.int))]/\JG.Perm xs/\Bag (k+xs.length) d)
  (λn E hP=>by
   obtain⟨rest,JG,d,hE,hp,B,hn⟩:=hP;subst hE;have EX:=hp.length_eq;rw[BH] at EX
   have tw:UW [2] (gB (g2 NO (A6 2) (J5 []))) [.own AL d,.val (.lst (xs.map D.int)),.own AD (.lst (rest.map D.int)),.own AD (.lst (JG.map D.int))]=.ok (!(rest.map D.int).isEmpty,[.own AL d,.val (.lst (xs.map D.int)),.own AD (.lst (rest.map D.int)),.own AD (.lst (JG.map D.int))]) :=
    Y3 (PQ (GA (x:=.lst (rest.map D.int)) (y:=.lst []) rfl rfl (Of (Pls.ints 0 rest))))
   by_cases hr:rest=[]
   .subst hr
    rw[DJ] at hp;exact .inl {_,tw,JG,d,rfl,hp,by rw[<-hp.length_eq];exact B}
   .have YA:0<rest.length:=List.length_pos_iff.mpr hr
    have hg:O0 [2] (gN RO [(A6 2)]) [.own AL d,.val (.lst (xs.map D.int)),.own AD (.lst (rest.map D.int)),.own AD (.lst (JG.map D.int))]=.ok (.int (rest.length:Int),[.own AL d,.val (.lst (xs.map D.int)),.own AD (.lst (rest.map D.int)),.own AD (.lst (JG.map D.int))]) :=
     ZX (SZ (LW (d:=.lst (rest.map D.int)) rfl) (Vr (AJ _))) rfl
    obtain⟨r,d',et,r0,r1,B'⟩:=tk (g:=O0 [2] (gN RO [(A6 2)])) (E:=[.own AL d,.val (.lst (xs.map D.int)),.own AD (.lst (rest.map D.int)),.own AD (.lst (JG.map D.int))]) rfl B 'l' hg 'l' 'l';have nY:r.toNat<rest.length:=by lia
    have n9:RQ 2 j6 [(LC LL 0 [(O0 [2] (gN RO [(A6 2)]))])] [.own AL d,.val (.lst (xs.map D.int)),.own AD (.lst (rest.map D.int)),.own AD (.lst (JG.map D.int))]=.ok (.int rest[r.toNat],[.own AL d',.val (.lst (xs.map D.int)),.own AD (.lst ((rest.eraseIdx r.toNat).map D.int)),.own AD (.lst (JG.map D.int))]) :=
     pP (i:=2) (f:=j6) (t:=AD) (xs:=rest.map D.int) (ds:=[.int r]) (x:=.int rest[r.toNat]) (VH:=(rest.eraseIdx r.toNat).map D.int) rfl (LW et) rfl (by
      simp only[j6,AJ,L2.guard];rw[if_pos {r0,r1,by lia},AU,BO nY]
      simp[Rb])
    refine .inr {_,_,(rest.eraseIdx r.toNat).length,?_,xQ (pP (i:=3) (f:=WJ) (t:=AD) (xs:=JG.map D.int) (ds:=[.int rest[r.toNat]]) (x:=.non) (VH:=(JG++[rest[r.toNat]]).map D.int) rfl (LW n9) rfl (by
      simp only[WJ,AJ]
      rw[ZQ 'l'];simp)),?_,rest.eraseIdx r.toNat,JG++[rest[r.toNat]],d',rfl,?_,?_,rfl}
    .rw[tw]
     cases rest with
     |nil=>exact absurd rfl hr
     |cons a l=>rfl
    .rw[List.length_eraseIdx_of_lt nY];lia
    .rw[CM]
     exact((Sr nY).append_left JG).trans hp
    .rw[BH,EQ,<-Nat.add_assoc];exact B') 100000 xs.length [.own AL d,.val (.lst (xs.map D.int)),.own AD (.lst (xs.map D.int)),.own AD (.lst [])] (gP (AZ hx (DR _ _)))
  {xs,[],d,rfl,G4 _,B,rfl}
 exact{ys,d',QU (HV (aU (d:=.lst (xs.map D.int)) rfl) (HV (aU (d:=.lst []) rfl) (HV e (RS (d:=.lst (ys.map D.int)) rfl)))) rfl,hp,B'}
noncomputable def US(d:D)(DZ:Int)(u2 u3 u4 u5 u6 u7 u8 u9 u10 u11:Sl):Ev:=[.own AL d,.val (.int DZ),u2,u3,u4,u5,u6,u7,u8,u9,u10,u11]
theorem lX{xs:List Int}{ds:List D}{x:D}{i:Int}(h0:0<=i)(h:ds[i.toNat]?=AA x):FI (.lst ds) (.int i)=.ok x:=by
 exact tD (sA h0 h)
theorem yIE{d:D}(B:Bag k d)(hk:k<800000)(h1:1<=DZ)(h2:DZ<=24) :
  ∃AI d',J0 (.nm 2) (g2 FI (J5 [(A6 1),(g2 NB (gC (.int 1)) (LC LL 0 [(A6 1)])),(g2 NB (gC (.int 1)) (LC LL 0 [(gN g8 [(gC (.int 7)),(A6 1)])]))]) (LC LL 0 [(gC (.int 3))]))
   (US d DZ .no .no .no .no .no .no .no .no .no .no)=.ok (.nx (US d' DZ (.val (.int AI)) .no .no .no .no .no .no .no .no .no))/\1<=AI/\AI<=DZ/\Bag (k+3) d':=by
 obtain⟨a,d1,e1,a0,a1,B1⟩:=tk (g:=A6 1) (E:=US d DZ .no .no .no .no .no .no .no .no .no .no) rfl B (AN hk (DR _ _)) rfl h1 'l';obtain⟨b,d2,e2,b0,b1,B2⟩:=tk (g:=gN g8 [(gC (.int 7)),(A6 1)]) (E:=US d1 DZ .no .no .no .no .no .no .no .no .no .no) (n:=if DZ<7 then DZ else 7) rfl B1 'l' rfl (by split<;>lia) (by split<;>lia);obtain⟨c,d3,e3,c0,c1,B3⟩:=tk (g:=gC (.int 3)) (E:=US d2 DZ .no .no .no .no .no .no .no .no .no .no) rfl B2 'l' rfl 'l' 'l';have hb:b<DZ:=by split at b1<;>lia
 have J2:∃AI:Int,([D.int DZ,.int (1+a),.int (1+b)])[c.toNat]?=AA (.int AI)/\1<=AI/\AI<=DZ:=by
  have:c=0\/c=1\/c=2:=by lia
  rcases this with rfl|rfl|rfl
  .exact{DZ,rfl,h1,aN _}
  .exact{1+a,rfl,by lia,by lia}
  .exact{1+b,rfl,by lia,by lia}
 obtain⟨AI,hm,m0,m1⟩:=J2;refine{AI,d3,OU (GA (j5 (PZ (d:=.int DZ) rfl (PZ (GA (x:=.int 1) rfl e1 (d:=.int (1+a)) rfl) (LW (GA (x:=.int 1) rfl e2 (d:=.int (1+b)) rfl)))) (show 3<10000 by decide)) e3 (lX (xs:=[]) c0 hm)) rfl,m0,m1,B3}
theorem yIF{d:D}{kind:Int}(B:Bag k d)(hk:k<800000)(h1:1<=AI)(h2:AI<=24) :
  ∃wanted d',J0 (.nm 4) (g2 FI (J5 [(gC (.int 0)),(gC (.int 1)),(LC LL 0 [(g2 NB (A6 2) (gC (.int 1)))]),(g2 NB (A6 2) (LC LL 0 [(g2 XW (gC (.int 5)) (A6 2))])),(gC (.int 120))]) (LC LL 0 [(gC (.int 5))]))
   (US d DZ (.val (.int AI)) (.val (.int kind)) .no .no .no .no .no .no .no .no)=.ok (.nx (US d' DZ (.val (.int AI)) (.val (.int kind)) (.val (.int wanted)) .no .no .no .no .no .no .no))/\0<=wanted/\wanted<=200/\Bag (k+3) d':=by
 obtain⟨a,d1,e1,a0,a1,B1⟩:=tk (g:=g2 NB (A6 2) (gC (.int 1))) (E:=US d DZ (.val (.int AI)) (.val (.int kind)) .no .no .no .no .no .no .no .no) rfl B (AN hk (DR _ _)) rfl 'l' 'l'
 have Ke:XW (.int 5) (.int AI)=.ok (.int (5 * AI)):=by
  simp only[XW,L2.guard];rw[if_pos (.inl {by decide,by decide})]
 obtain⟨b,d2,e2,b0,b1,B2⟩:=tk (g:=g2 XW (gC (.int 5)) (A6 2)) (E:=US d1 DZ (.val (.int AI)) (.val (.int kind)) .no .no .no .no .no .no .no .no) rfl B1 'l' (GA (x:=.int 5) (y:=.int AI) rfl rfl Ke) 'l' 'l';obtain⟨c,d3,e3,c0,c1,B3⟩:=tk (g:=gC (.int 5)) (E:=US d2 DZ (.val (.int AI)) (.val (.int kind)) .no .no .no .no .no .no .no .no) rfl B2 'l' rfl 'l' 'l'
 have J2:∃w:Int,([D.int 0,.int 1,.int a,.int (AI+b),.int 120])[c.toNat]?=AA (.int w)/\0<=w/\w<=200:=by
  have:c=0\/c=1\/c=2\/c=3\/c=4:=by lia
  rcases this with rfl|rfl|rfl|rfl|rfl
  .exact{0,rfl,by decide,by decide}
  .exact{1,rfl,by decide,by decide}
  .exact{a,rfl,a0,by lia}
  .exact{AI+b,rfl,by lia,by lia}
  .exact{120,rfl,by decide,by decide}
 obtain⟨w,hw,w0,w1⟩:=J2;exact{w,d3,OU (GA (j5 (PZ (d:=.int 0) rfl (PZ (d:=.int 1) rfl (PZ e1 (PZ (GA (x:=.int AI) rfl e2 (d:=.int (AI+b)) rfl) (LW (d:=.int 120) rfl))))) (show 5<10000 by decide)) e3 (lX (xs:=[]) c0 hw)) rfl,w0,w1,B3}
structure Ln(AI:Int)(kvs:List (List Int×D)):Prop where
 nd:(kvs.map (·.1)).Nodup
 rg:∀k∈kvs.map (·.1),∃a b:Int,k=[a,b]/\0<=a/\a<AI/\0<=b/\b<AI/\a≠b
theorem Ra(kvs:List (List Int×D))(k:List Int)(v:D):(PY kvs k v).map (·.1)=if k∈kvs.map (·.1) then kvs.map (·.1) else kvs.map (·.1)++[k]:=by
 unfold PY
 by_cases h:k∈kvs.map (·.1)
 .rw[if_pos h,if_pos]
  .rw[ED]
   refine IU λkv _=>?_;simp only[SV];split<;>rfl
  .obtain⟨kv,Kj,e⟩:=C1.mp h
   exact IQ.mpr {kv,Kj,decide_eq_true e}
 .rw[if_neg h,if_neg]
  .simp
  .intro z
   obtain⟨kv,Kj,e⟩:=IQ.mp z;exact h (C1.mpr {kv,Kj,of_decide_eq_true e})
theorem Ln.put{kvs:List (List Int×D)}(L:Ln AI kvs){a b:Int}(h:0<=a/\a<AI/\0<=b/\b<AI/\a≠b)(v:D):Ln AI (PY kvs [a,b] v):=by
 constructor
 .rw[Ra]
  split
  .exact L.nd
  .rename_i hn
   rw[F8];exact{L.nd,ER.mpr {by simp,FV},λp hp q hq=>by rw[A3.mp hq];exact λz=>hn (z▸hp)}
 .rw[Ra]
  split
  .exact L.rg
  .intro k hk
   rcases BX.mp hk with h'|h'
   .exact L.rg k h'
   .exact{a,b,A3.mp h',h}
theorem Nk{kvs:List (List Int×D)}{a b:Int}(h:kvs.length<10000):lY (.dt kvs) (.tup [.int a,.int b]) (.bl AL)=.ok (.dt (PY kvs [a,b] (.bl AL))):=by
 exact ZQ h
abbrev Wt:GS:=OT (gB (g2 aW (A6 3) (gC (.int 3))))
 (Q8 5 (WM [(g2 FI (J5 [(LC LL 0 [(A6 6)]),(g2 bX (g2 bX (A6 6) (gC (.int 1))) (LC LL 0 [(gN g8 [(A6 6),(gC (.int 2))])])),(gC (.int 0))]) (A6 3)),(A6 6)]) (gC (.bl AL)))
 RV
section
variable{kind wanted:Int}
abbrev OV(d:D)(DZ AI kind wanted:Int)(kvs:List (List Int×D))(u6 u7 u8 u9:Sl):Ev:=US d DZ (.val (.int AI)) (.val (.int kind)) (.val (.int wanted)) (.own AD (.dt kvs)) u6 u7 u8 u9 .no .no
theorem yGC{d:D}(B:Bag k d)(hk:k<800000)(h1:1<=AI)(h2:AI<=24)(i5:0<=kind) :
  ∃(d':D) (kvs:List (List Int×D)) (u6:Sl),QT (rO (gC (.int 1)) (A6 2)) (.nm 6) Wt (OV d DZ AI kind wanted [] .no .no .no .no)=.ok (.nx (OV d' DZ AI kind wanted kvs u6 .no .no .no))/\Bag (k+48) d'/\Ln AI kvs/\kvs.length<=24:=by
 obtain⟨E',e,d',kvs,u6,rfl,B',L,hl⟩:=iE (gi:=rO (gC (.int 1)) (A6 2)) (t:=.nm 6) (g:=Wt) (E:=OV d DZ AI kind wanted [] .no .no .no .no)
  (λi E=>∃(d':D) (kvs:List (List Int×D)) (u6:Sl),E=OV d' DZ AI kind wanted kvs u6 .no .no .no/\Bag (k+2 * i) d'/\Ln AI kvs/\kvs.length<=i) (zZH (i:=1) (j:=AI) rfl rfl {{by decide,by decide},by lia,by lia}) {d,[],.no,rfl,B,{FV,λ_ h=>by simp at h},AM _}
  (λi x E hx hP=>by
   obtain⟨d,kvs,u6,hE,B,L,hl⟩:=hP;subst hE;have hi:=(AR.mp hx).1;simp only[SX,AJ,JU] at hi;simp only[SX] at hx;rw[AU,K2 hi] at hx;obtain rfl:=BL hx;obtain⟨p,hp⟩:∃p:Int,p=1+(i:Int):={_,rfl};show ∃E1,WS (Tg.nm 6) (.int (1+(i:Int))) (OV d DZ AI kind wanted kvs u6 Sl.no Sl.no Sl.no)=Out.ok E1/\_;rw[<-hp];refine{_,rfl,?_}
   by_cases Za:kind<3
   .obtain⟨a,d1,e1,a0,a1,B1⟩:=tk (g:=A6 6) (E:=OV d DZ AI kind wanted kvs (.val (.int p)) .no .no .no) (n:=p) rfl B 'l' rfl 'l' 'l'
    obtain⟨b,d2,e2,b0,b1,B2⟩:=tk (g:=gN g8 [(A6 6),(gC (.int 2))]) (E:=OV d1 DZ AI kind wanted kvs (.val (.int p)) .no .no .no) (n:=if 2<p then 2 else p) rfl B1 'l' rfl (by split<;>lia) (by split<;>lia)
    have J2:∃v:Int,([D.int a,.int (p-1-b),.int 0])[kind.toNat]?=AA (.int v)/\0<=v/\v<p:=by
     have:kind=0\/kind=1\/kind=2:=by lia
     rcases this with h|h|h
     .exact{a,by rw[h];rfl,a0,a1}
     .exact{p-1-b,by rw[h];rfl,by split at b1<;>lia,by lia}
     .exact{0,by rw[h];rfl,aN _,HS a0 a1}
    obtain⟨v,hv,v0,v1⟩:=J2;refine{_,aP (PQ (GA (x:=.int kind) (y:=.int 3) rfl rfl (d:=.bl AL) (by simp only[aW];rw[decide_eq_true Za]))) (cH (i:=5) (E1:=OV d DZ AI kind wanted kvs (.val (.int p)) .no .no .no) (E2:=OV d2 DZ AI kind wanted kvs (.val (.int p)) .no .no .no) (t:=AD) (d:=.dt kvs) (v:=.bl AL) rfl rfl (rZ (PZ (GA (j5 (PZ e1 (PZ (GA (x:=.int (p-1)) rfl e2 (d:=.int (p-1-b)) rfl) (LW (d:=.int 0) rfl))) (show 3<10000 by decide)) (y:=.int kind) rfl (lX (xs:=[]) i5 hv)) (LW (d:=.int p) rfl)) (show 2<10000 by decide)) rfl (Nk 'l')),d2,_,_,rfl,B2.mono 'l',L.put {v0,by lia,LA (HS a0 a1),by lia,YZ v1} _,AZ (Dw _ _ _) (EI hl (AM _))}
   .exact{_,UT (PQ (GA (x:=.int kind) (y:=.int 3) rfl rfl (d:=.bl AD) (by simp only[aW];rw[decide_eq_false Za]))) rfl,d,kvs,_,rfl,B.mono 'l',L,AZ hl (A2 _ _)})
 simp only[SX,AJ,JU] at B' hl;exact{d',kvs,u6,e,B'.mono 'l',L,by lia}
abbrev Ws:GS:=(G5 (J0 (.nm 8) (LC LL 0 [(A6 2)]))
 (G5 (J0 (.nm 9) (g2 FI (J5 [(LC LL 0 [(A6 2)]),(g2 RP (g2 NB (g2 NB (A6 8) (gC (.int 1))) (LC LL 0 [(gC (.int 2))])) (A6 2))]) (LC LL 0 [(gC (.int 2))])))
 (OT (UW [5] (iA (gB (g2 NO (A6 8) (A6 9))) (gB (g2 aW (gN RO [(A6 5)]) (gC (.int 120))))))
 (Q8 5 (WM [(A6 8),(A6 9)]) (gC (.bl AL)))
 RV)))
theorem yGD{d:D}{u6:Sl}{kvs:List (List Int×D)}(B:Bag k d)(hk:k<800000)(h1:1<=AI)(h2:AI<=24)(hw0:0<=wanted)(hw1:wanted<=200)(L:Ln AI kvs)(hl:kvs.length<=120) :
  ∃(d':D) (cU:List (List Int×D)) (u7 u8 u9:Sl),QT (ZR (A6 4)) (.nm 7) Ws (OV d DZ AI kind wanted kvs u6 .no .no .no)=.ok (.nx (OV d' DZ AI kind wanted cU u6 u7 u8 u9))/\Bag (k+800) d'/\Ln AI cU/\cU.length<=120:=by
 obtain⟨E',e,d',cU,u7,u8,u9,rfl,B',L',oD⟩:=iE (gi:=ZR (A6 4)) (t:=.nm 7) (g:=Ws) (E:=OV d DZ AI kind wanted kvs u6 .no .no .no)
  (λi E=>∃(d':D) (kvs:List (List Int×D)) (u7 u8 u9:Sl),E=OV d' DZ AI kind wanted kvs u6 u7 u8 u9/\Bag (k+4 * i) d'/\Ln AI kvs/\kvs.length<=120) (xO (j:=wanted) rfl {by lia,by lia}) {d,kvs,.no,.no,.no,rfl,B,L,hl}
  (λi x E hx hP=>by
   obtain⟨d,kvs,u7,u8,u9,hE,B,L,hl⟩:=hP;subst hE;have hi:=(AR.mp hx).1;simp only[SX,AJ,JU] at hi;obtain⟨a,d1,e1,a0,a1,B1⟩:=tk (g:=A6 2) (E:=OV d DZ AI kind wanted kvs u6 (.val x) u8 u9) (n:=AI) rfl B 'l' rfl (h1) 'l';obtain⟨b,d2,e2,b0,b1,B2⟩:=tk (g:=A6 2) (E:=OV d1 DZ AI kind wanted kvs u6 (.val x) (.val (.int a)) u9) (n:=AI) rfl B1 'l' rfl (h1) 'l';obtain⟨c,d3,e3,c0,c1,B3⟩:=tk (g:=gC (.int 2)) (E:=OV d2 DZ AI kind wanted kvs u6 (.val x) (.val (.int a)) u9) (n:=2) rfl B2 'l' rfl 'l' 'l';obtain⟨f,d4,e4,f0,f1,B4⟩:=tk (g:=gC (.int 2)) (E:=OV d3 DZ AI kind wanted kvs u6 (.val x) (.val (.int a)) u9) (n:=2) rfl B3 'l' rfl 'l' 'l';have m0:0<=(a+1+c) % AI:=K3 _ (Int.ne_of_gt (HS a0 a1));have m1:(a+1+c) % AI<AI:=JK _ (HS a0 a1)
   have Kf:RP (.int (a+1+c)) (.int AI)=.ok (.int ((a+1+c) % AI)):=by
    simp only[RP,L2.guard];rw[if_pos (HS a0 a1)]
   have J2:∃v:Int,([D.int b,.int ((a+1+c) % AI)])[f.toNat]?=AA (.int v)/\0<=v/\v<AI:=by
    have:f=0\/f=1:=by lia
    rcases this with h|h
    .exact{b,by rw[h];rfl,b0,b1}
    .exact{(a+1+c) % AI,by rw[h];rfl,m0,m1}
   obtain⟨v,hv,v0,v1⟩:=J2;refine{_,rfl,?_};have s1:J0 (.nm 8) (LC LL 0 [(A6 2)]) (OV d DZ AI kind wanted kvs u6 (.val x) u8 u9)=.ok (.nx (OV d1 DZ AI kind wanted kvs u6 (.val x) (.val (.int a)) u9)):=OU e1 rfl
   have s2:J0 (.nm 9) (g2 FI (J5 [(LC LL 0 [(A6 2)]),(g2 RP (g2 NB (g2 NB (A6 8) (gC (.int 1))) (LC LL 0 [(gC (.int 2))])) (A6 2))]) (LC LL 0 [(gC (.int 2))])) (OV d1 DZ AI kind wanted kvs u6 (.val x) (.val (.int a)) u9)=.ok (.nx (OV d4 DZ AI kind wanted kvs u6 (.val x) (.val (.int a)) (.val (.int v)))) :=
    OU (GA (j5 (PZ e2 (LW (GA (GA (x:=.int (a+1)) rfl e3 (d:=.int (a+1+c)) rfl) (y:=.int AI) rfl Kf))) (show 2<10000 by decide)) e4 (lX (xs:=[]) f0 hv)) rfl
   have t1:gB (g2 NO (A6 8) (A6 9)) (OE [5] (OV d4 DZ AI kind wanted kvs u6 (.val x) (.val (.int a)) (.val (.int v))))=.ok (decide (a≠v),OE [5] (OV d4 DZ AI kind wanted kvs u6 (.val x) (.val (.int a)) (.val (.int v)))) :=
    PQ (GA (x:=.int a) (y:=.int v) rfl rfl (sQ _ _))
   have t2:gB (g2 aW (gN RO [(A6 5)]) (gC (.int 120))) (OE [5] (OV d4 DZ AI kind wanted kvs u6 (.val x) (.val (.int a)) (.val (.int v))))=.ok (decide ((kvs.length:Int)<120),OE [5] (OV d4 DZ AI kind wanted kvs u6 (.val x) (.val (.int a)) (.val (.int v)))) :=
    PQ (GA (x:=.int kvs.length) (SZ (LW (d:=.dt kvs) rfl) rfl) (y:=.int 120) rfl rfl)
   by_cases Li:a=v
   .rw[decide_eq_false (λz=>z Li)] at t1
    exact{_,HV s1 (HV s2 (UT (Y3 (Ch t1)) rfl)),d4,kvs,_,_,_,rfl,B4.mono 'l',L,hl}
   rw[decide_eq_true Li] at t1
   by_cases k9:(kvs.length:Int)<120
   .rw[decide_eq_true k9] at t2
    exact{_,HV s1 (HV s2 (aP (Y3 (pD t1 t2)) (cH (i:=5) (E1:=OV d4 DZ AI kind wanted kvs u6 (.val x) (.val (.int a)) (.val (.int v))) (E2:=OV d4 DZ AI kind wanted kvs u6 (.val x) (.val (.int a)) (.val (.int v))) (t:=AD) (d:=.dt kvs) (v:=.bl AL) (k:=.tup [.int a,.int v]) rfl rfl rfl rfl (Nk (gP (AZ hl (DR _ _))))))),d4,_,_,_,_,rfl,B4.mono 'l',L.put {a0,a1,v0,v1,Li} _,AZ (Dw _ _ _) 'l'}
   .rw[decide_eq_false k9] at t2
    exact{_,HV s1 (HV s2 (UT (Y3 (pD t1 t2)) rfl)),d4,kvs,_,_,_,rfl,B4.mono 'l',L,hl})
 simp only[SX,AJ,JU] at B';exact{d',cU,u7,u8,u9,e,B'.mono 'l',L',oD}
end
def ri(n:Nat):List Int:=(CI n).map λ(j:Nat)=>(0:Int)+(j:Int)
theorem Cf(n:Nat):SX 0 n=(ri n).map D.int:=by simp[SX,ri]
theorem OH{x:Int}:x∈ri n↔0<=x/\x<n:=by
 unfold ri;constructor
 .intro h
  obtain⟨j,hj,rfl⟩:=C1.mp h;have:=FW.mp hj;lia
 .rintro⟨a,b⟩
  exact C1.mpr {x.toNat,FW.mpr 'l',by lia}
theorem Vl(n:Nat):(ri n).Nodup:=UQ _ (λa b h z=>h 'l') List.nodup_range
theorem fD(n:Nat):(ri n).length=n:=by simp[ri]
def WQ(ys:List Int)(a:Int):Int:=ys.getD a.toNat 0
def pk(ys:List Int)(k:List Int):Int×Int:=match k with
 |[a,b]=>(WQ ys a,WQ ys b)
 |_=>(0,0)
theorem wZ{ys:List Int}{a:Int}(h0:0<=a)(h:a.toNat<ys.length):FI (.lst (ys.map D.int)) (.int a)=.ok (.int (WQ ys a)):=by
 refine lX (xs:=[]) h0 ?_;rw[AU,BO h];simp[WQ,h]
theorem Ce{ys:List Int}{a:Int}(h:a.toNat<ys.length):WQ ys a∈ys:=by
 have:WQ ys a=ys[a.toNat]:=by simp[WQ,h]
 rw[this];exact HH h
theorem Cd{ys:List Int}(hn:ys.Nodup){a b:Int}(a0:0<=a)(b0:0<=b)(ha:a.toNat<ys.length)(hb:b.toNat<ys.length)(e:WQ ys a=WQ ys b):a=b:=by
 have e1:WQ ys a=ys[a.toNat]:=by simp[WQ,ha]
 have e2:WQ ys b=ys[b.toNat]:=by simp[WQ,hb]
 rw[e1,e2] at e;rcases gO a.toNat b.toNat with h|h|h
 .exact absurd e (EK.mp hn _ _ ha hb h)
 .lia
 .exact absurd e.symm (EK.mp hn _ _ hb ha h)
theorem Sq:∀ps:List (Int×Int),pAA (ps.map S7)=AL
 |[]=>by simp[pAA]
 |p::ps=>by simp[pAA,D.nod,S7,Sq ps]
section
variable{kind wanted:Int}
def Nv(ys:List Int)(d:D):List D:=match d with
 |.tup [.int a,.int b]=>[S7 (WQ ys a,WQ ys b)]
 |_=>[]
theorem Pu{ys:List Int}:∀{ks:List (List Int)},(∀k∈ks,∃a b:Int,k=[a,b]/\0<=a/\a<AI/\0<=b/\b<AI/\a≠b)->(ks.map tE).flatMap (Nv ys)=(ks.map (pk ys)).map S7
 |[],_=>rfl
 |k::ks,h=>by
  obtain⟨a,b,rfl,_⟩:=h k A8;simp only[AV,FF,Pu λk hk=>h k (A4 _ hk)]
  rfl
theorem fC{x:Int}(h:n=AI.toNat)(h0:0<=x)(h1:x<AI):x.toNat<n:=by lia
theorem zZ8{d:D}(B:Bag k d)(hk:k<700000)(h1:1<=DZ)(h2:DZ<=24) :
  ∃(AI:Int) (ps:List (Int×Int)) (BI:Int) (d':D),pX [.own AL d,.val (.int DZ)]=.ok (AD,.tup [GG AI ps,.int BI],d')/\Net AI ps/\AI<=DZ/\0<=BI/\BI<AI/\Bag (k+1000) d':=by
 obtain⟨AI,d1,e1,m1,m2,B1⟩:=yIE B (AN hk (DR _ _)) h1 h2;obtain⟨kind,d2,e2,k0,k1,B2⟩:=tk (g:=gC (.int 4)) (E:=US d1 DZ (.val (.int AI)) .no .no .no .no .no .no .no .no .no) rfl B1 'l' rfl 'l' 'l';obtain⟨wanted,d3,e3,w0,w1,B3⟩:=yIF (DZ:=DZ) (AI:=AI) (kind:=kind) B2 'l' m1 (K9 m2 h2);obtain⟨d4,kvs,u6,e4,B4,L4,l4⟩:=yGC (DZ:=DZ) (AI:=AI) (kind:=kind) (wanted:=wanted) B3 'l' m1 (K9 m2 h2) k0;obtain⟨d5,kvs,u7,u8,u9,e5,B5,L5,l5⟩:=yGD (DZ:=DZ) (AI:=AI) (kind:=kind) (wanted:=wanted) (u6:=u6) B4 'l' m1 (K9 m2 h2) w0 w1 L4 (AZ l4 (DR _ _));obtain⟨ys,d6,e6,hp,B6⟩:=zZ6 (xs:=ri AI.toNat) B5 (by rw[fD];lia) 'l';have dC:ys.length=AI.toNat:=by rw[hp.length_eq,fD]
 have Jg:ys.Nodup:=hp.nodup_iff.mpr (Vl _);have Jh:∀x,x∈ys->0<=x/\x<AI:=λx hx=>by have:=OH.mp (hp.mem_iff.mp hx);lia
 rw[fD] at B6
 have s6:J0 (.nm 10) (LC tB 0 [(Gq (A6 2))]) (OV d5 DZ AI kind wanted kvs u6 u7 u8 u9)=.ok (.nx (US d6 DZ (.val (.int AI)) (.val (.int kind)) (.val (.int wanted)) (.own AD (.dt kvs)) u6 u7 u8 u9 (.val (.lst (ys.map D.int))) .no)):=by
  refine OU (Qd (ds:=[.lst ((ri AI.toNat).map D.int)]) (E1:=OV d5 DZ AI kind wanted kvs u6 u7 u8 u9) (t:=AL) (d:=d5) rfl (LW (HQ (a:=(.int AI,OV d5 DZ AI kind wanted kvs u6 u7 u8 u9)) rfl ?_)) rfl e6) rfl;simp only[L2.guard];rw[if_pos {by lia,by lia},Cf]
 obtain⟨a,d7,e7,a0,a1,B7⟩:=tk (g:=A6 2) (E:=US d6 DZ (.val (.int AI)) (.val (.int kind)) (.val (.int wanted)) (.own AD (.dt kvs)) u6 u7 u8 u9 (.val (.lst (ys.map D.int))) .no) (n:=AI) rfl B6 'l' rfl (m1) 'l';obtain⟨c,d8,e8,c0,c1,B8⟩:=tk (g:=gC (.int 3)) (E:=US d7 DZ (.val (.int AI)) (.val (.int kind)) (.val (.int wanted)) (.own AD (.dt kvs)) u6 u7 u8 u9 (.val (.lst (ys.map D.int))) .no) (n:=3) rfl B7 'l' rfl 'l' 'l';have hz:(0:Int).toNat<ys.length:=by rw[dC];lia
 have X8:=Jh _ (Ce (ys:=ys) (a:=0) hz)
 have J2:∃g:Int,([D.int (WQ ys 0),.int (WQ ys 0),.int a])[c.toNat]?=AA (.int g)/\0<=g/\g<AI:=by
  have:c=0\/c=1\/c=2:=by lia
  rcases this with h|h|h
  .exact{_,by rw[h];rfl,X8.1,X8.2}
  .exact{_,by rw[h];rfl,X8.1,X8.2}
  .exact{a,by rw[h];rfl,a0,a1}
 obtain⟨BI,hg,g0,g1⟩:=J2;obtain⟨E9,lD⟩:∃E9,E9=US d8 DZ (.val (.int AI)) (.val (.int kind)) (.val (.int wanted)) (.own AD (.dt kvs)) u6 u7 u8 u9 (.val (.lst (ys.map D.int))) (.val (.int BI)):={_,rfl}
 have s7:J0 (.nm 11) (g2 FI (J5 [(g2 FI (A6 10) (gC (.int 0))),(g2 FI (A6 10) (gC (.int 0))),(LC LL 0 [(A6 2)])]) (LC LL 0 [(gC (.int 3))])) (US d6 DZ (.val (.int AI)) (.val (.int kind)) (.val (.int wanted)) (.own AD (.dt kvs)) u6 u7 u8 u9 (.val (.lst (ys.map D.int))) .no)=.ok (.nx E9):=by
  rw[lD];exact OU (GA (j5 (PZ (GA (x:=.lst (ys.map D.int)) (y:=.int 0) rfl rfl (wZ 'd' hz)) (PZ (GA (x:=.lst (ys.map D.int)) (y:=.int 0) rfl rfl (wZ 'd' hz)) (LW e7))) (show 3<10000 by decide)) e8 (lX (xs:=[]) c0 hg)) rfl
 obtain⟨qs,iX⟩:∃qs,qs=(kvs.map (·.1)).map (pk ys):={_,rfl}
 have dQ:V3 (MZ (A6 5)) 2 [10] (.tp [(.nm 0),(.nm 1)]) V1 (WM [(g2 FI (A6 2) (A6 0)),(g2 FI (A6 2) (A6 1))]) (OE [5] E9)=.ok (.lst (qs.map S7),OE [5] E9):=by
  have:=pQ (gi:=MZ (A6 5)) (k:=2) (js:=[10]) (t:=.tp [(.nm 0),(.nm 1)]) (tt:=V1) (ge:=WM [(g2 FI (A6 2) (A6 0)),(g2 FI (A6 2) (A6 1))]) (E:=OE [5] E9) (E1:=OE [5] E9) (ds:=(kvs.map (·.1)).map tE) (Nv ys) (λE=>∃x y,E=[x,y,.val (.lst (ys.map D.int))]) (by rw[ED,lD];rfl) (by rw[lD];exact{_,_,rfl}) (by rw[AJ,AJ];lia) (λx hx E hE=>by
   obtain⟨ky,Ki,rfl⟩:=C1.mp hx;obtain⟨p,q,rfl⟩:=hE;obtain⟨a,b,rfl,a0,a1,b0,b1,_⟩:=L5.rg ky Ki
   exact{_,rfl,AL,_,rfl,.inl {rfl,_,_,rZ (PZ (GA (x:=.lst (ys.map D.int)) (y:=.int a) rfl rfl (wZ a0 (fC dC a0 a1))) (LW (GA (x:=.lst (ys.map D.int)) (y:=.int b) rfl rfl (wZ b0 (fC dC b0 b1))))) (show 2<10000 by decide),rfl,_,_,rfl}}) (λEc hEc=>by
   rw[lD]
   have:∀(u:Sl) (j:Nat),j≠10->jQ Ec 2 [10] j (aS [5] j u)=aS [5] j u:=λu j hj=>by
    cases u with
    |no=>rfl
    |val d=>rfl
    |own t d =>
     simp only[aS];split<;>rfl
   simp only[aX,OE,US,hV,b7,ES,Nat.reduceAdd];rw[this u6 6 'd',this u7 7 'd',this u8 8 'd',this u9 9 'd']
   rfl)
  rw[this,Pu L5.rg,iX]
 have Kc:Net AI (ZS qs):=by
  have pm:=sZ qs;refine{m1,K9 m2 h2,by rw[pm.length_eq,iX,AJ,AJ];exact l5,λp hp=>?_,Px ?_}
  .have hp:=pm.mem_iff.mp hp
   rw[iX] at hp;obtain⟨ky,Ki,rfl⟩:=C1.mp hp;obtain⟨a,b,rfl,a0,a1,b0,b1,ab⟩:=L5.rg ky Ki;have ha:=Jh _ (Ce (ys:=ys) (a:=a) (fC dC a0 a1));have hb:=Jh _ (Ce (ys:=ys) (a:=b) (fC dC b0 b1));exact{ha.1,ha.2,hb.1,hb.2,λz=>ab (Cd Jg a0 b0 (fC dC a0 a1) (fC dC b0 b1) z)}
  .rw[iX]
   refine D2.mpr (List.Pairwise.imp_of_mem ?_ L5.nd);intro x y hx hy hxy z;obtain⟨a,b,rfl,a0,a1,b0,b1,ab⟩:=L5.rg x hx;obtain⟨a',b',rfl,Zy,a1',Zv,b1',ab'⟩:=L5.rg y hy;simp only[pk,gI] at z;exact hxy (by rw[Cd Jg a0 Zy (fC dC a0 a1) (fC dC Zy a1') z.1,Cd Jg b0 Zv (fC dC b0 b1) (fC dC Zv b1') z.2])
 refine{AI,ZS qs,BI,d8,QU (E':=E9) (HV e1 (HV (OU e2 rfl) (HV e3 (HV (aU (d:=.dt []) rfl) (HV e4 (HV e5 (HV s6 (HV s7 (RS (ZX (d:=.tup [GG AI (ZS qs),.int BI]) (rZ (PZ (rZ (PZ (d:=.int AI) (by rw[lD];rfl) (LW (SZ (LW (SZ (LW dQ) (Tw qs))) rfl))) (show 2<10000 by decide)) (LW (d:=.int BI) (by rw[lD];rfl))) (show 2<10000 by decide)) ?_)))))))))) (by rw[lD];rfl),Kc,m2,g0,g1,B8.mono 'l'};rw[lD];simp only[fF,US,GG,D.flat,pA9,D.nod,pAA,Sq]
 rfl
end
section
variable{cl:List Int}{g x a b c:Int}
theorem Rc.st(h:Rc ps cl g x):g∉cl:=by
 induction h with
 |refl h=>exact h
 |step _ _ _ ih=>exact ih
theorem Rc.ne(h:Rc ps cl g x):x∉cl:=by
 cases h with
 |refl h=>exact h
 |step _ _ h=>exact h
theorem Rc.mono{dl:List Int}(hs:∀z∈dl,z∈cl)(h:Rc ps cl g x):Rc ps dl g x:=by
 induction h with
 |refl h=>exact .refl λz=>h (hs _ z)
 |step _ e h ih=>exact .step ih e λz=>h (hs _ z)
theorem Rc.range(R:Rg AI ps)(h0:0<=g)(h1:g<AI)(h:Rc ps cl g x):0<=x/\x<AI:=by
 cases h with
 |refl _=>exact{h0,h1}
 |step _ e _=>obtain⟨_,_,a,b⟩:=R.rg _ e;exact{a,b}
theorem eP(h:a≠b):a∉[b]:=λz=>h (A3.mp z)
theorem Rc.by(b:Int)(h:Rc ps cl g x):Rc ps [b] g x\/Rc ps cl g b:=by
 induction h with
 |refl h =>
  by_cases e:g=b
  .exact .inr (by rw[<-e];exact .refl h)
  .exact .inl (.refl (eP e))
 |@step x y h e c ih =>
  rcases ih with ih|ih
  .by_cases eb:y=b
   .exact .inr (by rw[<-eb];exact .step h e c)
   .exact .inl (.step ih e (eP eb))
  .exact .inr ih
def Dom(ps:List (Int×Int))(g c x:Int):Prop:=Rc ps [] g x/\¬Rc ps [c] g x
theorem Dom.refl(h:Rc ps [] g x):Dom ps g x x:={h,λz=>z.ne A8}
theorem Dom.gate(h:Rc ps [] g x):Dom ps g g x:={h,λz=>z.st A8}
theorem Dom.rc(h:Dom ps g c x):Rc ps [] g c:=(h.1.by c).resolve_left h.2
theorem Dom.trans(h1:Dom ps g a b)(h2:Dom ps g b c):Dom ps g a c:={h2.1,λz=>(z.by b).elim h2.2 h1.2}
theorem Dom.anti(h1:Dom ps g a b)(h2:Dom ps g b a):a=b:=Classical.byContradiction λne=>by
 have J2:∀x,Rc ps [] g x->Rc ps [a,b] g x:=λx h=>by
  have Xn:∀y:Int,y≠a->y≠b->y∉[a,b]:=λy p q z=>by
   simp only[BC,C9,or_false] at z;exact z.elim p q
  induction h with
  |refl _ =>
   refine .refl (Xn g (λe=>h2.2 ?_) (λe=>h1.2 ?_))
   .rw[<-e];exact .refl (eP (by rw[e];exact ne))
   .rw[<-e];exact .refl (eP (by rw[e];exact E8 ne))
  |@step x y _ e _ ih =>
   refine .step ih e (Xn y (λq=>h2.2 ?_) (λq=>h1.2 ?_))
   .rw[<-q];exact .step (ih.mono 's') e (eP (by rw[q];exact ne))
   .rw[<-q];exact .step (ih.mono 's') e (eP (by rw[q];exact E8 ne))
 exact(J2 a h2.1).ne A8
theorem Dom.lin(h1:Dom ps g a x)(h2:Dom ps g b x):Dom ps g a b\/Dom ps g b a:=by
 by_cases e:Rc ps [a] g b
 .refine .inr {h1.rc,λz=>?_}
  have ne:a≠b:=λq=>e.ne (by rw[q];exact A8)
  have J2:∀x,Rc ps [] g x->Rc ps [a] g x\/Rc ps [b] g x:=λx h=>by
   induction h with
   |refl _ =>
    by_cases q:g=a
    .exact .inr (.refl (eP (by rw[q];exact ne)))
    .exact .inl (.refl (eP q))
   |@step x y _ e' _ ih =>
    rcases ih with ih|ih
    .by_cases q:y=a
     .exact .inr (by rw[q];exact z)
     .exact .inl (.step ih e' (eP q))
    .by_cases q:y=b
     .exact .inl (by rw[q];exact e)
     .exact .inr (.step ih e' (eP q))
  exact(J2 x h1.1).elim h1.2 h2.2
 .exact .inl {h2.rc,e}
theorem So{p q:Int->Bool}:∀{l:List Int},(∀x∈l,p x=AL->q x=AL)->(l.filter p).length<=(l.filter q).length
 |[],_=>AM _
 |x::l,h=>by
  have ih:=So (l:=l) λy hy=>h y (A4 _ hy);have hx:=h x A8;rw[KD,KD];split
  .rename_i e;rw[if_pos (hx e)];simp only[BB];lia
  .split
   .simp only[BB];lia
   .exact ih
theorem Er{p q:Int->Bool}{y:Int}(hq:q y=AL)(hp:¬p y=AL):∀{l:List Int},(∀x∈l,p x=AL->q x=AL)->y∈l->(l.filter p).length<(l.filter q).length
 |x::l,h,hy=>by
  have a7:=So (l:=l) λy hy=>h y (A4 _ hy);have hx:=h x A8;rw[KD,KD];rcases BC.mp hy with e|hy
  .subst e
   rw[if_neg hp,if_pos hq];simp only[BB];lia
  .have ih:=Er hq hp (l:=l) (λy hy=>h y (A4 _ hy)) hy
   split
   .rename_i e;rw[if_pos (hx e)];simp only[BB];lia
   .split
    .simp only[BB];lia
    .exact ih
structure All(ps:List (Int×Int))(g:Int)(L:List Int):Prop where
 nd:L.Nodup
 mem:∀x,x∈L↔Rc ps [] g x
noncomputable instance domDec (ps:List (Int×Int)) (g c x:Int):Decidable (Dom ps g c x):=SW _
noncomputable def mu(ps:List (Int×Int))(g:Int)(L:List Int)(x:Int):List Int:=L.filter λc=>decide (Dom ps g c x)
noncomputable def cu(ps:List (Int×Int))(g:Int)(L:List Int)(c:Int):List Int:=L.filter λx=>decide (Dom ps g c x)
variable{L zs Xh:List Int}{p h:Int}
theorem xI(A:All ps g L):c∈mu ps g L x↔Dom ps g c x:=by
 unfold mu;rw[DI,decide_eq_true_eq,A.mem];exact{λz=>z.2,λz=>{z.rc,z}}
theorem yDX(A:All ps g L):x∈cu ps g L c↔Dom ps g c x:=by
 unfold cu;rw[DI,decide_eq_true_eq,A.mem];exact{λz=>z.2,λz=>{z.1,z}}
theorem rN(A:All ps g L)(d:Dom ps g a b)(ne:a≠b):(mu ps g L a).length<(mu ps g L b).length:=by
 refine Er (y:=b) (decide_eq_true (Dom.refl d.1)) (λz=>ne (d.anti (of_decide_eq_true z))) (λx _ z=>decide_eq_true ((of_decide_eq_true z:Dom ps g x a).trans d)) ((A.mem b).mpr d.1)
theorem yGE(A:All ps g L)(d:Dom ps g a b)(ne:a≠b):(cu ps g L b).length<(cu ps g L a).length:=by
 refine Er (y:=a) (decide_eq_true (Dom.refl d.rc)) (λz=>ne (d.anti (of_decide_eq_true z))) (λx _ z=>decide_eq_true (d.trans (of_decide_eq_true z:Dom ps g b x))) ((A.mem a).mpr d.rc)
structure Srt(ps:List (Int×Int))(g:Int)(L:List Int)(x:Int)(zs:List Int):Prop where
 pm:zs.Perm (mu ps g L x)
 pw:zs.Pairwise λa b=>(mu ps g L a).length<(mu ps g L b).length
theorem Srt.mem(A:All ps g L)(S:Srt ps g L x zs):c∈zs↔Dom ps g c x:=by rw[S.pm.mem_iff,xI A]
theorem Srt.uniq(S:Srt ps g L x zs)(S':Srt ps g L x Xh):zs=Xh :=
 IN (le:=λa b=>(mu ps g L a).length<(mu ps g L b).length) (λa b _ _ h1 h2=>by lia) S.pw S'.pw (S.pm.trans S'.pm.symm)
theorem Nu(h1:zs.Nodup)(A:All ps g L)(h:∀c,c∈zs↔Dom ps g c x):zs.Perm (mu ps g L x) :=
 (UP h1 (A.nd.filter _)).mpr λc=>by rw[h];exact(xI A).symm
theorem Dt(h:Dom ps g c g):c=g:=h.anti (Dom.gate h.rc)
theorem Srt.gate(A:All ps g L)(hg:Rc ps [] g g):Srt ps g L g [g] :=
 {Nu (ER.mpr {by simp,FV}) A λc=>by rw[A3];exact{λz=>by rw[z];exact .refl hg,Dt},JI _ _}
structure IsH(ps:List (Int×Int))(g p h:Int):Prop where
 dom:Dom ps g h p
 ne:h≠p
 last:∀c,Dom ps g c p->c≠p->Dom ps g c h
theorem IsH.uniq{h':Int}(I:IsH ps g p h)(I':IsH ps g p h'):h=h':=(I'.last h I.dom I.ne).anti (I.last h' I'.dom I'.ne)
theorem Srt.nodup(S:Srt ps g L x zs):zs.Nodup:=S.pw.imp λh e=>by rw[e] at h;lia
theorem Srt.snoc(A:All ps g L)(I:IsH ps g p h)(S:Srt ps g L h zs):Srt ps g L p (zs++[p]):=by
 have hp:p∉zs:=λz=>I.ne (I.dom.anti ((S.mem A).mp z));refine{Nu (F8.mpr {S.nodup,ER.mpr {by simp,FV},λa ha b hb e=>hp (by rw[<-A3.mp hb,<-e];exact ha)}) A λc=>?_,G1.mpr {S.pw,JI _ _,λa ha b hb=>?_}}
 .rw[BX,A3,S.mem A]
  constructor
  .rintro(z|z)
   .exact z.trans I.dom
   .rw[z];exact .refl I.dom.1
  .intro z
   by_cases e:c=p
   .exact .inr e
   .exact .inl (I.last c z e)
 .rw[A3.mp hb]
  exact rN A (((S.mem A).mp ha).trans I.dom) λe=>hp (by rw[<-e];exact ha)
theorem Srt.last(A:All ps g L)(S:Srt ps g L p zs)(hp:Rc ps [] g p)(ne:p≠g):∃pre h,zs=pre++[h,p]/\IsH ps g p h:=by
 obtain⟨pre,post,e⟩:=bS ((S.mem A).mpr (Dom.refl hp));have pw:=S.pw;rw[e,G1] at pw;obtain⟨w1,w2,w3⟩:=pw;rw[JE] at w2
 have vU:post=[]:=by
  cases post with
  |nil=>rfl
  |cons c post =>
   exfalso;have h1:=w2.1 c A8;have hc:Dom ps g c p:=(S.mem A).mp (by rw[e];simp)
   by_cases q:c=p
   .rw[q] at h1;lia
   .have:=rN A hc q;lia
 subst vU;rcases YX pre with TQ|⟨uS,h,TQ⟩
 .exfalso
  have:=(S.mem A).mpr (Dom.gate hp);rw[e,TQ] at this;exact ne (A3.mp this).symm
 .have TQ:pre=uS++[h]:=by simpa using TQ
  subst TQ;refine{uS,h,by rw[e];simp,{(S.mem A).mp (by rw[e];simp),λq=>?_,λc hc q=>?_}}
  .have:=w3 h 's' p A8
   rw[q] at this;lia
  .have hh:Dom ps g h p:=(S.mem A).mp (by rw[e];simp)
   have hcm:=(S.mem A).mpr hc;rw[e,BX,BX,A3,A3] at hcm;rcases hcm with(hcm|hcm)|hcm
   .have lt:=(G1.mp w1).2.2 c hcm h A8
    rcases hc.lin hh with z|z
    .exact z
    .by_cases q2:h=c
     .rw[q2] at lt;lia
     .have:=rN A z q2;lia
   .rw[hcm];exact .refl hh.rc
   .exact absurd hcm q
open Classical in
noncomputable def lW(ps:List (Int×Int))(g p:Int):Int:=if h:∃h,IsH ps g p h then h.choose else g
theorem Oo(I:IsH ps g p h):lW ps g p=h:=by
 have e:∃h,IsH ps g p h:={h,I};unfold lW;rw[dif_pos e];exact e.choose_spec.uniq I
theorem Qz:lW ps g g=g:=by
 unfold lW;rw[dif_neg];rintro⟨h,I⟩;exact I.ne (Dt I.dom)
noncomputable def eX(ps:List (Int×Int))(g b:Int)(zs:List Int):Option Int:=zs.foldl (λacc c=>if Dom ps g c b/\b≠c then AA c else acc) AK
theorem Sn:eX ps g b (zs++[c])=if Dom ps g c b/\b≠c then AA c else eX ps g b zs:=by
 unfold eX;rw[eM];rfl
theorem Dc:∀{ys:List Int} {acc:Option Int},(∀c∈ys,¬(Dom ps g c b/\b≠c))->ys.foldl (λacc c=>if Dom ps g c b/\b≠c then AA c else acc) acc=acc
 |[],_,_=>rfl
 |c::ys,acc,h=>by rw[SU,if_neg (h c A8)];exact Dc λd hd=>h d (A4 _ hd)
theorem Sk(h:∀c∈zs,¬(Dom ps g c b/\b≠c)):eX ps g b zs=AK:=Dc h
theorem zS1{ys:List Int}(h:∀c∈ys,¬(Dom ps g c b/\b≠c)):eX ps g b (zs++ys)=eX ps g b zs:=by
 unfold eX;rw[eM];exact Dc h
theorem zPS(A:All ps g L)(pm:zs.Perm L)(pw:zs.Pairwise λa b=>(cu ps g L b).length<=(cu ps g L a).length)(I:IsH ps g b h):eX ps g b zs=AA h:=by
 obtain⟨pre,post,e⟩:=bS (pm.mem_iff.mpr ((A.mem h).mpr I.dom.rc));have nd:zs.Nodup:=pm.nodup_iff.mpr A.nd;rw[e,show pre++h::post=(pre++[h])++post by simp,zS1,Sn,if_pos {I.dom,E8 I.ne}];rintro c hc ⟨d,ne⟩;rw[e,G1,JE] at pw;rw[e,F8,ER] at nd;have h1:=pw.2.1.1 c hc;have:=yGE A (I.last c d (E8 ne)) (λq=>nd.2.1.1 (by rw[<-q];exact hc));lia
end
theorem Pt{E:Ev}(p:Int->Bool)(cs:List Sl)(hi:gi E=.ok (ns.map D.int,E1))(hc:XG 1 js E1=.no::cs)(hl:ns.length<10000)
  (ht:∀x∈ns,tt (.val (.int x)::cs)=.ok (p x,.val (.int x)::cs)) (hb:∀u,aX E1 (u::cs) 1 js=E1):V3 gi 1 js (.nm 0) tt (A6 0) E=.ok (.lst ((ns.filter p).map D.int),E1):=by
 have:=pQ (gi:=gi) (k:=1) (js:=js) (t:=.nm 0) (tt:=tt) (ge:=A6 0) (E:=E) (E1:=E1) (ds:=ns.map D.int) (λd=>match d with|.int x=>if p x=AL then[.int x] else[]|_=>[]) (λE=>∃u,E=u::cs) hi {_,hc} (by rw[AJ];exact hl) (λd hd E hE=>by
  obtain⟨x,hx,rfl⟩:=C1.mp hd;obtain⟨u,rfl⟩:=hE;refine{_,rfl,p x,_,ht x hx,?_}
  by_cases h:p x=AL
  .exact .inl {h,.int x,_,rfl,by simp only[h,if_true],_,rfl}
  .exact .inr {by simpa using h,by simp only[h,if_false];rfl,_,rfl}) ((λEc q0=>by obtain⟨u,e⟩:=q0;exact by rw[e];exact hb u))
 rw[this,Tv (g:=D.int) p λx=>rfl]
section
variable{BI c:Int}
theorem Nj(R:Rg AI ps)(h0:0<=BI)(h1:BI<AI)(hc:Rc ps [] BI c):∃xs:List Int,mU [.val (GG AI ps),.val (.int BI),.val (.int c)]=.ok (AD,.tup (xs.map D.int),.non)/\xs.Nodup/\∀x,x∈xs↔Dom ps BI c x:=by
 obtain⟨xs,e1,p1,m1⟩:=Ss (start:=BI) R h0 h1;obtain⟨ys,e2,p2,m2⟩:=Nx (cl:=[c]) (start:=BI) R h0 h1;have XN:=R.m2;have nx:xs.Nodup:=p1.imp λe=>YZ e
 have hl:xs.length<10000:=by
  have:=G3 (l₂:=ri AI.toNat) nx λx hx=>OH.mpr (by
   have:=((m1 x).mp hx).range R h0 h1;lia)
  rw[fD] at this;lia
 refine{xs.filter λx=>decide (x∉ys),?_,nx.filter _,λx=>?_}
 .have dQ:=Pt (gi:=MZ (A6 3)) (js:=[4]) (tt:=gB (g2 S8 (A6 0) (A6 1))) (E:=[.val (GG AI ps),.val (.int BI),.val (.int c),.val (.tup (xs.map D.int)),.val (.tup (ys.map D.int))]) (E1:=[.val (GG AI ps),.val (.int BI),.val (.int c),.val (.tup (xs.map D.int)),.val (.tup (ys.map D.int))]) (λx=>decide (x∉ys)) [.val (.tup (ys.map D.int))] rfl rfl hl
   (λx _=>PQ (GA (x:=.int x) (y:=.tup (ys.map D.int)) rfl rfl (Sw x ys))) λu=>rfl
  have t1:gB (g2 S8 (A6 2) (A6 3)) [.val (GG AI ps),.val (.int BI),.val (.int c),.val (.tup (xs.map D.int)),.no]=.ok (AD,[.val (GG AI ps),.val (.int BI),.val (.int c),.val (.tup (xs.map D.int)),.no]) :=
   PQ (GA (x:=.int c) (y:=.tup (xs.map D.int)) rfl rfl (by rw[Sw,decide_eq_false (λz=>z ((m1 c).mpr hc))]))
  exact QU (HV (OU (Q7 (ds:=[GG AI ps,.int BI]) rfl e1) rfl) (HV (UT t1 rfl) (HV (OU (Q7 (ds:=[GG AI ps,.int BI,.tup [.int c]]) rfl e2) rfl) (RS (SZ (LW dQ) rfl))))) rfl
 .rw[DI,m1,decide_eq_true_eq,m2];rfl
def OI(f:Int->D)(L:List Int):List (Key×D):=L.map λp=>(CS p,f p)
theorem sU{f:Int->D}{p:Int}:∀{L:List Int},p∈L->NK (OI f L) (.inl p)=AA (f p)
 |x::L,h=>by
  unfold NK OI;rw[AV,DU]
  by_cases e:x=p
  .subst e;simp
  .have:decide ((CS x:Key)=CS p)=AD:=decide_eq_false λz=>e (IC z)
   simp only[this];exact sU (L:=L) ((BC.mp h).resolve_left (E8 e))
theorem Ps{f:Int->D}{p:Int}{L:List Int}(h:p∉L):PY (OI f L) (.inl p) (f p)=OI f (L++[p]):=by
 unfold PY OI;rw[if_neg,GD]
 .rfl
 .simp only[XS,IQ,SV,decide_eq_true_eq,not_exists,not_and]
  exact λq hq z=>h (IC z▸hq)
theorem zV3{f:Int->D}{L:List Int}:(OI f L).map (λkv=>jP kv.1)=L.map D.int:=by unfold OI;rw[ED];rfl
theorem Ni{gv:G}(f:Int->D)(cs:List Sl):∀{ns acc:List Int} {u:Sl},(acc++ns).Nodup->(acc++ns).length<10000->(∀x∈ns,gv (.val (.int x)::cs)=.ok (f x,.val (.int x)::cs)) ->
  ∃u',ZP (.nm 0) V1 (pF (A6 0) gv) (ns.map D.int) (.dk (OI f acc)) (u::cs)=.ok (.dk (OI f (acc++ns)),u'::cs)
 |[],acc,u,_,_,_=>{u,by rw[DJ];rfl}
 |x::ns,acc,u,nd,hl,hv=>by
  have hx:x∉acc:=λz=>(F8.mp nd).2.2 x z x A8 rfl;have hla:(OI f acc).length<10000:=by unfold OI;rw[AJ];rw[BH] at hl;lia
  obtain⟨u',e⟩:=Ni f cs (ns:=ns) (acc:=acc++[x]) (u:=.val (.int x)) (by rw[CM];exact nd) (by rw[CM];exact hl) λy hy=>hv y (A4 _ hy);refine{u',?_};rw[CM] at e
  have ge:pF (A6 0) gv (.dk (OI f acc)) (.val (.int x)::cs)=.ok (.dk (OI f (acc++[x])),.val (.int x)::cs):=by
   refine HQ (a:=(.int x,.val (.int x)::cs)) rfl (HQ (hv x A8) ?_);show few (OI f acc).length (Out.ok (D.dk (PY (OI f acc) (.inl x) (f x)),Sl.val (.int x)::cs))=_;rw[ZQ hla,Ps hx]
  rw[AV,ZP];refine HQ (a:=.val (.int x)::cs) rfl (HQ (a:=(AL,.val (.int x)::cs)) rfl ?_);show(if AL=AL then _ else _)=_;rw[if_pos rfl];exact HQ ge e
theorem On{ge:G}{ds:List D}(k:Int->Int):∀{cs:List Int},(∀c∈cs,ge (.val (.int c)::ds.map .val)=.ok (.int (k c),.val (.int c)::ds.map .val))->eR ge ds (cs.map D.int)=.ok (cs.map k)
 |[],_=>rfl
 |c::cs,h=>by
  rw[AV,eR];exact HQ (a:=k c) (HQ (h c A8) rfl) (HQ (On k λd hd=>h d (A4 _ hd)) rfl)
theorem Pq{gl ge:G}{E:Ev}{ds:List D}(k:Int->Int)(hl:gl E=.ok (.lst (cs.map D.int),E1))(hv:valsJ (shareJ js E1) js=AA ds)(hn:cs.length<64)
  (hk:∀c∈cs,ge (.val (.int c)::ds.map .val)=.ok (.int (k c),.val (.int c)::ds.map .val)):mK gl js ge E=.ok ((cs.map D.int,cs.map k),shareJ js E1):=by
 refine HQ hl ?_;show(match D.lst (cs.map D.int),valsJ (shareJ js E1) js with|.lst ys,AA ds=>if ys.length<64 then(eR ge ds ys).bind λkz=>.ok ((ys,kz),shareJ js E1) else .bad|_,_=>.bad)=_;rw[hv];show(if(cs.map D.int).length<64 then(eR ge ds (cs.map D.int)).bind λkz=>Out.ok ((cs.map D.int,kz),shareJ js E1) else .bad)=_;rw[if_pos (by rw[AJ];exact hn)];exact HQ (On k hk) rfl
theorem yK{α β γ:Type}(f:α->β)(h:α->γ):∀l:List α,(l.map f).zip (l.map h)=l.map λx=>(f x,h x)
 |[]=>rfl
 |x::l=>by rw[AV,AV,PU,yK f h l];rfl
theorem Qy{k:Int->Int}{qs:List (Int×D)}(h:bY (cs.map k) (cs.map D.int) qs):∃zs:List Int,qs=zs.map (λc=>(k c,D.int c))/\zs.Perm cs/\zs.Pairwise λa b=>k a<=k b:=by
 obtain⟨pm,pw⟩:=h;rw[yK] at pm
 have un:∀q∈qs,q=(k (match q.2 with|.int c=>c|_=>0),D.int (match q.2 with|.int c=>c|_=>0)):=λq hq=>by
  obtain⟨c,_,rfl⟩:=C1.mp (pm.mem_iff.mp hq)
  rfl
 have e:qs=(qs.map λq=>match q.2 with|.int c=>c|_=>0).map (λc=>(k c,D.int c)):=by
  rw[ED];exact((IU λq hq=>(un q hq).symm).trans (List.map_id _)).symm
 refine{_,e,?_,?_}
 .have:=pm.map (λq:Int×D=>match q.2 with|.int c=>c|_=>0)
  rw[ED] at this;exact this.trans (by rw[show((λq:Int×D=>match q.2 with|.int c=>c|_=>0)∘λc=>(k c,D.int c))=id from rfl,List.map_id])
 .rw[e,D2] at pw
  exact pw
theorem Mj{k:Int->Int}:∀{zs:List Int},zs.Pairwise (λa b=>k a<k b)->∀a∈zs,∀b∈zs,k a=k b->a=b
 |z::zs,pw,a,ha,b,hb,e=>by
  obtain⟨p1,p2⟩:=JE.mp pw;rcases BC.mp ha with e1|h1
  .rcases BC.mp hb with e2|h2
   .rw[e1,e2]
   .have:=p1 b h2;rw[<-e1] at this;lia
  .rcases BC.mp hb with e2|h2
   .have:=p1 a h1;rw[<-e2] at this;lia
   .exact Mj p2 a h1 b h2 e
open Classical in
theorem zV4{gl ge:G}{E:Ev}{zs:List Int}{k:Int->Int}(h:mK gl js ge E=.ok ((cs.map D.int,cs.map k),E1))(pm:zs.Perm cs)(pw:zs.Pairwise λa b=>k a<k b):sD gl js ge E=.ok (.lst (zs.map D.int),E1):=by
 refine HQ h ?_;have q0:bY (cs.map k) (cs.map D.int) (zs.map λc=>(k c,D.int c)):={by rw[yK];exact pm.map _,D2.mpr (pw.imp λh=>LA h)}
 have ex:∃ws,∀qs,bY (cs.map k) (cs.map D.int) qs->qs.map FU=ws:={zs.map D.int,λqs hq=>by
  obtain⟨ws,rfl,p1,p2⟩:=Qy hq;have:ws=zs:=IN (le:=λa b=>k a<=k b) (λa b ha hb h1 h2=>Mj pw a ((p1.trans pm.symm).mem_iff.mp ha) b hb 'l') p2 (pw.imp λh=>LA h) (p1.trans pm.symm)
  rw[this,ED];rfl}
 show(if h:∃ws,∀qs,bY (cs.map k) (cs.map D.int) qs->qs.map FU=ws then Out.ok (D.lst h.choose,E1) else .bad)=_;rw[dif_pos ex,<-ex.choose_spec _ q0,ED];rfl
end
def O2(n:Nat)(φ:Int->Option Int):List D:=(ri n).map λb=>LZ (φ b)
theorem yAA(n:Nat)(φ:Int->Option Int):(O2 n φ).length=n:=by unfold O2;rw[AJ,fD]
theorem Vk(h:j<n):(ri n)[j]?=AA (j:Int):=by
 unfold ri;rw[AU,K2 h];simp
theorem yAB{b:Int}(h0:0<=b)(h1:b<n):atI (O2 n φ) b=AA (LZ (φ b)):=by
 refine sA h0 ?_;unfold O2;rw[AU,Vk 'l'];simp only[GT];rw[show((b.toNat:Nat):Int)=b by lia]
theorem yAC(h0:0<=AI)(h1:AI<=100):gX (.lst [.non]) (.int AI)=.ok (.lst (O2 AI.toNat λ_=>AK)):=by
 have e:(BG AI.toNat [D.non]).flatten=O2 AI.toNat λ_=>AK:=by
  unfold O2 ri;rw[ED];generalize AI.toNat=n
  induction n with
  |zero=>rfl
  |succ n ih=>rw[jM,GD,<-ih,List.replicate_succ',List.flatten_append];rfl
 simp only[gX,L2.guard];rw[if_pos {by lia,by lia,by simp;lia},e]
theorem Om{b c:Int}(h0:0<=b)(h1:b<n):lY (.lst (O2 n φ)) (.int b) (.int c)=.ok (.lst (O2 n λx=>if x=b then AA c else φ x)):=by
 rw[Bo (j:=b.toNat) (by rw[yAA];exact Ci h0 h1)]
 congr 2
 refine QQ λj=>?_;rw[List.getElem?_set];unfold O2;rw[AU,AU,AJ,fD]
 by_cases hj:j<n
 .rw[Vk hj]
  by_cases e:b.toNat=j
  .have:(j:Int)=b:=by lia
   simp[e,hj,this,LZ]
  .have:¬(j:Int)=b:=by lia
   simp[e,this]
 .have:(ri n)[j]?=AK:=N2 (by rw[fD];lia)
  rw[this]
  by_cases e:b.toNat=j
  .lia
  .simp[e]
theorem Pp(φ:Int->Option Int):∀l:List Int,pA9 (l.map λb=>LZ (φ b))=AL/\pAA (l.map λb=>LZ (φ b))=AL
 |[]=>by simp[pA9,pAA]
 |b::l=>by
  obtain⟨h1,h2⟩:=Pp φ l;rw[AV,pA9,pAA,h1,h2];cases φ b<;>simp[LZ,D.flat,D.nod]
section
variable{g:Int}{L:List Int}{p:Int}
def UH(ps:List (Int×Int))(g:Int)(L:List Int)(p:Int):List Int:=(mu ps g L p).mergeSort λa b=>decide ((mu ps g L a).length<=(mu ps g L b).length)
theorem pO(A:All ps g L):Srt ps g L p (UH ps g L p):=by
 have pm:(UH ps g L p).Perm (mu ps g L p):=K1 _ _;have nd:(UH ps g L p).Nodup:=pm.nodup_iff.mpr (A.nd.filter _)
 have pw:=JJ (le:=λa b=>decide ((mu ps g L a).length<=(mu ps g L b).length)) (λa b c h1 h2=>decide_eq_true (AZ (of_decide_eq_true h1) (of_decide_eq_true h2)))
  (λa b=>by rcases Nat.le_total (mu ps g L a).length (mu ps g L b).length with h|h<;>simp[h]) (mu ps g L p)
 refine{pm,(pw.and nd).imp_of_mem λ{a b} ha hb h=>?_};have h1:=of_decide_eq_true h.1;have da:=(xI A).mp (pm.mem_iff.mp ha);have db:=(xI A).mp (pm.mem_iff.mp hb);rcases da.lin db with z|z
 .exact rN A z h.2
 .have:=rN A z (E8 h.2);lia
theorem Qx(A:All ps g L)(hp:Rc ps [] g p)(ne:p≠g):∃h,IsH ps g p h:=let ⟨_,h,_,I⟩:=(pO A).last A hp ne;{h,I}
end
theorem Ol{BI:Int}{L:List Int}(R:Rg AI ps)(h0:0<=BI)(h1:BI<AI)(A:All ps BI L):L.length<=AI.toNat:=by
 have:=G3 (l₂:=ri AI.toNat) A.nd λx hx=>OH.mpr (by
  have:=((A.mem x).mp hx).range R h0 h1;lia)
 rwa [fD] at this
section
variable{BI:Int}
open Classical in
theorem yAD{gl ge:G}{ks:List Nat}{t:Tg}{g:GS}{E Ef:Ev}{k:Int->Int}(h:mK gl js ge E=.ok ((cs.map D.int,cs.map k),E1))
  (hz:∀zs:List Int,zs.Perm cs->zs.Pairwise (λa b=>k a<=k b)->∃E2,UD t g (zs.map D.int) E1=.ok (.nx E2)/\hush ks E2=Ef):rR gl js ge t g ks E=.ok (.nx Ef):=by
 refine HQ h ?_;have pm:(cs.mergeSort λa b=>decide (k a<=k b)).Perm cs:=K1 _ _
 have pw:=JJ (le:=λa b=>decide (k a<=k b)) (λa b c h1 h2=>decide_eq_true (K9 (of_decide_eq_true h1) (of_decide_eq_true h2)))
  (λa b=>by rcases Int.le_total (k a) (k b) with h|h<;>simp[h]) cs
 have q0:bY (cs.map k) (cs.map D.int) ((cs.mergeSort λa b=>decide (k a<=k b)).map λc=>(k c,D.int c)):={by rw[yK];exact pm.map _,D2.mpr (pw.imp λh=>of_decide_eq_true h)}
 have al:∀qs,bY (cs.map k) (cs.map D.int) qs->∃E2,UD t g (qs.map FU) E1=.ok (.nx E2)/\hush ks E2=Ef:=λqs hq=>by
  obtain⟨ws,rfl,p1,p2⟩:=Qy hq;rw[ED];exact hz ws p1 p2
 have ex:∃E0,∀qs,bY (cs.map k) (cs.map D.int) qs->∃E2,UD t g (qs.map FU) E1=.ok (.nx E2)/\hush ks E2=E0:={Ef,al};show(if h:∃E0,∀qs,bY (cs.map k) (cs.map D.int) qs->∃E2,UD t g (qs.map FU) E1=.ok (.nx E2)/\hush ks E2=E0 then Out.ok (Fl.nx h.choose) else .bad)=_;rw[dif_pos ex];obtain⟨E2,a1,a2⟩:=ex.choose_spec _ q0;obtain⟨E3,b1,b2⟩:=al _ q0;rw[a1] at b1;cases b1;rw[<-a2,b2]
end
section
variable{BI:Int}
def slO:Option D->Sl
 |none=>.no
 |some d=>.val d
theorem take_mem{L:List Int}(h:i<L.length)(q:Int):q∈L.take (i+1)↔q∈L.take i\/q=L[i]:=by
 rw[BE h,BX,A3]
open Classical in
def hO(ps:List (Int×Int))(g b:Int):Option Int:=if Rc ps [] g b then AA (lW ps g b) else AK
def hE(AI:Int)(ps:List (Int×Int))(BI:Int)(IV:D)(φ:Int->Option Int)(o4 o5:Option D):Ev:=[.val (GG AI ps),.val (.int BI),.val IV,.own AD (.lst (O2 AI.toNat φ)),slO o4,slO o5]
abbrev hB:GS:=OT (gB (g2 NO (A6 5) (A6 4))) (Q8 3 (A6 5) (A6 4)) RV
theorem yDZ{IV:D}{o5:Option D}{c:Int}{xs:List Int}(hx:FI IV (.int c)=.ok (.tup (xs.map D.int)))(hr:∀x∈xs,0<=x/\x<AI) :
  ∃nK,QT (MZ (g2 FI (A6 2) (A6 4))) (.nm 5) hB (hE AI ps BI IV φ (AA (.int c)) o5)=.ok (.nx (hE AI ps BI IV (λb=>if b∈xs/\b≠c then AA c else φ b) (AA (.int c)) nK)):=by
 obtain⟨E',e,nK,rfl⟩:=iE (gi:=MZ (g2 FI (A6 2) (A6 4))) (t:=.nm 5) (g:=hB) (E:=hE AI ps BI IV φ (AA (.int c)) o5) (ds:=xs.map D.int)
  (λi E=>∃nK,E=hE AI ps BI IV (λb=>if b∈xs.take i/\b≠c then AA c else φ b) (AA (.int c)) nK)
  (De (GA (x:=IV) (y:=.int c) rfl rfl hx)) {o5,by simp}
  (λi x E hx hP=>by
   obtain⟨o5,rfl⟩:=hP;rw[AU] at hx;obtain⟨b,hb,rfl⟩:=BR.mp hx;obtain⟨hi,dS⟩:=AR.mp hb;obtain⟨b0,b1⟩:=hr b (C4 hb);have tm:∀q,q∈xs.take (i+1)↔q∈xs.take i\/q=b:=by rw[<-dS];exact take_mem hi
   have t1:gB (g2 NO (A6 5) (A6 4)) (hE AI ps BI IV (λb=>if b∈xs.take i/\b≠c then AA c else φ b) (AA (.int c)) (AA (.int b)))=.ok (decide (b≠c),hE AI ps BI IV (λb=>if b∈xs.take i/\b≠c then AA c else φ b) (AA (.int c)) (AA (.int b))) :=
    PQ (GA (x:=.int b) (y:=.int c) rfl rfl (sQ _ _))
   by_cases e:b=c
   .rw[decide_eq_false (λz=>z e)] at t1
    refine{_,rfl,_,UT t1 rfl,AA (.int b),?_}
    congr 1
    funext q
    have:(q∈xs.take (i+1)/\q≠c)↔(q∈xs.take i/\q≠c):=by
     rw[tm];constructor
     .rintro⟨z|z,n⟩
      .exact{z,n}
      .exact absurd (z.trans e) n
     .rintro⟨z,n⟩;exact{.inl z,n}
    simp only[this]
   .rw[decide_eq_true e] at t1
    refine{_,rfl,_,aP t1 (cH (i:=3) (t:=AD) (d:=.lst (O2 AI.toNat λb=>if b∈xs.take i/\b≠c then AA c else φ b)) (v:=.int c) (k:=.int b) rfl rfl rfl rfl (Om b0 'l')),AA (.int b),?_};show hE AI ps BI IV _ (AA (.int c)) (AA (.int b))=_
    congr 1
    funext q
    by_cases eq:q=b
    .subst eq
     rw[if_pos rfl,if_pos {(tm q).mpr (.inr rfl),e}]
    .have:(q∈xs.take (i+1)/\q≠c)↔(q∈xs.take i/\q≠c):=by
      rw[tm];constructor
      .rintro⟨z|z,n⟩
       .exact{z,n}
       .exact absurd z eq
      .rintro⟨z,n⟩;exact{.inl z,n}
     simp only[this,if_neg eq])
 rw[AJ,EA] at e;exact{nK,e}
theorem Sj(R:Rg AI ps)(hm:AI<=24)(h0:0<=BI)(h1:BI<AI):pZ [.val (GG AI ps),.val (.int BI)]=.ok (AD,.tup (O2 AI.toNat (hO ps BI)),.non):=by
 obtain⟨xs,e1,p1,m1⟩:=Ss (start:=BI) R h0 h1;have A:All ps BI xs:={p1.imp λe=>YZ e,m1};have hl:=Ol R h0 h1 A
 obtain⟨ZD,Z7⟩:∃ZD:Int->List Int,∀c∈xs,mU [.val (GG AI ps),.val (.int BI),.val (.int c)]=.ok (AD,.tup ((ZD c).map D.int),.non)/\(ZD c).Nodup/\∀x,x∈ZD c↔Dom ps BI c x:=by
  have:=λc=>Classical.em (Rc ps [] BI c);refine{λc=>(open Classical in if h:Rc ps [] BI c then(Nj R h0 h1 h).choose else[]),λc hc=>?_};have h:=(m1 c).mp hc;simp only[dif_pos h];exact(Nj R h0 h1 h).choose_spec
 have NS:∀c∈xs,(ZD c).length=(cu ps BI xs c).length:=λc hc=>((UP (Z7 c hc).2.1 (A.nd.filter _)).mpr λx=>by rw[(Z7 c hc).2.2];exact(yDX A).symm).length_eq;obtain⟨IV,hc⟩:∃IV,IV=D.dk (OI (λp=>.tup ((ZD p).map D.int)) xs):={_,rfl};have dO:∀p∈xs,FI IV (.int p)=.ok (.tup ((ZD p).map D.int)):=λp hp=>by rw[hc];exact Gd (sU hp)
 -- the IV
 have s1:mM (MZ (K8 mV [(A6 0),(A6 1)])) 1 [0,1] (.dk []) (.nm 0) V1 (pF (A6 0) (K8 mU [(A6 1),(A6 2),(A6 0)])) [.val (GG AI ps),.val (.int BI),.no,.no,.no,.no]=.ok (IV,[.val (GG AI ps),.val (.int BI),.no,.no,.no,.no]):=by
  obtain⟨u',e⟩:=Ni (gv:=K8 mU [(A6 1),(A6 2),(A6 0)]) (λp=>.tup ((ZD p).map D.int)) [.val (GG AI ps),.val (.int BI)] (ns:=xs) (acc:=[]) (u:=.no) A.nd (by rw[GC];lia) λx hx=>Q7 (ds:=[GG AI ps,.int BI,.int x]) rfl (Z7 x hx).1;rw[GC,<-hc] at e;exact HQ (De (Q7 (ds:=[GG AI ps,.int BI]) rfl e1)) (HQ e rfl)
 have s3:rR (gN jV [(A6 2)]) [2] (g1 SY (gN RO [(g2 FI (A6 1) (A6 0))])) (.nm 4) (QT (MZ (g2 FI (A6 2) (A6 4))) (.nm 5) hB) [4,5] (hE AI ps BI IV (λ_=>AK) AK AK)
   = .ok (.nx (hE AI ps BI IV (λb=>if b=BI then AK else hO ps BI b) AK AK)):=by
  refine yAD (cs:=xs) (k:=λc=>-((ZD c).length:Int)) (Pq (λc=>-((ZD c).length:Int)) (SZ (ds:=[IV]) (LW rfl) (by rw[hc];exact congrArg (λz=>Out.ok (D.lst z)) zV3)) (ds:=[IV]) rfl 'l' λc wG=>?_) λzs pm pw=>?_
  .exact HQ (SZ (LW (GA (x:=IV) (y:=.int c) rfl rfl (dO c wG))) (yF2 (by rw[AJ]))) rfl
  .obtain⟨E',e,o4,o5,rfl⟩:=yM (t:=.nm 4) (g:=QT (MZ (g2 FI (A6 2) (A6 4))) (.nm 5) hB) (ds:=zs.map D.int) (E:=hE AI ps BI IV (λ_=>AK) AK AK)
    (λi E=>∃o4 o5,E=hE AI ps BI IV (λb=>eX ps BI b (zs.take i)) o4 o5) 0 {AK,AK,rfl} (λi x E hx hP=>by
     rw[ES] at hP ⊢;obtain⟨o4,o5,rfl⟩:=hP;rw[AU] at hx;obtain⟨c,Zd,rfl⟩:=BR.mp hx;obtain⟨hi,ZC⟩:=AR.mp Zd;have wG:c∈xs:=pm.mem_iff.mp (C4 Zd);obtain⟨nK,e⟩:=yDZ (AI:=AI) (ps:=ps) (BI:=BI) (φ:=λb=>eX ps BI b (zs.take i)) (o5:=o5) (dO c wG) λx hx=>(((Z7 c wG).2.2 x).mp hx).1.range R h0 h1;refine{_,rfl,_,e,AA (.int c),nK,?_}
     congr 1
     funext b
     rw[BE hi,ZC,Sn];have:(b∈ZD c/\b≠c)↔(Dom ps BI c b/\b≠c):=by rw[(Z7 c wG).2.2]
     simp only[this])
   refine{_,e,?_};rw[AJ,ES,EA];have hh:∀φ:Int->Option Int,hush [4,5] (hE AI ps BI IV φ o4 o5)=hE AI ps BI IV φ AK AK:=λφ=>by cases o4<;>cases o5<;>rfl
   rw[hh]
   congr 1
   funext b
   have pw':zs.Pairwise λa b=>(cu ps BI xs b).length<=(cu ps BI xs a).length:=pw.imp_of_mem λ{a b} ha hb h=>by
    rw[NS a (pm.mem_iff.mp ha),NS b (pm.mem_iff.mp hb)] at h;lia
   by_cases eb:b=BI
   .rw[if_pos eb]
    exact Sk λc _ z=>z.2 (by rw[eb] at z ⊢;exact(Dt z.1).symm)
   .rw[if_neg eb]
    unfold hO
    by_cases hb:Rc ps [] BI b
    .rw[if_pos hb]
     obtain⟨h,I⟩:=Qx A hb eb;rw[Oo I];exact zPS A pm pw' I
    .rw[if_neg hb]
     exact Sk λc _ z=>hb z.1.1
 have hg:Rc ps [] BI BI:=.refl 's'
 have Kw:(λx=>if x=BI then AA BI else if x=BI then AK else hO ps BI x)=hO ps BI:=by
  funext x
  by_cases e:x=BI
  .rw[if_pos e,e];unfold hO;rw[if_pos hg,Qz]
  .rw[if_neg e,if_neg e]
 have s4:=cH (i:=3) (gk:=A6 1) (gv:=A6 1) (E:=hE AI ps BI IV (λb=>if b=BI then AK else hO ps BI b) AK AK) (E1:=hE AI ps BI IV (λb=>if b=BI then AK else hO ps BI b) AK AK) (E2:=hE AI ps BI IV (λb=>if b=BI then AK else hO ps BI b) AK AK) (t:=AD) (t2:=AD) (d0:=.lst (O2 AI.toNat λb=>if b=BI then AK else hO ps BI b)) (d:=.lst (O2 AI.toNat λb=>if b=BI then AK else hO ps BI b)) (v:=.int BI) (k:=.int BI) rfl rfl rfl rfl (Om h0 'l');rw[Kw] at s4;have fl:=Pp (hO ps BI) (ri AI.toNat)
 have lo:fF [3] (hE AI ps BI IV (hO ps BI) AK AK) (.tup (O2 AI.toNat (hO ps BI)))=AL:=by
  unfold fF;rw[D.flat,D.nod,O2,fl.1,fl.2];simp
 exact QU (HV (OU s1 rfl) (HV (aU (GA (x:=.lst [.non]) (y:=.int AI) rfl (GA (x:=GG AI ps) (y:=.int 0) rfl rfl rfl) (yAC (LA (HS h0 h1)) 'l'))) (HV s3 (HV s4 (RS (ZX (E':=OE [3] (hE AI ps BI IV (hO ps BI) AK AK)) (SZ (ds:=[.lst (O2 AI.toNat (hO ps BI))]) (LW rfl) rfl) lo)))))) rfl
end
section
variable{cl:List Int}{g p a b c x:Int}{L:List Int}
theorem WR:(a,b)∈back ps↔(b,a)∈ps:=by
 unfold back;rw[(sZ _).mem_iff];constructor
 .intro h
  obtain⟨q,hq,e⟩:=C1.mp h;cases e;exact hq
 .exact λh=>C1.mpr {_,h,rfl}
theorem Rc.trans(h1:Rc ps cl a b)(h2:Rc ps cl b c):Rc ps cl a c:=by
 induction h2 with
 |refl _=>exact h1
 |step _ e n ih=>exact .step ih e n
theorem Rc.rev(hq:∀a b,(a,b)∈ps->(b,a)∈qs)(h:Rc ps cl a b):Rc qs cl b a:=by
 induction h with
 |refl n=>exact .refl n
 |step h e n ih=>exact Rc.trans (.step (.refl n) (hq _ _ e) h.ne) ih
theorem Q9:Rc (back ps) cl b a↔Rc ps cl a b:={λh=>h.rev λ_ _ e=>WR.mp e,λh=>h.rev λ_ _ e=>WR.mpr e}
theorem Net.rg'(N:Net AI ps):Rg AI ps:={by have:=N.m1;lia,by have:=N.m2;lia,by have:=N.len;lia,λp hp=>let ⟨a,b,c,d,_⟩:=N.rg p hp;{a,b,c,d}}
theorem zV5(A:All ps g L){q h:Int}(I:IsH ps g q h):UH ps g L q=UH ps g L h++[q]:=(pO A).uniq (Srt.snoc A I (pO A))
theorem Db(R:Rg AI ps)(h0:0<=g)(h1:g<AI)(A:All ps g L)(q:Int):(UH ps g L q).length<=AI.toNat:=by
 have:=(pO (p:=q) A).pm.length_eq;have h2:=GO (λc=>decide (Dom ps g c q)) L;have h3:=Ol R h0 h1 A;unfold mu at this;lia
def mE(AI:Int)(ps:List (Int×Int))(g p:Int)(u:Sl):Ev:=[.val (.tup (O2 AI.toNat (hO ps g))),.val (.int p),u]
theorem Da(R:Rg AI ps)(h0:0<=g)(h1:g<AI)(p0:0<=p)(p1:p<AI):FI (.tup (O2 AI.toNat (hO ps g))) (.int p)=.ok (LZ (hO ps g p)):=yH7 (by rw[yAB p0 'l'])
theorem yAE(A:All ps g L)(R:Rg AI ps)(h0:0<=g)(h1:g<AI)(hm:AI<=24)(hp:Rc ps [] g p) :
  qF [.val (.tup (O2 AI.toNat (hO ps g))),.val (.int p)]=.ok (AD,.tup ((UH ps g L p).map D.int),.non):=by
 obtain⟨p0,p1⟩:=hp.range R h0 h1
 have t0:gB (g2 eT (g2 FI (A6 0) (A6 1)) (gC .non)) (mE AI ps g p .no)=.ok (AD,mE AI ps g p .no) :=
  PQ (GA (x:=LZ (hO ps g p)) (y:=.non) (GA (x:=.tup (O2 AI.toNat (hO ps g))) (y:=.int p) rfl rfl (Da R h0 h1 p0 p1)) rfl (by unfold hO;rw[if_pos hp];rfl))
 obtain⟨E',e,r,rfl,hr⟩:=sB (t:=UW [2] (gB (g2 NO (g2 FI (A6 0) (g2 FI (A6 2) (g1 SY (gC (.int 1))))) (g2 FI (A6 2) (g1 SY (gC (.int 1)))))))
  (g:=fB (RQ 2 WJ [(O0 [2] (g2 FI (A6 0) (g2 FI (A6 2) (g1 SY (gC (.int 1))))))]))
  (λn E=>∃r q,E=mE AI ps g p (.own AD (.lst ((r++[q]).map D.int)))/\Rc ps [] g q/\UH ps g L q++r.reverse=UH ps g L p/\n=(UH ps g L q).length)
  (λE=>∃r:List Int,E=mE AI ps g p (.own AD (.lst (r.map D.int)))/\r.reverse=UH ps g L p)
  (λn E hP=>by
   obtain⟨r,q,rfl,hq,hc,rfl⟩:=hP;obtain⟨q0,q1⟩:=hq.range R h0 h1;obtain⟨E0,dX⟩:∃E0,E0=OE [2] (mE AI ps g p (.own AD (.lst ((r++[q]).map D.int)))):={_,rfl};have last:FI (.lst ((r++[q]).map D.int)) (.int (-1))=.ok (.int q):=tD (by rw[GD];exact zTQ _ _);have lst:g2 FI (A6 2) (g1 SY (gC (.int 1))) E0=.ok (.int q,E0):=by rw[dX];exact GA (x:=.lst ((r++[q]).map D.int)) (y:=.int (-1)) rfl rfl last
   have hd:g2 FI (A6 0) (g2 FI (A6 2) (g1 SY (gC (.int 1)))) E0=.ok (LZ (hO ps g q),E0):=GA (x:=.tup (O2 AI.toNat (hO ps g))) (by rw[dX];rfl) lst (Da R h0 h1 q0 q1);have hh0:hO ps g q=AA (lW ps g q):=by unfold hO;rw[if_pos hq]
   rw[hh0] at hd;have t1:gB (g2 NO (g2 FI (A6 0) (g2 FI (A6 2) (g1 SY (gC (.int 1))))) (g2 FI (A6 2) (g1 SY (gC (.int 1))))) E0=.ok (decide (lW ps g q≠q),E0):=PQ (GA hd lst (sQ _ _));have EX:=congrArg MD hc;rw[BH,FH] at EX;have Lg:=Db R h0 h1 A p
   by_cases e:q=g
   .rw[decide_eq_false (λz=>z (by rw[e];exact Qz))] at t1
    refine .inl {_,Y3 (E':=E0) (by rw[<-dX];exact t1),r++[q],rfl,?_};rw[<-hc,e,(pO A).uniq (Srt.gate A (e▸hq))];simp
   .obtain⟨h,I⟩:=Qx A hq e
    rw[Oo I] at t1 hd;rw[decide_eq_true I.ne] at t1;have UN:=zV5 A I;rw[UN,BH,EQ] at EX
    have bd:O0 [2] (g2 FI (A6 0) (g2 FI (A6 2) (g1 SY (gC (.int 1))))) (mE AI ps g p (.own AD (.lst ((r++[q]).map D.int))))=.ok (.int h,mE AI ps g p (.own AD (.lst ((r++[q]).map D.int)))):=by
     refine ZX (E':=E0) ?_ rfl;rw[<-dX];exact hd
    refine .inr {_,_,_,Y3 (E':=E0) (by rw[<-dX];exact t1),xQ (pP (x:=.non) (i:=2) (t:=AD) (xs:=(r++[q]).map D.int) (VH:=(r++[q]++[h]).map D.int) rfl (LW bd) rfl ?_),?_,r++[q],h,rfl,I.dom.rc,?_,rfl}
    .show few _ (Out.ok (D.non,(r++[q]).map D.int++[.int h]))=_
     rw[ZQ (by rw[AJ,BH,EQ];lia),GD (l₁:=r++[q])];rfl
    .rw[UN,BH,EQ];lia
    .rw[<-hc,UN];simp) 100000 (UH ps g L p).length (mE AI ps g p (.own AD (.lst (([]++[p]).map D.int)))) (by have:=Db R h0 h1 A p;lia) {[],p,rfl,hp,by simp,rfl}
 obtain⟨E1,Zj⟩:∃E1,E1=OE [2] (mE AI ps g p (.own AD (.lst (r.map D.int)))):={_,rfl}
 have g1:zP (A6 2) (g1 SY (gC (.int 1))) E1=.ok (.lst ((UH ps g L p).map D.int),E1):=by
  rw[<-hr,gS,Zj];rfl
 refine QU (HV (UT t0 rfl) (HV (aU (d:=.lst [.int p]) rfl) (HV e (RS (ZX (d:=.tup ((UH ps g L p).map D.int)) (E':=E1) ?_ ?_))))) rfl
 .rw[<-Zj];exact SZ (LW g1) rfl
 .simp[fF,mE,tJ,Fz,D.flat,D.nod,Es,yT]
end
theorem Ds{gs:List G}{E:Ev}{ds:List D}(h1:NL gs E=.ok (ds,E'))(h2:m (ds.map Sl.val)=.bad):K8 m gs E=.bad:=HQ h1 (by show(m (ds.map Sl.val)).bind _=_;rw[h2];rfl)
theorem yAF{g:G}{t:Tg}{E:Ev}(h:g E=.bad):J0 t g E=.bad:=by unfold J0;rw[h];rfl
theorem Oj{g:G}{E:Ev}(h:g E=.bad):N4 g E=.bad:=by unfold N4;rw[h];rfl
theorem fn_bad{gb:GS}{sl:Ev}(h:gb (sl++BG (n-sl.length) .no)=.bad):PP n gb sl=.bad:=by unfold PP;rw[h];rfl
theorem yGF{t:Ev->Out (Bool×Ev)}{g:GX}{E:Ev}{r:Out Ev}(h:t E=.ok (AL,E1))(h2:g E1=r):zO t g E=r:=by
 unfold zO;rw[h];show(if AL=AL then g E1 else .bad)=r;rw[if_pos rfl];exact h2
theorem Vs{gs:List G}{mx:List D->Out Ev}{E z:Ev}{ds:List D}(h:NL gs E=.ok (ds,E1))(h2:mx ds=.ok z):Aa gs mx E=.ok E1:=HQ h (HQ h2 rfl)
theorem yD1{acc c:CT}{r:List (CT ⊕ G)}{E:Ev}:gJ acc (.inl c::r) E=gJ (acc++c) r E:=by rw[gJ]
theorem yD2{acc:CT}{g:G}{r:List (CT ⊕ G)}{E:Ev}{a:Int}(h:g E=.ok (.int a,E1))(h2:0<=a/\a<100):gJ acc (.inr g::r) E=gJ (acc++(toString a:CT)) r E1:=by
 rw[gJ];exact HQ h (if_pos h2)
noncomputable def kb:List D:=[.bl AL,.bl AD,.bl AD,.bl AD,.bl AD,.bl AD,.bl AD,.bl AD,.bl AD,.bl AD,.bl AL]
theorem yD3:Z1 (.lst []) (.lst [])=.ok (.bl AL):=zVG (Pls.lst (n:=59) (.nil _))
theorem yGG{g:GS}{gs:List G}{mx:List D->Out Ev}{bs:List Bool}{E:Ev}{r:Fl}(h:g E=.ok r):lV g gs mx ik ie bs E=.ok r:=by unfold lV;rw[h]
theorem yGH{g:GS}{gs:List G}{mx:List D->Out Ev}{bs:List Bool}{E z:Ev}{ds:List D}(h:g E=.bad)(h1:NL gs E=.ok (ds,E1))(h2:mx ds=.ok z):lV g gs mx ik ie bs E=.ok (.nx ((E1.set ik (.val (.lst (bs.map D.bl)))).set ie .no)):=by
 unfold lV;rw[h];exact HQ h1 (HQ h2 rfl)
section
variable{g p:Int}{L:List Int}
theorem zV6(A:All ps g L)(R:Rg AI ps)(h0:0<=g)(h1:g<AI)(hm:AI<=24)(hp:Rc ps [] g p):kF [.val (GG AI ps),.val (.int g),.val (.int p)]=.ok (AD,.tup ((UH ps g L p).map D.int),.non) :=
 QU (RS (Q7 (ds:=[.tup (O2 AI.toNat (hO ps g)),.int p]) (PZ (Q7 (ds:=[GG AI ps,.int g]) rfl (Sj R hm h0 h1)) rfl) (yAE A R h0 h1 hm hp))) rfl
theorem zV7(N:Net AI ps)(A:All (back ps) g L)(h0:0<=g)(h1:g<AI)(hp:Rc (back ps) [] g p):kH [.val (GG AI ps),.val (.int g),.val (.int p)]=.ok (AD,.tup ((UH (back ps) g L p).reverse.map D.int),.non):=by
 have iY:ps.length<10000:=by have:=N.len;lia
 have e:pA (K8 kF [(K8 fJ [(A6 0)]),(A6 1),(A6 2)]) (g1 SY (gC (.int 1))) [.val (GG AI ps),.val (.int g),.val (.int p)]=.ok (.tup ((UH (back ps) g L p).reverse.map D.int),[.val (GG AI ps),.val (.int g),.val (.int p)]):=by
  have a3:NL [(K8 fJ [(A6 0)]),(A6 1),(A6 2)] [.val (GG AI ps),.val (.int g),.val (.int p)]=.ok ([GG AI (back ps),.int g,.int p],[.val (GG AI ps),.val (.int g),.val (.int p)]):=PZ (Q7 (ds:=[GG AI ps]) rfl (Rf iY)) rfl;refine HQ (Q7 a3 (zV6 A N.back.rg' h0 h1 N.m2 hp)) ?_;rw[gS];exact HQ (a:=(.int (-1),[.val (GG AI ps),.val (.int g),.val (.int p)])) rfl rfl
 exact QU (RS e) rfl
theorem yD4{d:D}(h:kH [.val (GG AI ps),.val (.int g),.val (.int p)]=.ok (AD,d,.non)):p9 [.val (GG AI ps),.val (.int g),.val (.int p)]=.ok (AD,d,.non):=by
 refine QU (HV (OU (d:=.non) rfl rfl) (HV (OU (d:=.lst []) rfl rfl) (HV (E1:=[.val (GG AI ps),.val (.int g),.val (.int p),.val d,.val (.lst []),.no]) ?_ (RS (HQ (PQ (GA (x:=.lst []) (y:=.lst []) rfl rfl yD3)) (by rw[if_pos rfl];rfl)))))) rfl;have:J0 (.nm 3) (K8 kH [(A6 0),(A6 1),(A6 2)]) [.val (GG AI ps),.val (.int g),.val (.int p),.val .non,.val (.lst []),.no]=.ok (.nx [.val (GG AI ps),.val (.int g),.val (.int p),.val d,.val (.lst []),.no]):=OU (Q7 (ds:=[GG AI ps,.int g,.int p]) rfl h) rfl;exact yGG this
theorem yD5(N:Net AI ps)(h0:0<=g)(h1:g<AI)(p0:0<=p)(p1:p<AI)(hp:¬Rc (back ps) [] g p):p9 [.val (GG AI ps),.val (.int g),.val (.int p)]=.ok (AD,.lst kb,.non):=by
 have hm:=N.m2;have iY:ps.length<10000:=by have:=N.len;lia
 have R:=N.back.rg';have hh:=Sj R hm h0 h1
 have t:∀u,gB (g2 eT (g2 FI (A6 0) (A6 1)) (gC .non)) (mE AI (back ps) g p u)=.ok (AL,mE AI (back ps) g p u):=λu =>
  PQ (GA (x:=LZ (hO (back ps) g p)) (y:=.non) (GA (x:=.tup (O2 AI.toNat (hO (back ps) g))) (y:=.int p) rfl rfl (Da R h0 h1 p0 p1)) rfl (by unfold hO;rw[if_neg hp];rfl))
 have b1:qF [.val (.tup (O2 AI.toNat (hO (back ps) g))),.val (.int p)]=.bad:=by
  show PP 3 _ _=_;refine fn_bad ?_;show(OT _ _ _ (mE AI (back ps) g p .no)).bind _=_;rw[aP (t .no) rfl];rfl
 have b2:kF [.val (GG AI (back ps)),.val (.int g),.val (.int p)]=.bad:=fn_bad (Oj (Ds (ds:=[.tup (O2 AI.toNat (hO (back ps) g)),.int p]) (PZ (Q7 (ds:=[GG AI (back ps),.int g]) rfl hh) rfl) b1));have a3:NL [(K8 fJ [(A6 0)]),(A6 1),(A6 2)] [.val (GG AI ps),.val (.int g),.val (.int p)]=.ok ([GG AI (back ps),.int g,.int p],[.val (GG AI ps),.val (.int g),.val (.int p)]):=PZ (Q7 (ds:=[GG AI ps]) rfl (Rf iY)) rfl
 have b3:kH [.val (GG AI ps),.val (.int g),.val (.int p)]=.bad:=by
  have gb:pA (K8 kF [(K8 fJ [(A6 0)]),(A6 1),(A6 2)]) (g1 SY (gC (.int 1))) [.val (GG AI ps),.val (.int g),.val (.int p)]=.bad:=by
   unfold pA;rw[Ds a3 b2];rfl
  exact fn_bad (Oj gb)
 have j1:gJ OY [.inl "no way leads to ",.inr (A6 1)] (mE AI (back ps) g p .no)=.ok (.str (OY++"no way leads to "++(toString p:CT)),mE AI (back ps) g p .no):=by
  rw[yD1,yD2 (a:=p) (E1:=mE AI (back ps) g p .no) rfl {p0,by lia},gJ]
 obtain⟨z1,kX⟩:∃z,zJ [.tup (O2 AI.toNat (hO (back ps) g)),.int p]=.ok z:={_,show Fk (mE AI (back ps) g p .no)=_ from yGF (t .no) (HQ (LW j1) (ZQ (show 1<10000 by decide)))};obtain⟨z2,X8⟩:∃z,yL [GG AI (back ps),.int g,.int p]=.ok z:={_,show Dz [.val (GG AI (back ps)),.val (.int g),.val (.int p)]=_ from Vs (ds:=[.tup (O2 AI.toNat (hO (back ps) g)),.int p]) (PZ (Q7 (ds:=[GG AI (back ps),.int g]) rfl hh) rfl) kX};obtain⟨z3,Jf⟩:∃z,zI [GG AI ps,.int g,.int p]=.ok z:={_,show Fj [.val (GG AI ps),.val (.int g),.val (.int p)]=_ from Vs a3 X8};refine QU (HV (OU (d:=.non) rfl rfl) (HV (OU (d:=.lst []) rfl rfl) (HV (E1:=[.val (GG AI ps),.val (.int g),.val (.int p),.val .non,.val (.lst kb),.no]) ?_ (RS (HQ (PQ (GA (x:=.lst kb) (y:=.lst []) (d:=.bl AD) rfl rfl rfl)) (by rw[if_neg CN];rfl)))))) rfl;have:J0 (.nm 3) (K8 kH [(A6 0),(A6 1),(A6 2)]) [.val (GG AI ps),.val (.int g),.val (.int p),.val .non,.val (.lst []),.no]=.bad:=yAF (Ds (ds:=[GG AI ps,.int g,.int p]) rfl b3);exact yGH this (ds:=[GG AI ps,.int g,.int p]) (E1:=[.val (GG AI ps),.val (.int g),.val (.int p),.val .non,.val (.lst []),.no]) rfl Jf
end
theorem yAG:sY [.val (.int 0)]=.ok (AD,.lst kb,.non):=by
 rfl
theorem yAH(n:Nat)(a:Int):zAY (n+1) [.val (.int a),.val (.int a)]=.ok (AD,.bl AL,.non) :=
 QU (HV (UT (E1:=[.val (.int a),.val (.int a)]) (l8 (xP (d:=.int a) rfl) rfl) rfl) (RS (yF1 (E1:=[.val (.int a),.val (.int a)]) (yDE (xP (d:=.int a) rfl)) (GA (x:=.int a) (y:=.int a) rfl rfl (d:=.bl AL) (by rw[zZF];simp))))) rfl
theorem yAI{ds:List D}(hl:ds.length<10000)(h:∀d∈ds,zAY n [.val d,.val d]=.ok (AD,.bl AL,.non)):zAY (n+1) [.val (.tup ds),.val (.tup ds)]=.ok (AD,.bl AL,.non):=by
 have hc:V3 (Fu (A6 0) (A6 1)) 2 [] (.tp [(.nm 0),(.nm 1)]) V1 (K8 (zAY n) [(A6 0),(A6 1)]) [.val (.tup ds),.val (.tup ds)]=.ok (.lst ((l0 ds ds).map λ_=>.bl AL),[.val (.tup ds),.val (.tup ds)]):=by
  refine zVV (λE=>E.length=2) rfl rfl (by simpa[l0] using hl) (λd hd E hE=>?_) λEc _=>yA Ec 2 0 _;obtain⟨x,y,rfl⟩:=Cg hE;obtain⟨⟨p,q⟩,hp,rfl⟩:=C1.mp hd
  have NR:p=q/\p∈ds:=by
   obtain⟨i,hi⟩:=List.mem_iff_getElem?.mp hp;rw[VY] at hi;obtain⟨a,b⟩:=hi;rw[a] at b;exact{BL b,C4 a}
  obtain⟨rfl,hm⟩:=NR;exact{_,rfl,_,Q7 (ds:=[p,p]) rfl (h p hm),rfl}
 have t1:zS (iB (ZN (pB "tuple" (A6 0)))) (gB (g2 NO (gN RO [(A6 0)]) (gN RO [(A6 1)]))) [.val (.tup ds),.val (.tup ds)]=.ok (AD,[.val (.tup ds),.val (.tup ds)]) :=
  yF0 (Df (b:=AL) (l8 (xP (d:=.tup ds) rfl) rfl)) (PQ (GA (SZ (LW (d:=.tup ds) rfl) rfl) (SZ (LW (d:=.tup ds) rfl) rfl) (d:=.bl AD) (by rw[sQ];simp)))
 exact QU (sC (aP (E1:=[.val (.tup ds),.val (.tup ds)]) (l8 (xP (d:=.tup ds) rfl) rfl) (HV (UT t1 rfl) (RS (SZ (LW hc) (zVW _)))))) rfl
theorem zV8{xs:List Int}(hl:xs.length<10000):zAY 5 [.val (.tup (xs.map D.int)),.val (.tup (xs.map D.int))]=.ok (AD,.bl AL,.non) :=
 yAI (by rw[AJ];exact hl) λd hd=>by
  obtain⟨p,_,rfl⟩:=C1.mp hd;exact yAH 3 p
noncomputable instance rcDec (ps:List (Int×Int)) (cl:List Int) (g x:Int):Decidable (Rc ps cl g x):=SW _
section
variable{g p:Int}{L:List Int}
def RW(AI:Int)(ps:List (Int×Int))(g:Int):List Int:=(ri AI.toNat).filter λx=>decide (Rc ps [] x g)
theorem Oi(N:Net AI ps)(h0:0<=g)(h1:g<AI):All (back ps) g (RW AI ps g):={(Vl _).filter _,λx=>by
 unfold RW;rw[DI,decide_eq_true_eq,OH,Q9]
 exact{λz=>z.2,λz=>{by have:=(Q9.mpr z).range N.back.rg' h0 h1;lia,z}}}
theorem yD6(h:p∈RW AI ps g):0<=p/\p<AI:=by
 have:=OH.mp (DI.mp h).1;lia
theorem yAJ:(RW AI ps g).length<=AI.toNat:=AZ (GO _ _) (by rw[fD];exact AM _)
open Classical in
def tP(AI:Int)(ps:List (Int×Int))(p c:Int):List Int:=if h:∃fs:List Int,cG [.val (GG AI ps),.val (.int p),.val (.int c)]=.ok (AD,.lst (fs.map D.int),.non)/\∀x,x∈fs↔Rc ps [c] p x then h.choose else[]
theorem Mi(R:Rg AI ps)(p0:0<=p)(p1:p<AI)(c:Int):cG [.val (GG AI ps),.val (.int p),.val (.int c)]=.ok (AD,.lst ((tP AI ps p c).map D.int),.non)/\∀x,x∈tP AI ps p c↔Rc ps [c] p x:=by
 obtain⟨fs,e,_,m⟩:=Re (BV:=AA c) (BI:=p) R p0 p1;have h:∃fs:List Int,cG [.val (GG AI ps),.val (.int p),.val (.int c)]=.ok (AD,.lst (fs.map D.int),.non)/\∀x,x∈fs↔Rc ps [c] p x:={fs,e,m};unfold tP;rw[dif_pos h];exact h.choose_spec
abbrev XD(ps:List (Int×Int))(g:Int)(B:List Int):Int->D:=λp=>.tup ((UH (back ps) g B p).reverse.map D.int)
theorem zS7{l:List Int}(nd:l.Nodup)(hi:i<l.length):l[i]∉l.take i:=λz=>by
 have:(l.take (i+1)).Nodup:=nd.sublist (MC _ _);rw[BE hi,F8] at this;exact this.2.2 _ z _ (A3.mpr rfl) rfl
theorem yAK(N:Net AI ps)(h0:0<=g)(h1:g<AI):qA [.val (GG AI ps),.val (.int g)]=.ok (AD,.dk (OI (XD ps g (RW AI ps g)) (RW AI ps g)),.non):=by
 have R:=N.rg';have hm:=N.m2;have W2:=N.m1;obtain⟨B,hB⟩:∃B,B=RW AI ps g:={_,rfl};have A:All (back ps) g B:=by rw[hB];exact Oi N h0 h1
 have hBl:B.length<=AI.toNat:=by rw[hB];exact yAJ
 have Be:∀p∈B,0<=p/\p<AI:=λp h=>yD6 (by rw[<-hB];exact h)
 have c1:=Pt (gi:=ZR (g2 FI (A6 0) (gC (.int 0)))) (js:=[0,1]) (tt:=gB (g2 UG (A6 2) (K8 cG [(A6 1),(A6 0),(gC .non)]))) (E:=[.val (GG AI ps),.val (.int g),.no,.no,.no,.no,.no]) (E1:=[.val (GG AI ps),.val (.int g),.no,.no,.no,.no,.no]) (ns:=ri AI.toNat) (λx=>decide (Rc ps [] x g)) [.val (GG AI ps),.val (.int g)]
  ((xO (GA (x:=GG AI ps) (y:=.int 0) rfl rfl rfl) {by lia,by lia}).trans (by rw[Cf])) rfl (by rw[fD];lia)
  (λx hx=>by
   have:=OH.mp hx;obtain⟨fs,e,_,mf⟩:=Re (BV:=AK) (BI:=x) R this.1 'l';refine PQ (GA (x:=.int g) (y:=.lst (fs.map D.int)) rfl (Q7 (ds:=[GG AI ps,.int x,.non]) rfl e) ?_)
   rw[Oe,decide_eq_decide.mpr (mf g)];rfl) (λu=>rfl)
 have hc1:(ri AI.toNat).filter (λx=>decide (Rc ps [] x g))=B:=by rw[hB];rfl
 rw[hc1] at c1;have gt:=yDO (m:=cG) (E:=[.val (GG AI ps),.val (.int g),.val (.lst (B.map D.int)),.own AD (.dk []),.no,.no,.no]) (net:=GG AI ps) (gi:=g) (L:=B) (left:=tP AI ps) {rfl,A.nd,by lia,λp hp c _=>{_,_,(Mi R (Be p hp).1 (Be p hp).2 c).1}}
 have vT:jZ B g (tP AI ps)=.dk (OI (λp=>.lst ((mu (back ps) g B p).map D.int)) B):=by
  unfold jZ OI
  congr 1
  refine IU λp hp=>?_
  congr 3
  refine eO λc hc=>decide_eq_decide.mpr ?_;rw[(Mi R (Be p hp).1 (Be p hp).2 c).2 g];exact{λz=>{(A.mem p).mp hp,λq=>z (Q9.mp q)},λz q=>z.2 (Q9.mpr q)}
 rw[vT] at gt;obtain⟨TK,hr⟩:∃TK,TK=OI (λp=>.lst ((mu (back ps) g B p).map D.int)) B:={_,rfl};rw[<-hr] at gt;have dO:∀p∈B,FI (.dk TK) (.int p)=.ok (.lst ((mu (back ps) g B p).map D.int)):=λp hp=>by rw[hr];exact Gd (sU hp)
 have Kg:∀p,(mu (back ps) g B p).length<64:=λp=>by
  have:=GO (λc=>decide (Dom (back ps) g c p)) B;unfold mu;lia
 obtain⟨E',e,u4,rfl⟩:=iE (gi:=MZ (A6 2)) (t:=.nm 4) (g:=Q8 6 (A6 4) (gN bW [(sD (g2 FI (A6 3) (A6 4)) [3] (g2 bX (gC (.int 0)) (gN RO [(g2 FI (A6 1) (A6 0))])))]))
  (E:=[.val (GG AI ps),.val (.int g),.val (.lst (B.map D.int)),.val (.dk TK),.no,.no,.own AD (.dk [])]) (E1:=[.val (GG AI ps),.val (.int g),.val (.lst (B.map D.int)),.val (.dk TK),.no,.no,.own AD (.dk [])]) (ds:=B.map D.int)
  (λi E=>∃u4,E=[.val (GG AI ps),.val (.int g),.val (.lst (B.map D.int)),.val (.dk TK),u4,.no,.own AD (.dk (OI (XD ps g B) (B.take i)))])
  (kB rfl) {_,rfl}
  (λi x E hx hP=>by
   obtain⟨u4,rfl⟩:=hP;rw[AU] at hx;obtain⟨p,hp,rfl⟩:=BR.mp hx;obtain⟨hi,bD⟩:=AR.mp hp;have hpB:=C4 hp;have S:=pO (p:=p) A
   have ks:=zV4 (zs:=(UH (back ps) g B p).reverse) (Pq (gl:=g2 FI (A6 3) (A6 4)) (ge:=g2 bX (gC (.int 0)) (gN RO [(g2 FI (A6 1) (A6 0))])) (js:=[3]) (E:=[.val (GG AI ps),.val (.int g),.val (.lst (B.map D.int)),.val (.dk TK),.val (.int p),.no,.own AD (.dk (OI (XD ps g B) (B.take i)))]) (λc=>0-((mu (back ps) g B c).length:Int))
    (GA (x:=.dk TK) (y:=.int p) rfl rfl (dO p hpB)) (ds:=[.dk TK]) rfl (Kg p) λc hc=>GA (x:=.int 0) (y:=.int ((mu (back ps) g B c).length:Nat)) rfl (SZ (LW (GA (x:=.dk TK) (y:=.int c) rfl rfl (dO c (DI.mp hc).1))) (Vr (by rw[AJ]))) rfl) ((List.reverse_perm _).trans S.pm) (YV.mpr (S.pw.imp λh=>by lia))
   refine{_,rfl,_,cH (i:=6) (t:=AD) (d:=.dk (OI (XD ps g B) (B.take i))) (v:=XD ps g B p) (k:=.int p) (d':=.dk (OI (XD ps g B) (B.take (i+1)))) rfl (SZ (LW ks) rfl) rfl rfl ?_,_,rfl};rw[Vp (by unfold OI;rw[AJ,EZ];lia),BE hi,bD]
   congr 2
   exact Ps (f:=XD ps g B) (by rw[<-bD];exact zS7 A.nd hi))
 rw[AJ,EA] at e;rw[<-hB];exact QU (HV (OU c1 rfl) (HV (aU (d:=.dk []) rfl) (HV gt (HV (aU (d:=.dk []) rfl) (HV e (RS rfl)))))) rfl
end
theorem zV9(f:α->β)(xs:List α)(lo hi:Option Int):ZO (xs.map f) lo hi=(ZO xs lo hi).map f:=by
 unfold ZO;rw[AJ,<-List.map_drop,<-List.map_take]
theorem yAL(ns:List Int):∃c:Int,qC [.val (.lst (ns.map D.int)),.val (.int 0)]=.ok (AD,.int c,.non):=by
 unfold qC
 cases ns with
 |nil=>exact{0,QU (HV (UT (E1:=[.val (.lst []),.val (.int 0)]) (PQ (GA (x:=.int 0) (y:=.int 0) rfl (SZ (LW (d:=.lst []) rfl) rfl) rfl)) rfl) (RS (d:=.int 0) rfl)) rfl}
 |cons n ns =>
  refine{n,QU (sC (E1:=[.val (.lst ((n::ns).map D.int)),.val (.int 0)]) (aP (E1:=[.val (.lst ((n::ns).map D.int)),.val (.int 0)]) (PQ (GA (x:=.int 0) (y:=.int ((n::ns).map D.int).length) rfl (SZ (LW (d:=.lst ((n::ns).map D.int)) rfl) rfl) ?_)) (RS (GA (x:=.lst ((n::ns).map D.int)) (y:=.int 0) rfl rfl (lX (xs:=[]) 'd' rfl))))) rfl};simp only[aW];rw[decide_eq_true (by simp only[AV,BB];lia)]
theorem Oh{f:Int->D}{p:Int}:∀{L:List Int},p∉L->NK (OI f L) (.inl p)=AK
 |[],_=>rfl
 |x::L,h=>by
  unfold NK OI;rw[AV,DU];have:decide ((CS x:Key)=CS p)=AD:=decide_eq_false λz=>h (by rw[IC z];exact A8);simp only[this];exact Oh (L:=L) λz=>h (A4 _ z)
theorem zWA{f:Int->D}{p:Int}{L:List Int}:S8 (.int p) (.dk (OI f L))=.ok (.bl (decide (p∉L))):=by
 simp only[S8,UG,hG,fA,GT]
 by_cases h:p∈L
 .rw[sU h];simp[Out.bind,h]
 .rw[Oh h];simp[Out.bind,h]
section
variable{sc:D}{n g p:Int}{u5 u6:Sl}
def lE(sc:D)(n AI:Int)(ps:List (Int×Int))(g:Int)(u5 u6:Sl):Ev:=[.val sc,.val (.int n),.val (GG AI ps),.val (.int g),.val (.dk (OI (XD ps g (RW AI ps g)) (RW AI ps g))),u5,u6]
abbrev Gk:GS:=G5 (J0 (.nm 6) (K8 p9 [(A6 2),(A6 3),(A6 5)]))
 (OT (gB (g2 S8 (A6 5) (A6 4)))
 (OT (gB (g2 NO (A6 6) (K8 sY [(gC (.int 0))])))
 (N4 (gC (.bl AD)))
 RV)
 (OT (iB (ZN (K8 (zAY 5) [(A6 6),(g2 FI (A6 4) (A6 5))])))
 (N4 (gC (.bl AD)))
 RV))
theorem yGI(N:Net AI ps)(h0:0<=g)(h1:g<AI)(p0:0<=p)(p1:p<AI):∃v6,Gk (lE sc n AI ps g (.val (.int p)) u6)=.ok (.nx (lE sc n AI ps g (.val (.int p)) v6)):=by
 have A:=Oi N h0 h1;have hm:=N.m2
 have tn:∀{v6:Sl},gB (g2 S8 (A6 5) (A6 4)) (lE sc n AI ps g (.val (.int p)) v6)=.ok (decide (p∉RW AI ps g),lE sc n AI ps g (.val (.int p)) v6):=λ{v6} =>
  PQ (GA (x:=.int p) (y:=.dk (OI (XD ps g (RW AI ps g)) (RW AI ps g))) rfl rfl zWA)
 by_cases hp:Rc (back ps) [] g p
 .have fS:p∈RW AI ps g:=(A.mem p).mpr hp
  have ht:=yD4 (zV7 N A h0 h1 hp)
  have hl:(UH (back ps) g (RW AI ps g) p).reverse.length<10000:=by
   have:=Db N.back.rg' h0 h1 A p;rw[FH];lia
  refine{_,HV (E1:=lE sc n AI ps g (.val (.int p)) (.val (XD ps g (RW AI ps g) p))) (OU (Q7 (ds:=[GG AI ps,.int g,.int p]) rfl ht) rfl) (UT (E1:=lE sc n AI ps g (.val (.int p)) (.val (XD ps g (RW AI ps g) p))) (tn.trans (by rw[decide_eq_false (λz=>z fS)])) (UT (E1:=lE sc n AI ps g (.val (.int p)) (.val (XD ps g (RW AI ps g) p))) (Df (b:=AL) (l8 (Q7 (ds:=[XD ps g (RW AI ps g) p,XD ps g (RW AI ps g) p]) ?_ (zV8 hl)) rfl)) rfl))};exact PZ (E1:=lE sc n AI ps g (.val (.int p)) (.val (XD ps g (RW AI ps g) p))) rfl (LW (GA (x:=.dk (OI (XD ps g (RW AI ps g)) (RW AI ps g))) (y:=.int p) rfl rfl (Gd (sU fS))))
 .have fS:p∉RW AI ps g:=λz=>hp ((A.mem p).mp z)
  have ht:=yD5 N h0 h1 p0 p1 hp;exact{_,HV (E1:=lE sc n AI ps g (.val (.int p)) (.val (.lst kb))) (OU (Q7 (ds:=[GG AI ps,.int g,.int p]) rfl ht) rfl) (aP (E1:=lE sc n AI ps g (.val (.int p)) (.val (.lst kb))) (tn.trans (by rw[decide_eq_true fS])) (UT (PQ (GA (x:=.lst kb) (y:=.lst kb) rfl (Q7 (ds:=[.int 0]) rfl yAG) (d:=.bl AD) rfl)) rfl))}
end
theorem law_true:∀ns:List Int,ns.length<=63->∃b d',m_law [.val (.lst (ns.map D.int))]=.ok (b,.bl AL,d'):=by
 intro ns i4;obtain⟨c,ec⟩:=yAL ns;obtain⟨sc,Yq⟩:∃sc:D,sc=.lst (ns.map D.int):={_,rfl}
 have Z7:(ZO ns (AA 1) (AA 8)).length<=63:=by
  unfold ZO;rw[EZ,RM];lia
 obtain⟨E',e,u1,u2,u3,u4,u5,u6,rfl⟩:=iE (gi:=MZ (g2 NB (J5 [(K8 qC [(A6 0),(gC (.int 0))])]) (Cn (A6 0) (AA (gC (.int 1))) (AA (gC (.int 8)))))) (t:=.nm 1)
  (g:=(G5 (J0 (.tp [(.nm 2),(.nm 3)]) (pG pX (pI qB [(A6 1),(gC (.int 0))]) [(g2 FI (J5 [(gC (.int 24)),(gC (.int 12))]) (g2 RP (A6 1) (gC (.int 2))))]))
 (G5 (J0 (.nm 4) (K8 qA [(A6 2),(A6 3)]))
 (QT (ZR (g2 FI (A6 2) (gC (.int 0)))) (.nm 5) Gk)))) (E:=[.val sc,.no,.no,.no,.no,.no,.no]) (E1:=[.val sc,.no,.no,.no,.no,.no,.no]) (ds:=(c::ZO ns (AA 1) (AA 8)).map D.int)
  (λi E=>∃u1 u2 u3 u4 u5 u6,E=[.val sc,u1,u2,u3,u4,u5,u6])
  (by
   rw[Yq];refine kB (GA (x:=.lst [.int c]) (y:=.lst ((ZO ns (AA 1) (AA 8)).map D.int)) (j5 (LW (Q7 (ds:=[.lst (ns.map D.int),.int 0]) rfl ec)) (show 1<10000 by decide)) ?_ ?_)
   .rw[<-zV9];rfl
   .exact Vq (by rw[AJ];show 1+_<10000;lia) rfl) {_,_,_,_,_,_,rfl}
  (λi x E hx hP=>by
   obtain⟨u1,u2,u3,u4,u5,u6,hE⟩:=hP;subst hE;rw[AU] at hx;obtain⟨n,_,rfl⟩:=BR.mp hx;refine{_,rfl,?_};obtain⟨w,ew,B⟩:=zZV n
   obtain⟨DZ,hmo,W2,XN⟩:∃DZ:Int,FI (.lst [.int 24,.int 12]) (.int (n % 2))=.ok (.int DZ)/\1<=DZ/\DZ<=24:=by
    rcases Int.emod_two_eq n with h|h<;>rw[h]
    .exact{24,rfl,by decide,by decide}
    .exact{12,rfl,by decide,by decide}
   obtain⟨AI,ps,BI,d',en,N,_,h0,h1,_⟩:=zZ8 (DZ:=DZ) B 'd' W2 XN;have hm:=N.m2;have W2:=N.m1
   have s1:J0 (.tp [(.nm 2),(.nm 3)]) (pG pX (pI qB [(A6 1),(gC (.int 0))]) [(g2 FI (J5 [(gC (.int 24)),(gC (.int 12))]) (g2 RP (A6 1) (gC (.int 2))))]) [.val sc,.val (.int n),u2,u3,u4,u5,u6]=.ok (.nx [.val sc,.val (.int n),.val (GG AI ps),.val (.int BI),u4,u5,u6]) :=
    OU (zVJ (E1:=[.val sc,.val (.int n),u2,u3,u4,u5,u6]) (zVK (ds:=[.int n,.int 0]) rfl ew) (LW (d:=.int DZ) (GA (x:=.lst [.int 24,.int 12]) (y:=.int (n % 2)) rfl (GA (x:=.int n) (y:=.int 2) rfl rfl (jS 'd')) hmo)) en) rfl
   have s2:J0 (.nm 4) (K8 qA [(A6 2),(A6 3)]) [.val sc,.val (.int n),.val (GG AI ps),.val (.int BI),u4,u5,u6]=.ok (.nx (lE sc n AI ps BI u5 u6)):=OU (Q7 (ds:=[GG AI ps,.int BI]) rfl (yAK N h0 h1)) rfl
   obtain⟨E9,e9,v5,v6,rfl⟩:=iE (gi:=ZR (g2 FI (A6 2) (gC (.int 0)))) (t:=.nm 5) (g:=Gk) (E:=lE sc n AI ps BI u5 u6) (E1:=lE sc n AI ps BI u5 u6) (ds:=SX 0 AI.toNat)
    (λi E=>∃v5 v6,E=lE sc n AI ps BI v5 v6) (xO (GA (x:=GG AI ps) (y:=.int 0) rfl rfl rfl) {by lia,by lia}) {_,_,rfl} (λi x E hx hP=>by
    obtain⟨v5,v6,rfl⟩:=hP;rw[Cf,AU] at hx;obtain⟨p,hp,rfl⟩:=BR.mp hx;obtain⟨p0,p1⟩:=OH.mp (C4 hp);obtain⟨w6,er⟩:=yGI (sc:=sc) (n:=n) (u6:=v6) N h0 h1 p0 'l'
    exact{_,rfl,_,er,_,_,rfl})
   exact{_,HV s1 (HV s2 e9),_,_,_,_,_,_,rfl})
 refine{AD,.non,?_};rw[<-Yq];exact QU (HV e (RS (d:=.bl AL) rfl)) rfl
structure FA(K:AC)(x:CT)(st:E6)(f:AQ)(fd:JR):Prop where
 a:BW K BK x=AA (AA (.ref f))
 F:Fun K x x st f fd
section
variable{K:AC}{st:E6}
theorem fa{kV dc:AH}{sl:Array (Option AH)}(a:BW K BK x=AA (AA (.ref f)))(l:K.lookup f=AA {oc,od,.func (E7 x x (cD st) (V6 st) (J1 st) .none kV dc pm an cd ct),sl})(c:ID K cd x=AL)(k:EO K (.ref f)=AL):FA K x st f (E7 x x (cD st) (V6 st) (J1 st) .none kV dc pm an cd ct):={a,xM l c k}
theorem FA.cal{P:CQ}{w:D3}{mg:CT->Option AH}{base h:D4}{ps:List CT}{k np:Nat}{m:Mr}(A:FA K x st f fd)(X:K.In h)(G:h.Ns BK mg)(o:FnOk P w K mg base LM k f fd ps (NM K np m))(b:Binds K fd ps []):NP P w K mg base x k np m:=Fun.cal A.F o (C0 X G A.a) b
abbrev bA(x:CT)(st:E6)(us:List AH)(r:List (CT×AH)):Prop:=∀(kV SF pm:AH) (an:Option AQ) (G6 ct:AH),OA (E7 x x (cD st) (V6 st) (J1 st) .none kV SF pm an G6 ct) {us,[]}=pure r
theorem FA.b1{p:CT}(A:FA K x st f fd)(h:∀u,bA x st [u] [(p,u)]:=by exact λ_ _ _ _ _ _ _=>rfl):Binds K fd [p] []:=A.F.binds λ_ _ _ _ _ _ us hl=>by
 match us,hl with
 |[u],_=>exact h u _ _ _ _ _ _
theorem FA.b2{p:CT}(A:FA K x st f fd)(h:∀u v,bA x st [u,v] [(p,u),(q,v)]:=by exact λ_ _ _ _ _ _ _ _=>rfl):Binds K fd [p,q] []:=A.F.binds λ_ _ _ _ _ _ us hl=>by
 match us,hl with
 |[u,v],_=>exact h u v _ _ _ _ _ _
theorem FA.b3{p r:CT}(A:FA K x st f fd)(h:∀u v w,bA x st [u,v,w] [(p,u),(q,v),(r,w)]:=by exact λ_ _ _ _ _ _ _ _ _=>rfl):Binds K fd [p,q,r] []:=A.F.binds λ_ _ _ _ _ _ us hl=>by
 match us,hl with
 |[u,v,w],_=>exact h u v w _ _ _ _ _ _
end
theorem all_mk{l:Q1}{K:AC}{fa f0 f1 f2 f3 f4 f5 f6 f7 f8 f9 f10 f11 f12 f13 f14 f15 Lq Lp f18 f19 f20 Lo:AQ}{d0 d1 d2 d3 d4 d5 d6 d7 d8 d9 d10 d11 d12 lL dY d15 d18 d19 Bh:JR}(X:K.In h)(G:h.Ns BK mg)(hfa:mg "law"=AA (.ref fa))
  (x0:FA K "turned" Dv f0 d0)
  (x1:FA K "next_places" zK f1 d1)
  (x2:FA K "musts_held" zD f2 d2)
  (x3:FA K "_law_cell" Fe f3 d3)
  (x4:FA K "_law_well" Fc f4 d4)
  (x5:FA K "_law_take" Ez f5 d5)
  (x6:FA K "_law_reach" Fi f6 d6)
  (x7:FA K "_law_kinds" Fh f7 d7)
  (x8:FA K "_law_only" Ey f8 d8)
  (x9:FA K "lanes_away" Fg f9 d9)
  (Hl:FA K "_law_shuffled" Fq f10 d10)
  (Hk:FA K "reached_past" Fo f11 d11)
  (Hi:FA K "_law_net" Et f12 d12)
  (Hh:FA K "reached" Ep f13 lL)
  (Hg:FA K "cut_off" Eo f14 dY)
  (uA:FA K "_law_is" En f15 d15)
  (nH:FA K "musts" xN f18 d18)
  (nG:FA K "musts_back" zC f19 d19)
  (Hf:FA K "_law_told" Ew f20 Bh)
  {Iq Mc:Option AQ} {Hx:Array (Option AH)} {Iv Jd Lw Ic Lz Ii:AH}
  {o7 T16:AQ} {uE:Array AH} {Im:Option AQ} {Hu:Array (Option AH)}
  (Me:BW K BK "holders"=AA (AA (.ref Lq))) (Yl:K.lookup Lq=AA {Iv,Iq,.func (E7 "holders" "holders" (cD p7) (V6 p7) (J1 p7) .none Jd Lw Ic Mc (.ref o7) Lz),Hx}) (c16:ID K (.ref o7) "holders"=AL) (k16:EO K (.ref Lq)=AL) (n16:K.lookup o7=AA {Ii,Im,.fields uE,Hu}) (r16:uE[11]?=AA (.ref T16))
  {Ip Mb:Option AQ} {Hw:Array (Option AH)} {Iu Jc Lv Ib Ly Ih:AH}
  {oZ T17:AQ} {uD:Array AH} {Il:Option AQ} {Ht:Array (Option AH)}
  (Md:BW K BK "_law_back"=AA (AA (.ref Lp))) (Yk:K.lookup Lp=AA {Iu,Ip,.func (E7 "_law_back" "_law_back" (cD qD) (V6 qD) (J1 qD) .none Jc Lv Ib Mb (.ref oZ) Ly),Hw}) (c17:ID K (.ref oZ) "_law_back"=AL) (k17:EO K (.ref Lp)=AL) (n17:K.lookup oZ=AA {Ih,Il,.fields uD,Ht}) (r17:uD[11]?=AA (.ref T17))
  {Io wW:Option AQ} {Hv:Array (Option AH)} {Ir vF wP uT wR oY:AH}
  (a21:BW K BK "law"=AA (AA (.ref Lo))) (l21:K.lookup Lo=AA {Ir,Io,.func (E7 "law" "law" (cD g7) (V6 g7) (J1 g7) .none vF wP uT wW oY wR),Hv}) (c21:ID K oY "law"=AL) (k21:EO K (.ref Lo)=AL)
  {y0 y1 y2 y3 y4 y5 y6 y7 y8 y9 WA:AQ} (yW:BW K BK "WayError"=AA (AA (.ref WA))) (Xi:BW K BK "NotReached"=AA (AA (.ref y0))) (ya1:BW K BK "NoPaper"=AA (AA (.ref y1))) (ya2:BW K BK "TooMany"=AA (AA (.ref y2))) (ya3:BW K BK "NoSuch"=AA (AA (.ref y3))) (ya4:BW K BK "NoLane"=AA (AA (.ref y4))) (ya5:BW K BK "NoRound"=AA (AA (.ref y5))) (ya6:BW K BK "NoText"=AA (AA (.ref y6))) (ya7:BW K BK "NoRow"=AA (AA (.ref y7))) (ya8:BW K BK "NoPlace"=AA (AA (.ref y8))) (ya9:BW K BK "NothingLeft"=AA (AA (.ref y9)))
  (ye0:BQ K (.ref y0) (.ref y0)=AA AL) (ye1:BQ K (.ref y0) (.ref y1)=AA AD) (ye2:BQ K (.ref y0) (.ref y2)=AA AD) (ye3:BQ K (.ref y0) (.ref y3)=AA AD) (ye4:BQ K (.ref y0) (.ref y4)=AA AD) (ye5:BQ K (.ref y0) (.ref y5)=AA AD) (ye6:BQ K (.ref y0) (.ref y6)=AA AD) (ye7:BQ K (.ref y0) (.ref y7)=AA AD) (ye8:BQ K (.ref y0) (.ref y8)=AA AD) (ye9:BQ K (.ref y0) (.ref y9)=AA AD) (He:BQ K (.ref y0) (.type "ValueError")=AA AL) (yx:NY K (.ref y0) (.ref WA)=AA AL) (yz:ExK K y0 [.type "ValueError",.type "Exception",.type "BaseException",.type "object"] "ValueError.__new__")
  (U4:BW K BK "ValueError"=AA AK) (t9:BW K BK "all"=AA AK) (nE:BW K BK "bool"=AA AK) (WT:BW K BK "enumerate"=AA AK) (U3:BW K BK "isinstance"=AA AK) (t8:BW K BK "len"=AA AK) (nD:BW K BK "list"=AA AK) (t7:BW K BK "min"=AA AK) (iN:BW K BK "range"=AA AK) (cQ:BW K BK "sorted"=AA AK) (iM:BW K BK "tuple"=AA AK) (tZ:BW K BK "zip"=AA AK) :
  ∃fd:JR,(∀(s:AT) (v:AH),UB s fd {[v],[]} [("script",v)])/\∀base:D4,K.In base->base.Ns BK mg->CB K base->FnOk l.prog w K mg base LM 10 fa fd ["script"] (NM K 1 m_law):=by
 have e:=hfa.symm.trans (C0 X G a21);cases e;have T:Bt mg:={DS X G U4,DS X G t9,DS X G nE,DS X G WT,DS X G U3,DS X G t8,DS X G nD,DS X G t7,DS X G iN,DS X G cQ,DS X G iM,DS X G tZ};have Mh:=xM (st:=p7) Yl c16 k16;have Mg:=xM (st:=qD) Yk c17 k17;have F21:=xM (st:=g7) l21 c21 k21;refine{E7 "law" "law" (cD g7) (V6 g7) (J1 g7) .none vF wP uT wW oY wR,λs v=>.of_eq rfl,λbase _ _ cb=>?_};have uG:=tabIn_of Me Yl rfl n16 r16;have uF:=tabIn_of Md Yk rfl n17 r17;have q0:=x0.cal X G (zSL (P:=l.prog) (w:=w) (base:=base) x0.F T ) x0.b1;have q1:=x1.cal X G (zHQ (P:=l.prog) (w:=w) (base:=base) x1.F T ) x1.b1;have q2:=x2.cal X G (zJ0 (P:=l.prog) (w:=w) (base:=base) x2.F T ) x2.b2;have MO:=pAO x2.F (zJ1 (P:=l.prog) (w:=w) (base:=base) x2.F T (C0 X G Xi) yz.ex ) (C0 X G x2.a) x2.b2;have q3:=x3.cal X G (zL2 (P:=l.prog) (w:=w) (base:=base) x3.F T ) x3.b2;have q4:=x4.cal X G (zL3 (P:=l.prog) (w:=w) (base:=base) x4.F T ) x4.b2;have q5:=x5.cal X G (zL4 (P:=l.prog) (w:=w) (base:=base) x5.F T ) x5.b2;have q6:=x6.cal X G (zJ2 (P:=l.prog) (w:=w) (base:=base) x6.F T ) x6.b3;have ts:TryS l.prog w K mg base y0 WA f7 [AL,AD,AD,AD,AD,AD,AD,AD,AD,AD,AL]:={ku x7.F T x7.b1 yz (C0 X G Xi) ye0 (C0 X G ya1) ye1 (C0 X G ya2) ye2 (C0 X G ya3) ye3 (C0 X G ya4) ye4 (C0 X G ya5) ye5 (C0 X G ya6) ye6 (C0 X G ya7) ye7 (C0 X G ya8) ye8 (C0 X G ya9) ye9 He,C0 X G x7.a,x7.F.kp,C0 X G yW,yx};have q8:=x8.cal X G (zL5 (P:=l.prog) (w:=w) (base:=base) x8.F T ) x8.b1;have q9:=x9.cal X G (zJ3 (P:=l.prog) (w:=w) (base:=base) x9.F T q1) x9.b3;have q10:=Hl.cal X G (zF3 (P:=l.prog) (w:=w) (base:=base) Hl.F T q5) Hl.b2;have Yb:=Hk.cal X G (zHC (P:=l.prog) (w:=w) (base:=base) Hk.F T q9) Hk.b3;have q12:=Hi.cal X G (zNN (P:=l.prog) (w:=w) (base:=base) Hi.F T q5 q10) Hi.b2;have Ya:=Hh.cal X G (zPP (P:=l.prog) (w:=w) (base:=base) Hh.F T Yb) Hh.b2;have q14:=Hg.cal X G (zPQ (P:=l.prog) (w:=w) (base:=base) Hg.F T Ya Yb) Hg.b3;have q15:NP l.prog w K mg base "_law_is" 5 2 (zAY 5):=uA.cal X G (Su uA.F T (C0 X G uA.a) uA.b2  5) uA.b2;have Xz:=Fun.cal Mh (zPR (P:=l.prog) (w:=w) (base:=base) Mh T rfl (cb "holders" (by decide +kernel) _ _ uG) {"holders",_,by decide +kernel,uG,rfl} q14 Ya) (C0 X G Me) (FA.b2 {Me,Mh});have q17:=Fun.cal Mg (zL9 (P:=l.prog) (w:=w) (base:=base) Mg T rfl (cb "_law_back" (by decide +kernel) _ _ uF) {"_law_back",_,by decide +kernel,uF,rfl} q6) (C0 X G Md) (FA.b2 {Md,Mg});have Xy:=nH.cal X G (zVO (P:=l.prog) (w:=w) (base:=base) nH.F T q2 Xz) nH.b3;have U5:=pAO nH.F (zVP (P:=l.prog) (w:=w) (base:=base) nH.F T MO q2 Xz) (C0 X G nH.a) nH.b3;have q19:=nG.cal X G (zJ5 (P:=l.prog) (w:=w) (base:=base) nG.F T Xy q0) nG.b3;have MP:=pAO nG.F (zJ6 (P:=l.prog) (w:=w) (base:=base) nG.F T U5 Xy q0) (C0 X G nG.a) nG.b3;have q20:=Hf.cal X G (zMA (P:=l.prog) (w:=w) (base:=base) Hf.F T ts MP q19) Hf.b3;exact yDR F21 T q12 q17 q3 q4 q20 q8 q15
end My
namespace PySem.W.Fast
theorem tw11993888060728795684:True:=trivial
theorem tw11769216706859107214:True:=trivial
theorem tw7270651700217524843:True:=trivial
theorem tw1220682259986639676:True:=trivial
theorem tw2733342725849439512:True:=trivial
theorem tw6173370384078008806:True:=trivial
theorem tw6428053871054762383:True:=trivial
theorem tw5033231590812490481:True:=trivial
theorem tw1970970831222480639:True:=trivial
theorem tw4483476019127558288:True:=trivial
theorem tw10484431832738512321:True:=trivial
theorem tw807444135193150221:True:=trivial
theorem tw907107171900693693:True:=trivial
theorem tw15331745909531484516:True:=trivial
theorem tw15272321324252738047:True:=trivial
theorem tw6479544933243477915:True:=trivial
theorem tw278160467013359591:True:=trivial
theorem tw1128632493864579571:True:=trivial
theorem tw10273667551476696079:True:=trivial
theorem tw577155001696107301:True:=trivial
theorem tw8714675050197018611:True:=trivial
theorem tw5287879173400713955:True:=trivial
theorem tw203854145399211240:True:=trivial
theorem tw18298819942492846344:True:=trivial
theorem tw4032791192991476820:True:=trivial
theorem tw3549178219462826356:True:=trivial
theorem tw17969518672069757506:True:=trivial
theorem tw2821462296327576309:True:=trivial
theorem tw3983504601105649736:True:=trivial
theorem tw17663175435644158805:True:=trivial
theorem tw14547960953704532743:True:=trivial
theorem tw10271169049673090444:True:=trivial
theorem tw5944414423138756007:True:=trivial
theorem tw8397958852136954335:True:=trivial
theorem tw14666510744696483040:True:=trivial
theorem tw15569624531047806797:True:=trivial
theorem tw7989186566987206466:True:=trivial
theorem tw10033302734599694724:True:=trivial
theorem tw10852267448293831708:True:=trivial
theorem tw11287546596064649680:True:=trivial
theorem tw3122758422247642626:True:=trivial
theorem tw8053371073632931636:True:=trivial
theorem tw18430014951316238937:True:=trivial
theorem tw17473523778886328305:True:=trivial
theorem tw13855791474231573177:True:=trivial
theorem tw13049303064457958300:True:=trivial
theorem tw5549521087469887454:True:=trivial
theorem tw5877704818281081869:True:=trivial
theorem tw10831198627842973137:True:=trivial
theorem tw8898994268202569852:True:=trivial
theorem tw10139005636477549547:True:=trivial
theorem tw16198324270118212646:True:=trivial
theorem tw13624132279814341812:True:=trivial
theorem tw3331393076130017665:True:=trivial
theorem tw9942465502627677418:True:=trivial
theorem tw16360664533340515239:True:=trivial
theorem tw2441834313085634734:True:=trivial
theorem tw8504936498571230920:True:=trivial
theorem tw4756511362312707897:True:=trivial
theorem tw16028084992541411845:True:=trivial
theorem tw3386167308349071586:True:=trivial
theorem tw9037515292374817096:True:=trivial
theorem tw3506874670960702198:True:=trivial
theorem tw9982396540188227399:True:=trivial
theorem tw18158310525040035308:True:=trivial
theorem tw5331877729960513248:True:=trivial
theorem tw3580657840306814223:True:=trivial
theorem tw16781946557962693636:True:=trivial
theorem tw9326172945519930699:True:=trivial
theorem tw12011384515311921841:True:=trivial
theorem tw9373153991369858518:True:=trivial
theorem tw13981092466996330203:True:=trivial
theorem tw11506180941823650870:True:=trivial
theorem tw517339575226501615:True:=trivial
theorem tw2635968244841636232:True:=trivial
theorem tw13768013002331826380:True:=trivial
theorem tw8856348800838467970:True:=trivial
theorem tw5167041154927057321:True:=trivial
theorem tw15521539248397274674:True:=trivial
theorem tw3505581627351403254:True:=trivial
end PySem.W.Fast
open PySem PySem.W PyProof.Rows
set_option maxRecDepth 100000 in
set_option maxHeartbeats 0 in
theorem PySem.Challenge.cw_waymusts_k19_musts_back_holds : PySem.Challenge.rw_waymusts_k19_musts_back.Holds := by
 w_on;o_law;k_head;(case hw=>w_witness2)
 k_fill
 refine L2.walk_v (l:=PySem.Challenge.rw_waymusts_k19_musts_back) (m:=My.m_law) (lv:=10) rfl rfl {rfl,by decide,by decide,rfl} (λw h Y=>PySem.W.km_in_of Y) ?tK My.law_true ?F
 case tK =>
  intro w;refine' L2.tabs5 ?h1 ?h2 ?h3 ?h4 ?h5 ?ap
  (case h1=>refine' L2.TabE.tab (L2.tabIn_of ?a ?l ?e ?m ?r) ?o ?d;(case a=>k_is);(case l=>k_is);(case e=>exact rfl);(case m=>k_is);(case r=>exact rfl);(case o=>kernel_rfl);(case d=>exact rfl))
  (case h2=>refine' .no ?z;(case z=>k_is))
  (case h3=>refine' L2.TabE.tab (L2.tabIn_of ?a ?l ?e ?m ?r) ?o ?d;(case a=>k_is);(case l=>k_is);(case e=>exact rfl);(case m=>k_is);(case r=>exact rfl);(case o=>kernel_rfl);(case d=>exact rfl))
  (case h4=>refine' .no ?z;(case z=>k_is))
  (case h5=>refine' L2.TabE.tab (L2.tabIn_of ?a ?l ?e ?m ?r) ?o ?d;(case a=>k_is);(case l=>k_is);(case e=>exact rfl);(case m=>k_is);(case r=>exact rfl);(case o=>kernel_rfl);(case d=>exact rfl))
  (case ap=>decide)
 case F =>
  intro w mg fa h KX G vX;refine' My.all_mk KX G vX ?_ ?_ ?_ ?_ ?_ ?_ ?_ ?_ ?_ ?_ ?_ ?_ ?_ ?_ ?_ ?_ ?_ ?_ ?_ ?_ ?_ ?_ ?_ ?_ ?r16 ?_ ?_ ?_ ?_ ?_ ?r17 ?_ ?_ ?_ ?_ ?_ ?_ ?_ ?_ ?_ ?_ ?_ ?_ ?_ ?_ ?_ ?_ ?_ ?_ ?_ ?_ ?_ ?_ ?_ ?_ ?_ ?_ ?_ ?_ ?_ ?_ ?_ ?_ ?_ ?_ ?_ ?_ ?_ ?_ ?_ ?_
  any_goals (refine' My.fa ?a ?l ?c ?k;(case a=>k_is);(case l=>k_is);(case c=>k_is);(case k=>k_is))
  any_goals k_is
  (case r16=>exact rfl)
  (case r17=>exact rfl)
  any_goals kernel_rfl
  any_goals (refine' L2.ExK.mk ?a ?_ ?_ ?_ ?_ ?_ ?_ ?_;(case a=>k_exc);all_goals k_is)
