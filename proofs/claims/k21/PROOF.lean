import PyProof.Rows.All
import Wide.All
import OpenK.AllK
import Wide.FinOn
import Lean
import PyProof.EqAt
import PyProof.EqKinds
import PyProof.TupleCall
import KE.KSortKey
import KE.KDflt
import PyProof.Rows.SortRuns
import PyProof.DictCompW
import KE.KLam
import PyProof.Rows.StrRev
import PyProof.WalksMore
import PyProof.ReprRoads
import PyProof.CallStr
import PyProof.AttrMissHeap
import KE.KDictOf
import KE.KTryMore
import OpenK.KOwn
import PyProof.RulesAs
import PyProof.RulesDel
import KE.KDictList
import PySem.Challenge.RW_waymusts_k21_whole_posts
set_option autoImplicit false
set_option linter.all false
set_option Elab.async false
set_option maxRecDepth 100000
set_option maxHeartbeats 8000000
local macro_rules (kind:=«term{_}»)|`(«term{_}»|{$x,*})=>`(⟨$x,*⟩)
local macro_rules|`('l')=>`(by lia)
local macro_rules|`('d')=>`(by decide)
local macro_rules|`('s')=>`(by simp)
local macro_rules|`('o')=>`(by omega)
noncomputable section
open Option renaming some→AA,none→AL,map_eq_some_iff→BY,map_some→JD,isSome_map→P8,map→Z2,getD_none→cI
open Bool renaming false→AC,true→AK,false_ne_true→B9,false_eq_true→EA,and_eq_true→EB,not_eq_true'→MU,eq_false_iff→RA,and_false→U6,true_and→W1,and_eq_true_iff→Z7,or_eq_true→kH,eq_iff_iff→kI,false_and→mT
open PySem renaming wpAny_bind→AB,Value→AJ,starEach→AO,Shared→AS,Addr→AT,wpAny→A1,model→A4,mainGlobals→BK,foldedSetIterable→CM,wpAny_holding→CS,Program→CU,wpAny_setField_rec→CW,wpAny_call_entry→CY,Str→C2,wpAny_newObj_type→C8,wpAny_callSpecial?_slot→C9,Expr→DA,wpAny_mono→DB,wpAny_field→DC,backTo→DT,Around→DU,behindInMarks→D4,Heap→D7,World→D8,Builtin→EF,compareOp→EZ,rawInt→E7,wpAny_rule→FC,Stmt→FF,letOwnedTupleGo→FP,Spec→FV,sizeLine_eq→FZ,cLine→GB,bootBuiltins→GL,wpAny_attempt→GQ,wpAny_seqItems→GU,sysModules→GV,codeAny→GY,PyData→G9,wpAny_pyIter_list→HD,binaryOp→HE,assignEach→HL,swapsWith→HS,wpAny_typeNameOfWhole_keyiter→IA,wpAny_Call_Name_kw→ID,Obj→IF,wpAny_passesOwn→IH,wpAny_execs_nil→II,wpAny_standAt→IM,DictEntry→IR,wpAny_truthy_bool→IT,holding→IU,mem_of_lookup→IZ,standAt→JH,wpAny_typeNameOf_keyiter→JW,wpAny_comprehension_free→JX,attributeBase→JY,FuncData→JZ,tupleKind_room_in1→J7,pyNext→J8,wpAny_dictEntries→KP,IsPair→KR,wpAny_execs_cons→LD,call_meets→LF,assign→LG,sliceBounds→LS,codeAny_builtin→MC,codeAny_mono→MO,Keyword→MS,wpAny_newTuple→M3,builtinsNs→M5,wpAny_pyIter_slot→NS,Scope→NT,wpAny_onRaise→N6,wpAny_newList→N7,pyIter→N8,tupleKind→OJ,setField→OK,bindArgs→OL,wpAny_typeOf→O0,codeAny_compStart_list→O2,wpAny_dictEpoch→PB,wpAny_notOrdered_dict→PU,wpAny_isOneOf_keyiter→PV,wpAny_updateSeq_pair→QL,wpAny_setField→QM,wpAny_pyIter_keyiter→QN,wpAny_letGo→QO,wpAny_fieldsOf→QP,keywordEach→QQ,firstArgMember→QR,IsPart→QS,getItem→Q4,codeAmong→Q5,callerA→Q6,field→R1,wpAny_pyIter_tuple→SZ,wpAny_call→S7,Sem→TC,wpAny_Assign_Name→UF,valueAt→UG,relabel→UH,concat_meets→UI,NameKind→UO,BindsTo→US,wpAny_isInstance→V6,wpAny_eqBool_int→V7,noFill_tuple_add→V8,isTrue→V9,PassesOwn→WC,seqIndex_of→WT,again→WV,Env→XT,wpAny_newFunctionEnv_cells→YX,wpAny_load→YY,isSubtype_stop→Y0,compTurn→Y1,compEnvC→Y2,closureFor→Y3,backToKw→Y4,atKey→Y5,ReadsAll→Y6,swapsWithSole→aS,swappedStores→aT,seq_tuple_add→aU,plainId_quiet→aV,call→aW,noteFrame→cB,bindL→cC,bindC→cD,Reads→cE,isCodeTable→cF,wpAny_pyNext_list_item→eX,dictSet→fC,Fin→fH,wpAny_pyNext_list_end→hU,codeAny_call_function→hV,Pos→iB,wpAny_of_eq→jY,wpAny_newFunctionEnv→jZ,wpAny_mkInt→j3,loadIfAlive→j4,getAttr?→j6,compPost→j8,codeAny_call_builtin→j9,Tok→kB
open PySem.W renaming Frag→AD,kitOne→BU,nsIn→BX,kia_one→DG,mg_none_of→DK,mg_of→DQ,tabIn→ET,keepIn→FD,fnOf→FN,codeIn→JP,excIn→KB,hideAll→KQ,tabObj→LH,findIn→LI,CodeHd→LJ,kitx_dict→L6,cellsFrom_some→M8,kla_obj→NE,exmOne→OA,hideAll_get→OM,callWith_K→O3,methodObj→PX,kitx_list→PY,envX→PZ,instObj→RK,OpenLaw→RL,KatTups→RM,lookIn→TD,mroIn→UK,of_hideAll→Y7,kitx_tuple→Y8,codeRec_of→Y9,specialIn→Z1,plainGet→aX,kat_kind→aY,kat_cons→aZ,takesIn→cG,kat_yes→cH,kla_fn→fD,kat_no→fE,kat_lt→fF,kat_go→fG,WalkO→hZ
open PySem.Heap renaming get?_push_of_some→AF,get?_push_size→AV,lt_size→A5,SameBut→DS,size_push→FI,get?_push_ne→MT,size_update→NH,get?_update_self→OH,get?_update_ne→PF,get?_update_other→X4,get?_none_of_le→Z5,ExtBut→Z6
open Array renaming getElem_mem→AH,getElem?_eq_some_iff→CO,getElem?_toList→C3,perm_iff_toList_perm→EH,size_push→EI,toList_append→ER,toList_push→FG,mem_toList_iff→FR,length_toList→HA,mem_push→HF,size_append→IB,size_extract→JJ,toList_extract→KW,forIn_toList→LX,size_setIfInBounds→MV,toList_reverse→OO,toList_setIfInBounds→UT,eraseIdxIfInBounds→WF,append_empty→bC
open List renaming length_map→AI,getElem?_eq_some_iff→AQ,map_cons→AU,getElem?_map→AX,mem_cons_of_mem→AZ,mem_cons_self→A2,size_toArray→A3,mem_cons→A7,getElem?_set_ne→A8,mem_singleton→BB,length_cons→BD,getElem?_set_self→BE,mem_append_right→BG,replicate→BH,getElem?_eq_getElem→BL,length_append→BO,mem_map→BQ,not_mem_nil→BZ,getElem?_append_right→B0,mem_append→CA,length_set→CC,getElem?_append_left→CF,take_succ_eq_append_getElem→CH,flatMap_cons→CI,mem_filter→CN,append_assoc→CP,length_replicate→C5,mem_of_getElem?→DH,mem_append_left→DI,range→DL,map_map→DR,pairwise_map→DY,getElem?_replicate→D5,find?_cons→EK,append_nil→EL,pairwise_iff_getElem→EO,drop_eq_getElem_cons→EQ,replicate_succ→ES,length_range→EU,any_cons→EV,nodup_cons→FK,getElem?_cons_succ→FW,nil_append→FY,take_length→GF,length_take→GG,nodup_nil→GK,length_filter_le→GO,flatten_cons→GZ,drop_eq_nil_of_le→HP,of_mem_zip→HW,map_append→HX,pairwise_append→IN,mem_range→IP,getD_eq_getElem?_getD→IQ,getElem_mem→IV,filter_cons→IW,getElem?_range→I0,filterMap_cons→JA,mem_filterMap→JL,pairwise_mergeSort→JQ,take_of_length_le→J2,nodup_append→J3,singleton_append→KG,length_singleton→KH,zipIdx_cons→KJ,any_eq_true→KL,length→K0,length_nil→K6,foldl_cons→K7,mergeSort_perm→LK,pairwise_cons→L7,drop_zero→L8,any_eq_false→MR,lookup_cons→NF,cons_append→NG,map_nil→NU,forIn_cons→OB,getElem?_eq_none→OG,mem_iff_getElem→OR,forIn_nil→OS,map_congr_left→PD,zip_cons_cons→P9,ext_getElem?→Q9,eraseIdxIfInBounds_toArray→RO,length_drop→R8,isEmpty_iff→R9,eq_nil_iff_forall_not_mem→SC,perm_ext_iff_of_nodup→U4,getElem?_zip_eq_some→WE,getElem?_take_of_lt→W0,pairwise_singleton→XR,eraseIdx_cons_succ→XS,perm_append_comm→ZA,eq_nil_or_concat→ZB,dropLast_eq_take→ZC,reverse_append→a9,length_pos_iff→bB,foldl→cJ,append_of_mem→cK,take_sublist→fJ,reverse_cons→fK,foldl_append→fL,find?_append→fM,filter_congr→fN,reverse_nil→iF,perm_middle→iG,mem_flatMap→iH,all_eq_true→iI,zipIdx_nil→kF,range_succ→kG
open Nat renaming le_refl→AM,lt_of_lt_of_le→AN,lt_of_le_of_lt→AR,le_trans→AY,le_add_right→A6,add_lt_add_left→A9,ne_of_lt→BM,zero_le→BP,le_of_lt→CV,le_of_eq→C0,lt_trans→C4,sub_le→C7,lt_or_eq_of_le→DN,lt_succ_self→DW,le_add_left→DX,add_le_add→EJ,zero_add→EN,ne_of_gt→EY,le_of_not_lt→E8,lt_of_succ_le→FX,lt_irrefl→GE,lt_of_le_of_ne→GN,lt_succ_of_lt→G0,le_of_lt_succ→G1,succ_le_of_lt→J9,le_succ→K3,le_max_right→NL,add_sub_cancel_left→NM,min_le_left→UN,not_lt→WD,lt_trichotomy→iD,lt_succ_of_le→iE,not_lt_of_le→kD,lt_of_not_le→kE,le_max_left→mQ
open PyProof.Rows renaming arrOf→A0,Keyed→BA,wpS_pure→BC,wpS_bind→BI,SortSt→BS,pendingOf→DM,seqObj→DZ,slot_tuple_getitem→ED,SortKind→FL,callWith_type1→FS,wpS_forRange→FU,IntsAre→GC,pairsOf→GW,envOfC→G7,wpS_mono→JV,wpS_modify→M1,pairsOf_toList→M4,wpS_get→NR,AllBare→NW,wpS→N5,listUpdate_at→N9,mirror→O1,wpS_lift→QK,size_push'→S8,IsTup→UQ,seqEpoch_at→WU,get?_update_seq→XO,entry_list_sort→XQ,slot_list_sort→YZ,numOf→cA,subscriptTail_builtinR→eY,plain_sorted→eZ,listItems_at→fA,entry_sorted→fB,kind_sorted→j5,failedOf→j7,entry_tuple_getitem→mM
open Option.some renaming inj→BJ,injEq→WZ
open Or renaming inl→BN,inr→D2
open PySem.Builtin.SmallTypes renaming nextOf→CJ,ownedTupleIsFree→C1,ownedTupleHandOut→HN
open Sum renaming inl→CZ,inr→RJ
open PySem.Obj renaming mapSeq→C6,data_mapFields→ME,isFreed_of_fields→Z3,cls_mapFields→iC
open List.Nodup renaming length_le_of_subset→DD
open PySem.PassesOwn renaming never→DE
open PySem.Value renaming ref→DP,none→GH,bool→JI,builtin→MP,int→M6,type→UJ,str→WW,isStrOf→mO
open PySem.PyData renaming eqv→D0,canLayAll0→FT,depth→F9,canLay0→LN,depthAll→NK,int→PC
open PySem.Str renaming ofString→EX
open Ne renaming symm→FO
open PySem.F renaming slot_enumerate_next→F7,plainAttrs_list→G8,args_tuple_add_2→MD,entry_tuple_add→MQ,slot_tuple_add→M9,slot_dict_get→NJ,args_enumerate_next_1→Q7,entry_enumerate_next→RN,slot_enumerate_iter→R7,type_list_append→UL,slot_list_append→UM,plain_list_iadd→U2,args_dict_get_3→U3,entry_dict_get→WB,type_list_pop→WX,slot_list_pop→WY
open True renaming intro→GJ
open PySem.Heap.SameBut renaming update→GR
open List.Perm renaming refl→G2,swap→H9,append_left→JT,trans→KI,eq_of_pairwise→LU,append_right→UP
open Prod renaming snd→HH,fst→Q8,ext→mP
open Int renaming le_refl→HQ,lt_of_le_of_lt→HU,emod_lt_of_pos→JR,emod_nonneg→LL,le_trans→LW,toNat_natCast→MW,le_of_lt→RP,ne_of_lt→ZD,le_total→ZE,le_antisymm→mR
open PySem.Builtin.Slice renaming slicePlaces→HY,sliceAdjust→KS,sliceApplied→P3
open PySem.Builtin.Tuple renaming tupleExact→IE,tupleItemsOf→P1,tupleIsExact→P2
open PySem.Builtin.List renaming listTooLong→IG
open False renaming elim→IJ
open PySem.Around renaming under_plainId→KM,frames_deeper→X5
open Decidable renaming not_not→LO
open Sum.inl renaming inj→LZ
open PySem.Calls renaming call_function_entry→MF,callWith_builtin→NN,evalArgs_plain→ON,spliced_cons→P0,Name_function_global→UR,spliced_nil→cL
open PySem.SeqAt renaming eqAt_reads→M7,eqv_refl→kC
open PySem.Builtin.Dict_items renaming ownsTuple→NV
open List.Pairwise renaming nil→OC,map→U5
open Array.Perm renaming refl→QA
open ForInStep renaming yield→QT
open PySem.Builtin.Dict renaming dictSlotNone→QU,updateFrom→RQ,showsAll→TJ
open PySem.W.KatTups renaming nil→R6
open PySem.Data renaming cell→SD,fields→TH,seq→mS
open Classical renaming byContradiction→SE
open PyProof.Rows.IntsAre renaming int_at→TF
open And renaming intro→TK
open PyProof.Rows.SortSt renaming mk'→TZ
open Function renaming comp→T0
open PySem.W.Looks renaming now→U1
open PySem.Shared renaming heap→X3
open List.cons renaming injEq→Z4
open PySem.NameKind renaming free→fI
open Prod.mk renaming injEq→iA
open PySem
variable{κ α:Type}{a it dx C f:AT}{h h' h1 base:D7}{items:Array AJ}{P prog:CU}{w:D8}{AG:List (AT×IF)}{s s':AS}{t' i j k n:Nat}{ch fp:List AT}{N:List C2}{x name qual:C2}{M:Model}{A:DU}{E Q:AJ->AS->Prop}{u cd pm ct oc:AJ}{e c tg J0:DA}{pos NI p XA MB VY:iB}{es:List DA}{body:List FF}{op:CmpOp}{CK us:List AJ}{mA mg:C2->Option AJ}{fd:JZ}{scope:NT}{outer:List XT}{FJ:Arguments}{an od:Option AT}{ps:List C2}
namespace L2
open PySem PySem.Spec PyProof.Rows
abbrev Key:=Sum Int C2
noncomputable def nE:Key->AJ->Bool
 |.inl k,v=>Value.isInt k v
 |.inr x,v=>mO x v
def yH5(w:D8):Key->Int
 |.inl k=>hashInt k
 |.inr x=>hashStr w x
theorem cY:∀{k:Key} {v:AJ},nE k v=AK->(∃i t,k=CZ i/\v=M6 i t)\/(∃x t,k=RJ x/\v=WW x t)
 |.inl i,v,h=>by
  obtain⟨t,e⟩:=Value.isInt_shape (k:=i) (v:=v) h;exact .inl {i,t,rfl,e}
 |.inr x,v,h=>by
  obtain⟨t,e⟩:=Value.isStrOf_shape (x:=x) (v:=v) h;exact .inr {x,t,rfl,e}
theorem zQ7(i:Int)(t:kB):nE (.inl i) (.int i t)=AK:=by simp[nE,Value.isInt]
theorem zQ8(x:C2)(t:kB):nE (.inr x) (.str x t)=AK:=by simp[nE,mO]
theorem yBX(a b:Int):decide ((CZ a:Key)=CZ b)=(a==b):=by
 by_cases e:a=b
 .subst e;simp
 .have h:¬(CZ a:Key)=CZ b:=λq=>e (LZ q)
  rw[decide_eq_false h];exact(beq_eq_false_iff_ne.mpr e).symm
theorem yBY(a b:C2):decide ((RJ a:Key)=RJ b)=decide (a=b):=by
 by_cases e:a=b
 .subst e;simp
 .have h:¬(RJ a:Key)=RJ b:=λq=>e (Sum.inr.inj q)
  rw[decide_eq_false h,decide_eq_false e]
theorem yBZ(a:Int)(b:C2):decide ((CZ a:Key)=RJ b)=AC:=decide_eq_false (λq=>nomatch q)
theorem yB0(a:C2)(b:Int):decide ((RJ a:Key)=CZ b)=AC:=decide_eq_false (λq=>nomatch q)
def T5(prog:CU)(w:D8):PySem.KeyKind prog w Key where
 is:=nE
 hash:=yH5 w
 inj:=λv a b ha hb=>by
  rcases cY ha with⟨i,t,rfl,rfl⟩|⟨x,t,rfl,rfl⟩
  .rcases cY hb with⟨j,u,rfl,e⟩|⟨y,u,rfl,e⟩
   .injection e with e1 _;rw[e1]
   .exact nomatch e
  .rcases cY hb with⟨j,u,rfl,e⟩|⟨y,u,rfl,e⟩
   .exact nomatch e
   .injection e with e1 _;rw[e1]
 byValue:=λk v h=>by
  rcases cY h with⟨i,t,rfl,rfl⟩|⟨x,t,rfl,rfl⟩<;>rfl
 pyHash:=λhv h=>by
  rcases cY hv with⟨i,t,rfl,rfl⟩|⟨x,t,rfl,rfl⟩
  .exact wpAny_pyHash_int h
  .exact wpAny_pyHash_str h
 eqBool:=λhu hv h=>by
  rcases cY hu with⟨i,t,rfl,rfl⟩|⟨x,t,rfl,rfl⟩
  .rcases cY hv with⟨j,u,rfl,rfl⟩|⟨y,u,rfl,rfl⟩
   .rw[yBX] at h;exact V7 h
   .rw[yBZ] at h;exact SeqAt.EqAt.int_str i t y u _ _ _ _ h
  .rcases cY hv with⟨j,u,rfl,rfl⟩|⟨y,u,rfl,rfl⟩
   .rw[yB0] at h;exact SeqAt.EqAt.str_int x t j u _ _ _ _ h
   .rw[yBY] at h;exact wpAny_eqBool_str h
 «strs»:=λk x t v h=>by
  rcases cY h with⟨i,u,rfl,e⟩|⟨y,u,rfl,e⟩
  .exact nomatch e
  .injection e with e1 _
   subst e1;cases v<;>rfl
theorem Um(prog:CU)(w:D8)(k:Key)(v:AJ):(T5 prog w).is k v=nE k v:=rfl
theorem zNF(prog:CU)(w:D8)(i:Int)(t:kB):(T5 prog w).is (.inl i) (.int i t)=AK:=zQ7 i t
theorem zNG(prog:CU)(w:D8)(x:C2)(t:kB):(T5 prog w).is (.inr x) (.str x t)=AK:=zQ8 x t
inductive V where
 |non|bl (b:Bool)|int (i:Int)|str (x:C2)|byt (b:Array UInt8)|flt (b:UInt64)|ref (a:AT)|ty (n:String)
 deriving DecidableEq
def RelV:V->AJ->Prop
 |.non,u=>u=GH
 |.bl b,u=>u=JI b
 |.int i,u=>∃t,u=M6 i t
 |.str x,u=>∃t,u=WW x t
 |.byt b,u=>∃t,u=Value.bytes b t
 |.flt b,u=>∃t,u=Value.float b t
 |.ref a,u=>u=DP a
 |.ty n,u=>u=UJ n
abbrev Vals:List V->List AJ->Prop:=Paired RelV
theorem Vals.length{xs:List V}{us:List AJ}(r:Vals xs us):xs.length=us.length:=Paired.length r
theorem Vals.get:∀{xs:List V} {us:List AJ} {i:Nat} {x:V},Vals xs us->xs[i]?=AA x->∃u,us[i]?=AA u/\RelV x u
 |_,_,_,_,.nil,e=>by simp at e
 |_,_,0,_,.cons r _,e=>by simp at e;subst e;exact{_,rfl,r}
 |_,_,i+1,x,.cons _ t,e=>by
  obtain⟨u,h1,h2⟩:=Vals.get (i:=i) (x:=x) t (by simpa using e);exact{u,by simpa using h1,h2}
theorem Vals.set{x:V}{u:AJ}(r:RelV x u):∀{xs:List V} {us:List AJ} (i:Nat),Vals xs us->Vals (xs.set i x) (us.set i u)
 |_,_,_,.nil=>.nil
 |_,_,0,.cons _ t=>.cons r t
 |_,_,i+1,.cons q t=>.cons q (Vals.set r i t)
theorem Vals.append:∀{xs ys:List V} {us ws:List AJ},Vals xs us->Vals ys ws->Vals (xs++ys) (us++ws)
 |_,_,_,_,.nil,s=>s
 |_,_,_,_,.cons r t,s=>.cons r (Vals.append t s)
theorem Vals.take:∀{xs:List V} {us:List AJ} (n:Nat),Vals xs us->Vals (xs.take n) (us.take n)
 |_,_,0,_=>.nil
 |_,_,_+1,.nil=>.nil
 |_,_,n+1,.cons r t=>.cons r (Vals.take n t)
theorem Vals.drop:∀{xs:List V} {us:List AJ} (n:Nat),Vals xs us->Vals (xs.drop n) (us.drop n)
 |_,_,0,r=>r
 |_,_,_+1,.nil=>.nil
 |_,_,n+1,.cons _ t=>Vals.drop n t
def RelO:Option V->Option AJ->Prop
 |some v,AA u=>RelV v u
 |none,AL=>True
 |_,_=>False
def KV:List (κ×V)->List (κ×AJ)->Prop:=Paired λ(p:κ×V) (q:κ×AJ)=>p.1=q.1/\RelV p.2 q.2
def kV:Key->V
 |.inl i=>.int i
 |.inr x=>.str x
inductive HO where
 |lst (xs:List V)
 |tup (xs:List V)
 |dK (kvs:List (Key×V))|dT (kvs:List (List Key×V))
 |set (S:Int->Bool) (n:Nat)
 |ins (C dx:AT) (fs:List (C2×V))
 |own (x:AT)
 |xd (fs:List (C2×V))
 |met (f x:AT)
 |rng (lo hi:Int)
 |frz (o:IF) (u:HO)
 |tbl (q:C2) (ps:Array AJ)
 |ext (φ:D7->Prop)
abbrev Hp:=AT->Option HO
def D3(H:Hp)(a:AT)(o:HO):Hp:=λb=>if b=a then AA o else H b
variable{H:Hp}{o:HO}
theorem HJ:D3 H a o a=AA o:=by unfold D3;rw[if_pos rfl]
theorem FH{b:AT}(h:b≠a):D3 H a o b=H b:=by unfold D3;rw[if_neg h]
theorem zYF{u:HO}:D3 (D3 H a o) a u=D3 H a u:=by
 funext b;unfold D3;split<;>rfl
theorem Xw{b:AT}{u:HO}(h:H a=AA o)(h':H b=AA u)(d:o≠u):a≠b:=by
 intro e;subst e;rw[h] at h';exact d (BJ h')
theorem W6{b:AT}(h:H a=AA o)(h':H b=AL):a≠b:=by
 intro e;subst e;rw[h] at h';cases h'
def IsTupP(h:D7)(a:AT)(items:Array AJ):Prop:=∃o,h.get? a=AA o/\o.cls=.type "tuple"/\o.dict=AL/\∃n,o.data=.seq items n
theorem IsTupP.isTup(p:IsTupP h a items):UQ h a items:=let ⟨o,e,c,_,n⟩:=p;{o,e,c,n}
theorem IsTupP.new(h:D7)(items:Array AJ):IsTupP (h.push { cls:=.type "tuple",data:=.seq items }) h.objs.size items:={_,AV _ rfl,rfl,rfl,_,rfl}
section
variable(P:CU)(w:D8)
def ObjOk(H:Hp)(h:D7)(a:AT):HO->Prop
 |.lst xs=>xs.length<=sizeLine/\∃(CK:List AJ) (n:Nat),Vals xs CK/\h.get? a=AA { cls:=.type "list",data:=.seq CK.toArray n }
 |.tup xs=>xs.length<=sizeLine/\∃CK:List AJ,Vals xs CK/\IsTupP h a CK.toArray
 |.dK kvs=>kvs.length<=sizeLine/\(a==GV)=AC/\∃vs,KV kvs vs/\h.DictOf (T5 P w) a vs
 |.dT kvs=>kvs.length<=sizeLine/\(a==GV)=AC/\∃xs:List (List Key×AT×AJ),
   Paired (λ(p:List Key×V) (q:List Key×AT×AJ)=>p.1=q.1/\H q.2.1=AA (.tup (p.1.map kV))/\RelV p.2 q.2.2) kvs xs /\
   ∃o es ep,h.get? a=AA o/\o.ExactDict/\o.data=.dict es ep/\es.toList=xs.map (entryOfKey (OJ (T5 P w)))/\(xs.map (·.1)).Nodup
 |.set S n=>h.SetOf (intKind P w) a S n
 |.ins C dx fs=>H dx=AA (.own a)/\fs.length<=1000/\dx≠a/\h.get? a=AA (RK C dx) /\
   ∃mA,h.Ns1 dx mA/\(∀f,RelO (fs.lookup f) (mA f))/\PySem.Within mA (fs.map (·.1))
 |.own _=>∃o,h.get? a=AA o
 |.xd fs=>∃mA,h.Ns1 a mA/\∀f,RelO (fs.lookup f) (mA f)
 |.rng lo hi=>∃t u v,h.get? a=AA { cls:=.type "range",data:=.fields #[.int lo t,.int hi u,.int 1 v] }
 |.frz o u=>h.get? a=AA o/\ObjOk H h a u
 |.tbl q ps=>h.get? a=AA { cls:=.none,data:=.fields ps }/\TriplesOk ps.toList/\∀pos cv,Q5 pos ps.toList=AA cv->∃c' o vs t,cv=.ref c'/\H c'=AA (.frz o (.own c'))/\o.data=.fields vs/\vs[1]?=AA (.str q t)
 |.met f x=>h.get? a=AA (PX (.ref f) (.ref x))
 |.ext φ=>φ h/\(∃o,h.get? a=AA o)/\∀h1 h2:D7,φ h1->(∀o,h1.get? a=AA o->h2.get? a=AA o)->φ h2
def HOk(H:Hp)(h:D7):Prop:=∀a o,H a=AA o->ObjOk P w H h a o
end
variable{H':Hp}
theorem ObjOk.lt(x:ObjOk P w H h a o):a<h.objs.size:=by
 cases o with
 |lst xs=>obtain⟨_,_,_,_,e⟩:=x;exact A5 e
 |tup xs=>obtain⟨_,_,_,p⟩:=x;exact p.isTup.lt
 |dK kvs=>obtain⟨_,_,_,_,o,_,_,e,_⟩:=x;exact A5 e
 |dT kvs=>obtain⟨_,_,_,_,o,_,_,e,_⟩:=x;exact A5 e
 |set S n=>obtain⟨o,_,_,_,e,_⟩:=x;exact A5 e
 |ins C dx fs=>obtain⟨_,_,_,e,_⟩:=x;exact A5 e
 |own y=>obtain⟨_,e⟩:=x;exact A5 e
 |xd fs=>obtain⟨_,⟨_,_,_,e,_⟩,_⟩:=x;exact A5 e
 |rng lo hi=>obtain⟨_,_,_,e⟩:=x;exact A5 e
 |frz ob u=>obtain⟨e,_⟩:=x;exact A5 e
 |tbl q ps=>exact A5 x.1
 |met f y=>exact A5 (show h.get? a=AA _ from x)
 |ext φ=>obtain⟨_,⟨_,e⟩,_⟩:=x;exact A5 e
theorem pA0{α β:Type}{F G:α->β->Prop}:∀{l₁:List α} {l₂:List β},Paired F l₁ l₂->(∀a b,F a b->G a b)->Paired G l₁ l₂
 |_,_,.nil,_=>.nil
 |_,_,.cons r t,f=>.cons (f _ _ r) (pA0 t f)
theorem ObjOk.stay(x:ObjOk P w H h a o)(k:∀b u,(b=a\/H b=AA (.own a))->h.get? b=AA u->h'.get? b=AA u)
  (ho:∀b,H b=AA (.own a)->H' b=AA (.own a)) (ht:∀b xs,H b=AA (.tup xs)->H' b=AA (.tup xs)) (hf:∀b o x,H b=AA (.frz o (.own x))->H' b=AA (.frz o (.own x))):ObjOk P w H' h' a o:=by
 induction o with
 |lst xs=>obtain⟨z,CK,n,r,e⟩:=x;exact{z,CK,n,r,k _ _ (.inl rfl) e}
 |tup xs=>obtain⟨z,CK,r,ob,e,c⟩:=x;exact{z,CK,r,ob,k _ _ (.inl rfl) e,c}
 |dK kvs=>obtain⟨z,y,vs,r,ob,es,ep,e,c⟩:=x;exact{z,y,vs,r,ob,es,ep,k _ _ (.inl rfl) e,c}
 |dT kvs =>
  obtain⟨z,y,xs,r,ob,es,ep,e,c⟩:=x;exact{z,y,xs,pA0 r λp q z=>{z.1,ht _ _ z.2.1,z.2.2},ob,es,ep,k _ _ (.inl rfl) e,c}
 |set S n=>obtain⟨ob,es,ep,t,e,c⟩:=x;exact{ob,es,ep,t,k _ _ (.inl rfl) e,c}
 |ins C dx fs =>
  obtain⟨d,z,ne,e,mA,⟨od,es,ep,e2,c⟩,r⟩:=x;exact{ho _ d,z,ne,k _ _ (.inl rfl) e,mA,{od,es,ep,k _ _ (.inr d) e2,c},r}
 |own y=>obtain⟨ob,e⟩:=x;exact{ob,k _ _ (.inl rfl) e}
 |xd fs=>obtain⟨mA,⟨od,es,ep,e,c⟩,r⟩:=x;exact{mA,{od,es,ep,k _ _ (.inl rfl) e,c},r}
 |rng lo hi=>obtain⟨t,u,v,e⟩:=x;exact{t,u,v,k _ _ (.inl rfl) e}
 |frz ob u ih=>obtain⟨e,q⟩:=x;exact{k _ _ (.inl rfl) e,ih q}
 |tbl q ps =>
  obtain⟨e,tr,al⟩:=x;refine{k a _ (.inl rfl) e,tr,λpos cv z=>?_};obtain⟨c',o,vs,t,r1,r2,r3⟩:=al pos cv z;exact{c',o,vs,t,r1,hf _ _ _ r2,r3}
 |met f y =>
  have e:h.get? a=AA (PX (.ref f) (.ref y)):=x;show h'.get? a=AA (PX (.ref f) (.ref y));exact k a _ (.inl rfl) e
 |ext φ=>obtain⟨p,⟨o,e⟩,st⟩:=x;exact{st _ _ p λo q=>k _ _ (.inl rfl) q,{o,k _ _ (.inl rfl) e},st}
theorem HOk.lt(x:HOk P w H h)(e:H a=AA o):a<h.objs.size:=(x a o e).lt
theorem HOk.fresh(x:HOk P w H h)(e:h.objs.size<=a):H a=AL:=by
 cases q:H a with
 |none=>rfl
 |some u=>exact absurd (AN (x.lt q) e) (GE _)
theorem HOk.kept(x:HOk P w H h)(k:∀b u,h.get? b=AA u->h'.get? b=AA u):HOk P w H h':=λa o e =>
 (x a o e).stay (λb u _ q=>k b u q) (λ_ q=>q) (λ_ _ q=>q) λ_ _ _ q=>q
theorem HOk.laid(x:HOk P w H h)(k:∀b u,h.get? b=AA u->h'.get? b=AA u)(hp:h.objs.size<=a)(new:ObjOk P w (D3 H a o) h' a o):HOk P w (D3 H a o) h':=λb u e=>by
 have hn:=x.fresh hp
 by_cases hb:b=a
 .subst hb;rw[HJ] at e;cases e;exact new
 .rw[FH hb] at e
  exact(x b u e).stay (λc v _ q=>k c v q) (λc q=>by rw[FH (W6 q hn)];exact q) (λc xs q=>by rw[FH (W6 q hn)];exact q) λc o x q=>by rw[FH (W6 q hn)];exact q
def Rd(H:Hp)(a:AT)(u:HO):Prop:=H a=AA u\/∃o,H a=AA (.frz o u)
theorem Rd.ok{u:HO}(r:Rd H a u)(x:HOk P w H h):ObjOk P w H h a u:=by
 rcases r with r|⟨o,r⟩
 .exact x a u r
 .obtain⟨_,q⟩:=x a _ r
  exact q
def uT:Option HO->Prop
 |some (.lst _)=>True
 |some (.dK _)=>True
 |some (.dT _)=>True
 |some (.set _ _)=>True
 |some (.ins _ _ _)=>True
 |some (.ext _)=>True
 |_=>False
section
variable{x e:AT}{o':HO}
theorem HOk.write(ok:HOk P w H h)(mu:uT (H x))(he:e=x\/H e=AA (.own x))(k:∀b u,b≠e->h.get? b=AA u->h'.get? b=AA u)(sO:∃u,h'.get? e=AA u)
  (new:ObjOk P w (D3 H x o') h' x o'):HOk P w (D3 H x o') h':=λb u q=>by
 have vW:∀c y,H c=AA (.own y)->c≠x:=λc y r z=>by subst z;rw[r] at mu;exact mu
 have Ko:∀c xs,H c=AA (.tup xs)->c≠x:=λc xs r z=>by subst z;rw[r] at mu;exact mu
 have Kq:∀c o y,H c=AA (.frz o (.own y))->c≠x:=λc o y r z=>by subst z;rw[r] at mu;exact mu
 by_cases hb:b=x
 .subst hb;rw[HJ] at q;cases q;exact new
 .rw[FH hb] at q
  by_cases pL:b=e
  .have q':H b=AA (.own x):=by
    rcases he with z|z
    .exact absurd (pL.trans z) hb
    .rw[pL];exact z
   rw[q] at q';cases q';obtain⟨v,hv⟩:=sO;exact{v,by rw[pL];exact hv}
  .refine(ok b u q).stay (λc v hc r=>k c v ?_ r) (λc r=>by rw[FH (vW c b r)];exact r) (λc xs r=>by rw[FH (Ko c xs r)];exact r) λc o y r=>by rw[FH (Kq c o y r)];exact r
   rcases hc with rfl|hc
   .exact pL
   .rintro rfl
    rcases he with z|z
    .exact vW c b hc z
    .rw[hc] at z;cases z;exact hb rfl
end
structure Un(fs ex:List AT)(H H':Hp)(h h':D7):Prop where
 keep:∀b o,h.get? b=AA o->H b=AL->b∉fs->b∉ex->h'.get? b=AA o
 slot:∀b o,h.get? b=AA o->H b=AL->b∈fs->b∉ex->∃sl,h'.get? b=AA { o with slots:=sl }
 free:∀b o,h.get? b=AA o->H b=AL->b∉ex->H' b=AL
 there:∀b o,h.get? b=AA o->b∉ex->∃o',h'.get? b=AA o'
 tups:∀b xs,H b=AA (.tup xs)->H' b=AA (.tup xs)
 frzs:∀b o u,H b=AA (.frz o u)->H' b=AA (.frz o u)
 tbls:∀b t ps,H b=AA (.tbl t ps)->∃RG,H' b=AA (.tbl t (ps++RG))
variable{H1 H2:Hp}
section
variable{fs pN ex ex':List AT}{h2:D7}{x e:AT}
theorem Un.any(u:Un fs ex H H1 h h1){b:AT}{ob:IF}(q:h.get? b=AA ob)(n:H b=AL)(hx:b∉ex):∃sl,h1.get? b=AA { ob with slots:=sl }:=by
 by_cases hb:b∈fs
 .exact u.slot b ob q n hb hx
 .exact{ob.slots,u.keep b ob q n hb hx}
theorem Un.kept(k:∀b u,h.get? b=AA u->h'.get? b=AA u):Un fs ex H H h h' :=
 {λb ob q _ _ _=>k b ob q,λb ob q _ _ _=>{ob.slots,k b ob q},λ_ _ _ n _=>n,λb ob q _=>{ob,k b ob q},λ_ _ q=>q,λ_ _ _ q=>q,λ_ _ ps q=>{#[],by rw[q];simp}}
theorem Un.refl:Un fs ex H H h h:=Un.kept λ_ _ q=>q
theorem Un.laid(k:∀b u,h.get? b=AA u->h'.get? b=AA u)(hp:h.objs.size<=a)(hn:H a=AL):Un fs ex H (D3 H a o) h h' where
 keep:=λb u q _ _ _=>k b u q
 slot:=λb u q _ _ _=>{u.slots,k b u q}
 free:=λb u q n _=>by rw[FH (BM (AN (A5 q) hp))];exact n
 there:=λb u q _=>{u,k b u q}
 tups:=λb xs q=>by rw[FH (W6 q hn)];exact q
 frzs:=λb u xs q=>by rw[FH (W6 q hn)];exact q
 tbls:=λb t ps q=>{#[],by rw[FH (W6 q hn),q];simp}
theorem Un.write(mu:uT (H x))(he:e=x\/H e=AA (.own x))(k:∀b u,b≠e->h.get? b=AA u->h'.get? b=AA u)(sO:∃u,h'.get? e=AA u):Un fs ex H (D3 H x o) h h':=by
 have hx:∀b,H b=AL->b≠x:=λb n z=>by subst z;rw[n] at mu;exact mu
 have hb:∀b,H b=AL->b≠e:=λb n z=>by
  subst z;rcases he with r|r
  .exact hx b n r
  .rw[n] at r;cases r
 have hm:∀b u,H b=AA u->¬uT (AA u)->b≠x:=λb u q nm z=>by subst z;rw[q] at mu;exact nm mu
 refine{λb u q n _ _=>k b u (hb b n) q,λb u q n _ _=>{u.slots,k b u (hb b n) q},λb u q n _=>by rw[FH (hx b n)];exact n,λb u q _=>?_,
  λb xs q=>by rw[FH (hm b _ q λz=>z)];exact q,λb u xs q=>by rw[FH (hm b _ q λz=>z)];exact q,λb t ps q=>{#[],by rw[FH (hm b _ q λz=>z),q];simp}}
 by_cases pL:b=e
 .subst pL;exact sO
 .exact{u,k b u pL q}
end
noncomputable def Az(h:D7)(H:Hp):List AT:=(DL h.objs.size).filter λa=>(H a).isSome
def fU(h:D7)(H:Hp):D7:=KQ h (Az h H)
theorem zQ9(h:D7)(H:Hp):(fU h H).objs.size=h.objs.size:=PySem.W.hideAll_size _ _
theorem zUN{b:AT}{o:IF}(e:h.get? b=AA o)(n:H b=AL):(fU h H).get? b=AA o :=
 OM _ e λhm=>by
  have q:(H b).isSome=AK:=(CN.mp hm).2;rw[n] at q;simp at q
theorem zYG{b:AT}{o:IF}(e:(fU h H).get? b=AA o):h.get? b=AA o/\H b=AL:=by
 have e':h.get? b=AA o:=Y7 (Az h H) e;refine{e',?_}
 cases q:H b with
 |none=>rfl
 |some x =>
  have hm:b∈Az h H:=CN.mpr {IP.mpr (A5 e'),by simp[q]};have z:(fU h H).get? b=AL:=PySem.W.hideAll_none (Az h H) hm;rw[z] at e;cases e
noncomputable def t6(g h:D7)(L:AT):List (AT×IF):=(DL h.objs.size).filterMap λa=>if a=L\/(g.get? a).isSome=AK then AL else(h.get? a).map λo=>(a,o)
theorem zNH{g:D7}{L:AT}{o:IF}(h1:a≠L)(h2:g.get? a=AL)(h3:h.get? a=AA o):(a,o)∈t6 g h L :=
 JL.mpr {a,IP.mpr (A5 h3),by simp[h1,h2,h3]}
theorem zIN{g:D7}{L:AT}{p:AT×IF}(hp:p∈t6 g h L):p.1≠L/\g.get? p.1=AL/\h.get? p.1=AA p.2:=by
 obtain⟨b,_,e⟩:=JL.mp hp;split at e
 .cases e
 .rename_i hn
  cases q:h.get? b with
  |none=>rw[q] at e;simp at e
  |some u =>
   rw[q] at e;simp only[JD,WZ] at e;subst e;refine{λz=>hn (.inl z),?_,q};show g.get? b=AL
   cases r:g.get? b with
   |none=>rfl
   |some v=>exact(hn (.inr (by simp[r]))).elim
def rest(g h:D7)(L d:AT):List (AT×IF):=(t6 g h L).filter λp=>decide (p.1≠d)
theorem zUO{g:D7}{L:AT}:News g L h (t6 g h L):=λp hp=>let ⟨a,b,c⟩:=zIN hp;{c,a,b}
structure Mod(K:AD)(mg:C2->Option AJ)(base:D7):Prop where
 kin:K.In base
 glob:base.Ns BK mg
 blt:∃mb,base.Ns M5 mb/\∀x:C2,x≠"__name__"->mb x=GL x
 nolimit:base.NoLimit
 bmain:∃bm ob,mg "__builtins__"=AA (.ref bm)/\bm≠M5/\base.get? bm=AA ob/\ob.cls=.type "module"/\ob.dict=AA M5/\ob.data=.plain
structure Cx where
 prog:CU
 w:D8
 K:AD
 mg:C2->Option AJ
 base:D7
 A:DU
 N:List C2
 s₀:AS
 H₀:Hp
 env:XT
 outer:List XT
 stack:List XT
 ex:List AT
 fn:C2->Bool
 calm:Bool
 pn:List (AT×IF)
 xe:AJ->AS->Prop
def SJ(l:List XT):List AT:=l.filterMap (·.frame)
abbrev Cx.fs(X:Cx):List AT:=SJ X.outer
def ZR(sc:NT)(x:C2):Prop:=sc.names.lookup x=AA .local\/sc.names.lookup x=AA .cell\/sc.names.lookup x=AA .free
def Loc(sc:NT)(x:C2):Prop:=sc.names.lookup x=AA .local\/sc.names.lookup x=AA .cell
def Wu(env:XT)(h:D7)(m:C2->Option AJ)(x:C2)(u:AJ):Prop :=
 (env.kindOf x=AA .local/\m x=AA u)\/((env.kindOf x=AA .cell\/env.kindOf x=AA .free)/\∃c,env.cells.lookup x=AA c/\h.IsCell c (AA u))
noncomputable def gM:List C2:=["holders","_law_table","_law_back","_law_kept_right"]
def TB(K:AD)(T:AT)(q:C2):Prop:=∃x c,x∈gM/\ET K x=AA (c,T)/\q=x++(".<locals>.<lambda>":C2)
structure Cx.Ok(X:Cx):Prop where
 tab:∀T q,TB X.K T q->∃ps,X.H₀ T=AA (.tbl q ps)
 mod:Mod X.K X.mg X.base
 kind:X.env.scope.kind=.function
 glob:X.env.globals=BK
 blt:X.env.builtins=M5
 above:X.s₀.heap.objs.size<=X.env.locals
 inj:∀x y c,X.env.cells.lookup x=AA c->X.env.cells.lookup y=AA c->x=y
 has:∀x,(X.env.kindOf x=AA .cell\/X.env.kindOf x=AA .free)->∃c,X.env.cells.lookup x=AA c
 cab:∀x c,X.fn x=AK->X.env.cells.lookup x=AA c->X.s₀.heap.objs.size<=c
 hd:X.calm=AK->X.A.handled=AL
 frames:X.A.frames=AA X.stack
 stk:X.stack=X.outer\/(X.stack=X.env::X.outer/\X.env.frame=AA X.env.locals)
 exf:∀b∈X.ex,b≠X.env.locals/\∀x c,X.env.cells.lookup x=AA c->c≠b
 bs:∀b o,X.base.get? b=AA o->X.s₀.heap.get? b=AA o/\X.H₀ b=AL
 bsz:X.base.objs.size<=X.s₀.heap.objs.size
 noex:∀b o,X.base.get? b=AA o->b∉X.ex
 exfs:∀b∈X.ex,b∉X.fs
 funs:X.s₀.heap.FunFrames X.base X.outer
 frf:∀b∈X.fs,X.H₀ b=AL
structure Inv(X:Cx)(AG:List (AT×IF))(σ:List (Option V))(H:Hp)(s:AS):Prop where
 ok:X.Ok
 os:s.os=X.s₀.os
 bare:NW s.gens
 base:Un X.fs X.ex X.H₀ H X.s₀.heap s.heap
 loc:∃m,s.heap.Ns X.env.locals m/\∀(i:Nat) (x:C2) (v:V),X.N[i]?=AA x->σ[i]?=AA (AA v)->ZR X.env.scope x->∃u,RelV v u/\Wu X.env s.heap m x u
 cell:∀x c,X.env.cells.lookup x=AA c->∃v,s.heap.IsCell c v
 free:H X.env.locals=AL
 freeC:∀x c,X.env.cells.lookup x=AA c->H c=AL
 pin:∀p∈X.pn++AG,s.heap.get? p.1=AA p.2/\H p.1=AL/\p.1≠X.env.locals/\p.1∉X.fs/\∀v,p.2.data≠.cell v
 hok:HOk X.prog X.w H s.heap
 len:σ.length=X.N.length
variable{X:Cx}{v:V}{σ:List (Option V)}
theorem Cx.Ok.nofr(ok:X.Ok){b:AT}{o:IF}(e:X.base.get? b=AA o):b∉X.fs:=λhb=>by
 have:=(ok.funs.mem hb).1;rw[e] at this;cases this
theorem Inv.bs(I:Inv X AG σ H s):∀b o,X.base.get? b=AA o->s.heap.get? b=AA o/\H b=AL:=λb o e =>
 {I.base.keep b o (I.ok.bs b o e).1 (I.ok.bs b o e).2 (I.ok.nofr e) (I.ok.noex b o e),I.base.free b o (I.ok.bs b o e).1 (I.ok.bs b o e).2 (I.ok.noex b o e)}
theorem Inv.bk(I:Inv X AG σ H s):∀b o,X.base.get? b=AA o->s.heap.get? b=AA o:=λb o e=>(I.bs b o e).1
theorem Inv.tab(I:Inv X AG σ H s):∀T q,TB X.K T q->∃ps,H T=AA (.tbl q ps):=λT q b=>by
 obtain⟨ps,e⟩:=I.ok.tab T q b;obtain⟨m,e'⟩:=I.base.tbls T q ps e;exact{_,e'}
theorem Inv.mod(I:Inv X AG σ H s):Mod X.K X.mg X.base:=I.ok.mod
theorem Inv.kIn(I:Inv X AG σ H s):X.K.In s.heap:=I.ok.mod.kin.keeps I.bk
theorem Inv.nolimit(I:Inv X AG σ H s):s.heap.NoLimit:=I.ok.mod.nolimit.keeps I.bk
theorem Inv.fr(I:Inv X AG σ H s):∃m,Fr X.base X.env.locals s.heap m :=
 let ⟨m,hn,_⟩:=I.loc
 {m,hn,I.bk,AY I.ok.bsz I.ok.above}
theorem Inv.lt(I:Inv X AG σ H s):X.env.locals<s.heap.objs.size:=let ⟨_,hn,_⟩:=I.loc;hn.lt
theorem Inv.sz(I:Inv X AG σ H s):X.s₀.heap.objs.size<=s.heap.objs.size:=AY I.ok.above (CV I.lt)
theorem Inv.nofs(I:Inv X AG σ H s)(h:s.heap.objs.size<=a):a∉X.fs:=λhb=>by
 obtain⟨_,o,ho,_⟩:=I.ok.funs.mem hb;exact absurd (AN (A5 ho) (AY I.sz h)) (GE _)
theorem Inv.cne(I:Inv X AG σ H s):∀x c,X.env.cells.lookup x=AA c->c≠X.env.locals:=λx c e z=>by
 obtain⟨v,o,ho,hd⟩:=I.cell x c e;obtain⟨m,⟨o',es,ep,pD,xF,_⟩,_⟩:=I.loc;rw[z,pD] at ho;cases ho;rw[xF] at hd;cases hd
theorem Inv.funs(I:Inv X AG σ H s):s.heap.FunFrames X.base X.outer:=by
 have all:∀(l:List XT),(∀b∈SJ l,b∈X.fs)->X.s₀.heap.FunFrames X.base l->s.heap.FunFrames X.base l:=by
  intro l
  induction l with
  |nil=>intro _ _;trivial
  |cons env r ih =>
   intro hs hl;obtain⟨hk,⟨L,o,hf,hn,ho,hd⟩,hr⟩:=hl;have hL:L∈X.fs:=hs L (by unfold SJ;rw[JA,hf];exact A2);obtain⟨sl,e⟩:=I.base.slot L o ho (I.ok.frf L hL) hL λz=>I.ok.exfs L z hL;exact{hk,{L,_,hf,hn,e,hd},ih (λb hb=>hs b (by unfold SJ;rw[JA,hf];exact AZ _ hb)) hr}
 exact all X.outer (λ_ hb=>hb) I.ok.funs
theorem Inv.stack(I:Inv X AG σ H s):s.heap.FunFrames X.base X.stack:=by
 rcases I.ok.stk with e|⟨e,hf⟩
 .rw[e];exact I.funs
 .rw[e]
  obtain⟨m,hn,_⟩:=I.loc;refine .cons (by rw[I.ok.kind];decide) hf hn ?_ I.funs;exact Z5 (AY I.ok.bsz I.ok.above)
theorem Inv.stkSub(I:Inv X AG σ H s):∀b∈SJ X.stack,b∈X.env.locals::X.fs:=λb hb=>by
 rcases I.ok.stk with e|⟨e,hf⟩
 .rw[e] at hb;exact AZ _ hb
 .rw[e] at hb
  unfold SJ at hb;rw[JA,hf] at hb;exact hb
theorem Inv.stkFree(I:Inv X AG σ H s):∀b∈SJ X.stack,H b=AL:=λb hb=>by
 rcases A7.mp (I.stkSub b hb) with e|hb
 .rw[e];exact I.free
 .obtain⟨_,o,ho,_⟩:=I.ok.funs.mem hb
  exact I.base.free b o ho (I.ok.frf b hb) λz=>I.ok.exfs b z hb
theorem Inv.step{g':Array GenState}{d':Drawn}(I:Inv X AG σ H s)
  (gZ:∀b∈ch,(b∈X.ex\/X.s₀.heap.objs.size<=b)/\b≠X.env.locals/\(∀x c,X.env.cells.lookup x=AA c->c≠b)/\∀p∈X.pn++AG,p.1≠b)
  (keep:∀b o,b≠X.env.locals->b∉X.fs->b∉ch->s.heap.get? b=AA o->H b=AL->h'.get? b=AA o)
  (slot:∀b o,b≠X.env.locals->b∈X.fs->b∉ch->s.heap.get? b=AA o->H b=AL->∃sl,h'.get? b=AA { o with slots:=sl }) (free:∀b o,b∉ch->s.heap.get? b=AA o->H b=AL->H' b=AL)
  (there:∀b o,b∉ch->s.heap.get? b=AA o->∃o',h'.get? b=AA o')
  (tups:∀b xs,H b=AA (.tup xs)->H' b=AA (.tup xs)) (frzs:∀b o u,H b=AA (.frz o u)->H' b=AA (.frz o u)) (tbls:∀b t ps,H b=AA (.tbl t ps)->∃RG,H' b=AA (.tbl t (ps++RG)))
  (ns:∀m,s.heap.Ns X.env.locals m->h'.Ns X.env.locals m) (hok:HOk X.prog X.w H' h') (hg:NW g') :
  Inv X AG σ H' { s with heap:=h',gens:=g',drawn:=d',toks:=t' }:=by
 have Zm:∀b o,X.s₀.heap.get? b=AA o->b≠X.env.locals:=λb o e=>BM (AN (A5 e) I.ok.above)
 have Bu:∀b o,X.s₀.heap.get? b=AA o->b∉X.ex->b∉ch:=λb o e hx hb=>by
  rcases(gZ b hb).1 with z|z
  .exact hx z
  .exact absurd (AN (A5 e) z) (GE _)
 have mK:∀x c,X.env.cells.lookup x=AA c->∀v,s.heap.IsCell c v->h'.IsCell c v:=λx c e v q0=>by
  obtain⟨o,ho,hd⟩:=q0;have wA:c∉ch:=λz=>(gZ c z).2.2.1 x c e rfl
  by_cases hc:c∈X.fs
  .obtain⟨sl,q⟩:=slot c o (I.cne x c e) hc wA ho (I.freeC x c e)
   exact{_,q,hd}
  .exact{o,keep c o (I.cne x c e) hc wA ho (I.freeC x c e),hd}
 refine{I.ok,I.os,hg,{λb o e n hb hx=>?_,λb o e n hb hx=>?_,λb o e n hx=>?_,λb o e hx=>?_,λb xs e=>tups b xs (I.base.tups b xs e),λb o xs e=>frzs b o xs (I.base.frzs b o xs e),λb t ps e=>?_},?_,λx c e=>?_,?_,λx c e=>?_,λp hp=>?_,hok,I.len}
 .exact keep b o (Zm b o e) hb (Bu b o e hx) (I.base.keep b o e n hb hx) (I.base.free b o e n hx)
 .obtain⟨sl,e1⟩:=I.base.slot b o e n hb hx
  obtain⟨vE,e2⟩:=slot b _ (Zm b o e) hb (Bu b o e hx) e1 (I.base.free b o e n hx);exact{vE,e2}
 .obtain⟨o',e1⟩:=I.base.there b o e hx
  exact free b o' (Bu b o e hx) e1 (I.base.free b o e n hx)
 .obtain⟨o',e1⟩:=I.base.there b o e hx
  exact there b o' (Bu b o e hx) e1
 .obtain⟨m1,e1⟩:=I.base.tbls b t ps e
  obtain⟨m2,e2⟩:=tbls b t _ e1;exact{m1++m2,by rw[e2,Array.append_assoc]}
 .obtain⟨m,hn,hl⟩:=I.loc
  refine{m,ns m hn,λi x v e1 e2 e3=>?_};obtain⟨u,r,l⟩:=hl i x v e1 e2 e3;refine{u,r,?_};rcases l with l|⟨k,c,e,z⟩
  .exact .inl l
  .exact .inr {k,c,e,mK x c e _ z}
 .obtain⟨v,z⟩:=I.cell x c e
  exact{v,mK x c e v z}
 .obtain⟨m,⟨o,_,_,ho,_⟩,_⟩:=I.loc
  exact free _ o (λz=>(gZ _ z).2.1 rfl) ho I.free
 .obtain⟨v,o,ho,hd⟩:=I.cell x c e
  exact free c o (λz=>(gZ c z).2.2.1 x c e rfl) ho (I.freeC x c e)
 .obtain⟨e,n,ne,nf,d⟩:=I.pin p hp
  have wA:p.1∉ch:=λz=>(gZ p.1 z).2.2.2 p hp rfl;exact{keep p.1 p.2 ne nf wA e n,free p.1 p.2 wA e n,ne,nf,d}
theorem Inv.un(I:Inv X AG σ H s)(u:Un X.fs [] H H' s.heap h')(hok:HOk X.prog X.w H' h'):Inv X AG σ H' { s with heap:=h',toks:=t' }:=by
 obtain⟨m,⟨o,es,ep,ho,r⟩,_⟩:=id I.loc;obtain⟨sl,hL⟩:=u.any ho I.free 's'
 exact I.step (g':=s.gens) (d':=s.drawn) (ch:=[]) (λ_ z=>nomatch z) (λb o _ hb _ e n=>u.keep b o e n hb 's') (λb o _ hb _ e n=>u.slot b o e n hb 's') (λb o _ e n=>u.free b o e n 's') (λb o _ e=>u.there b o e 's') u.tups u.frzs u.tbls (λm' hm=>by
  obtain⟨o',mE,mF,pD,r'⟩:=hm;rw[ho] at pD;cases pD
  exact{_,mE,mF,hL,r'}) hok I.bare
theorem Inv.call{g':Array GenState}{d':Drawn}(I:Inv X AG σ H s)(u:Un (SJ X.stack) ch H H' s.heap h')(hok:HOk X.prog X.w H' h')(hg:NW g')
  (gZ:∀b∈ch,(b∈X.ex\/X.s₀.heap.objs.size<=b)/\b≠X.env.locals/\(∀x c,X.env.cells.lookup x=AA c->c≠b)/\∀p∈X.pn++AG,p.1≠b) :
  Inv X AG σ H' { s with heap:=h',gens:=g',drawn:=d',toks:=t' }:=by
 obtain⟨m,⟨o,es,ep,ho,r⟩,_⟩:=id I.loc;obtain⟨sl,hL⟩:=u.any ho I.free λz=>(gZ _ z).2.1 rfl
 exact I.step (ch:=ch) gZ (λb o hL hb hc e n=>u.keep b o e n (λz=>(A7.mp (I.stkSub b z)).elim hL hb) hc) (λb o _ _ hc e n=>u.any e n hc) (λb o hc e n=>u.free b o e n hc) (λb o hc e=>u.there b o e hc) u.tups u.frzs u.tbls (λm' hm=>by
  obtain⟨o',mE,mF,pD,r'⟩:=hm;rw[ho] at pD;cases pD
  exact{_,mE,mF,hL,r'}) hok hg
theorem Inv.turned(I:Inv X AG σ H s)(k:∀b o,b≠it->s.heap.get? b=AA o->h'.get? b=AA o)(hn:H it=AL)(hL:it≠X.env.locals)
  (h1:it∈X.ex\/X.s₀.heap.objs.size<=it) (h2:∀x c,X.env.cells.lookup x=AA c->c≠it) (h3:∀p∈X.pn++AG,p.1≠it):Inv X AG σ H { s with heap:=h',toks:=t' }:=by
 have vZ:∀b u,H b=AA u->b≠it:=λb u e z=>by rw[z,hn] at e;cases e
 refine I.step (g':=s.gens) (d':=s.drawn) (ch:=[it]) (λb hb=>?_) (λb o _ _ hc e _=>k b o (λz=>hc (by simp[z])) e) (λb o _ _ hc e _=>{o.slots,k b o (λz=>hc (by simp[z])) e}) (λ_ _ _ _ n=>n)
  (λb o hc e=>{o,k b o (λz=>hc (by simp[z])) e}) (λ_ _ e=>e) (λ_ _ _ e=>e) (λb t ps e=>{#[],by rw[e];simp}) (λm hm=>?_) (λb u e=>?_) I.bare
 .have e:b=it:=by simpa using hb
  subst e;exact{h1,hL,h2,h3}
 .obtain⟨o,es,ep,ho,r⟩:=hm
  exact{o,es,ep,k _ o (FO hL) ho,r}
 .refine(I.hok b u e).stay (λc v hc q=>k c v ?_ q) (λ_ q=>q) (λ_ _ q=>q) λ_ _ _ q=>q
  rcases hc with z|z
  .rw[z];exact vZ b u e
  .exact vZ c _ z
theorem Inv.tok(I:Inv X AG σ H s)(t:Nat):Inv X AG σ H { s with toks:=t }:=I.un (h':=s.heap) (t':=t) Un.refl I.hok
theorem Inv.kept{t':Nat}(I:Inv X AG σ H s)(k:∀b u,s.heap.get? b=AA u->h'.get? b=AA u):Inv X AG σ H { s with heap:=h',toks:=t' }:=I.un (Un.kept k) (I.hok.kept k)
theorem Inv.laid{a:AT}{o:HO}{t':Nat}(I:Inv X AG σ H s)(k:∀b u,s.heap.get? b=AA u->h'.get? b=AA u)(hp:s.heap.objs.size<=a)(new:ObjOk X.prog X.w (D3 H a o) h' a o) :
  Inv X AG σ (D3 H a o) { s with heap:=h',toks:=t' }:=I.un (Un.laid k hp (I.hok.fresh hp)) (I.hok.laid k hp new)
theorem Inv.write{x e:AT}{o:HO}{t':Nat}(I:Inv X AG σ H s)(mu:uT (H x))(he:e=x\/H e=AA (.own x))(k:∀b u,b≠e->s.heap.get? b=AA u->h'.get? b=AA u)(sO:∃u,h'.get? e=AA u)
  (new:ObjOk X.prog X.w (D3 H x o) h' x o):Inv X AG σ (D3 H x o) { s with heap:=h',toks:=t' }:=I.un (Un.write mu he k sO) (I.hok.write mu he k sO new)
theorem Inv.weak{σ':List (Option V)}(I:Inv X AG σ H s)(hl:σ'.length=σ.length)(w:∀(i:Nat) v,σ'[i]?=AA (AA v)->σ[i]?=AA (AA v)):Inv X AG σ' H s :=
 {I.ok,I.os,I.bare,I.base,let ⟨m,hn,wW⟩:=I.loc;{m,hn,λi x v e1 e2 e3=>wW i x v e1 (w i v e2) e3},I.cell,I.free,I.freeC,I.pin,I.hok,hl.trans I.len}
theorem Inv.pins_of{pins':List (AT×IF)}(I:Inv X AG σ H s)(h:∀p∈pins',s.heap.get? p.1=AA p.2/\H p.1=AL/\p.1≠X.env.locals/\p.1∉X.fs/\∀v,p.2.data≠.cell v):Inv X pins' σ H s :=
 {I.ok,I.os,I.bare,I.base,I.loc,I.cell,I.free,I.freeC,λp hp=>(CA.mp hp).elim (λz=>I.pin p (DI _ z)) (h p),I.hok,I.len}
theorem z7(hN:N.Nodup)(a:N[i]?=AA x)(b:N[j]?=AA x):i=j:=by
 obtain⟨h1,e1⟩:=AQ.mp a;obtain⟨h2,e2⟩:=AQ.mp b;exact(List.getElem_inj hN).mp (e1.trans e2.symm)
theorem Gg{Q:Unit->AS->Prop}(I:Inv X AG σ H s)(hN:X.N.Nodup)(hi:X.N[i]?=AA x)(hx:Loc X.env.scope x)(r:RelV v u)
  (h:∀s',Inv X AG (σ.set i (AA v)) H s'->(∃a,DS a s.heap s'.heap/\(a=X.env.locals\/X.env.cells.lookup x=AA a))->Q () s') (hf:X.fn x=AK\/X.env.scope.names.lookup x=AA .local:=by first|exact .inl rfl|exact .inr rfl|assumption):A1 M A (storeName X.env x u) Q E s:=by
 obtain⟨m,hn,hl⟩:=id I.loc;have Na:(X.env.scope.kind==.class||(X.env.scope.kind==.module&&X.env.locals != X.env.globals))=AC:=by rw[I.ok.kind];rfl
 have hiσ:i < σ.length:=by rw[I.len];exact(AQ.mp hi).1
 have Od:=I.cne
 have VP:∀{a:AT} {h':D7},(∃o,s.heap.get? a=AA o/\H a=AL)->DS a s.heap h'->HOk X.prog X.w H h':=λ{a h'} ha hs b ob e=>by
  obtain⟨_,_,l7⟩:=ha;refine(I.hok b ob e).stay (λc w' hc q=>(hs.2 c ?_).trans q) (λ_ q=>q) (λ_ _ q=>q) λ_ _ _ q=>q;rintro rfl;rcases hc with rfl|hc
  .rw[l7] at e;cases e
  .rw[l7] at hc;cases hc
 rcases hx with hk|hk
 .refine wpAny_storeName_local hk hn (λh' Ls hs=>?_) Na
  obtain⟨oL,_,_,lX,_⟩:=id hn;refine h _ {I.ok,I.os,I.bare,{λb o e n hb hx=>?_,λb o e n hb hx=>?_,I.base.free,λb o e hx=>?_,I.base.tups,I.base.frzs,I.base.tbls},{_,Ls,λj y v' e1 e2 e3=>?_},λy c e=>?_,I.free,I.freeC,λp hp=>?_,VP {oL,lX,I.free} hs,by simpa using I.len} {_,hs,.inl rfl}
  .exact(hs.2 b (BM (AN (A5 e) I.ok.above))).trans (I.base.keep b o e n hb hx)
  .obtain⟨sl,e1⟩:=I.base.slot b o e n hb hx
   exact{sl,(hs.2 b (BM (AN (A5 e) I.ok.above))).trans e1}
  .obtain⟨o',e1⟩:=I.base.there b o e hx
   exact{o',(hs.2 b (BM (AN (A5 e) I.ok.above))).trans e1}
  .by_cases hj:j=i
   .subst hj
    rw[hi] at e1;cases e1;rw[BE hiσ] at e2;cases e2;exact{u,r,.inl {hk,by simp}}
   .rw[A8 (FO hj)] at e2
    obtain⟨u',r',q⟩:=hl j y v' e1 e2 e3;refine{u',r',?_};rcases q with⟨k,e⟩|⟨k,c,e,z⟩
    .refine .inl {k,?_}
     have:y≠x:=λe=>hj (z7 hN e1 (e▸hi));simp[this,e]
    .exact .inr {k,c,e,z.sameBut hs (Od y c e)}
  .obtain⟨w',z⟩:=I.cell y c e
   exact{w',z.sameBut hs (Od y c e)}
  .obtain⟨e,n,ne,nf,d⟩:=I.pin p hp
   exact{(hs.2 p.1 ne).trans e,n,ne,nf,d}
 .have Ml:X.fn x=AK:=by
   rcases hf with z|z
   .exact z
   .rw[z] at hk;cases hk
  obtain⟨c,hc⟩:=I.ok.has x (.inl hk);obtain⟨w',z⟩:=I.cell x c hc;refine wpAny_storeName_cell I.ok.kind hk hc z (λh' ZZ hs=>?_);obtain⟨oc,wS,Lq⟩:=id z;refine h { s with heap:=h' } {I.ok,I.os,I.bare,{λb o e n hb hx=>?_,λb o e n hb hx=>?_,I.base.free,λb o e hx=>?_,I.base.tups,I.base.frzs,I.base.tbls},{m,hn.sameBut hs (FO (Od x c hc)),λj y v' e1 e2 e3=>?_},λy c' e=>?_,I.free,I.freeC,λp hp=>?_,VP {oc,wS,I.freeC x c hc} hs,by simpa using I.len} {c,hs,.inr hc}
  .exact(hs.2 b (BM (AN (A5 e) (I.ok.cab x c Ml hc)))).trans (I.base.keep b o e n hb hx)
  .obtain⟨sl,e1⟩:=I.base.slot b o e n hb hx
   exact{sl,(hs.2 b (BM (AN (A5 e) (I.ok.cab x c Ml hc)))).trans e1}
  .obtain⟨o',e1⟩:=I.base.there b o e hx
   exact{o',(hs.2 b (BM (AN (A5 e) (I.ok.cab x c Ml hc)))).trans e1}
  .by_cases hj:j=i
   .subst hj
    rw[hi] at e1;cases e1;rw[BE hiσ] at e2;cases e2;exact{u,r,.inr {.inl hk,c,hc,ZZ}}
   .rw[A8 (FO hj)] at e2
    obtain⟨u',r',q⟩:=hl j y v' e1 e2 e3;refine{u',r',?_};rcases q with q|⟨k,c',e,z'⟩
    .exact .inl q
    .refine .inr {k,c',e,z'.sameBut hs ?_}
     rintro rfl;exact hj (z7 hN e1 (I.ok.inj _ _ _ e hc▸hi))
  .by_cases Cg:c'=c
   .subst Cg;exact{_,ZZ}
   .obtain⟨w2,z2⟩:=I.cell y c' e
    exact{w2,z2.sameBut hs Cg}
  .obtain⟨e,n,ne,nf,d⟩:=I.pin p hp
   refine{(hs.2 p.1 ?_).trans e,n,ne,nf,d};intro q;rw[q,wS] at e;have q':oc=p.2:=BJ e;exact d w' (by rw[<-q'];exact Lq)
theorem z6{Q:Unit->AS->Prop}(I:Inv X AG σ H s)(hN:X.N.Nodup)(hi:X.N[i]?=AA x)(hx:Loc X.env.scope x)(r:RelV v u)
  (h:∀s',Inv X AG (σ.set i (AA v)) H s'->Q () s') (hf:X.fn x=AK\/X.env.scope.names.lookup x=AA .local:=by first|exact .inl rfl|exact .inr rfl|assumption):A1 M A (storeName X.env x u) Q E s :=
 Gg I hN hi hx r (λs' I' _=>h s' I') hf
theorem Inv.call'(I:Inv X AG σ H s)(ho:s'.os=s.os)(u:Un (SJ X.stack) ch H H' s.heap s'.heap)(hok:HOk X.prog X.w H' s'.heap)(hg:NW s'.gens)
  (gZ:∀b∈ch,(b∈X.ex\/X.s₀.heap.objs.size<=b)/\b≠X.env.locals/\(∀x c,X.env.cells.lookup x=AA c->c≠b)/\∀p∈X.pn++AG,p.1≠b):Inv X AG σ H' s':=by
 obtain⟨h',g',d',t',o'⟩:=s';have e:o'=s.os:=ho;subst e;exact I.call (g':=g') (t':=t') (d':=d') u hok hg gZ
abbrev XK:=AJ->Option AT->Hp->Prop
abbrev St:=List (Option V)
abbrev VK:=V->Hp->Prop
abbrev TE:=St->Hp->VK->Prop
abbrev TT:=St->Hp->(Bool->Hp->Prop)->Prop
abbrev TA:=St->Hp->(List V->Hp->Prop)->Prop
structure Ends where
 nx:St->Hp->Prop
 rt:VK
 bk:St->Hp->Prop:=λ_ _=>False
 ct:St->Hp->Prop:=λ_ _=>False
abbrev TS:=Ends->St->Hp->Prop
def EP(X:Cx)(AG:List (AT×IF))(σ:St)(Q:VK)(u:AJ)(s':AS):Prop:=∃v H',Inv X AG σ H' s'/\RelV v u/\Q v H'
def TP(X:Cx)(AG:List (AT×IF))(σ:St)(Q:Bool->Hp->Prop)(b:Bool)(s':AS):Prop:=∃H',Inv X AG σ H' s'/\Q b H'
def AP(X:Cx)(AG:List (AT×IF))(σ:St)(Q:List V->Hp->Prop)(us:List AJ)(s':AS):Prop:=∃vs H',Inv X AG σ H' s'/\Vals vs us/\Q vs H'
def SP(X:Cx)(AG:List (AT×IF))(D:Ends)(f:Flow)(s':AS):Prop :=
 match f with
 |.next=>∃σ' H',Inv X AG σ' H' s'/\D.nx σ' H'
 |.brk=>∃σ' H',Inv X AG σ' H' s'/\D.bk σ' H'
 |.cont=>∃σ' H',Inv X AG σ' H' s'/\D.ct σ' H'
 |.ret u=>∃v σ' H',Inv X AG σ' H' s'/\RelV v u/\D.rt v H'
def PE(X:Cx)(e:DA)(t:TE):Prop :=
 ∀(AG:List (AT×IF)) (s:AS) (σ:St) (H:Hp) (Q:VK),Inv X AG σ H s->t σ H Q->A1 (A4 X.prog X.w) X.A (eval e X.env) (EP X AG σ Q) X.xe s
def PT(X:Cx)(e:DA)(t:TT):Prop :=
 ∀(AG:List (AT×IF)) (s:AS) (σ:St) (H:Hp) (Q:Bool->Hp->Prop),Inv X AG σ H s->t σ H Q->A1 (A4 X.prog X.w) X.A (V9 e X.env (eval e X.env)) (TP X AG σ Q) X.xe s
def PW(X:Cx)(e:DA)(t:TT):Prop :=
 ∀(SK:TC AJ) (AG:List (AT×IF)) (s:AS) (σ:St) (H:Hp) (Q:Bool->Hp->Prop),Inv X AG σ H s->t σ H Q->A1 (A4 X.prog X.w) X.A (V9 e X.env SK) (TP X AG σ Q) X.xe s
theorem PW.pt{t:TT}(h:PW X e t):PT X e t:=h _
def PA(X:Cx)(es:List DA)(t:TA):Prop :=
 ∀(pos:iB) (AG:List (AT×IF)) (s:AS) (σ:St) (H:Hp) (Q:List V->Hp->Prop),Inv X AG σ H s->t σ H Q->A1 (A4 X.prog X.w) X.A (spliced (DT pos (AO es X.env))) (AP X AG σ Q) X.xe s
def PS(X:Cx)(st:FF)(t:TS):Prop :=
 ∀(AG:List (AT×IF)) (s:AS) (σ:St) (H:Hp) (D:Ends),Inv X AG σ H s->t D σ H->A1 (A4 X.prog X.w) X.A (exec st X.env) (SP X AG D) X.xe s
def PSs(X:Cx)(st:List FF)(t:TS):Prop :=
 ∀(AG:List (AT×IF)) (s:AS) (σ:St) (H:Hp) (D:Ends),Inv X AG σ H s->t D σ H->A1 (A4 X.prog X.w) X.A (execs st X.env) (SP X AG D) X.xe s
theorem G4{t:TC α}{Q Q':α->AS->Prop}(h:A1 M A t Q E s)(hQ:∀a s,Q a s->Q' a s):A1 M A t Q' E s:=DB h hQ λ_ _ x=>x
variable{σ:St}{ta tb:TE}
section
def uL(i:Nat):TE:=λσ H Q=>∃v,σ[i]?=AA (AA v)/\Q v H
def tC(v:V):TE:=λ_ H Q=>Q v H
theorem gA(hN:X.N[i]?=AA x)(hv:ZR X.env.scope x)(hd:(x==("__debug__":C2))=AC:=by decide)(MM:(x==("__classdict__":C2))=AC:=by decide):PE X (.Name x pos) (uL i):=by
 intro AG s σ H Q I h;obtain⟨v,e,h⟩:=h;obtain⟨m,hn,hl⟩:=I.loc;obtain⟨u,r,l⟩:=hl i x v hN e hv;have fin:EP X AG σ Q u s:={v,H,I,r,h};rcases l with⟨hk,hm⟩|⟨hk,c,hc,l8⟩
 .exact wpAny_Name (wpAny_loadName_local I.ok.kind hk hn hm fin) hd
 .rcases hk with hk|hk
  .exact wpAny_Name (wpAny_loadName_cell I.ok.kind hk hc l8 fin) hd
  .exact wpAny_Name (wpAny_loadName_free I.ok.kind hk hc l8 fin MM) hd
theorem oC{i j pos}:PE X (.Constant (.int i) j pos) (tC (.int i)):=λ_ _ _ H _ I h=>wpAny_Constant_int {.int i,H,I.tok _,{_,rfl},h}
theorem uN{b j pos}:PE X (.Constant (.bool b) j pos) (tC (.bl b)):=λ_ _ _ H _ I h=>Constant_bool {.bl b,H,I,rfl,h}
theorem oB{j pos}:PE X (.Constant .none j pos) (tC .non):=λ_ _ _ H _ I h=>Constant_none {.non,H,I,rfl,h}
theorem oA{x j pos}:PE X (.Constant (.str x) j pos) (tC (.str x)):=λ_ _ _ H _ I h=>Calls.Constant_str {.str x,H,I.tok _,{_,rfl},h}
def Gl(X:Cx)(x:C2):Prop:=X.env.kindOf x=AA .globalImplicit
theorem qT(I:Inv X AG σ H s)(hg:Gl X x)(hm:X.mg x=AA u)(h:Q u s)
  (hd:(x==("__debug__":C2))=AC:=by decide):A1 (A4 X.prog X.w) X.A (eval (.Name x pos) X.env) Q E s :=
 UR I.ok.kind hg (Calls.loadGlobal_global (by rw[I.ok.glob];exact I.mod.glob.keeps I.bk) hm h) hd
theorem lA(I:Inv X AG σ H s)(hg:Gl X x)(hm:X.mg x=AL)(hv:GL x=AA u)(h:Q u s)
  (hn:x≠"__name__":=by decide) (hd:(x==("__debug__":C2))=AC:=by decide):A1 (A4 X.prog X.w) X.A (eval (.Name x pos) X.env) Q E s:=by
 obtain⟨mb,h1,h2⟩:=I.mod.blt;exact UR I.ok.kind hg (Calls.loadGlobal_builtin (by rw[I.ok.glob];exact I.mod.glob.keeps I.bk) hm (by rw[I.ok.blt];exact h1.keeps I.bk) ((h2 x hn).trans hv) h) hd
theorem gJ(hg:Gl X x)(hm:X.mg x=AA u)(r:RelV v u)(hd:(x==("__debug__":C2))=AC:=by decide):PE X (.Name x pos) (tC v) :=
 λ_ _ _ H _ I h=>qT I hg hm {v,H,I,r,h} hd
theorem Rf(hg:Gl X x)(hm:X.mg x=AL)(hv:GL x=AA u)(r:RelV v u)(hn:x≠"__name__":=by decide)(hd:(x==("__debug__":C2))=AC:=by decide):PE X (.Name x pos) (tC v) :=
 λ_ _ _ H _ I h=>lA I hg hm hv {v,H,I,r,h} hn hd
variable{a b:DA}{tA Bo:TT}{rest:List DA}
def yH6(t u:TT):TT:=λσ H Q=>t σ H λc H1=>if c=AK then u σ H1 Q else Q AC H1
def tOr(t u:TT):TT:=λσ H Q=>t σ H λc H1=>if c=AK then Q AK H1 else u σ H1 Q
def yH7(t:TT):TT:=λσ H Q=>t σ H λc H1=>Q (!c) H1
theorem zYH(ha:PT X a tA):PW X (.BoolOp .And [a] pos) tA:=by
 intro wh AG s σ H Q I h;refine isTrue_and (G4 (ha AG s σ H Q I h) λc s1 e=>?_)
 cases c with
 |true=>exact isTrue_and_nil e
 |false=>exact e
theorem yB3(ha:PT X a tA):PW X (.BoolOp .Or [a] pos) tA:=by
 intro wh AG s σ H Q I h;refine isTrue_or (G4 (ha AG s σ H Q I h) λc s1 e=>?_)
 cases c with
 |false=>exact isTrue_or_nil e
 |true=>exact e
theorem yB4(ha:PT X a tA)(hb:PW X (.BoolOp .And (b::rest) pos) Bo):PW X (.BoolOp .And (a::b::rest) pos) (yH6 tA Bo):=by
 intro wh AG s σ H Q I h;refine isTrue_and (G4 (ha AG s σ H _ I h) λc s1 ⟨H1,I1,q1⟩=>?_)
 cases c with
 |true=>exact hb wh AG s1 σ H1 Q I1 q1
 |false=>exact{H1,I1,q1}
theorem yFM(ha:PT X a tA)(hb:PW X (.BoolOp .Or (b::rest) pos) Bo):PW X (.BoolOp .Or (a::b::rest) pos) (tOr tA Bo):=by
 intro wh AG s σ H Q I h;refine isTrue_or (G4 (ha AG s σ H _ I h) λc s1 ⟨H1,I1,q1⟩=>?_)
 cases c with
 |true=>exact{H1,I1,q1}
 |false=>exact hb wh AG s1 σ H1 Q I1 q1
theorem yB5(ha:PT X a tA):PT X (.UnaryOp .Not a pos) (yH7 tA):=by
 intro AG s σ H Q I h;exact isTrue_not (ha AG s σ H (λc H1=>Q (!c) H1) I h)
def yFN(ta tb:TE):TE:=λσ H Q=>ta σ H λx H1=>∃c,x=.bl c/\if c=AK then tb σ H1 Q else Q (.bl AC) H1
def yH8(ta tb:TE):TE:=λσ H Q=>ta σ H λx H1=>∃c,x=.bl c/\if c=AK then Q (.bl AK) H1 else tb σ H1 Q
def yFO(ta:TE):TE:=λσ H Q=>ta σ H λx H1=>∃c,x=.bl c/\Q (.bl (!c)) H1
theorem yB6{op}{t:TE}(h:PE X a t):PE X (.BoolOp op [a] pos) t:=λAG s σ H Q I hw=>BoolOp_one (h AG s σ H Q I hw)
theorem yB7(ha:PE X a ta)(hb:PE X (.BoolOp .And (b::rest) pos) tb):PE X (.BoolOp .And (a::b::rest) pos) (yFN ta tb):=by
 intro AG s σ H Q I h;refine BoolOp_and (G4 (ha AG s σ H _ I h) λv s1 ⟨x,H1,I1,r1,q1⟩=>?_);obtain⟨c,rfl,q1⟩:=q1;cases r1;refine IT ?_
 cases c with
 |true=>exact hb AG s1 σ H1 Q I1 q1
 |false=>exact{.bl AC,H1,I1,rfl,q1}
theorem yFP(ha:PE X a ta)(hb:PE X (.BoolOp .Or (b::rest) pos) tb):PE X (.BoolOp .Or (a::b::rest) pos) (yH8 ta tb):=by
 intro AG s σ H Q I h;refine BoolOp_or (G4 (ha AG s σ H _ I h) λv s1 ⟨x,H1,I1,r1,q1⟩=>?_);obtain⟨c,rfl,q1⟩:=q1;cases r1;refine IT ?_
 cases c with
 |false=>exact hb AG s1 σ H1 Q I1 q1
 |true=>exact{.bl AK,H1,I1,rfl,q1}
theorem yB8(ha:PE X a ta):PE X (.UnaryOp .Not a pos) (yFO ta):=by
 intro AG s σ H Q I h;refine UnaryOp_ (G4 (ha AG s σ H _ I h) λv s1 ⟨x,H1,I1,r1,q1⟩=>?_);obtain⟨c,rfl,q1⟩:=q1;cases r1;exact not_of (IT {.bl (!c),H1,I1,rfl,q1})
def tIf(t:TT)(ta tb:TE):TE:=λσ H Q=>t σ H λc H1=>if c=AK then ta σ H1 Q else tb σ H1 Q
theorem Sh(hc:PT X c tA)(ha:PE X a ta)(hb:PE X b tb):PE X (.IfExp c a b pos) (tIf tA ta tb):=by
 intro AG s σ H Q I h;refine wpAny_IfExp (G4 (hc AG s σ H _ I h) λd s1 ⟨H1,I1,q1⟩=>?_)
 cases d with
 |true=>exact ha AG s1 σ H1 Q I1 q1
 |false=>exact hb AG s1 σ H1 Q I1 q1
end
def SqL(K:AD)(H:Hp)(a:AT)(xs:List V):Prop :=
 Rd H a (.lst xs) \/
  ∃(o:IF) (CK:Array AJ) (n:Nat),K.lookup a=AA o/\o.cls=.type "list"/\o.dict=AL/\o.data=.seq CK n/\CK.size<=sizeLine/\Vals xs CK.toList
def SqT(K:AD)(H:Hp)(a:AT)(xs:List V):Prop :=
 Rd H a (.tup xs) \/
  ∃(o:IF) (CK:Array AJ) (n:Nat),K.lookup a=AA o/\o.cls=.type "tuple"/\o.data=.seq CK n/\CK.size<=sizeLine/\Vals xs CK.toList
noncomputable def yH9:AJ->Option V
 |.none=>AA .non
 |.bool b=>AA (.bl b)
 |.int i _=>AA (.int i)
 |.str x _=>AA (.str x)
 |.bytes b _=>AA (.byt b)
 |.float b _=>AA (.flt b)
 |.ref a=>AA (.ref a)
 |.type n=>AA (.ty n)
 |_=>AL
theorem RelV.abs{x:V}(r:RelV x u):yH9 u=AA x:=by
 cases x with
 |non=>cases r;rfl
 |bl _=>cases r;rfl
 |int _=>obtain⟨t,rfl⟩:=r;rfl
 |str _=>obtain⟨t,rfl⟩:=r;rfl
 |byt _=>obtain⟨t,rfl⟩:=r;rfl
 |flt _=>obtain⟨t,rfl⟩:=r;rfl
 |ref _=>cases r;rfl
 |ty _=>cases r;rfl
theorem RelV.inj{x y:V}{u:AJ}(r:RelV x u)(q:RelV y u):x=y:=BJ (r.abs.symm.trans q.abs)
theorem Vals.inj:∀{xs ys:List V} {us:List AJ},Vals xs us->Vals ys us->xs=ys
 |_,_,_,.nil,.nil=>rfl
 |_,_,_,.cons r t,.cons r' t'=>by rw[r.inj r',Vals.inj t t']
variable{xs:List V}{ys:List V}
theorem SqL.of{K:AD}(h:H a=AA (.lst xs)):SqL K H a xs:=.inl (.inl h)
theorem SqT.of{K:AD}(h:H a=AA (.tup xs)):SqT K H a xs:=.inl (.inl h)
theorem Inv.list(I:Inv X AG σ H s)(h:SqL X.K H a xs):∃CK:List AJ,Vals xs CK/\PlainL s.heap a CK.toArray/\xs.length<=sizeLine:=by
 rcases h with h|⟨o,CK,n,hk,hc,hd,hs,hz,r⟩
 .obtain⟨z,CK,n,r,e⟩:=h.ok I.hok
  exact{CK,r,{_,n,e,rfl,rfl,rfl},z}
 .refine{CK.toList,r,{o,n,I.kIn a o hk,hc,hd,by simpa using hs},?_}
  have e:=r.length;simp only[HA] at e;exact AY (C0 e) hz
theorem Inv.tuple(I:Inv X AG σ H s)(h:SqT X.K H a xs):∃CK:List AJ,Vals xs CK/\UQ s.heap a CK.toArray/\xs.length<=sizeLine:=by
 rcases h with h|⟨o,CK,n,hk,hc,hs,hz,r⟩
 .obtain⟨z,CK,r,p⟩:=h.ok I.hok
  exact{CK,r,p.isTup,z}
 .refine{CK.toList,r,{o,I.kIn a o hk,hc,n,by simpa using hs},?_}
  have e:=r.length;simp only[HA] at e;exact AY (C0 e) hz
theorem Inv.list_inj(I:Inv X AG σ H s)(h:SqL X.K H a xs)(h':SqL X.K H a ys):xs=ys:=by
 obtain⟨CK,r,⟨o,n,e,_,_,d⟩,_⟩:=I.list h;obtain⟨NY,r',⟨o',n',e',_,_,d'⟩,_⟩:=I.list h';rw[e] at e';cases e';rw[d] at d';injection d' with d1 _;have:CK=NY:=by simpa using congrArg Array.toList d1
 subst this;exact r.inj r'
theorem Inv.tuple_inj(I:Inv X AG σ H s)(h:SqT X.K H a xs)(h':SqT X.K H a ys):xs=ys:=by
 obtain⟨CK,r,⟨o,e,_,n,d⟩,_⟩:=I.tuple h;obtain⟨NY,r',⟨o',e',_,n',d'⟩,_⟩:=I.tuple h';rw[e] at e';cases e';rw[d] at d';injection d' with d1 _;have:CK=NY:=by simpa using congrArg Array.toList d1
 subst this;exact r.inj r'
abbrev Cx.wish(X:Cx)(E:AJ->AS->Prop):Cx:={ X with xe:=E }
abbrev Cx.nox(X:Cx):Cx:=X.wish λ_ _=>False
theorem Cx.Ok.wish{X:Cx}(ok:X.Ok)(E:AJ->AS->Prop):(X.wish E).Ok :=
 {ok.tab,ok.mod,ok.kind,ok.glob,ok.blt,ok.above,ok.inj,ok.has,ok.cab,ok.hd,ok.frames,ok.stk,ok.exf,ok.bs,ok.bsz,ok.noex,ok.exfs,ok.funs,ok.frf}
theorem Cx.Ok.unwish(ok:(X.wish E).Ok):X.Ok :=
 {ok.tab,ok.mod,ok.kind,ok.glob,ok.blt,ok.above,ok.inj,ok.has,ok.cab,ok.hd,ok.frames,ok.stk,ok.exf,ok.bs,ok.bsz,ok.noex,ok.exfs,ok.funs,ok.frf}
theorem Inv.wish(I:Inv X AG σ H s)(E:AJ->AS->Prop):Inv (X.wish E) AG σ H s:={I.ok.wish E,I.os,I.bare,I.base,I.loc,I.cell,I.free,I.freeC,I.pin,I.hok,I.len}
theorem Inv.unwish(I:Inv (X.wish E) AG σ H s):Inv X AG σ H s:={I.ok.unwish,I.os,I.bare,I.base,I.loc,I.cell,I.free,I.freeC,I.pin,I.hok,I.len}
theorem SP.unwish{D:Ends}{f:Flow}{s':AS}(h:SP (X.wish E) AG D f s'):SP X AG D f s':=by
 cases f with
 |next=>obtain⟨σ',H',I,q⟩:=h;exact{σ',H',I.unwish,q}
 |brk=>obtain⟨σ',H',I,q⟩:=h;exact{σ',H',I.unwish,q}
 |cont=>obtain⟨σ',H',I,q⟩:=h;exact{σ',H',I.unwish,q}
 |ret u=>obtain⟨v,σ',H',I,r,q⟩:=h;exact{v,σ',H',I.unwish,r,q}
theorem PSs.nox{st:List FF}{t:TS}(h:PSs X.nox st t):PSs X st t:=λAG s σ H D I hw =>
 DB (h AG s σ H D (I.wish _) hw) (λ_ _ q=>q.unwish) λ_ _ z=>IJ z
variable{te:TE}
section
variable{st:FF}{rest:List FF}{t u:TS}
def yFQ:TS:=λD σ H=>D.nx σ H
def Aw(t u:TS):TS:=λD σ H=>t { D with nx:=u D } σ H
theorem ZO:PSs X [] yFQ:=λ_ _ σ H _ I h=>II {σ,H,I,h}
theorem lH(h1:PS X st t)(h2:PSs X rest u):PSs X (st::rest) (Aw t u):=by
 intro AG s σ H D I h;refine LD (G4 (h1 AG s σ H { D with nx:=u D } I h) λf s1 q=>?_)
 cases f with
 |next =>
  obtain⟨σ',H',I',q⟩:=q;exact h2 AG s1 σ' H' D I' q
 |ret v=>exact q
 |brk=>exact q
 |cont=>exact q
theorem zO(h1:PS X st t):PSs X [st] t:=by
 intro AG s σ H D I h;refine LD (G4 (h1 AG s σ H D I h) λf s1 q=>?_)
 cases f with
 |next=>exact II q
 |ret v=>exact q
 |brk=>exact q
 |cont=>exact q
theorem Inv.quiet(I:Inv X AG σ H s):interactive X.env=AC:=by simp[interactive,I.ok.kind]
def yFR(te:TE):TS:=λD σ H=>te σ H λ_ H1=>D.nx σ H1
theorem Re(he:PE X e te)(hs:HS e AL pos.line X.env=pure AC:=by rfl):PS X (.Expr e pos) (yFR te):=by
 intro AG s σ H D I h;exact wpAny_Expr_any (G4 (he AG s σ H _ I h) (λv s1 q0=>by obtain⟨x,H1,I1,r1,q1⟩:=q0;exact{σ,H1,I1,q1})) I.quiet hs
def Wt(te:TE):TS:=λD σ H=>te σ H D.rt
theorem yU(he:PE X e te):PS X (.Return (AA e) pos) (Wt te):=by
 intro AG s σ H D I h;exact wpAny_Return_some (G4 (he AG s σ H _ I h) (λv s1 q0=>by obtain⟨x,H1,I1,r1,q1⟩:=q0;exact{x,σ,H1,I1,r1,q1}))
def yIA(c:TT)(t u:TS):TS:=λD σ H=>c σ H λb H1=>if b=AK then t D σ H1 else u D σ H1
theorem Xv{a b:List FF}{tc:TT}(hc:PT X c tc)(ha:PSs X a t)(hb:PSs X b u):PS X (.If c a b pos) (yIA tc t u):=by
 intro AG s σ H D I h;refine wpAny_If (G4 (hc AG s σ H _ I h) λd s1 ⟨H1,I1,q1⟩=>?_)
 cases d with
 |true=>exact ha AG s1 σ H1 D I1 q1
 |false=>exact hb AG s1 σ H1 D I1 q1
def Pg:TS:=λ_ _ _=>False
theorem dC:PS X st Pg:=λ_ _ _ _ _ _ h=>h.elim
theorem Tv{sts:List FF}:PSs X sts Pg:=λ_ _ _ _ _ _ h=>h.elim
end
abbrev TG:=V->St->Hp->(St->Hp->Prop)->Prop
abbrev jD:=List V->St->Hp->(St->Hp->Prop)->Prop
def PG(X:Cx)(QG:DA)(t:TG):Prop :=
 ∀(AG:List (AT×IF)) (s:AS) (σ:St) (H:Hp) (v:V) (u:AJ) (Q:St->Hp->Prop),Inv X AG σ H s->RelV v u->t v σ H Q ->
  A1 (A4 X.prog X.w) X.A (LG QG X.env u) (λ_ s'=>∃σ' H',Inv X AG σ' H' s'/\Q σ' H') X.xe s
def PGs(X:Cx)(ts:List DA)(t:jD):Prop :=
 ∀(AG:List (AT×IF)) (s:AS) (σ:St) (H:Hp) (vs:List V) (us:List AJ) (Q:St->Hp->Prop),Inv X AG σ H s->Vals vs us->t vs σ H Q ->
  A1 (A4 X.prog X.w) X.A (assignInOrder ((HL ts X.env).map (·.2)) us) (λ_ s'=>∃σ' H',Inv X AG σ' H' s'/\Q σ' H') X.xe s
abbrev Hv:=V->V->V->Hp->(Hp->Prop)->Prop
def Ws(X:Cx)(t:Hv):Prop :=
 ∀(AG:List (AT×IF)) (s:AS) (σ:St) (H:Hp) (o i v:V) (ov iv u:AJ) (Q:Hp->Prop),Inv X AG σ H s->RelV o ov->RelV i iv->RelV v u->t o i v H Q ->
  A1 (A4 X.prog X.w) X.A (setItem ov iv u) (λ_ s'=>∃H',Inv X AG σ H' s'/\Q H') X.xe s
def k6(i:Nat):TG:=λv σ H Q=>Q (σ.set i (AA v)) H
theorem qS(hN:X.N.Nodup)(hi:X.N[i]?=AA x)(hx:Loc X.env.scope x)(hf:X.fn x=AK\/X.env.scope.names.lookup x=AA .local:=by first|exact .inl rfl|exact .inr rfl|assumption):PG X (.Name x pos) (k6 i):=by
 intro AG s σ H v u Q I r h;exact wpAny_assign_Name (z6 I hN hi hx r (λs' I'=>{_,H,I',h}) hf)
def yIB:jD:=λvs σ H Q=>vs=[]/\Q σ H
def yFT(t:TG)(u:jD):jD:=λvs σ H Q=>∃v r,vs=v::r/\t v σ H λσ' H'=>u r σ' H' Q
theorem VD:PGs X [] yIB:=by
 intro AG s σ H vs us Q I r h;obtain⟨e,h⟩:=h;subst e;cases r;exact assignInOrder_nil {σ,H,I,h}
theorem t9{t:TG}{u:jD}(h1:PG X e t)(h2:PGs X es u)
  (hs:(HL (e::es) X.env).map (·.2)=LG e X.env::(HL es X.env).map (·.2):=by rfl):PGs X (e::es) (yFT t u):=by
 intro AG s σ H vs us Q I r h;obtain⟨v,vr,e1,h⟩:=h;subst e1
 cases r with
 |cons r rr =>
  rw[hs];refine assignInOrder_cons (G4 (h1 AG s σ H _ _ _ I r h) λ_ s1 ⟨σ1,H1,I1,q1⟩=>?_);exact h2 AG s1 σ1 H1 _ _ Q I1 rr q1
def yIC(K:AD)(n:Nat)(t:jD):TG:=λv σ H Q=>∃a xs,v=.ref a/\SqT K H a xs/\xs.length=n/\t xs σ H Q
theorem Dr{t:jD}(hc:X.calm=AK)(h:PGs X es t)
  (hn:(HL es X.env).length=n:=by rfl) (gU:(HL es X.env).findIdx? (·.1)=AL:=by rfl):PG X (.Tuple es k pos) (yIC X.K n t):=by
 intro AG s σ H v u Q I r hw;obtain⟨a,xs,e1,hq,hl,hw⟩:=hw;subst e1;cases r;obtain⟨CK,rv,ht,hz⟩:=I.tuple hq;refine assign_Tuple_tuple (I.ok.hd hc) ht (by simp[hn,<-hl,rv.length]) gU λh' hx=>?_;have I1:Inv X AG σ H { s with heap:=h' }:=I.kept (t':=s.toks) λb o e=>hx b o (BM (A5 e)) e;exact h AG _ σ H xs _ Q I1 (by simpa using rv) hw
def yID(to ti:TE)(t:Hv):TG:=λv σ H Q=>to σ H λo H1=>ti σ H1 λi H2=>t o i v H2 λH3=>Q σ H3
theorem yCA{o i:DA}{to ti:TE}{t:Hv}(ho:PE X o to)(hi:PE X i ti)(hs:Ws X t)
  (ha:∀v,LG (.Subscript o i pos) X.env v=(do
   let ov <-IU [v] (eval o X.env)
   let iv <-IU [v,ov] (eval i X.env)
   JH pos
   IU [v,ov,iv] (setItem ov iv v)
   release [v,ov,iv] []):=by intro _;rfl):PG X (.Subscript o i pos) (yID to ti t):=by
 intro AG s σ H v u Q I r h;rw[ha];refine AB (CS (G4 (ho AG s σ H _ I h) λov s1 ⟨x,H1,I1,r1,q1⟩=>?_));refine AB (CS (G4 (hi AG s1 σ H1 _ I1 q1) λiv s2 ⟨y,H2,I2,r2,q2⟩=>?_));refine AB (IM (AB (CS (G4 (hs AG s2 σ H2 x y v ov iv u _ I2 r1 r2 r q2) λ_ s3 ⟨H3,I3,q3⟩=>?_))));exact wpAny_release {σ,H3,I3,q3}
def mZ(te:TE)(g:TG):TS:=λD σ H=>te σ H λx H1=>g x σ H1 D.nx
theorem Dq{g:TG}(he:PE X e te)(hg:PG X tg g)(hs:aS [tg] e pos.line X.env=pure AC:=by rfl)(hw:aT [tg] e X.env=pure AL:=by rfl)
  (h1:(HL [tg] X.env).map (·.2)=[LG tg X.env]:=by rfl):PS X (.Assign [tg] e pos) (mZ te g):=by
 intro AG s σ H D I h;refine wpAny_Assign_stores (G4 (he AG s σ H _ I h) λv s1 ⟨x,H1,I1,r1,q1⟩=>?_) hs hw;rw[h1];exact G4 (hg AG s1 σ H1 x v _ I1 r1 q1) λ_ s2 q=>q
theorem yT(hN:X.N.Nodup)(hi:X.N[i]?=AA x)(hx:Loc X.env.scope x)(he:PE X e te)(hs:HS e (AA (.Name x NI)) pos.line X.env=pure AC:=by rfl)(hf:X.fn x=AK\/X.env.scope.names.lookup x=AA .local:=by first|exact .inl rfl|exact .inr rfl|assumption) :
  PS X (.Assign [.Name x NI] e pos) (mZ te (k6 i)):=by
 intro AG s σ H D I h;refine UF (G4 (he AG s σ H _ I h) λv s1 ⟨y,H1,I1,r1,q1⟩=>?_) hs;exact z6 I1 hN hi hx r1 (λs2 I2=>{_,H1,I2,q1}) hf
def yCB(c:TT)(tb:TS):TS:=λD σ H=>∃W:Nat->St->Hp->Prop,(∃m,W m σ H)/\∀m σ H,W m σ H ->
 c σ H λb H1=>if b=AK then ∃N:St->Hp->Prop,(∀σ' H',N σ' H'->∃m',m'<m/\W m' σ' H')/\tb { D with nx:=N,ct:=N,bk:=D.nx } σ H1 else D.nx σ H1
theorem zUP{tc:TT}{tb:TS}(hp:WC (A4 X.prog X.w) X.A X.env X.xe)(hc:PT X c tc)(hb:PSs X body tb):PS X (.While c body [] pos) (yCB tc tb):=by
 intro AG s σ H D I h;obtain⟨W,⟨m0,w0⟩,turn⟩:=h;refine wpAny_While (codeAny_whileLoop (λn s'=>∃σ' H',Inv X AG σ' H' s'/\W n σ' H') ?_ m0 {σ,H,I,w0});rintro n s1 ⟨σ1,H1,I1,w1⟩;refine IH hp (G4 (hc AG s1 σ1 H1 _ I1 (turn n σ1 H1 w1)) λb s2 ⟨H2,I2,q2⟩=>?_)
 cases b with
 |true =>
  obtain⟨N,hN,q2⟩:=q2;rw[if_pos rfl];refine IH hp (G4 (hb AG s2 σ1 H2 _ I2 q2) λf s3 q3=>?_)
  cases f with
  |next =>
   obtain⟨σ3,H3,I3,n3⟩:=q3;obtain⟨m',hm,w3⟩:=hN σ3 H3 n3;exact{m',hm,σ3,H3,I3,w3}
  |cont =>
   obtain⟨σ3,H3,I3,n3⟩:=q3;obtain⟨m',hm,w3⟩:=hN σ3 H3 n3;exact{m',hm,σ3,H3,I3,w3}
  |brk=>exact q3
  |ret v=>exact q3
 |false =>
  rw[if_neg B9];exact II {σ1,H2,I2,q2}
structure It where
 go:Nat->Hp->Prop
 yld:Nat->Hp->V->Hp->Prop
 stop:Nat->Hp->Prop
def FpOk(X:Cx)(AG:List (AT×IF))(H:Hp)(b:AT):Prop :=
 H b=AL/\b≠X.env.locals/\b∉X.fs/\(b∈X.ex\/X.s₀.heap.objs.size<=b)/\(∀x c,X.env.cells.lookup x=AA c->c≠b)/\∀p∈X.pn++AG,p.1≠b
theorem Inv.fpOk{b:AT}(I:Inv X AG σ H s)(hb:s.heap.objs.size<=b)(hn:H' b=AL):FpOk X AG H' b:=by
 refine{hn,EY (AN I.lt hb),I.nofs hb,.inr (AY I.sz hb),λx c e z=>?_,λp hp z=>?_}
 .obtain⟨v,q⟩:=I.cell x c e
  exact absurd (AN q.lt (by rw[z];exact hb)) (GE _)
 .exact absurd (AN (A5 (I.pin p hp).1) (by rw[z];exact hb)) (GE _)
structure Turn(P:CU)(w:D8)(K:AD)(tg:DA)(J:It)(fp:List AT)(it:AT)(tn:Nat->D7->Prop):Prop where
 mem:it∈fp
 obj:∀i h,tn i h->∀b∈fp,∃o,h.get? b=AA o/\∀v,o.data≠.cell v
 keep:∀i h h',tn i h->(∀b∈fp,∀o,h.get? b=AA o->h'.get? b=AA o)->tn i h'
 item:∀(X:Cx),X.prog=P->X.w=w->X.K=K->X.calm=AK->∀(i:Nat) (AG:List (AT×IF)) (s:AS) (σ:St) (H:Hp) (E:AJ->AS->Prop),Inv X AG σ H s->(∀b∈fp,FpOk X AG H b)->tn i s.heap->J.go i H ->
  A1 (A4 P w) X.A (J8 (.ref it)) (λr s1=>∃u,r=AA u /\
   A1 (A4 P w) X.A (FP tg (.ref it) u) (λ_ s2=>∃x H',Inv X AG σ H' s2/\RelV x u/\J.yld i H x H'/\tn (i+1) s2.heap/\∀b∈fp,H' b=AL) E s1) E s
 done:∀(X:Cx),X.prog=P->X.w=w->X.K=K->X.calm=AK->∀(i:Nat) (AG:List (AT×IF)) (s:AS) (σ:St) (H:Hp) (E:AJ->AS->Prop),Inv X AG σ H s->(∀b∈fp,FpOk X AG H b)->tn i s.heap->J.stop i H ->
  A1 (A4 P w) X.A (J8 (.ref it)) (λr s1=>r=AL/\Inv X AG σ H s1) E s
 self:∀(A:DU) (i:Nat) (s:AS) (Q:AJ->AS->Prop) (E:AJ->AS->Prop),tn i s.heap->Q (.ref it) s->A1 (A4 P w) A (N8 (.ref it)) Q E s
abbrev TI:=St->Hp->(It->Hp->Prop)->Prop
def Yn(X:Cx)(AG:List (AT×IF))(σ:St)(tg:DA)(R:It->Hp->Prop)(oR:AJ)(s2:AS):Prop :=
 ∃(it:AT) (fp:List AT) (tn:Nat->D7->Prop) (J:It) (H':Hp),oR=.ref it/\Inv X AG σ H' s2/\Turn X.prog X.w X.K tg J fp it tn/\tn 0 s2.heap/\(∀b∈fp,FpOk X AG H' b)/\R J H'
def PI(X:Cx)(tg iter:DA)(wi:TI):Prop :=
 ∀(AG:List (AT×IF)) (s:AS) (σ:St) (H:Hp) (R:It->Hp->Prop),Inv X AG σ H s->wi σ H R ->
  A1 (A4 X.prog X.w) X.A (eval iter X.env) (λv s1=>A1 (A4 X.prog X.w) X.A (N8 v) (Yn X AG σ tg R) X.xe s1) X.xe s
theorem sZ{E:AJ → AS → Prop}{o:IF}{n:String}{vs:Array AJ}{Q:Unit → AS → Prop}(ho : s.heap.get? it = AA o)(hc : o.cls = .type n)(hd : o.data = .fields vs)
    (hn : ["enumerate", "zip", "dict_itemiterator", "dict_reverseitemiterator", "odict_iterator", "itertools.zip_longest", "itertools.pairwise"].contains n = AC) (hQ : Q () s) : A1 M A (FP tg (.ref it) u) Q E s := by
  unfold FP
  cases tg <;> first
    | exact wpAny_pure hQ
    | (cases u <;> first
        | exact wpAny_pure hQ
        | (
          refine AB (YY ho ?_);rw [hc, hd];show A1 M A (if (["enumerate", "zip", "dict_itemiterator", "dict_reverseitemiterator", "odict_iterator", "itertools.zip_longest", "itertools.pairwise"].contains n && vs[0]? == AA (E7 _)) = AK then _ else _) Q E s;rw [if_neg (by intro h; rw [hn, mT] at h; cases h)]
          exact wpAny_pure hQ))
noncomputable def sB(K:AD)(a:AT):It :=
 {λi H=>∃xs x,SqL K H a xs/\xs[i]?=AA x,λi H x H'=>H'=H/\∀xs,SqL K H a xs->xs[i]?=AA x,λi H=>∃xs,SqL K H a xs/\xs.length<=i}
noncomputable def rZ(K:AD)(a:AT):It :=
 {λi H=>∃xs x,SqT K H a xs/\xs[i]?=AA x,λi H x H'=>H'=H/\∀xs,SqT K H a xs->xs[i]?=AA x,λi H=>∃xs,SqT K H a xs/\xs.length<=i}
noncomputable def sA(lo:Int)(n:Nat):It:={λi _=>i<n,λi H x H'=>H'=H/\x=.int (lo+i),λi _=>n<=i}
theorem zRF{K:AD}(a it:AT):Turn P w K tg (sB K a) [it] it (λi h=>h.IsListIter it a i) where
 mem:=by simp
 obj:=λi h st b hb=>by
  have e:b=it:=by simpa using hb
  subst e;obtain⟨o,e,c,d⟩:=st;exact{o,e,λv z=>by rw[d] at z;cases z}
 keep:=λi h h' st k=>st.at λo e=>k it 's' o e
 item:=by
  intro X hP hw hK hc i AG s σ H E I hf st hg;subst hP hw hK;obtain⟨xs,x,hq,hx⟩:=hg;obtain⟨CK,rv,p,hz⟩:=I.list hq;obtain⟨u,hu,ru⟩:=rv.get hx;obtain⟨f0,f1,f2,f3,f4,f5⟩:=hf it 's';refine eX st p.isList (x:=u) (by simpa using hu) λh' CT sb=>?_;have I1:Inv X AG σ H { s with heap:=h' }:=I.turned (t':=s.toks) (λb o hb e=>(sb.2 b hb).trans e) f0 f1 f3 f4 f5;obtain⟨o,e,c,d⟩:=id CT;exact{u,rfl,sZ (s:={ s with heap:=h' }) e c d 'd' {x,H,I1,ru,{rfl,λys hy=>by rw[I.list_inj hy hq];exact hx},CT,λb hb=>(hf b hb).1}}
 done:=by
  intro X hP hw hK hc i AG s σ H E I hf st hg;subst hP hw hK;obtain⟨xs,hq,hx⟩:=hg;obtain⟨CK,rv,p,hz⟩:=I.list hq;obtain⟨f0,f1,f2,f3,f4,f5⟩:=hf it 's';have hl:=rv.length;exact hU (I.ok.hd hc) st p.isList (by simp;lia) λh' eb=>{rfl,I.turned (t':=s.toks) (λb o hb e=>eb b o hb e) f0 f1 f3 f4 f5}
 self:=λ_ _ _ _ _ st h=>wpAny_pyIter_listiter st h
theorem zP1{K:AD}(a it:AT):Turn P w K tg (rZ K a) [it] it (λi h=>h.IsTupleIter it a i) where
 mem:=by simp
 obj:=λi h st b hb=>by
  have e:b=it:=by simpa using hb
  subst e;obtain⟨o,e,c,d⟩:=st;exact{o,e,λv z=>by rw[d] at z;cases z}
 keep:=λi h h' st k=>st.at λo e=>k it 's' o e
 item:=by
  intro X hP hw hK hc i AG s σ H E I hf st hg;subst hP hw hK;obtain⟨xs,x,hq,hx⟩:=hg;obtain⟨CK,rv,p,hz⟩:=I.tuple hq;obtain⟨u,hu,ru⟩:=rv.get hx;obtain⟨f0,f1,f2,f3,f4,f5⟩:=hf it 's';refine wpAny_pyNext_tuple_item st (show s.heap.IsTuple a CK.toArray from p) (x:=u) (by simpa using hu) λh' CT sb=>?_;have I1:Inv X AG σ H { s with heap:=h' }:=I.turned (t':=s.toks) (λb o hb e=>(sb.2 b hb).trans e) f0 f1 f3 f4 f5;obtain⟨o,e,c,d⟩:=id CT;exact{u,rfl,sZ (s:={ s with heap:=h' }) e c d 'd' {x,H,I1,ru,{rfl,λys hy=>by rw[I.tuple_inj hy hq];exact hx},CT,λb hb=>(hf b hb).1}}
 done:=by
  intro X hP hw hK hc i AG s σ H E I hf st hg;subst hP hw hK;obtain⟨xs,hq,hx⟩:=hg;obtain⟨CK,rv,p,hz⟩:=I.tuple hq;obtain⟨f0,f1,f2,f3,f4,f5⟩:=hf it 's';have hl:=rv.length;exact wpAny_pyNext_tuple_end (I.ok.hd hc) st (show s.heap.IsTuple a CK.toArray from p) (by simp;lia) λh' eb=>{rfl,I.turned (t':=s.toks) (λb o hb e=>eb b o hb e) f0 f1 f3 f4 f5}
 self:=λ_ _ _ _ _ st h=>wpAny_pyIter_tupleiter st h
theorem zP2{K:AD}(it:AT)(lo:Int)(n:Nat):Turn P w K tg (sA lo n) [it] it (λi h=>IsRangeIter h it (lo+(i:Nat) * 1) ((n:Int)-(i:Nat)) 1) where
 mem:=by simp
 obj:=λi h st b hb=>by
  have e:b=it:=by simpa using hb
  subst e
  exact{_,st,λv z=>by
   have z':TH _=SD v:=z
   cases z'}
 keep:=λi h h' st k=>k it 's' _ st
 item:=by
  intro X hP hw hK hc i AG s σ H E I hf st hg;subst hP hw hK;obtain⟨f0,f1,f2,f3,f4,f5⟩:=hf it 's';have W:=Walks.range (prog:=X.prog) (w:=X.w) (I.ok.hd hc) it lo 1 n;refine W.item i s _ _ hg st λv h' tk hv CT kk=>?_;obtain⟨t,rfl⟩:=hv;have I1:Inv X AG σ H { s with heap:=h',toks:=tk }:=I.turned (λb o hb e=>kk b o (by simpa using hb) e) f0 f1 f3 f4 f5;refine{_,rfl,sZ (s:={ s with heap:=h',toks:=tk }) (n:="range_iterator") CT rfl rfl 'd' {.int (lo+i),H,I1,{t,?_},{rfl,rfl},CT,λb hb=>(hf b hb).1}};rw[Int.mul_one]
 done:=by
  intro X hP hw hK hc i AG s σ H E I hf st hg;subst hP hw hK;obtain⟨f0,f1,f2,f3,f4,f5⟩:=hf it 's';exact wpAny_pyNext_range_end (I.ok.hd hc) st (by have:n<=i:=hg;lia) λh' eb=>{rfl,I.turned (t':=s.toks) (λb o hb e=>eb b o hb e) f0 f1 f3 f4 f5}
 self:=λ_ _ _ _ _ st h=>wpAny_pyIter_rangeiter st h
variable{tl:TE}{wi:TI}
def yFU(K:AD)(tl:TE):TI:=λσ H R=>tl σ H λx H1=>∃a,x=.ref a/\(∃xs,SqL K H1 a xs)/\R (sB K a) H1
def yIE(K:AD)(tl:TE):TI:=λσ H R=>tl σ H λx H1=>∃a,x=.ref a/\(∃xs,SqT K H1 a xs)/\R (rZ K a) H1
theorem Rb{l:DA}(hl:PE X l tl):PI X tg l (yFU X.K tl):=by
 intro AG s σ H R I h;refine G4 (hl AG s σ H _ I h) λv s1 q0=>?_;obtain⟨x,H1,I1,r1,q1⟩:=q0;obtain⟨a,e,⟨xs,hq⟩,q⟩:=q1;subst e;cases r1;obtain⟨CK,rv,p,hz⟩:=I1.list hq;refine HD p.isList ?_;refine{s1.heap.objs.size,[s1.heap.objs.size],_,_,H1,rfl,I1.kept (t':=s1.toks) λb o e=>AF _ e,zRF a _,{_,AV _ rfl,rfl,rfl},λb hb=>?_,q};have e:b=s1.heap.objs.size:=by simpa using hb
 subst e;exact I1.fpOk (AM _) (I1.hok.fresh (AM _))
theorem Pf{l:DA}(hl:PE X l tl):PI X tg l (yIE X.K tl):=by
 intro AG s σ H R I h;refine G4 (hl AG s σ H _ I h) λv s1 q0=>?_;obtain⟨x,H1,I1,r1,q1⟩:=q0;obtain⟨a,e,⟨xs,hq⟩,q⟩:=q1;subst e;cases r1;obtain⟨CK,rv,p,hz⟩:=I1.tuple hq;refine SZ (show s1.heap.IsTuple a CK.toArray from p) ?_;refine{s1.heap.objs.size,[s1.heap.objs.size],_,_,H1,rfl,I1.kept (t':=s1.toks) λb o e=>AF _ e,zP1 a _,{_,AV _ rfl,rfl,rfl},λb hb=>?_,q};have e:b=s1.heap.objs.size:=by simpa using hb
 subst e;exact I1.fpOk (AM _) (I1.hok.fresh (AM _))
theorem Sg{R:It->Hp->Prop}{lo hi:Int}{t u v:kB}{tk:Nat}(I:Inv X AG σ H s)(h1:-(2 ^ 62)<=lo)(h2:lo<2 ^ 62)(h3:-(2 ^ 62)<=hi)(h4:hi<2 ^ 62)
  (q:R (sA lo (hi-lo).toNat) H):A1 (A4 X.prog X.w) X.A (N8 (.ref s.heap.objs.size)) (Yn X AG σ tg R) E { s with heap:=s.heap.push { cls:=.type "range",data:=.fields #[.int lo t,.int hi u,.int 1 v] },toks:=tk }:=by
 refine wpAny_pyIter_range (IsRange.new ..) (small_one h1 h2 h3 h4) ?_;have I1:Inv X AG σ H { s with heap:=s.heap.push { cls:=.type "range",data:=.fields #[.int lo t,.int hi u,.int 1 v] },toks:=tk }:=I.kept λb o e=>AF _ e
 refine{(s.heap.push { cls:=.type "range",data:=.fields #[.int lo t,.int hi u,.int 1 v] }).objs.size,[(s.heap.push { cls:=.type "range",data:=.fields #[.int lo t,.int hi u,.int 1 v] }).objs.size],_,_,H,rfl,
  I1.kept (t':=tk) λb o e=>AF _ e,zP2 _ lo (hi-lo).toNat,?_,λb hb=>?_,q}
 .have e1:lo+((0:Nat):Int) * 1=lo:=by simp
  have e2:(((hi-lo).toNat:Nat):Int)-((0:Nat):Int)=Builtin.Range.rangeSize lo hi 1:=by rw[rangeSize_one];split<;>lia
  show IsRangeIter _ _ (lo+((0:Nat):Int) * 1) ((((hi-lo).toNat:Nat):Int)-((0:Nat):Int)) 1;rw[e1,e2];exact AV _ rfl
 .have e:b=(s.heap.push { cls:=.type "range",data:=.fields #[.int lo t,.int hi u,.int 1 v] }).objs.size:=by simpa using hb
  subst e;exact I1.fpOk (AM _) (I1.hok.fresh (AM _))
def yFV(ta:TA):TI:=λσ H R=>ta σ H λvs H1=>∃j:Int,vs=[.int j]/\-(2 ^ 62)<=j/\j<2 ^ 62/\R (sA 0 j.toNat) H1
def yFW(ta:TA):TI:=λσ H R=>ta σ H λvs H1=>∃i j:Int,vs=[.int i,.int j]/\(-(2 ^ 62)<=i/\i<2 ^ 62/\-(2 ^ 62)<=j/\j<2 ^ 62)/\R (sA i (j-i).toNat) H1
theorem Tu{a:DA}{ta:TA}(hg:Gl X "range")(hm:X.mg "range"=AL)(ha:PA X [a] ta)(hs:AO [a] X.env=[(AC,eval a X.env)]:=by rfl):PI X tg (.Call (.Name "range" p) [a] [] pos) (yFV ta):=by
 intro AG s σ H R I h;refine Call_ (lA I hg hm boot_range (FS (G4 (ha pos AG s σ H _ I h) λus s1 ⟨vs,H1,I1,r1,q1⟩=>?_) hs rfl));obtain⟨j,e,q1,q2,q⟩:=q1;subst e
 cases r1 with
 |cons r rr =>
  cases rr;obtain⟨t,rfl⟩:=r;exact call_range_1 (Sg I1 'l' 'l' q1 q2 (by simpa using q))
theorem zRH{a b:DA}{ta:TA}(hg:Gl X "range")(hm:X.mg "range"=AL)(ha:PA X [a,b] ta)(hs:AO [a,b] X.env=[(AC,eval a X.env),(AC,eval b X.env)]:=by rfl)(MZ:AO [b] X.env=[(AC,eval b X.env)]:=by rfl) :
  PI X tg (.Call (.Name "range" p) [a,b] [] pos) (yFW ta):=by
 intro AG s σ H R I h;refine Call_ (lA I hg hm boot_range (FS (G4 (ha pos AG s σ H _ I h) λus s1 ⟨vs,H1,I1,r1,q1⟩=>?_) (by rw[hs,MZ]) (by rw[MZ];rfl)));obtain⟨i,j,e,⟨q1,q2,q3,q4⟩,q⟩:=q1;subst e
 cases r1 with
 |cons r rr =>
  cases rr with
  |cons r' rr =>
   cases rr;obtain⟨t,rfl⟩:=r;obtain⟨t',rfl⟩:=r';exact call_range_2 (Sg I1 q1 q2 q3 q4 q)
def yIF(wi:TI)(g:TG)(tb:TS):TS:=λD σ H=>wi σ H λJ H1=>∃W:Nat->Nat->St->Hp->Prop,(∃m,W 0 m σ H1)/\∀i m σ H,W i m σ H ->
 (J.stop i H/\D.nx σ H)\/(J.go i H/\∃N:St->Hp->Prop,(∀σ' H',N σ' H'->∃m',m'<m/\W (i+1) m' σ' H')/\∀x H',J.yld i H x H'->g x σ H' λσ2 H2=>tb { D with nx:=N,ct:=N,bk:=D.nx } σ2 H2)
noncomputable def tM(fp:List AT)(h:D7):List (AT×IF):=fp.filterMap λb=>(h.get? b).map λo=>(b,o)
theorem Ae{b:AT}{o:IF}(hb:b∈fp)(e:h.get? b=AA o):(b,o)∈tM fp h:=JL.mpr {b,hb,by rw[e];rfl}
theorem zRI{p:AT×IF}(hp:p∈tM fp h):p.1∈fp/\h.get? p.1=AA p.2:=by
 obtain⟨b,hb,e⟩:=JL.mp hp
 cases q:h.get? b with
 |none=>rw[q] at e;cases e
 |some o =>
  rw[q] at e;have e':(b,o)=p:=BJ e;subst e';exact{hb,q}
theorem Inv.pinned(I:Inv X AG σ H s)(hf:∀b∈fp,FpOk X AG H b)(ho:∀b∈fp,∃o,s.heap.get? b=AA o/\∀v,o.data≠.cell v):Inv X (AG++tM fp s.heap) σ H s :=
 I.pins_of λp hp=>(CA.mp hp).elim (λz=>I.pin p (BG _ z)) λz=>by
  obtain⟨hb,e⟩:=zRI z;obtain⟨f0,f1,f2,_⟩:=hf p.1 hb;obtain⟨o,e',d⟩:=ho p.1 hb;rw[e] at e';cases e';exact{e,f0,f1,f2,d}
theorem Inv.unpinned{pl:List (AT×IF)}(I:Inv X (AG++pl) σ H s):Inv X AG σ H s:=I.pins_of λp hp=>I.pin p (BG _ (DI _ hp))
theorem Dp{iter:DA}{g:TG}{tb:TS}(hp:WC (A4 X.prog X.w) X.A X.env X.xe)(hc:X.calm=AK)(hi:PI X tg iter wi)(hg:PG X tg g)(hb:PSs X body tb)
  (hs:∀x,CM iter X.env x=pure x:=by intro _;rfl):PS X (.For tg iter body [] pos) (yIF wi g tb):=by
 intro AG s σ H D I h;refine wpAny_For (G4 (hi AG s σ H _ I h) λv s1 h1=>G4 h1 λoR s2 h2=>?_) hs;obtain⟨it,fp,tn,J,H2,e,I2,T,st2,f2,W,⟨m0,w0⟩,turn⟩:=h2;subst e
 -- what stays AK of the iterator's objects through the oQ
 have VR:∀{H':Hp},(∀b∈fp,H' b=AL)->∀b∈fp,FpOk X AG H' b:=λhn b hb=>{hn b hb,(f2 b hb).2};refine codeAny_forLoop_any (λn s'=>∃i σ' H',Inv X AG σ' H' s'/\tn i s'.heap/\(∀b∈fp,H' b=AL)/\W i n σ' H') ?_ m0 {0,σ,H2,I2,st2,λb hb=>(f2 b hb).1,w0};rintro n s3 ⟨i,σ3,H3,I3,K5,xK,w3⟩;rcases turn i n σ3 H3 w3 with⟨stop,qn⟩|⟨go,N,hN,step⟩
 .refine IH hp (G4 (T.done X rfl rfl rfl hc i AG s3 σ3 H3 X.xe I3 (VR xK) K5 stop) λr s4 ⟨hr,I4⟩=>?_)
  subst hr;exact II {σ3,H3,I4,qn}
 .refine IH hp (G4 (T.item X rfl rfl rfl hc i AG s3 σ3 H3 X.xe I3 (VR xK) K5 go) λr s4 ⟨u,hr,h4⟩=>?_)
  subst hr;refine IH hp (G4 h4 λ_ s5 ⟨x,H5,I5,r5,y5,jJ,Nm⟩=>?_);have Og:=I5.pinned (VR Nm) (T.obj _ _ jJ);refine IH hp (G4 (hg _ s5 σ3 H5 x u _ Og r5 (step x H5 y5)) λ_ s6 ⟨σ6,H6,I6,q6⟩=>?_);refine IH hp (G4 (hb _ s6 σ6 H6 _ I6 q6) λf s7 q7=>?_)
  have WV:∀{σ7:St} {H7:Hp},Inv X (AG++tM fp s5.heap) σ7 H7 s7->N σ7 H7->∃m,m<n/\∃i σ' H',Inv X AG σ' H' s7/\tn i s7.heap/\(∀b∈fp,H' b=AL)/\W i m σ' H':=λ{σ7 H7} I7 n7=>by
   obtain⟨m',hm,w7⟩:=hN σ7 H7 n7;refine{m',hm,i+1,σ7,H7,I7.unpinned,T.keep _ _ _ jJ λb hb o e=>(I7.pin (b,o) (BG _ (BG _ (Ae hb e)))).1,λb hb=>?_,w7};obtain⟨o,e,d⟩:=T.obj _ _ jJ b hb;exact(I7.pin (b,o) (BG _ (BG _ (Ae hb e)))).2.1
  cases f with
  |next=>obtain⟨σ7,H7,I7,n7⟩:=q7;exact WV I7 n7
  |cont=>obtain⟨σ7,H7,I7,n7⟩:=q7;exact WV I7 n7
  |brk=>obtain⟨σ7,H7,I7,q7⟩:=q7;exact{σ7,H7,I7.unpinned,q7}
  |ret v=>obtain⟨x7,σ7,H7,I7,r7,q7⟩:=q7;exact{x7,σ7,H7,I7.unpinned,r7,q7}
theorem yFB{K:AD}{g:TG}{tb:TS}{D:Ends}(Pv:Nat->St->Hp->Prop)(h0:Pv 0 σ H)(hl:∀i σ H,i<=xs.length->Pv i σ H->SqL K H a xs)
  (hs:∀i x σ H,xs[i]?=AA x->Pv i σ H->g x σ H λσ2 H2=>tb { D with nx:=Pv (i+1),ct:=Pv (i+1),bk:=D.nx } σ2 H2) (hd:∀σ H,Pv xs.length σ H->D.nx σ H) :
  ∃W:Nat->Nat->St->Hp->Prop,(∃m,W 0 m σ H)/\∀i m σ H,W i m σ H ->
   ((sB K a).stop i H/\D.nx σ H)\/((sB K a).go i H/\∃N:St->Hp->Prop,(∀σ' H',N σ' H'->∃m',m'<m/\W (i+1) m' σ' H')/\∀x H',(sB K a).yld i H x H'->g x σ H' λσ2 H2=>tb { D with nx:=N,ct:=N,bk:=D.nx } σ2 H2):=by
 refine{λi m σ H=>m=xs.length-i/\i<=xs.length/\Pv i σ H,{xs.length,by simp,BP _,h0},?_};rintro i m σ H ⟨rfl,hi,p⟩;have q:=hl i σ H hi p
 by_cases KZ:i<xs.length
 .refine .inr {{xs,xs[i],q,by simp[KZ]},Pv (i+1),λσ' H' p'=>{xs.length-(i+1),by lia,rfl,KZ,p'},λx H' y=>?_}
  obtain⟨e,y⟩:=y;subst e;exact hs i x σ _ (y xs q) p
 .have e:i=xs.length:=by lia
  subst e;exact .inl {{xs,q,AM _},hd σ H p}
theorem zYJ{K:AD}{g:TG}{tb:TS}{D:Ends}(Pv:Nat->St->Hp->Prop)(h0:Pv 0 σ H)(hl:∀i σ H,i<=xs.length->Pv i σ H->SqT K H a xs)
  (hs:∀i x σ H,xs[i]?=AA x->Pv i σ H->g x σ H λσ2 H2=>tb { D with nx:=Pv (i+1),ct:=Pv (i+1),bk:=D.nx } σ2 H2) (hd:∀σ H,Pv xs.length σ H->D.nx σ H) :
  ∃W:Nat->Nat->St->Hp->Prop,(∃m,W 0 m σ H)/\∀i m σ H,W i m σ H ->
   ((rZ K a).stop i H/\D.nx σ H)\/((rZ K a).go i H/\∃N:St->Hp->Prop,(∀σ' H',N σ' H'->∃m',m'<m/\W (i+1) m' σ' H')/\∀x H',(rZ K a).yld i H x H'->g x σ H' λσ2 H2=>tb { D with nx:=N,ct:=N,bk:=D.nx } σ2 H2):=by
 refine{λi m σ H=>m=xs.length-i/\i<=xs.length/\Pv i σ H,{xs.length,by simp,BP _,h0},?_};rintro i m σ H ⟨rfl,hi,p⟩;have q:=hl i σ H hi p
 by_cases KZ:i<xs.length
 .refine .inr {{xs,xs[i],q,by simp[KZ]},Pv (i+1),λσ' H' p'=>{xs.length-(i+1),by lia,rfl,KZ,p'},λx H' y=>?_}
  obtain⟨e,y⟩:=y;subst e;exact hs i x σ _ (y xs q) p
 .have e:i=xs.length:=by lia
  subst e;exact .inl {{xs,q,AM _},hd σ H p}
abbrev R2:=V->V->Hp->VK->Prop
def OpR(X:Cx)(f:AJ->AJ->TC AJ)(r:R2):Prop :=
 ∀(AG:List (AT×IF)) (s:AS) (σ:St) (H:Hp) (x y:V) (v u:AJ) (Q:VK),Inv X AG σ H s->RelV x v->RelV y u->r x y H Q ->
  A1 (A4 X.prog X.w) X.A (f v u) (EP X AG σ Q) X.xe s
def Bk(X:Cx)(f:AJ->TC AJ)(r:V->Hp->VK->Prop):Prop :=
 ∀(AG:List (AT×IF)) (s:AS) (σ:St) (H:Hp) (x:V) (v:AJ) (Q:VK),Inv X AG σ H s->RelV x v->r x H Q ->
  A1 (A4 X.prog X.w) X.A (f v) (EP X AG σ Q) X.xe s
def CallR(X:Cx)(f:AJ)(r:List V->Hp->VK->Prop):Prop :=
 ∀(AG:List (AT×IF)) (s:AS) (σ:St) (H:Hp) (xs:List V) (us:List AJ) (Q:VK),Inv X AG σ H s->Vals xs us->r xs H Q ->
  A1 (A4 X.prog X.w) X.A (call f us) (EP X AG σ Q) X.xe s
def yIG(X:Cx)(r:V->Hp->(Bool->Hp->Prop)->Prop):Prop :=
 ∀(AG:List (AT×IF)) (s:AS) (σ:St) (H:Hp) (x:V) (v:AJ) (Q:Bool->Hp->Prop),Inv X AG σ H s->RelV x v->r x H Q ->
  A1 (A4 X.prog X.w) X.A (truthy v) (TP X AG σ Q) X.xe s
def n9(r:R2)(ta tb:TE):TE:=λσ H Q=>ta σ H λx H1=>tb σ H1 λy H2=>r x y H2 Q
def Xy(r:V->Hp->VK->Prop)(ta:TE):TE:=λσ H Q=>ta σ H λx H1=>r x H1 Q
def rI(C:Int->Int->Prop)(g:Int->Int->V):R2:=λx y H Q=>∃i j,x=.int i/\y=.int j/\C i j/\Q (g i j) H
def dB(g:Int->Int->V):R2:=λx y H Q=>∃i j,x=.int i/\y=.int j/\Q (g i j) H
def rU(g:Int->V):V->Hp->VK->Prop:=λx H Q=>∃i,x=.int i/\Q (g i) H
section
variable{a b:DA}{tc:TE}
theorem Hu(ha:PE X a ta)(hb:PE X b tb){R:V->V->Hp->Prop}(I:Inv X AG σ H s)
  (h:ta σ H λx H1=>tb σ H1 λy H2=>R x y H2) {Q:AJ->AS->Prop} {f:AJ->AJ->TC AJ}
  (hf:∀v u s2 x y H2,Inv X AG σ H2 s2->RelV x v->RelV y u->R x y H2->A1 (A4 X.prog X.w) X.A (f v u) Q X.xe s2) :
  A1 (A4 X.prog X.w) X.A (eval a X.env) (λv E4=>A1 (A4 X.prog X.w) X.A (eval b X.env) (λu PL=>A1 (A4 X.prog X.w) X.A (f v u) Q X.xe PL) X.xe E4) X.xe s:=by
 refine G4 (ha AG s σ H _ I h) λv s1 q0=>?_;obtain⟨x,H1,I1,r1,q1⟩:=q0;refine G4 (hb AG s1 σ H1 _ I1 q1) λu s2 q0=>?_;obtain⟨y,H2,I2,r2,q2⟩:=q0;exact hf v u s2 x y H2 I2 r1 r2 q2
theorem yL{op:Operator}{r:R2}(ho:OpR X (HE op) r)(ha:PE X a ta)(hb:PE X b tb):PE X (.BinOp a op b pos) (n9 r ta tb):=by
 intro AG s σ H Q I h;exact wpAny_BinOp (Hu ha hb I h λv u s2 x y H2 I2 rx ry q=>ho AG s2 σ H2 x y v u Q I2 rx ry q)
theorem yFY{op:UnaryOp}{r:V->Hp->VK->Prop}(ho:Bk X (unaryOp op) r)(ha:PE X a ta):PE X (.UnaryOp op a pos) (Xy r ta):=by
 intro AG s σ H Q I h;exact UnaryOp_ (G4 (ha AG s σ H _ I h) (λv s1 q0=>by obtain⟨x,H1,I1,r1,q1⟩:=q0;exact ho AG s1 σ H1 x v Q I1 r1 q1))
theorem Bd{f:AJ->AJ->TC AJ}{C:Int->Int->Prop}{g:Int->Int->Int}
  (rule:∀(i j:Int) (t u:kB) (s:AS) (Q:AJ->AS->Prop) (E:AJ->AS->Prop),C i j->Q (.int (g i j) s.toks) { s with toks:=s.toks+1 }->A1 (A4 X.prog X.w) X.A (f (.int i t) (.int j u)) Q E s) :
  OpR X f (rI C λi j=>.int (g i j)):=by
 intro AG s σ H x y v u Q I rx ry h;obtain⟨i,j,rfl,rfl,hc,q⟩:=h;obtain⟨t,rfl⟩:=rx;obtain⟨t',rfl⟩:=ry;exact rule i j t t' s _ _ hc {.int (g i j),H,I.tok _,{_,rfl},q}
theorem Wm{f:AJ->AJ->TC AJ}{g:Int->Int->Int}
  (rule:∀(i j:Int) (t u:kB) (s:AS) (Q:AJ->AS->Prop) (E:AJ->AS->Prop),Q (.int (g i j) s.toks) { s with toks:=s.toks+1 }->A1 (A4 X.prog X.w) X.A (f (.int i t) (.int j u)) Q E s) :
  OpR X f (dB λi j=>.int (g i j)):=by
 intro AG s σ H x y v u Q I rx ry h;obtain⟨i,j,rfl,rfl,q⟩:=h;obtain⟨t,rfl⟩:=rx;obtain⟨t',rfl⟩:=ry;exact rule i j t t' s _ _ {.int (g i j),H,I.tok _,{_,rfl},q}
theorem Ht{f:AJ->AJ->TC AJ}{g:Int->Int->Bool}
  (rule:∀(i j:Int) (t u:kB) (s:AS) (Q:AJ->AS->Prop) (E:AJ->AS->Prop),Q (.bool (g i j)) s->A1 (A4 X.prog X.w) X.A (f (.int i t) (.int j u)) Q E s) :
  OpR X f (dB λi j=>.bl (g i j)):=by
 intro AG s σ H x y v u Q I rx ry h;obtain⟨i,j,rfl,rfl,q⟩:=h;obtain⟨t,rfl⟩:=rx;obtain⟨t',rfl⟩:=ry;exact rule i j t t' s _ _ {.bl (g i j),H,I,rfl,q}
def Wl(i j:Int):Prop:=0<=j/\j<=1000000/\i.natAbs<2 ^ 64
def CMul(i j:Int):Prop:=(-(2 ^ 64)<i/\i<2 ^ 64)\/(-(2 ^ 64)<j/\j<2 ^ 64)
theorem CMul.ok{i j:Int}(h:CMul i j):IntMulOk i j:=by
 rcases h with⟨h1,h2⟩|⟨h1,h2⟩
 .exact .of_left (intBits_le_64 h1 h2)
 .exact .of_right (intBits_le_64 h1 h2)
theorem oD:OpR X (HE .Add) (dB λi j=>.int (i+j)):=Wm λ_ _ _ _ _ _ _ q=>add_int q
theorem yCC:OpR X (HE .Sub) (dB λi j=>.int (i-j)):=Wm λ_ _ _ _ _ _ _ q=>sub_int q
theorem yCD:OpR X (HE .Mult) (rI CMul λi j=>.int (i * j)):=Bd λ_ _ _ _ _ _ _ hc q=>mul_int q hc.ok
theorem yCE:OpR X (HE .Mod) (rI (λ_ j=>0<j) λi j=>.int (i % j)):=Bd λi j _ _ _ _ _ hc q=>by
 have h1:(0:Int)<j:=hc;exact mod_int' (Int.ne_of_gt hc) (by rw[Int.fmod_eq_emod_of_nonneg i (RP hc)];exact q)
theorem yCF:OpR X (HE .Pow) (rI Wl λi j=>.int (i ^ j.toNat)):=Bd λ_ _ _ _ _ _ _ hc q=>pow_int_small hc.1 hc.2.1 hc.2.2 q
theorem unI{f:AJ->TC AJ}{g:Int->Int}
  (rule:∀(i:Int) (t:kB) (s:AS) (Q:AJ->AS->Prop) (E:AJ->AS->Prop),Q (.int (g i) s.toks) { s with toks:=s.toks+1 }->A1 (A4 X.prog X.w) X.A (f (.int i t)) Q E s) :
  Bk X f (rU λi=>.int (g i)):=by
 intro AG s σ H x v Q I rx h;obtain⟨i,rfl,q⟩:=h;obtain⟨t,rfl⟩:=rx;exact rule i t s _ _ {.int (g i),H,I.tok _,{_,rfl},q}
theorem yCG:Bk X (unaryOp .USub) (rU λi=>.int (-i)):=unI λ_ _ _ _ _ q=>neg_int q
end
variable{y:V}
section
variable{a b:DA}{tc:TE}
theorem Pe{Q:VK}{k k':Bool}(I:Inv X AG σ H s)(q:Q (.bl k) H)(e:k=k'):EP X AG σ Q (.bool k') s:=by
 subst e;exact{.bl k,H,I,rfl,q}
theorem uO:OpR X (EZ .Lt) (dB λi j=>.bl (decide (i<j))):=Ht λ_ _ _ _ _ _ _ q=>lt_int q
theorem yF0:OpR X (EZ .Gt) (dB λi j=>.bl (decide (j<i))):=Ht λ_ _ _ _ _ _ _ q=>gt_int q
theorem yF1:OpR X (EZ .GtE) (dB λi j=>.bl (decide (j<=i))):=Ht λ_ _ _ _ _ _ _ q=>ge_int q
theorem yCH:OpR X (EZ .Is) (λx y H Q=>y=.non/\Q (.bl (decide (x=.non))) H):=by
 intro AG s σ H x y v u Q I rx ry h;obtain⟨rfl,q⟩:=h;cases ry;refine is_none_gen (Pe I q ?_)
 cases x<;>first
  |(cases rx;rfl)
  |(obtain⟨t,rfl⟩:=rx;rfl)
theorem zYK:OpR X (EZ .IsNot) (λx y H Q=>y=.non/\Q (.bl (!decide (x=.non))) H):=by
 intro AG s σ H x y v u Q I rx ry h;obtain⟨rfl,q⟩:=h;cases ry;refine isnot_none_gen (Pe I q ?_)
 cases x<;>first
  |(cases rx;rfl)
  |(obtain⟨t,rfl⟩:=rx;rfl)
theorem OpR.or{f:AJ->AJ->TC AJ}{r r':R2}(h:OpR X f r)(h':OpR X f r'):OpR X f (λx y H Q=>r x y H Q\/r' x y H Q):=by
 intro AG s σ H x y v u Q I rx ry q;rcases q with q|q
 .exact h AG s σ H x y v u Q I rx ry q
 .exact h' AG s σ H x y v u Q I rx ry q
theorem yHC(b:DA)(h:op≠.In:=by decide)(h2:op≠.NotIn:=by decide):D4 op b=AC:=by
 have e1:(op==CmpOp.In)=AC:=by cases op<;>first|rfl|exact absurd rfl h
 have e2:(op==CmpOp.NotIn)=AC:=by cases op<;>first|rfl|exact absurd rfl h2
 cases b<;>simp[D4,e1,e2]
theorem zYL{r:R2}(ho:OpR X (EZ op) r)(ha:PE X a ta)(hb:PE X b tb)(hm:D4 op b=AC):PE X (.Compare a [op] [b] pos) (n9 r ta tb):=by
 intro AG s σ H Q I h;exact wpAny_Compare1 (Hu ha hb I h λv u s2 x y H2 I2 rx ry q=>ho AG s2 σ H2 x y v u Q I2 rx ry q) hm
def yF2(t:TE):TT:=λσ H Q=>t σ H λx H'=>∃k,x=.bl k/\Q k H'
theorem zYM{r:R2}(ho:OpR X (EZ op) r)(ha:PE X a ta)(hb:PE X b tb)(hm:D4 op b=AC):PT X (.Compare a [op] [b] pos) (yF2 (n9 r ta tb)):=by
 intro AG s σ H Q I h
 refine wpAny_isTrue_Compare1 (G4 (ha AG s σ H _ I h) λv s1 ⟨x,H1,I1,r1,q1⟩=>G4 (hb AG s1 σ H1 _ I1 q1) λu s2 ⟨y,H2,I2,r2,q2⟩ =>
  G4 (ho AG s2 σ H2 x y v u _ I2 r1 r2 q2) λc s3 ⟨z,H3,I3,r3,k,e,q3⟩=>?_) hm
 subst e;cases r3;exact IT {H3,I3,q3}
def Wk(K:AD)(x:V)(H:Hp)(k:Bool):Prop :=
 match x with
 |.non=>k=AC
 |.bl b=>k=b
 |.int i=>k=(i != 0)
 |.str y=>y.length<=sizeLine/\k=((y.length:Int) != 0)
 |.byt y=>y.size<=sizeLine/\k=((y.size:Int) != 0)
 |.ref p=>(∃xs,SqL K H p xs/\k=!xs.isEmpty)\/(∃xs,SqT K H p xs/\k=!xs.isEmpty)\/∃kvs,H p=AA (.dK kvs)/\k=!kvs.isEmpty
 |_=>False
theorem zP3{kvs:List (κ×V)}{vs:List (κ×AJ)}(r:KV kvs vs):(!vs.isEmpty)=!kvs.isEmpty:=by
 cases r<;>rfl
theorem Ul(r:Vals xs CK):(!CK.toArray.isEmpty)=!xs.isEmpty:=by
 cases r<;>simp
theorem k9:(sizeLine:Nat)<2 ^ 63:=by rw[FZ];decide
theorem yCI:yIG X (λx H Q=>∃k,Wk X.K x H k/\Q k H):=by
 intro AG s σ H x v Q I rx h;obtain⟨k,e,q⟩:=h;have hl:=k9;have hs:sizeLine=16777216:=FZ
 cases x with
 |non =>
  cases rx;have e':k=AC:=e;subst e';exact truthy_none {H,I,q}
 |bl b =>
  cases rx;have e':k=b:=e;subst e';exact IT {H,I,q}
 |int i =>
  obtain⟨t,rfl⟩:=rx;have e':k=(i != 0):=e;subst e';exact PySem.P.truthy_int {H,I,q}
 |str y =>
  obtain⟨t,rfl⟩:=rx;obtain⟨hy,e'⟩:y.length<=sizeLine/\k=((y.length:Int) != 0):=e;subst e';exact PySem.P.truthy_str 'l' {H,I.tok _,q}
 |byt y =>
  obtain⟨t,rfl⟩:=rx;obtain⟨hy,e'⟩:y.size<=sizeLine/\k=((y.size:Int) != 0):=e;subst e';exact PySem.W.truthy_bytes 'l' {H,I.tok _,q}
 |ref p =>
  cases rx;have e':(∃xs,SqL X.K H p xs/\k=!xs.isEmpty)\/(∃xs,SqT X.K H p xs/\k=!xs.isEmpty)\/∃kvs,H p=AA (.dK kvs)/\k=!kvs.isEmpty:=e;rcases e' with⟨xs,hx,e'⟩|⟨xs,hx,e'⟩|⟨kvs,hx,e'⟩
  .subst e'
   obtain⟨CK,r,pl,hz⟩:=I.list hx;have E6:=r.length;exact wpAny_truthy_list pl.isList (by simp only[A3];lia) {H,I.tok _,by rw[Ul r];exact q}
  .subst e'
   obtain⟨CK,r,pl,hz⟩:=I.tuple hx;have E6:=r.length;exact truthy_tuple pl (by simp only[A3];lia) {H,I.tok _,by rw[Ul r];exact q}
  .subst e'
   obtain⟨hz,hS,vs,r,m⟩:kvs.length<=sizeLine/\(p==GV)=AC/\∃vs,KV kvs vs/\s.heap.DictOf (T5 X.prog X.w) p vs:=I.hok p _ hx;have E6:kvs.length=vs.length:=Paired.length r;exact wpAny_truthy_dict hS m 'l' {H,I.tok _,by rw[zP3 r];exact q}
 |_=>exact(show False from e).elim
theorem zUR(ha:PE X a ta)(he:∀SK,V9 a X.env SK=(do let v <-SK;JH a.pos;IU [v] (truthy v))) :
  PT X a (λσ H Q=>ta σ H λx H'=>∃k,Wk X.K x H' k/\Q k H'):=by
 intro AG s σ H Q I h;exact isTrue_plain (G4 (ha AG s σ H _ I h) (λv s1 q0=>by obtain⟨x,H1,I1,r1,q1⟩:=q0;exact yCI AG s1 σ H1 x v Q I1 r1 q1)) (he _)
theorem zP4:OpR X (HE .Add) (λx y H Q=>∃i j,x=.str i/\y=.str j/\i.length+j.length<=sizeLine/\Q (.str (i++j)) H):=by
 intro AG s σ H x y v u Q I rx ry h;obtain⟨i,j,rfl,rfl,hz,q⟩:=h;obtain⟨t,rfl⟩:=rx;obtain⟨t',rfl⟩:=ry;exact add_str (λt' tk=>{.str (i++j),H,I.tok _,{_,rfl},q}) hz
theorem YD{x:V}(r:Vals [x] us):∃u,us=[u]/\RelV x u:=by
 cases r with
 |cons r1 r2=>cases r2;exact{_,rfl,r1}
theorem yF3{x:V}(r:Vals [x,y] us):∃u w',us=[u,w']/\RelV x u/\RelV y w':=by
 cases r with
 |cons r1 r2 =>
  cases r2 with
  |cons r3 r4=>cases r4;exact{_,_,rfl,r1,r3}
theorem zRK(hc:X.calm=AK):CallR X (.builtin "min") (λxs H Q=>∃i j,xs=[.int i,.int j]/\Q (.int (if j<i then j else i)) H):=by
 intro AG s σ H xs us Q I r h;obtain⟨i,j,rfl,q⟩:=h;obtain⟨u,w',rfl,⟨t,rfl⟩,⟨t',rfl⟩⟩:=yF3 r;refine min_two_ints (I.ok.hd hc) λh' tk k=>{_,H,I.kept k,?_,q}
 by_cases hj:j<i
 .rw[if_pos hj,if_pos hj];exact{_,rfl}
 .rw[if_neg hj,if_neg hj];exact{_,rfl}
end
structure ObjM(h:D7)(x dx C:AT)(mA:C2->Option AJ):Prop where
 obj:h.get? x=AA (RK C dx)
 ns:h.Ns1 dx mA
 ne:dx≠x
theorem zRL(n:h.Ns1 dx mA):∃od,h.get? dx=AA od/\∀name,TD name od=AA (mA name):=by
 obtain⟨o,es,ep,ho,hd,hk,_,hm⟩:=n;refine{o,ho,λname=>?_};have e:=hm name;unfold nsFind findBy at e;rw[<-Array.find?_toList] at e;unfold TD;rw[hd];dsimp only;split
 .rename_i y q
  rw[q] at e;exact congrArg AA e
 .rename_i q
  rw[q] at e
  have a:es.toList.any (·.refKey)=AC:=by
   rw[MR];intro y hy;obtain⟨z,t,M0⟩:=hk y (FR.mp hy);simp[DictEntry.refKey,M0]
  have a':¬es.toList.any (·.refKey)=AK:=by rw[a];exact B9
  rw[if_neg a'];exact congrArg AA e
theorem ObjM.look{x:AT}(I:ObjM h x dx C mA):∃od,PySem.W.InstAt h x (RK C dx) C (AA od)/\∀name,TD name od=AA (mA name) :=
 let ⟨od,ho,hl⟩:=zRL I.ns
 {od,{I.obj,rfl,rfl,ho},hl}
section
variable{K:AD}{x:AT}{v:AJ}
end
theorem RelO.some_of{o:Option AJ}(r:RelO (AA v) o):∃u,o=AA u/\RelV v u:=by
 cases o with
 |none=>exact(show False from r).elim
 |some u=>exact{u,rfl,r}
section
variable{fs pN:List (C2×V)}
theorem zYN(hok:HOk P w H h)(e:H a=AA (.ins C dx fs)):∃mA,ObjM h a dx C mA/\(∀f,RelO (fs.lookup f) (mA f))/\PySem.Within mA (fs.map (·.1))/\fs.length<=1000/\H dx=AA (.own a):=by
 obtain⟨d,z,ne,ob,mA,n,r,q⟩:=(show ObjOk P w H h a (.ins C dx fs) from hok a _ e);exact{mA,{ob,n,ne},r,q,z,d}
end
structure Cls(K:AD)(C:AT):Prop where
 pg:aX K C Str.empty=AK
 hd:PySem.W.hasDictIn K C=AK
 po:PySem.W.plainOver K C=AK
 sa:LI K (.ref C) "__setattr__"=AA (AA (.builtin "object.__setattr__"))
theorem Cls.get{K:AD}(c:Cls K C)(f:C2):aX K C f=AK:=c.pg
section
variable{fs:List (C2×V)}{f:C2}
end
variable{tv:TE}
section
variable{o:DA}{f:C2}
end
section
variable{c:AJ}{b:Bool}
inductive TyOf(K:AD)(H:Hp):V->AJ->Prop where
 |non:TyOf K H .non (.type "NoneType")
 |bl (x:Bool):TyOf K H (.bl x) (.type "bool")
 |int (i:Int):TyOf K H (.int i) (.type "int")
 |str (x:C2):TyOf K H (.str x) (.type "str")
 |flt (x:UInt64):TyOf K H (.flt x) (.type "float")
 |lst {a:AT} {xs:List V} (e:H a=AA (.lst xs)):TyOf K H (.ref a) (.type "list")
 |frz {a:AT} {o:IF} {xs:List V} (e:H a=AA (.frz o (.lst xs))):TyOf K H (.ref a) (.type "list")
 |tup {a:AT} {xs:List V} (e:H a=AA (.tup xs)):TyOf K H (.ref a) (.type "tuple")
 |dK {a:AT} {kvs:List (Key×V)} (e:H a=AA (.dK kvs)):TyOf K H (.ref a) (.type "dict")
 |dT {a:AT} {kvs:List (List Key×V)} (e:H a=AA (.dT kvs)):TyOf K H (.ref a) (.type "dict")
 |ins {a C dx:AT} {fs:List (C2×V)} (e:H a=AA (.ins C dx fs)) (cl:Cls K C) (ha:LI K (.ref C) "__class__"=AA (AA (.builtin "object.__class__")))
   (hn:Z1 K (.builtin "object.__class__") "__get__"=AA (AA (.builtin "getset_descriptor.__get__"))) (oX:cG K (.builtin "object.__class__")=AA AK)
   (hm:UK K C (.type "object")=AA AK):TyOf K H (.ref a) (.ref C)
theorem z9{x:V}{t:AJ}(I:Inv X AG σ H s)(rx:RelV x u)(ty:TyOf X.K H x t)(e:BU X.K t c=AA b)(h:∀tk,Q (.bool b) { s with toks:=tk }) :
  A1 (A4 X.prog X.w) A (call (.builtin "isinstance") [u,c]) Q E s:=by
 cases ty with
 |non=>cases(show u=GH from rx);exact DG PySem.W.kitx_none I.kIn GJ e (λz=>nomatch z) h
 |bl y=>cases(show u=JI y from rx);exact DG PySem.W.kitx_bool I.kIn GJ e (λz=>nomatch z) h
 |int i=>obtain⟨t,q⟩:=(show ∃t,u=M6 i t from rx);cases q;exact DG PySem.W.kitx_int I.kIn GJ e (λz=>nomatch z) h
 |str y=>obtain⟨t,q⟩:=(show ∃t,u=WW y t from rx);cases q;exact DG PySem.W.kitx_str I.kIn GJ e (λz=>nomatch z) h
 |flt y=>obtain⟨t,q⟩:=(show ∃t,u=Value.float y t from rx);cases q;exact DG PySem.W.kitx_float I.kIn GJ e (λz=>nomatch z) h
 |@lst a xs ea =>
  cases(show u=DP a from rx);obtain⟨_,_,n,_,h1⟩:=(show ObjOk X.prog X.w H s.heap a (.lst xs) from I.hok a _ ea);exact DG PY I.kIn {_,h1,rfl} e (λz=>nomatch z) h
 |@frz a ob xs ea =>
  cases(show u=DP a from rx);obtain⟨_,_,_,n,_,h1⟩:=(show ObjOk X.prog X.w H s.heap a (.frz ob (.lst xs)) from I.hok a _ ea);exact DG PY I.kIn {_,h1,rfl} e (λz=>nomatch z) h
 |@tup a xs ea =>
  cases(show u=DP a from rx);obtain⟨_,_,_,p⟩:=(show ObjOk X.prog X.w H s.heap a (.tup xs) from I.hok a _ ea);obtain⟨o,h1,h2,_⟩:=p;exact DG Y8 I.kIn {o,h1,h2} e (λz=>nomatch z) h
 |@dK a kvs ea =>
  cases(show u=DP a from rx);obtain⟨_,_,vs,_,p⟩:=(show ObjOk X.prog X.w H s.heap a (.dK kvs) from I.hok a _ ea);obtain⟨o,es,ep,h1,h2,_⟩:=p;exact DG L6 I.kIn {o,h1,h2.1} e (λz=>nomatch z) h
 |@dT a kvs ea =>
  cases(show u=DP a from rx);obtain⟨_,_,xs,_,o,es,ep,h1,h2,_⟩:=(show ObjOk X.prog X.w H s.heap a (.dT kvs) from I.hok a _ ea);exact DG L6 I.kIn {o,h1,h2.1} e (λz=>nomatch z) h
 |@ins a C dx fs ea cl ha hn oX hm =>
  cases(show u=DP a from rx);obtain⟨mA,O,_⟩:=zYN I.hok ea;obtain⟨od,J,_⟩:=O.look;exact DG (PySem.W.kitx_own (cl.get _) cl.hd ha hn oX hm) I.kIn J e (λz=>nomatch z) h
end
structure Room(k:Nat)(A:DU):Prop where
 hd:A.handled=AL
 dp:A.depth+3 * k+5<recursionLimit
 un:A.units+16 * k+200<GB
 gd:A.guards=AA []
theorem Room.mono(r:Room k A)(h:j<=k):Room j A:={r.hd,by have:=r.dp;lia,by have:=r.un;lia,r.gd}
theorem Room.deeper{k:Nat}{A:DU}(r:Room (k+1) A)(env:XT):Room k (A.deeper env) :=
 {r.hd,by have:=r.dp;show A.depth+1+3 * k+5<_;lia,by have:=r.un;show A.units+3+16 * k+200<_;lia,r.gd}
theorem Room.in1{k:Nat}{A:DU}(r:Room (k+1) A):Room k A.in1 :=
 {r.hd,by have:=r.dp;show A.depth+3 * k+5<_;lia,by have:=r.un;show A.units+1+16 * k+200<_;lia,r.gd}
theorem Room.depth{k:Nat}{A:DU}(r:Room k A):A.depth<recursionLimit:=by have:=r.dp;lia
theorem Room.units{k:Nat}{A:DU}(r:Room k A):A.units+64<GB:=by have:=r.un;lia
def Wj:TA:=λ_ H Q=>Q [] H
def Cy(ta:TE)(tr:TA):TA:=λσ H Q=>ta σ H λx H1=>tr σ H1 λxs H2=>Q (x::xs) H2
section
variable{t:TA}
theorem JB:PA X [] Wj:=λ_ _ _ _ H Q I h=>cL {[],H,I,.nil,h}
theorem VC(ha:PE X e te)(hr:PA X es t)(hs:AO (e::es) X.env=(AC,eval e X.env)::AO es X.env:=by rfl):PA X (e::es) (Cy te t):=by
 intro pos AG s σ H Q I h;rw[hs];show A1 _ _ (spliced ((AC,eval e X.env)::DT pos (AO es X.env))) _ _ s;refine P0 (G4 (ha AG s σ H _ I h) λu s1 ⟨x,H1,I1,r1,q1⟩=>?_);exact G4 (hr pos AG s1 σ H1 _ I1 q1) (λus s2 q0=>by obtain⟨xs,H2,I2,r2,q2⟩:=q0;exact{x::xs,H2,I2,.cons r1 r2,q2})
def yIH(t:TA):TE:=λσ H Q=>t σ H λxs H1=>xs.length<=sizeLine/\∀p,H1 p=AL->Q (.ref p) (D3 H1 p (.tup xs))
def uJ(t:TA):TE:=λσ H Q=>t σ H λxs H1=>xs.length<=sizeLine/\∀p,H1 p=AL->Q (.ref p) (D3 H1 p (.lst xs))
theorem yCK{x1}(h:PA X es t):PE X (.Tuple es x1 pos) (yIH t):=by
 intro AG s σ H Q I hq;refine wpAny_Tuple_spliced (G4 (h pos AG s σ H _ I hq) λus s1 ⟨xs,H1,I1,r,z,q⟩=>{by rw[<-r.length];exact z,?_});have hf:H1 s1.heap.objs.size=AL:=I1.hok.fresh (AM _);refine{.ref s1.heap.objs.size,D3 H1 s1.heap.objs.size (.tup xs),I1.laid (t':=s1.toks) (λb u e=>AF _ e) (AM _) ?_,rfl,q _ hf};exact{z,us,r,{_,AV _ rfl,rfl,rfl,_,rfl}}
theorem qH(h:PA X es t):PE X (.List es pos) (uJ t):=by
 intro AG s σ H Q I hq;refine wpAny_List_spliced (G4 (h pos AG s σ H _ I hq) λus s1 ⟨xs,H1,I1,r,z,q⟩=>{by rw[<-r.length];exact z,?_});have hf:H1 s1.heap.objs.size=AL:=I1.hok.fresh (AM _);refine{.ref s1.heap.objs.size,D3 H1 s1.heap.objs.size (.lst xs),I1.laid (t':=s1.toks) (λb u e=>AF _ e) (AM _) ?_,rfl,q _ hf};exact{z,us,0,r,AV _ rfl}
end
abbrev Sp:=List V->Hp->VK->XK->Prop
abbrev CXT:=List XT->Hp->AS->XK->AJ->AS->Prop
structure Env0(P:CU)(w:D8)(K:AD)(mg:C2->Option AJ)(base:D7)(A:DU)(outer:List XT)(s:AS)(H:Hp):Prop where
 tab:∀T q,TB K T q->∃ps,H T=AA (.tbl q ps)
 frames:A.frames=AA outer
 mod:Mod K mg base
 bs:∀b o,base.get? b=AA o->s.heap.get? b=AA o/\H b=AL
 bsz:base.objs.size<=s.heap.objs.size
 funs:s.heap.FunFrames base outer
 frf:∀b∈SJ outer,H b=AL
 hok:HOk P w H s.heap
 bare:NW s.gens
def CE(outer:List XT)(P:CU)(w:D8)(H:Hp)(s:AS)(Q:VK)(u:AJ)(s':AS):Prop :=
 ∃v H',s'.os=s.os/\NW s'.gens/\Un (SJ outer) [] H H' s.heap s'.heap/\HOk P w H' s'.heap/\RelV v u/\Q v H'
def CR(CX:CXT)(outer:List XT)(P:CU)(w:D8)(H:Hp)(s:AS)(Q:VK)(E:XK)(r:Result)(s':AS):Prop :=
 match r with
 |.ok (.ret u)=>CE outer P w H s Q u s'
 |.ok _=>False
 |.error e=>CX outer H s E e s'
structure FnOk(P:CU)(w:D8)(K:AD)(mg:C2->Option AJ)(base:D7)(CX:CXT)(k:Nat)(f:AT)(fd:JZ)(ps:List C2)(sp:Sp):Prop where
 len:∀vs H Q E,sp vs H Q E->vs.length=ps.length
 run:∀(A:DU) (outer:List XT) (s:AS) (H:Hp) (args:Args) (us:List AJ) (vs:List V) (Q:VK) (E:XK),Room k A->Env0 P w K mg base A outer s H->US s fd args (ps.zip us)->Vals vs us->sp vs H Q E ->
  GY (A4 P w) A (.call (.ref f) args) (CR CX outer P w H s Q E) s
variable{CX:CXT}{sp:Sp}
theorem FnOk.imp{K:AD}{Zc:Sp}(F:FnOk P w K mg base CX k f fd ps sp)
  (h:∀vs H Q E,Zc vs H Q E->sp vs H Q E):FnOk P w K mg base CX k f fd ps Zc :=
 {λvs H Q E q=>F.len vs H Q E (h _ _ _ _ q),λA outer s H args us vs Q E hr he hb hv hs=>F.run A outer s H args us vs Q E hr he hb hv (h _ _ _ _ hs)}
theorem Inv.env0(I:Inv X AG σ H s):Env0 X.prog X.w X.K X.mg X.base X.A X.stack s H :=
 {I.tab,I.ok.frames,I.ok.mod,I.bs,AY I.ok.bsz I.sz,I.stack,I.stkFree,I.hok,I.bare}
theorem Inv.after{Q:VK}(I:Inv X AG σ H s)(h:CE X.stack X.prog X.w H s Q u s'):EP X AG σ Q u s':=by
 obtain⟨v,H',os,bare,un,hok,r,q⟩:=h;obtain⟨hh,g,d,t,Ke⟩:=s';obtain rfl:Ke=s.os:=os;exact{v,H',I.call (h':=hh) (g':=g) (d':=d) (t':=t) (ch:=[]) un hok bare (λb z=>absurd z 's'),r,q}
def yK(sp:Sp)(mG:List V)(E:XK)(t:TA):TE:=λσ H Q=>t σ H λvs H1=>sp (vs++mG) H1 Q E
def Binds(K:AD)(fd:JZ)(ps:List C2)(ds:List AJ):Prop :=
 ∀(s:AS) (us:List AJ),K.In s.heap->(us++ds).length=ps.length->US s fd {us,[]} (ps.zip (us++ds))
theorem Binds.all{K:AD}(h:∀us:List AJ,us.length=ps.length->OL fd {us,[]}=pure (ps.zip us)):Binds K fd ps []:=λs us _ hl=>by
 rw[EL] at hl ⊢;exact .of_eq (h us hl)
def Do(CX:CXT)(X:Cx)(E:XK):Prop:=∀(AG:List (AT×IF)) (σ:St) (H:Hp) (s:AS) (e:AJ) (s':AS),Inv X AG σ H s->CX X.stack H s E e s'->X.xe e s'
variable{vs:List V}
section
variable{mG:List V}{ds:List AJ}{E:XK}{m:C2}{o:DA}{t:TA}
theorem yCL{Q:VK}(F:FnOk X.prog X.w X.K X.mg X.base CX k f fd ps sp)(hr:Room k X.A)(hb:Binds X.K fd ps ds)(hd:Vals mG ds)(hx:Do CX X E)
  (I:Inv X AG σ H s) (r:Vals vs us) (h:sp (vs++mG) H Q E):A1 (A4 X.prog X.w) X.A (call (.ref f) us) (EP X AG σ Q) X.xe s:=by
 have r2:Vals (vs++mG) (us++ds):=r.append hd;have hl:(us++ds).length=ps.length:=by rw[<-r2.length];exact F.len _ _ _ _ h
 refine S7 (MO (F.run X.A X.stack s H {us,[]} (us++ds) (vs++mG) Q E hr I.env0 (hb s us I.kIn hl) r2 h) λr s' hq=>?_)
 cases r with
 |error e=>exact hx AG σ H s e s' I hq
 |ok fl =>
  cases fl with
  |ret u=>exact I.after hq
  |next=>exact IJ hq
  |brk=>exact IJ hq
  |cont=>exact IJ hq
theorem Er(F:FnOk X.prog X.w X.K X.mg X.base CX k f fd ps sp)(hr:Room k X.A)(hg:Gl X x)(hm:X.mg x=AA (.ref f))(hk:FD X.K (.ref f)=AK)(hb:Binds X.K fd ps ds)(hd:Vals mG ds)(hx:Do CX X E)
  (ha:PA X (e::es) t) (V1:(x==("__debug__":C2))=AC:=by decide) (he:AO (e::es) X.env=(AC,eval e X.env)::AO es X.env:=by rfl) (J5:(DT pos (AO es X.env)).any (·.1)=AC:=by rfl) :
  PE X (.Call (.Name x p) (e::es) [] pos) (yK sp mG E t):=by
 intro AG s σ H Q I h;refine ID (qT I hg hm ?_ V1);refine O3 (h₀:=X.base) I.ok.mod.kin hk (G4 (ha pos AG s σ H _ I h) λus s1 ⟨vs,H1,I1,r,q⟩=>{I1.kIn,?_}) he J5;exact yCL F hr hb hd hx I1 r q
end
section
variable{ks:List C2}{E:XK}{m:C2}{o:DA}{kws:List MS}{t tk:TA}{nm:Option C2}{g:List AJ->List AJ->List AJ}{gV:List V->List V->List V}
end
structure FnScope(N P:List C2)(sc:NT):Prop where
 kind:sc.kind=.function
 co:sc.isCoroutine=AC
 gen:sc.isGenerator=AC
 nd:N.Nodup
 pre:N.take P.length=P
 par:∀x∈P,sc.names.lookup x=AA .local\/sc.names.lookup x=AA .cell
 nofree:∀y∈sc.names,y.2≠.free
theorem Tt{kindOf:C2->Option UO}{x:C2}:∀{XN:List (C2×AJ)} {m:C2->Option AJ},(∀v,(x,v)∉XN)->cC kindOf XN m x=m x
 |[],_,_=>rfl
 |(n,v)::r,m,h=>by
  unfold cC;rw[Tt λw hw=>h w (AZ _ hw)];split
  .have:x≠n:=by rintro rfl;exact h v A2
   simp[this]
  .rfl
theorem Ts{kindOf:C2->Option UO}{x:C2}:∀{XN:List (C2×AJ)} {m:C2->Option AJ},(∀v,(x,v)∉XN)->cD kindOf XN m x=m x
 |[],_,_=>rfl
 |(n,v)::r,m,h=>by
  unfold cD;rw[Ts λw hw=>h w (AZ _ hw)];split
  .rfl
  .have:x≠n:=by rintro rfl;exact h v A2
   simp[this]
theorem Tr{kindOf:C2->Option UO}{x:C2}{v:AJ}:∀{P:List C2} {vs:List AJ} {i:Nat} {m:C2->Option AJ},P.Nodup->P[i]?=AA x->vs[i]?=AA v->kindOf x=AA .local ->
  cC kindOf (P.zip vs) m x=AA v
 |[],_,_,_,_,h,_,_=>by simp at h
 |_::_,[],_,_,_,_,h,_=>by simp at h
 |p::P,w::vs,0,m,nd,h1,h2,hk=>by
  simp at h1 h2;subst h1;subst h2;show cC kindOf ((p,w)::P.zip vs) m p=_;unfold cC;rw[Tt λv hv=>(FK.mp nd).1 (HW hv).1,if_pos hk];simp
 |p::P,w::vs,i+1,m,nd,h1,h2,hk=>by
  show cC kindOf ((p,w)::P.zip vs) m x=_;unfold cC;exact Tr (i:=i) (FK.mp nd).2 (by simpa using h1) (by simpa using h2) hk
theorem Tq{kindOf:C2->Option UO}{x:C2}{v:AJ}:∀{P:List C2} {vs:List AJ} {i:Nat} {m:C2->Option AJ},P.Nodup->P[i]?=AA x->vs[i]?=AA v->kindOf x≠AA .local ->
  cD kindOf (P.zip vs) m x=AA v
 |[],_,_,_,_,h,_,_=>by simp at h
 |_::_,[],_,_,_,_,h,_=>by simp at h
 |p::P,w::vs,0,m,nd,h1,h2,hk=>by
  simp at h1 h2;subst h1;subst h2;show cD kindOf ((p,w)::P.zip vs) m p=_;unfold cD;rw[Ts λv hv=>(FK.mp nd).1 (HW hv).1,if_neg hk];simp
 |p::P,w::vs,i+1,m,nd,h1,h2,hk=>by
  show cD kindOf ((p,w)::P.zip vs) m x=_;unfold cD;exact Tq (i:=i) (FK.mp nd).2 (by simpa using h1) (by simpa using h2) hk
noncomputable def start(N:List C2)(vs:List V):St:=vs.map AA++BH (N.length-vs.length) AL
noncomputable def TN(CX:CXT)(P:CU)(w:D8)(K:AD)(mg:C2->Option AJ)(base:D7)(N:List C2)(qual:C2)(scope:NT)(f:AT)(cd:AJ)(A:DU)(outer:List XT)(s:AS)(H:Hp)(E:XK):Cx where
 prog:=P
 w:=w
 K:=K
 mg:=mg
 base:=base
 A:=A.deeper (G7 qual scope s.heap.objs.size f cd)
 N:=N
 s₀:=s
 H₀:=H
 env:=G7 qual scope s.heap.objs.size f cd
 outer:=outer
 stack:=G7 qual scope s.heap.objs.size f cd::outer
 ex:=[]
 calm:=AK
 fn:=λ_=>AK
 pn:=[]
 xe:=λe s'=>A1 (A4 P w) (A.deeper (G7 qual scope s.heap.objs.size f cd)) (leaving (G7 qual scope s.heap.objs.size f cd) e) (λ_ gR=>CX outer H s E e gR) (λe' gR=>CX outer H s E e' gR) s'
theorem Sf{sc:NT}(h:sc.names.lookup x=AA .cell):∃c,(cellsFrom n sc.names []).lookup x=AA c:=by
 have q:=M8 sc.names n [] (.inl h);exact Option.isSome_iff_exists.mp q
theorem Tp{K:AD}{s1:AS}{E:XK}
  (S:FnScope N ps scope) (hd:A.handled=AL) (e0:Env0 P w K mg base A outer s H) (hl:vs.length=ps.length) (r:Vals vs us)
  (x:InCallC s s.heap.objs.size (cC (G7 qual scope s.heap.objs.size f cd).kindOf (ps.zip us) λ_=>AL) (cellsFrom (s.heap.objs.size+1) scope.names []) (cD (G7 qual scope s.heap.objs.size f cd).kindOf (ps.zip us) λ_=>AL) s1) :
  Inv (TN CX P w K mg base N qual scope f cd A outer s H E) [] (start N vs) H s1:=by
 have J5:ps.length<=N.length:=by have:=congrArg K0 S.pre;rw[GG] at this;lia
 obtain⟨h1,tk,rfl,hk⟩:=x.done;have vY:∀b:AT,b∉(TN CX P w K mg base N qual scope f cd A outer s H E).ex:=λb z=>absurd (show b∈([]:List AT) from z) 's'
 refine{{e0.tab,e0.mod,S.kind,rfl,rfl,AM _,λy z c h1 h2=>?_,λy hy=>?_,λy c _ h=>?_,λ_=>hd,X5 e0.frames,.inr {rfl,rfl},λb z=>absurd z (vY b),e0.bs,e0.bsz,λb _ _=>vY b,λb z=>absurd z (vY b),e0.funs,e0.frf},
  rfl,e0.bare,Un.kept hk,{_,x.toInCall.ns,λi y v h1 h2 h3=>?_},λy c h=>{_,x.cell y c h},e0.hok.fresh (AM _),λy c h=>?_,λp hp=>absurd (show p∈([]:List (AT×IF)) from hp) 's',e0.hok.kept hk,?_}
 .exact name_of_addr x.apart (IZ h1) (IZ h2)
 .have hy:scope.names.lookup y=AA .cell\/scope.names.lookup y=AA .free:=hy
  rcases hy with hy|hy
  .exact Sf hy
  .exact absurd rfl (S.nofree _ (IZ hy))
 .exact CV (x.above y c (IZ h))
 .have hi:i<vs.length:=by
   unfold start at h2
   by_cases hi:i<vs.length
   .exact hi
   .rw[B0 (by simpa using hi)] at h2
    rw[D5] at h2;split at h2<;>cases h2
  have ha:vs[i]?=AA v:=by
   unfold start at h2;rw[CF (by simpa using hi),AX] at h2
   cases e:vs[i]? with
   |none=>rw[e] at h2;cases h2
   |some a=>rw[e] at h2;cases h2;rfl
  obtain⟨u,hu,rv⟩:=r.get ha
  have hp:ps[i]?=AA y:=by
   rw[<-S.pre,W0 (AN hi (C0 hl))];exact h1
  have Zn:ps.Nodup:=by rw[<-S.pre];exact S.nd.sublist (fJ _ _)
  refine{u,rv,?_};rcases S.par y (DH hp) with k|k
  .exact .inl {k,Tr Zn hp hu k}
  .obtain⟨c,e⟩:=Sf (n:=s.heap.objs.size+1) k
   refine .inr {.inl k,c,e,?_};have q:=x.cell y c e;rw[Tq Zn hp hu (by show scope.names.lookup y≠_;rw[k];decide)] at q;exact q
 .exact e0.hok.fresh (CV (x.above y c (IZ h)))
 .unfold start
  show _=N.length;rw[BO,AI,C5];lia
theorem Cw{K:AD}{dV kV SW G3:AJ}
  {aJ:Array (Option AJ)} {N ps:List C2} {sp:Sp} (lk:K.lookup f=AA {oc,od,.func (FN name qual FJ body scope dV kV SW pm an G3 ct),aJ}) (MM:JP K G3 qual=AK) (S:FnScope N ps scope)
  (len:∀vs H Q E,sp vs H Q E->vs.length=ps.length)
  (LC:∀(A:DU) (outer:List XT) (s:AS) (H:Hp) (vs:List V) (Q:VK) (E:XK),Room k (A.deeper (G7 qual scope s.heap.objs.size f G3))->sp vs H Q E ->
   ∃t,PSs (TN CX P w K mg base N qual scope f G3 A outer s H E) body t/\t { nx:=λ_ H'=>Q .non H',rt:=Q } (start N vs) H) :
  FnOk P w K mg base CX (k+1) f (FN name qual FJ body scope dV kV SW pm an G3 ct) ps sp:=by
 refine{len,λA outer s H args us vs Q E hr e0 hb r bV=>?_};have hl:=len _ _ _ _ bV;have KX:K.In s.heap:=e0.mod.kin.keeps λb o e=>(e0.bs b o e).1;have Kr:s.heap.NoLimit:=e0.mod.nolimit.keeps λb o e=>(e0.bs b o e).1
 have wX:∀y∈ps.zip us,scope.names.lookup y.1=AA .local\/(scope.names.lookup y.1=AA .cell/\((cellsFrom (s.heap.objs.size+1) scope.names []).lookup y.1).isSome=AK):=λ⟨n,v⟩ hy=>by
  rcases S.par n (HW hy).1 with q|q
  .exact .inl q
  .exact .inr {q,M8 _ _ _ (.inl q)}
 refine hV hr.depth (KX _ _ lk) rfl S.co S.gen rfl (Y9 KX MM) (hb _ _ _ _ ?_);refine YX S.kind wX λenv he s1 x=>?_;subst he;refine{Kr.keeps x.toInCall.keep,codeAny_func ?_};obtain⟨t,ht,hq⟩:=LC A outer s H vs Q E (hr.deeper _) bV;have I:Inv (TN CX P w K mg base N qual scope f G3 A outer s H E) [] (start N vs) H s1:=Tp S hr.hd e0 hl r x;refine DB (ht [] s1 (start N vs) H _ I hq) (λfl s' hs=>?_) λe s' hs=>hs
 have fin:∀{σ':St} {H':Hp} {v:V} {u:AJ},Inv (TN CX P w K mg base N qual scope f G3 A outer s H E) [] σ' H' s'->RelV v u->Q v H'->CE outer P w H s Q u s' :=
  λ{σ' H' v u} J rv q=>{v,H',J.os,J.bare,J.base,J.hok,rv,q}
 cases fl with
 |ret u =>
  obtain⟨v,σ',H',J,rv,q⟩:=hs;exact fin J rv q
 |next =>
  obtain⟨σ',H',J,q⟩:=hs;exact fin (v:=V.non) (u:=GH) J rfl q
 |brk =>
  obtain⟨_,_,_,q⟩:=hs;exact IJ q
 |cont =>
  obtain⟨_,_,_,q⟩:=hs;exact IJ q
variable{r:List V->Hp->VK->Prop}
section
variable{t:TA}{id T:String}
def Ba(r:List V->Hp->VK->Prop)(t:TA):TE:=λσ H Q=>t σ H λvs H1=>r vs H1 Q
theorem zZ(hc:CallR X (.builtin id) r)(hg:Gl X x)(hm:X.mg x=AL)(hv:GL x=AA (.builtin id))(ha:PA X (e::es) t)(hn:x≠"__name__":=by decide)(V1:(x==("__debug__":C2))=AC:=by decide)
  (he:AO (e::es) X.env=(AC,eval e X.env)::AO es X.env:=by rfl) (J5:(DT pos (AO es X.env)).any (·.1)=AC:=by rfl):PE X (.Call (.Name x p) (e::es) [] pos) (Ba r t):=by
 intro AG s σ H Q I h;refine ID (lA I hg hm hv ?_ hn V1);exact PyProof.Rows.callWith_builtin1 (G4 (ha pos AG s σ H _ I h) (λus s1 q0=>by obtain⟨vs,H1,I1,r1,q1⟩:=q0;exact hc AG s1 σ H1 vs us Q I1 r1 q1)) he J5
theorem z8(hc:CallR X (.type T) r)(hg:Gl X x)(hm:X.mg x=AL)(hv:GL x=AA (.type T))(ha:PA X (e::es) t)(hn:x≠"__name__":=by decide)(V1:(x==("__debug__":C2))=AC:=by decide)
  (he:AO (e::es) X.env=(AC,eval e X.env)::AO es X.env:=by rfl) (J5:(DT pos (AO es X.env)).any (·.1)=AC:=by rfl):PE X (.Call (.Name x p) (e::es) [] pos) (Ba r t):=by
 intro AG s σ H Q I h;refine ID (lA I hg hm hv ?_ hn V1);exact FS (G4 (ha pos AG s σ H _ I h) (λus s1 q0=>by obtain⟨vs,H1,I1,r1,q1⟩:=q0;exact hc AG s1 σ H1 vs us Q I1 r1 q1)) he J5
end
end L2
variable{l:AT}{ns:List Int}{ws:List AJ}{vl vu:AJ}{hi:Option Int}{v:AJ}
namespace HT
open PySem PyProof.Rows
noncomputable def lexLt:List Int->List Int->Bool
 |[],[]=>AC
 |[],_::_=>AK
 |_::_,[]=>AC
 |x::xs,y::ys=>if x=y then lexLt xs ys else decide (x<y)
theorem zP5(x y:Int)(xs ys:List Int):lexLt (x::xs) (y::ys)=if x=y then lexLt xs ys else decide (x<y):=rfl
theorem zJR:lexLt [] []=AC:=rfl
theorem zIO(y:Int)(ys:List Int):lexLt [] (y::ys)=AK:=rfl
theorem zIP(x:Int)(xs:List Int):lexLt (x::xs) []=AC:=rfl
theorem zUT(A:DU)(s:AS)(a:Int)(t:kB)(c:Int)(u:kB):∃e,SeqAt.EqAt A s (.int a t) (.int c u) e/\(e=AK↔a=c) :=
 {(a==c),SeqAt.EqAt.int_int a t c u,by simp}
theorem zUU(A:DU)(s:AS)(a:Int)(t:kB)(c:Int)(u:kB)(prog:CU)(w:D8)(E:AJ->AS->Prop)(Q:AJ->AS->Prop)(h:Q (.bool (decide (a<c))) s) :
  A1 (A4 prog w) A (richCompare .Lt (.int a t) (.int c u)) Q E s :=
 (PyProof.Rows.lt_int h:A1 (A4 prog w) A (EZ .Lt (.int a t) (.int c u)) Q E s)
section
open PySem.SeqAt
open PySem.AutoSeq1 (wpAny_loadPart')
open PySem.MeetsSeq PySem.MeetsSeq2 PySem.MeetsSeq3
theorem zJS(l b:AT)(items MA:Array AJ)(n n2:Nat)(dd mI:Option AT)(sl lP:Array (Option AJ))(ns ms:List Int)(hi:GC items.toList ns)(hj:GC MA.toList ms) :
  Meets (EF.«tuple.__lt__» {[.ref l,.ref b],[]})
   (λ_ R s=>s.heap.get? l=AA { cls:=.type "tuple",dict:=dd,data:=.seq items n,slots:=sl }/\s.heap.get? b=AA { cls:=.type "tuple",dict:=mI,data:=.seq MA n2,slots:=lP } /\
    R (.ok (.ret (.bool (lexLt ns ms)))) s) :=
 .of_wp λprog w A R s h=>by
  obtain⟨hp,g,d,tk,os⟩:=s;obtain⟨hl,hb,h⟩:=h;have f2:=AutoSeq1.sub_tuple_tuple;have z1:items.size=ns.length:=by rw[<-hi.length];simp
  have z2:MA.size=ms.length:=by rw[<-hj.length];simp
  wp_walk using wpAny_loadPart' hl,wpAny_loadPart' hb,wpAny_forIn_list _ (λrest b s'=>b.1=AL/\s'={hp,g,d,tk,os}/\∃(vs ws:List AJ) (sF sH:List Int),rest=vs.zip ws /\
   GC vs sF/\GC ws sH/\sF.length+MA.size=sH.length+items.size/\R (.ok (.ret (.bool (lexLt sF sH)))) {hp,g,d,tk,os}) _
  case turn =>
   rintro⟨y,x⟩ rest b s' ⟨eS,rfl,vs,ws,sF,sH,hz,Ky,Bv,E6,hR⟩
   cases Ky with
   |nil=>rw[List.zip_nil_left] at hz;cases hz
   |cons a t hvi' =>
    cases Bv with
    |nil=>rw[List.zip_nil_right] at hz;cases hz
    |cons c u hwi' =>
     rw[P9] at hz;injection hz with hyx hrest;injection hyx with hy hx;subst hy hx;rw[zP5] at hR;simp only[BD] at E6;obtain⟨e,he,w8⟩:=zUT A.in1 {hp,g,d,tk,os} a t c u;refine AB (he prog w _ _ ?_)
     cases e with
     |true =>
      rw[if_pos (w8.mp rfl)] at hR
      wp_walk
      exact{rfl,rfl,_,_,_,_,hrest,hvi',hwi',by lia,hR}
     |false =>
      rw[if_neg (λq=>absurd (w8.mpr q) B9)] at hR;have sK:=zUU A.in1 {hp,g,d,tk,os} a t c u prog w
      wp_walk using sK
      exact{_,rfl,by simpa using hR}
  case fin =>
   rintro⟨b1,b2⟩ s' ⟨eS,rfl,vs,ws,sF,sH,hz,Ky,Bv,E6,hR⟩;simp only at eS;subst eS
   have hv:lexLt sF sH=decide (items.size<MA.size):=by
    cases Ky with
    |nil =>
     cases Bv with
     |nil =>
      simp only[K6] at E6;rw[zJR];exact(decide_eq_false 'l').symm
     |cons c u hw =>
      simp only[K6,BD] at E6;rw[zIO];exact(decide_eq_true 'l').symm
    |cons a t hv =>
     cases Bv with
     |nil =>
      simp only[K6,BD] at E6;rw[zIP];exact(decide_eq_false 'l').symm
     |cons c u hw =>
      rw[P9] at hz;cases hz
   rw[hv] at hR
   wp_walk
   exact{_,rfl,by simpa[Builtin.Tuple.tupleCompareSizes] using hR}
  case h =>
   exact{rfl,rfl,items.toList,MA.toList,ns,ms,rfl,hi,hj,by lia,h}
end
theorem lt_tupInts{b:AT}{MA:Array AJ}{ms:List Int}(hl:UQ s.heap l items)(hb:UQ s.heap b MA)(hi:GC items.toList ns)(hj:GC MA.toList ms)
  (hu:A.units<GB) (h:Q (.bool (lexLt ns ms)) s):A1 (A4 prog w) A (EZ .Lt (.ref l) (.ref b)) Q E s:=by
 obtain⟨⟨cls,dd,data,sl⟩,ho,hc,n,hd⟩:=id hl;obtain⟨⟨xS,mI,data2,lP⟩,V0,eR,n2,b8⟩:=id hb;simp only at hc hd eR b8;subst hc hd eR b8
 exact richCompare_meets_room (op:=.Lt) {_,ho,rfl} {_,V0,rfl} PySem.F.slot_tuple_lt PySem.F.entry_tuple_lt (PySem.F.args_tuple_lt_2 _ _) (zJS l b items MA n n2 dd mI sl lP ns ms hi hj)
  {ho,V0,show JI (lexLt ns ms)≠Value.notImplemented/\Q (.bool (lexLt ns ms)) s from{(λx=>nomatch x),h}} hu
theorem cat_tup{t b:AT}{vs:List AJ}(ht:UQ s.heap t vs.toArray)(hb:UQ s.heap b ws.toArray)(hv:vs≠[])
  (h1:ws=[]->Q (.ref t) s) (h2:ws≠[]->Q (.ref s.heap.objs.size) { s with heap:=s.heap.push { cls:=.type "tuple",data:=.seq (vs++ws).toArray } })
  (hsz:vs.length+ws.length<=sizeLine):A1 (A4 prog w) A (HE .Add (.ref t) (.ref b)) Q E s:=by
 obtain⟨⟨cls,dd,data,sl⟩,ho,hc,n,hd⟩:=id ht;obtain⟨⟨xS,mI,data2,lP⟩,V0,eR,n2,b8⟩:=id hb;simp only at hc hd eR b8;subst hc hd eR b8;have e:vs.toArray++ws.toArray=(vs++ws).toArray:=by simp
 by_cases hw:ws=[]
 .exact UI {_,ho,rfl} {_,V0,rfl} V8 aU M9 MQ (MD _ _)
   (tuple_addW1 t b vs.toArray ws.toArray n n2 dd mI sl lP (by simpa using hv) (by simp[hw])) {ho,V0,h1 hw}
 .refine UI {_,ho,rfl} {_,V0,rfl} V8 aU M9 MQ (MD _ _)
   (tuple_addW2 t b vs.toArray ws.toArray n n2 dd mI sl lP (by simpa using hv) (by simpa using hw) (by rw[A3,A3];exact hsz)) {ho,V0,?_}
  rw[e];exact h2 hw
noncomputable def sIx(n d:Nat):Option Int->Nat
 |none=>d
 |some v=>if v<0 then(v+(n:Int)).toNat else min v.toNat n
theorem yCM(n d:Nat)(hd:d<=n)(o:Option Int):sIx n d o<=n:=by
 cases o with
 |none=>exact hd
 |some v =>
  show(if v<0 then(v+(n:Int)).toNat else min v.toNat n)<=n
  by_cases hv:v<0
  .rw[if_pos hv];lia
  .rw[if_neg hv];exact Nat.min_le_right _ _
theorem Ra(v:Int)(n d:Nat):(if v<0 then max (v+(n:Int)) 0 else min v (n:Int))=((sIx n d (AA v):Nat):Int):=by
 show(if v<0 then max (v+(n:Int)) 0 else min v (n:Int))=(((if v<0 then(v+(n:Int)).toNat else min v.toNat n):Nat):Int)
 by_cases hv:v<0
 .simp only[if_pos hv];lia
 .simp only[if_neg hv];lia
theorem zP6(lo hi:Option Int)(n:Nat):KS lo hi 1 (n:Int)=(((sIx n 0 lo:Nat):Int),((sIx n n hi:Nat):Int)):=by
 have h1:¬((1:Int)<0):=by lia
 unfold KS;simp only[h1,if_false];refine mP ?_ ?_
 .cases lo with
  |none=>rfl
  |some v=>exact Ra v n 0
 .cases hi with
  |none=>rfl
  |some v=>exact Ra v n n
theorem zP7(i j:Nat):HY (i:Int) (j:Int) 1=j-i:=by
 unfold HY;have h1:(1:Int)>0:=by lia
 simp only[h1,if_true,Int.ediv_one];split<;>lia
theorem Uw{o:Option Int}{Q:Option Int->AS->Prop}(p:QS v o)(h:Q o s):A1 (A4 prog w) A (Builtin.Slice.slicePartIndex v) Q E s:=by
 cases p with
 |none=>exact slicePart_none h
 |int i t=>exact slicePart_int h
theorem sliceApplied_gen{sl:AT}{lo:Option Int}{Q:Int×Int×Nat->AS->Prop}(hs:s.heap.IsSliceOf sl vl vu .none)(pl:QS vl lo)(pu:QS vu hi)
  (h:Q (((sIx n 0 lo:Nat):Int),1,sIx n n hi-sIx n 0 lo) s):A1 (A4 prog w) A (P3 (.ref sl) (pure (n:Int))) Q E s:=by
 obtain⟨os,gX,ZX,YS⟩:=id hs;unfold P3 Builtin.Slice.sliceFields;refine AB (AB (DC gX YS (x:=vl) rfl (AB (DC gX YS (x:=vu) rfl (AB (DC gX YS (x:=.none) rfl (wpAny_pure ?_)))))));refine AB (slicePart_none ?_);show A1 _ _ (if((1:Int)==0)=AK then _ else _) _ _ s;rw[if_neg 'd'];refine AB (Uw pl (AB (Uw pu (AB (wpAny_pure ?_)))));show A1 _ _ (match KS lo hi 1 (n:Int) with|(lo,hi)=>pure (lo,(1:Int),HY lo hi 1)) _ _ s;rw[zP6 lo hi n];show A1 _ _ (pure (((sIx n 0 lo:Nat):Int),(1:Int),HY ((sIx n 0 lo:Nat):Int) ((sIx n n hi:Nat):Int) 1)) _ _ s;rw[zP7];exact wpAny_pure h
theorem zUV(xs:Array AJ)(i k:Nat):((DL k).filterMap λ(m:Nat)=>xs[((i:Int)+(m:Int) * 1).toNat]?).toArray=((xs.toList.drop i).take k).toArray:=by
 have e:(λ(m:Nat)=>xs[((i:Int)+(m:Int) * 1).toNat]?)=λm=>xs[i+m]?:=by
  funext m
  have:((i:Int)+(m:Int) * 1).toNat=i+m:=by lia
  rw[this]
 rw[e];have:=pick_run xs i k;rw[List.filterMap_map] at this;have e2:((λx=>xs[x]?)∘λx=>i+x)=λm=>xs[i+m]?:=rfl;rw[e2] at this;rw[this]
theorem getItem_tuple_cut{t sl:AT}{lo:Option Int}(ht:UQ s.heap t items)(hs:s.heap.IsSliceOf sl vl vu .none)(pl:QS vl lo)(pu:QS vu hi)
  (hw:¬(sIx items.size 0 lo=0/\sIx items.size items.size hi=items.size))
  (h:Q (.ref s.heap.objs.size) { s with heap:=s.heap.push { cls:=.type "tuple",data:=.seq ((items.toList.drop (sIx items.size 0 lo)).take (sIx items.size items.size hi-sIx items.size 0 lo)).toArray } })
  (hsz:items.size<=sizeLine):A1 (A4 prog w) A (Q4 (.ref t) (.ref sl)) Q E s:=by
 have ZU:sizeOk (.seq ((items.toList.drop (sIx items.size 0 lo)).take (sIx items.size items.size hi-sIx items.size 0 lo)).toArray):=by
  show((items.toList.drop (sIx items.size 0 lo)).take (sIx items.size items.size hi-sIx items.size 0 lo)).toArray.size<=sizeLine;rw[A3,GG,R8,HA];lia
 have hj:sIx items.size items.size hi<=items.size:=yCM _ _ (AM _) hi;obtain⟨os,gX,ZX,YS⟩:=id hs;have Ng:s.TypeIs (.ref sl) "slice":={os,gX,ZX};unfold Q4
 try with_reducible refine CS ?_
 first|refine AB (wpAny_pure ?_)|skip
 refine AB (wpAny_sequenceKey ht.typeIs 'd' ?_)
 refine AB (C9 (name:=EX "__getitem__") ht.typeIs ED
  (CY ED ht.typeIs mM ?_ (args_tuple_getitem _ _)))
 show A1 _ _ (P1 (.ref t) >>= _) _ _ s;refine AB (tupleItemsOf_ ht ?_);refine AB (O0 Ng ?_);rw[if_pos 'd'];refine AB (sliceApplied_gen hs pl pu ?_)
 have hno:¬((((sIx items.size 0 lo:Nat):Int)==0&&(1:Int)==1&&(sIx items.size items.size hi-sIx items.size 0 lo)==items.size)=AK):=by
  intro q;rw[EB,EB] at q;have q1:((sIx items.size 0 lo:Nat):Int)=0:=eq_of_beq q.1.1;have q2:sIx items.size items.size hi-sIx items.size 0 lo=items.size:=eq_of_beq q.2;exact hw {by lia,by lia}
 show A1 _ _ (if(((sIx items.size 0 lo:Nat):Int)==0&&(1:Int)==1&&(sIx items.size items.size hi-sIx items.size 0 lo)==items.size)=AK then _ else _) _ _ s;rw[if_neg hno,zUV]
 first
  |exact AB (m:=IE _) (C8 (wpAny_pure {_,rfl,wpAny_pure h}) ZU)
  |exact AB (m:=IE _) (C8 (AB (wpAny_pure (wpAny_pure {_,rfl,wpAny_pure h}))) ZU)
  |exact AB (AB (m:=IE _) (C8 (wpAny_pure (wpAny_pure {_,rfl,wpAny_pure h})) ZU))
  |exact AB (AB (m:=IE _) (C8 (wpAny_pure {_,rfl,wpAny_pure h}) ZU))
end HT
variable{X:L2.Cx}{te ta tb tv:L2.TE}{p2 GA:iB}{xs zs:List L2.V}{σ:L2.St}{H H':L2.Hp}{r:List L2.V->L2.Hp->L2.VK->Prop}{y v:L2.V}{kvs:List (List L2.Key×L2.V)}{lO:List (L2.TE×L2.TE)}{ys:List L2.V}
namespace L2
open PySem PySem.Spec PyProof.Rows
abbrev TO:=St->Hp->(Option Int->Hp->Prop)->Prop
def PO(X:Cx)(e:Option DA)(t:TO):Prop :=
 ∀(AG:List (AT×IF)) (s:AS) (σ:St) (H:Hp) (Q:Option Int->Hp->Prop),Inv X AG σ H s->t σ H Q ->
  A1 (A4 X.prog X.w) X.A (evalPart e X.env) (λu s'=>∃o H',Inv X AG σ H' s'/\QS u o/\Q o H') X.xe s
def zYQ:TO:=λ_ H Q=>Q AL H
def yF4(t:TE):TO:=λσ H Q=>t σ H λx H1=>∃i,x=.int i/\Q (AA i) H1
theorem nW:∀{us:List AJ},Vals (ns.map V.int) us->GC us ns:=by
 induction ns with
 |nil=>intro us r;rw[NU] at r;cases r;exact .nil
 |cons n ns ih =>
  intro us r;rw[AU] at r
  cases r with
  |cons r1 r2 =>
   obtain⟨t,e⟩:=r1;subst e;exact .cons n t (ih r2)
section
variable{lo hi:Option DA}{tl th:TO}
theorem i8:PO X AL zYQ:=by
 intro AG s σ H Q I h;rw[evalPart_none];exact wpAny_pure {AL,H,I,.none,h}
theorem zYR(h:PE X e te):PO X (AA e) (yF4 te):=by
 intro AG s σ H Q I hw;rw[evalPart_some];refine G4 (h AG s σ H _ I hw) λu s1 q0=>?_;obtain⟨x,H1,I1,r1,q1⟩:=q0;obtain⟨i,rfl,q⟩:=q1;obtain⟨t,rfl⟩:=r1;exact{AA i,H1,I1,.int i t,q}
def SlR(X:Cx)(r:V->Option Int->Option Int->Hp->VK->Prop):Prop :=
 ∀(AG:List (AT×IF)) (s:AS) (σ:St) (H:Hp) (x:V) (v vl vu:AJ) (lo hi:Option Int) (sl:AT) (Q:VK),Inv X AG σ H s->RelV x v->s.heap.IsSliceOf sl vl vu .none->QS vl lo->QS vu hi->r x lo hi H Q ->
  ∃T id,typeLookup (.type T) "__getitem__"=pure (AA (.builtin id))/\s.TypeIs v T/\A1 (A4 X.prog X.w) X.A (Q4 v (.ref sl)) (EP X AG σ Q) X.xe s
theorem SlR.or{r r':V->Option Int->Option Int->Hp->VK->Prop}(h:SlR X r)(h':SlR X r'):SlR X (λx lo hi H Q=>r x lo hi H Q\/r' x lo hi H Q):=by
 intro AG s σ H x v vl vu lo hi sl Q I rx hs pl pu q;rcases q with q|q
 .exact h AG s σ H x v vl vu lo hi sl Q I rx hs pl pu q
 .exact h' AG s σ H x v vl vu lo hi sl Q I rx hs pl pu q
def tSl(r:V->Option Int->Option Int->Hp->VK->Prop)(te:TE)(tl th:TO):TE:=λσ H Q=>te σ H λx H1=>tl σ H1 λl H2=>th σ H2 λu H3=>r x l u H3 Q
theorem zUW{r:V->Option Int->Option Int->Hp->VK->Prop}(hr:SlR X r)(he:PE X e te)(hl:PO X lo tl)(hu:PO X hi th):PE X (.Subscript e (.Slice lo hi AL p2) pos) (tSl r te tl th):=by
 intro AG s σ H Q I h;refine Subscript_ (G4 (he AG s σ H _ I h) λv s1 ⟨x,H1,I1,r1,q1⟩=>?_);refine wpAny_Slice (G4 (hl AG s1 σ H1 _ I1 q1) λvl s2 ⟨l,H2,I2,pl,q2⟩=>G4 (hu AG s2 σ H2 _ I2 q2) λvu s3 ⟨u,H3,I3,pu,q3⟩=>?_);rw[evalPart_none];refine wpAny_pure ?_;have I4:Inv X AG σ H3 { s3 with heap:=s3.heap.push { cls:=.type "slice",data:=.fields #[vl,vu,.none] } }:=I3.kept (t':=s3.toks) λb ob q=>AF _ q;obtain⟨T,id,hT,ht,hg⟩:=hr AG { s3 with heap:=s3.heap.push { cls:=.type "slice",data:=.fields #[vl,vu,.none] } } σ H3 x v vl vu l u s3.heap.objs.size Q I4 r1 (Heap.IsSliceOf.new ..) pl pu q3;show A1 (A4 X.prog X.w) X.A (subscriptTail e (.Slice lo hi AL p2) v (.ref s3.heap.objs.size)) (EP X AG σ Q) X.xe { s3 with heap:=s3.heap.push { cls:=.type "slice",data:=.fields #[vl,vu,.none] } };exact tail_any (ops:=[.ref s3.heap.objs.size,v]) ht hT hg (by with_unfolding_all rfl)
noncomputable def ZH(xs:List V)(lo hi:Option Int):List V:=(xs.drop (HT.sIx xs.length 0 lo)).take (HT.sIx xs.length xs.length hi-HT.sIx xs.length 0 lo)
theorem Va(xs:List V)(lo hi:Option Int):(ZH xs lo hi).length<=xs.length:=by
 unfold ZH;rw[GG,R8];lia
def yII(K:AD):V->Option Int->Option Int->Hp->VK->Prop:=λx lo hi H Q=>∃a xs,x=.ref a/\SqT K H a xs /\
 ¬(HT.sIx xs.length 0 lo=0/\HT.sIx xs.length xs.length hi=xs.length)/\∀p,H p=AL->Q (.ref p) (D3 H p (.tup (ZH xs lo hi)))
theorem yCN:SlR X (yII X.K):=by
 intro AG s σ H x v vl vu lo hi sl Q I rx hs pl pu h;obtain⟨a,xs,rfl,hx,hw,q⟩:=h;cases rx;obtain⟨CK,r,ht,hz⟩:=I.tuple hx;have E6:CK.toArray.size=xs.length:=by rw[A3];exact r.length.symm
 refine{"tuple",_,ED.lookup,ht.typeIs,?_};refine HT.getItem_tuple_cut ht hs pl pu (by rw[E6];exact hw) ?_ (by rw[E6];exact hz);rw[E6];refine{.ref s.heap.objs.size,_,I.laid (t':=s.toks) (o:=.tup (ZH xs lo hi)) (λb ob q=>AF _ q) (AM _) ?_,rfl,q _ (I.hok.fresh (AM _))};exact{AY (Va xs lo hi) hz,_,(r.drop (HT.sIx xs.length 0 lo)).take (HT.sIx xs.length xs.length hi-HT.sIx xs.length 0 lo),IsTupP.new _ _}
def Wi(K:AD):R2:=λx y H Q=>∃a b ns ms,x=.ref a/\y=.ref b/\SqT K H a (ns.map V.int)/\SqT K H b (ms.map V.int)/\Q (.bl (HT.lexLt ns ms)) H
theorem yCO(hu:X.A.units<GB):OpR X (EZ .Lt) (Wi X.K):=by
 intro AG s σ H x y v u Q I rx ry h;obtain⟨a,b,ns,ms,rfl,rfl,ha,hb,q⟩:=h;cases rx;cases ry;obtain⟨CK,r1,p1,_⟩:=I.tuple ha;obtain⟨LR,r2,p2,_⟩:=I.tuple hb;have i1:GC CK.toArray.toList ns:=nW r1;have i2:GC LR.toArray.toList ms:=nW r2;exact HT.lt_tupInts p1 p2 i1 i2 hu {.bl (HT.lexLt ns ms),H,I,rfl,q}
theorem Vals.nil_iff(r:Vals xs us):us=[]↔xs=[]:=by
 cases r with
 |nil=>simp
 |cons _ _=>simp
end
noncomputable def YF(n:Nat)(i:Int):Option Nat:=if 0<=i then(if i<n then AA i.toNat else AL) else if -(n:Int)<=i then AA (i+n).toNat else AL
def atI(xs:List α)(i:Int):Option α:=(YF xs.length i).bind λj=>xs[j]?
theorem Qz{i:Int}(h:YF n i=AA j):seqIndex? i n=AA j/\j<n/\-(n:Int)<=i/\i<n:=by
 unfold YF at h
 by_cases h0:0<=i
 .rw[if_pos h0] at h
  by_cases h1:i<n
  .rw[if_pos h1] at h
   have e:i.toNat=j:=BJ h;exact{by rw[WT h0 h1,e],by lia,by lia,h1}
  .rw[if_neg h1] at h;cases h
 .rw[if_neg h0] at h
  by_cases h1:-(n:Int)<=i
  .rw[if_pos h1] at h
   have e:(i+n).toNat=j:=BJ h;exact{by rw[seqIndex_neg 'l' h1,e],by lia,h1,by lia}
  .rw[if_neg h1] at h;cases h
theorem Ep{xs:List α}{i:Int}{v:α}(h:atI xs i=AA v):∃j,seqIndex? i xs.length=AA j/\xs[j]?=AA v/\j<xs.length/\-(xs.length:Int)<=i/\i<xs.length:=by
 unfold atI at h
 cases e:YF xs.length i with
 |none=>rw[e] at h;cases h
 |some j =>
  rw[e] at h;obtain⟨h1,h2,h3,h4⟩:=Qz e;exact{j,h1,h,h2,h3,h4}
theorem Qy{xs:List α}{v:α}(h:xs[j]?=AA v):atI xs (j:Int)=AA v:=by
 have hj:j<xs.length:=(AQ.mp h).1
 have e:YF xs.length (j:Int)=AA j:=by
  unfold YF;rw[if_pos (Int.natCast_nonneg _),if_pos 'l'];simp
 unfold atI;rw[e];exact h
def Qx(b:DA):Prop:=∀o i,subscripted b AC o i=operate [o,i] (Q4 o i)
def IxR(X:Cx)(r:R2):Prop :=
 ∀(J0 PP:DA) (AG:List (AT×IF)) (s:AS) (σ:St) (H:Hp) (x y:V) (v u:AJ) (Q:VK),Inv X AG σ H s->RelV x v->RelV y u->r x y H Q ->
  subscripted PP AC v u=operate [v,u] (Q4 v u)->A1 (A4 X.prog X.w) X.A (subscriptTail J0 PP v u) (EP X AG σ Q) X.xe s
def Ja(X:Cx)(id:String)(r:V->List V->Hp->VK->Prop):Prop :=
 ∀(AG:List (AT×IF)) (s:AS) (σ:St) (H:Hp) (x:V) (xs:List V) (v:AJ) (us:List AJ) (Q:VK),Inv X AG σ H s->RelV x v->Vals xs us->r x xs H Q ->
  A1 (A4 X.prog X.w) X.A (call (.builtin id) (v::us)) (EP X AG σ Q) X.xe s
section
variable{a b:DA}
theorem IxR.or{r r':R2}(h:IxR X r)(h':IxR X r'):IxR X (λx y H Q=>r x y H Q\/r' x y H Q):=by
 intro J0 PP AG s σ H x y v u Q I rx ry q hs;rcases q with q|q
 .exact h J0 PP AG s σ H x y v u Q I rx ry q hs
 .exact h' J0 PP AG s σ H x y v u Q I rx ry q hs
theorem Xt{r:R2}(hr:IxR X r)(ha:PE X a ta)(hb:PE X b tb)(hs:Qx b):PE X (.Subscript a b pos) (n9 r ta tb):=by
 intro AG s σ H Q I h;exact Subscript_ (Hu ha hb I h λv u s2 x y H2 I2 rx ry q=>hr a b AG s2 σ H2 x y v u Q I2 rx ry q (hs _ _))
def Wh(K:AD):R2:=λx y H Q=>∃p xs i v,x=.ref p/\y=.int i/\SqL K H p xs/\atI xs i=AA v/\Q v H
def Wg(K:AD):R2:=λx y H Q=>∃p xs i v,x=.ref p/\y=.int i/\SqT K H p xs/\atI xs i=AA v/\Q v H
def Wf:R2:=λx y H Q=>∃z i c,x=.str z/\y=.int i/\z.length<=sizeLine/\atI z.cps.toList i=AA c/\Q (.str {#[c]}) H
theorem ZQ:IxR X (Wh X.K):=by
 intro J0 PP AG s σ H x y v u Q I rx ry h hs;obtain⟨p,xs,i,z,rfl,rfl,hq,he,q⟩:=h;cases rx;obtain⟨t,rfl⟩:=ry;obtain⟨CK,r,pl,hz⟩:=I.list hq;obtain⟨j,h1,h2,h3,h4,h5⟩:=Ep he;obtain⟨w,ew,LQ⟩:=r.get h2;have hl:=r.length;have hn:=k9;have fin:EP X AG σ Q w s:={z,H,I,LQ,q}
 by_cases h0:0<=i
 .have hj:i.toNat=j:=by
   rw[WT h0 h5] at h1;exact BJ h1
  exact item_listR pl.isList h0 'l' (by rw[hj];simpa using ew) fin hs
 .have hj:(i+(CK.toArray.size:Int)).toNat=j:=by
   rw[seqIndex_neg 'l' h4] at h1;rw[A3,<-hl];exact BJ h1
  exact eY (x:=w) pl.isList.typeIs slot_list_getitem.lookup
   (wpAny_getItem_list_neg (Q:=λr s'=>r=w/\EP X AG σ Q r s') pl.isList 'l' (by rw[A3]<;>lia) 'l' (by rw[hj];simpa using ew) {rfl,fin}) hs
theorem oE:IxR X (Wg X.K):=by
 intro J0 PP AG s σ H x y v u Q I rx ry h hs;obtain⟨p,xs,i,z,rfl,rfl,hq,he,q⟩:=h;cases rx;obtain⟨t,rfl⟩:=ry;obtain⟨CK,r,pl,hz⟩:=I.tuple hq;obtain⟨j,h1,h2,h3,h4,h5⟩:=Ep he;obtain⟨w,ew,LQ⟩:=r.get h2;have hl:=r.length;have hn:=k9;have fin:EP X AG σ Q w s:={z,H,I,LQ,q}
 exact eY (x:=w) pl.typeIs slot_tuple_getitem.lookup
  (getItem_tuple (j:=j) (Q:=λr s'=>r=w/\EP X AG σ Q r s') pl 'l' 'l' (by rw[A3,<-hl];exact h1) (by simpa using ew) {rfl,fin}) hs
theorem yCQ:IxR X Wf:=by
 intro J0 PP AG s σ H x y v u Q I rx ry h hs;obtain⟨z,i,c,rfl,rfl,hz,he,q⟩:=h;obtain⟨t,rfl⟩:=rx;obtain⟨t',rfl⟩:=ry;obtain⟨j,h1,h2,h3,h4,h5⟩:=Ep he;have hl:z.cps.toList.length=z.length:=by simp[Str.length]
 rw[hl] at h1 h4 h5;have hn:=k9
 exact tail_any (typeIs_str s z t) slot_str_getitem.lookup (getItem_str (c:=c) (by
  have e1:decide (i < -(2 ^ 63:Int))=AC:=decide_eq_false 'l';have e2:decide (i>=2 ^ 63)=AC:=decide_eq_false 'l'
  rw[e1,e2,Bool.or_false]) (by rw[h1];simpa using h2) {.str {#[c]},H,I.tok _,{_,rfl},q}) hs
def Yb(K:AD):R2:=λx y H Q=>Wh K x y H Q\/Wg K x y H Q\/Wf x y H Q
theorem oF:IxR X (Yb X.K):=ZQ.or (oE.or yCQ)
theorem zP8(CK:List AJ)(n j:Nat)(u:AJ):C6 (·.setIfInBounds j u) { cls:=.type "list",data:=.seq CK.toArray n }={ cls:=.type "list",data:=.seq (CK.set j u).toArray n }:=by
 simp[C6]
theorem Inv.lst{AG:List (AT×IF)}{σ:St}{H:Hp}{s:AS}{p:AT}{xs:List V}(I:Inv X AG σ H s)(h:H p=AA (.lst xs)) :
  ∃(CK:List AJ) (n:Nat),Vals xs CK/\s.heap.get? p=AA { cls:=.type "list",data:=.seq CK.toArray n }/\xs.length<=sizeLine:=by
 obtain⟨z,CK,n,r,e⟩:=I.hok p _ h;exact{CK,n,r,e,z}
theorem Inv.lstUpd{p:AT}{NY:List AJ}{n':Nat}{f:IF->IF}(I:Inv X AG σ H s)(h:H p=AA (.lst xs))
  (ho:s.heap.get? p=AA { cls:=.type "list",data:=.seq CK.toArray n }) (hf:f { cls:=.type "list",data:=.seq CK.toArray n }={ cls:=.type "list",data:=.seq NY.toArray n' }) (r:Vals ys NY) (hz:ys.length<=sizeLine) (t:Nat) :
  Inv X AG σ (D3 H p (.lst ys)) { s with heap:=s.heap.update p f,toks:=t }:=by
 have e:(s.heap.update p f).get? p=AA { cls:=.type "list",data:=.seq NY.toArray n' }:=by
  rw[OH f ho (by rw[hf]<;>rfl),hf]
 refine I.write (x:=p) (e:=p) (by rw[h];trivial) (.inl rfl) (λb u hb q=>(X4 _ _ (FO hb)).trans q) {_,e} ?_;exact{hz,NY,n',r,e}
def yF5:V->V->V->Hp->(Hp->Prop)->Prop:=λo i v H Q=>∃p xs k j,o=.ref p/\i=.int k/\H p=AA (.lst xs)/\YF xs.length k=AA j/\Q (D3 H p (.lst (xs.set j v)))
theorem zUX:Ws X yF5:=by
 intro AG s σ H o i v ov iv u Q I ro ri rv h;obtain⟨p,xs,k,j,rfl,rfl,hp,hj,q⟩:=h;cases ro;obtain⟨t,rfl⟩:=ri;obtain⟨CK,n,r,ho,hz⟩:=I.lst hp;obtain⟨h1,h2,h3,h4⟩:=Qz hj;have hl:=r.length;have hn:=k9
 have I':Inv X AG σ (D3 H p (.lst (xs.set j v))) { s with heap:=s.heap.update p (C6 (·.setIfInBounds j u)) } :=
  I.lstUpd hp ho (zP8 CK n j u) (r.set rv j) (by rw[CC];exact hz) s.toks
 by_cases h0:0<=k
 .have hk:k.toNat=j:=by
   rw[WT h0 h4] at h1;exact BJ h1
  exact PySem.W.ki_setAt ho h0 'l' (by rw[A3,<-hl];exact h4) (by rw[hk];exact{_,I',q})
 .have hk:(k+(CK.toArray.size:Int)).toNat=j:=by
   rw[seqIndex_neg 'l' h3] at h1;rw[A3,<-hl];exact BJ h1
  exact PySem.W.ki_setBack ho 'l' (by rw[A3,<-hl];exact h3) 'l' (by rw[hk];exact{_,I',q})
theorem zLP(lo hi:Option Int)(n:Nat):(LS lo hi AL n).1=((HT.sIx n 0 lo:Nat):Int)/\(LS lo hi AL n).2.1=((HT.sIx n n hi:Nat):Int)/\(LS lo hi AL n).2.2=1:=by
 refine{?_,?_,rfl}
 .cases lo with
  |none=>simp[LS,HT.sIx]
  |some i =>
   simp only[LS,HT.sIx,cI,show(1:Int)>0 by decide,if_true]
   by_cases h:i<0
   .simp only[h,if_true]<;>lia
   .simp only[h,if_false]<;>lia
 .cases hi with
  |none=>simp[LS,HT.sIx]
  |some i =>
   simp only[LS,HT.sIx,cI,show(1:Int)>0 by decide,if_true]
   by_cases h:i<0
   .simp only[h,if_true]<;>lia
   .simp only[h,if_false]<;>lia
theorem zJT(CK:List AJ)(lo hi:Option Int):slicePick CK.toArray lo hi AL=((CK.drop (HT.sIx CK.length 0 lo)).take (HT.sIx CK.length CK.length hi-HT.sIx CK.length 0 lo)).toArray:=by
 obtain⟨h1,h2,h3⟩:=zLP lo hi CK.toArray.size;unfold slicePick;rw[h1,h2,h3];simp only[sliceRange_one,pick_run,A3]<;>rfl
def yIJ(K:AD):V->Option Int->Option Int->Hp->VK->Prop:=λx lo hi H Q=>∃a xs,x=.ref a/\SqL K H a xs/\∀p,H p=AL->Q (.ref p) (D3 H p (.lst (ZH xs lo hi)))
theorem zYS:SlR X (yIJ X.K):=by
 intro AG s σ H x v vl vu lo hi sl Q I rx hs pl pu h;obtain⟨a,xs,rfl,hx,q⟩:=h;cases rx;obtain⟨CK,r,ht,hz⟩:=I.list hx;have E6:=r.length;refine{"list",_,slot_list_getitem.lookup,ht.isList.typeIs,?_};refine wpAny_getItem_list_slice ht.isList hs pl pu .none 's' ?_ (by rw[A3]<;>lia);rw[zJT,<-E6];refine{.ref s.heap.objs.size,_,I.laid (t':=s.toks) (o:=.lst (ZH xs lo hi)) (λb ob q=>AF _ q) (AM _) ?_,rfl,q _ (I.hok.fresh (AM _))};exact{AY (Va xs lo hi) hz,_,0,(r.drop (HT.sIx xs.length 0 lo)).take (HT.sIx xs.length xs.length hi-HT.sIx xs.length 0 lo),AV _ rfl}
theorem VJ:CallR X (.builtin "len") (λxs H Q=>∃p ys,xs=[.ref p]/\(SqL X.K H p ys\/SqT X.K H p ys)/\Q (.int ys.length) H):=by
 intro AG s σ H xs us Q I r h;obtain⟨p,ys,rfl,hq,q⟩:=h;obtain⟨u,rfl,rx⟩:=YD r;cases rx;have hn:=k9;rcases hq with hq|hq
 .obtain⟨CK,r',pl,hz⟩:=I.list hq
  have E6:=r'.length;exact Calls.call_len_list pl.isList (by simp only[A3]<;>lia) {.int ys.length,H,I.tok _,{s.toks+1,by rw[A3,E6]},q}
 .obtain⟨CK,r',pl,hz⟩:=I.tuple hq
  have E6:=r'.length;exact len_tuple pl (by simp only[A3]<;>lia) {.int ys.length,H,I.tok _,{s.toks+1,by rw[A3,E6]},q}
theorem VH:CallR X (.builtin "len") (λxs H Q=>∃z,xs=[.str z]/\z.length<=sizeLine/\Q (.int z.length) H):=by
 intro AG s σ H xs us Q I r h;obtain⟨z,rfl,hz,q⟩:=h;obtain⟨u,rfl,t,rfl⟩:=YD r;have hn:=k9;exact len_str 'l' {.int z.length,H,I.tok _,{_,rfl},q}
theorem CallR.or{f:AJ}{r':List V->Hp->VK->Prop}(h:CallR X f r)(h':CallR X f r'):CallR X f (λxs H Q=>r xs H Q\/r' xs H Q):=by
 intro AG s σ H xs us Q I rs q;rcases q with q|q
 .exact h AG s σ H xs us Q I rs q
 .exact h' AG s σ H xs us Q I rs q
theorem VF:CallR X (.type "list") (λxs H Q=>∃p ys,xs=[.ref p]/\(SqL X.K H p ys\/SqT X.K H p ys)/\∀l,H l=AL->Q (.ref l) (D3 H l (.lst ys))):=by
 intro AG s σ H xs us Q I r h;obtain⟨p,ys,rfl,hq,q⟩:=h;obtain⟨u,rfl,rx⟩:=YD r;cases rx
 have fin:∀(CK:List AJ),Vals ys CK->ys.length<=sizeLine->∀(h':D7) (c':Nat),(∀b o',s.heap.get? b=AA o'->h'.get? b=AA o') ->
   h'.get? s.heap.objs.size=AA { cls:=.type "list",dict:=AL,data:=.seq CK.toArray c',slots:=#[] }->EP X AG σ Q (.ref s.heap.objs.size) { s with heap:=h' }:=λCK r' hz h' c' kp e =>
  {.ref s.heap.objs.size,_,I.laid (t':=s.toks) kp (AM _) (show ObjOk X.prog X.w _ h' _ (.lst ys) from{hz,CK,c',r',e}),rfl,q _ (I.hok.fresh (AM _))}
 rcases hq with hq|hq
 .obtain⟨CK,r',pl,hz⟩:=I.list hq
  have E6:=r'.length;obtain⟨o,ho,hc,n,hd⟩:=pl.isList;exact call_list_seq p (.inl rfl) ho hc hd (λh' c' kp e=>fin CK r' hz h' c' kp e) (by simp only[A3]<;>lia)
 .obtain⟨CK,r',pl,hz⟩:=I.tuple hq
  have E6:=r'.length;obtain⟨o,ho,hc,n,hd⟩:=pl;exact call_list_seq p (.inr rfl) ho hc hd (λh' c' kp e=>fin CK r' hz h' c' kp e) (by simp only[A3]<;>lia)
theorem zJU:CallR X (.type "tuple") (λxs H Q=>∃p ys,xs=[.ref p]/\((SqL X.K H p ys/\∀l,H l=AL->Q (.ref l) (D3 H l (.tup ys)))\/(SqT X.K H p ys/\Q (.ref p) H))):=by
 intro AG s σ H xs us Q I r h;obtain⟨p,ys,rfl,h⟩:=h;obtain⟨u,rfl,rx⟩:=YD r;cases rx;rcases h with⟨hq,q⟩|⟨hq,q⟩
 .obtain⟨CK,r',pl,hz⟩:=I.list hq
  have E6:=r'.length;refine call_tuple_list pl.isList (λh' kp=>?_) (by simp only[A3]<;>lia);have I1:Inv X AG σ H { s with heap:=h' }:=I.kept (t':=s.toks) kp
  have I2:Inv X AG σ (D3 H h'.objs.size (.tup ys)) { s with heap:=h'.push { cls:=.type "tuple",data:=.seq CK.toArray } } :=
   I1.laid (t':=s.toks) (λb o e=>AF _ e) (AM _) (show ObjOk X.prog X.w _ _ _ (.tup ys) from{hz,CK,r',IsTupP.new _ _})
  exact{.ref h'.objs.size,_,I2,rfl,q _ (I1.hok.fresh (AM _))}
 .obtain⟨CK,r',pl,hz⟩:=I.tuple hq
  exact call_tuple_same pl {.ref p,H,I,rfl,q}
def Ax(K:AD)(T:String)(x:V)(H:Hp):Prop:=match x with
 |.str _=>T="str"
 |.int _=>T="int"
 |.ref p=>(T="list"/\∃xs,SqL K H p xs)\/(T="tuple"/\∃o,K.lookup p=AA o/\o.cls=.type "tuple"/\o.dict=AL) \/
   (T="dict"/\((∃kvs,H p=AA (.dK kvs))\/∃kvs,H p=AA (.dT kvs)))\/(T="set"/\∃S n,H p=AA (.set S n))
 |_=>False
theorem Pd{T:String}{x:V}{v:AJ}(I:Inv X AG σ H s)(r:RelV x v)(ty:Ax X.K T x H) :
  s.TypeIs v T/\∀a,v=.ref a->∃ob,s.heap.get? a=AA ob/\ob.dict=AL:=by
 cases x with
 |str z =>
  obtain⟨t,rfl⟩:=r;cases(show T="str" from ty);exact{typeIs_str s z t,λ_ e=>nomatch e}
 |int i =>
  obtain⟨t,rfl⟩:=r;cases(show T="int" from ty);exact{typeIs_int s i t,λ_ e=>nomatch e}
 |ref p =>
  cases r;rcases ty with⟨rfl,xs,hq⟩|⟨rfl,o,hk,hc,hd⟩|⟨rfl,hk⟩|⟨rfl,S,n,hk⟩
  .obtain⟨CK,_,pl,_⟩:=I.list hq
   refine{pl.isList.typeIs,λa e=>?_};cases e;obtain⟨o,n,e,c,hd,_⟩:=pl;exact{o,e,hd}
  .refine{{o,I.kIn p o hk,hc},λa e=>?_}
   cases e;exact{o,I.kIn _ o hk,hd}
  .have z:∃o,s.heap.get? p=AA o/\o.ExactDict:=by
    rcases hk with⟨kvs,hk⟩|⟨kvs,hk⟩
    .obtain⟨_,_,_,_,o,_,_,e,ex,_⟩:=I.hok p _ hk
     exact{o,e,ex}
    .obtain⟨_,_,_,_,o,_,_,e,ex,_⟩:=I.hok p _ hk
     exact{o,e,ex}
   obtain⟨o,e,ex⟩:=z;refine{{o,e,ex.1},λa e2=>?_};cases e2;exact{o,e,ex.2.1}
  .obtain⟨o,_,_,_,e,ex,_⟩:=I.hok p _ hk
   refine{{o,e,ex.1},λa e2=>?_};cases e2;exact{o,e,ex.2.1}
 |_=>exact IJ ty
def yIK(K:AD)(T:String)(r:V->List V->Hp->VK->Prop)(to:TE):TE:=λσ H Q=>to σ H λx H1=>Ax K T x H1/\r x [] H1 Q
def tBM(K:AD)(T:String)(r:V->List V->Hp->VK->Prop)(to:TE)(t:TA):TE:=λσ H Q=>to σ H λx H1=>Ax K T x H1/\t σ H1 λxs H2=>r x xs H2 Q
variable{o:DA}{to:TE}{t:TA}{T id:String}{r:V->List V->Hp->VK->Prop}
theorem yCR(pa:PlainAttrs T)(slot:Slot T name id)(Lc:typeOf (.builtin id)=pure (.type "method_descriptor"))(hm:Ja X id r)(ho:PE X o to)
  (N2:JY o name X.env (eval o X.env)=eval o X.env:=by rfl) (N1:(MB.endLine==GA.line)=AK:=by rfl):PE X (.Call (.Attribute o name MB) [] [] GA) (yIK X.K T r to):=by
 intro AG s σ H Q I h;refine wpAny_Call_method0_late N2 N1 (G4 (ho AG s σ H _ I h) λv s1 ⟨x,H1,I1,r1,ty,q1⟩=>?_);obtain⟨h1,h2⟩:=Pd I1 r1 ty;exact{T,id,pa,slot,Lc,h1,h2,NN rfl (PySem.evalArgs_none (hm AG s1 σ H1 x [] v [] Q I1 r1 .nil q1))}
theorem yJ(pa:PlainAttrs T)(slot:Slot T name id)(Lc:typeOf (.builtin id)=pure (.type "method_descriptor"))(hm:Ja X id r)(ho:PE X o to)(ha:PA X (e::es) t)
  (N2:JY o name X.env (eval o X.env)=eval o X.env:=by rfl)
  (YR:((DT GA (AO (e::es) X.env)).all (λx=>!x.1)&&(Y4 GA (QQ [] X.env)).all (λx=>x.1.isSome)
   && decide ((e::es).length+([]:List MS).length+(if([]:List MS).isEmpty then 0 else 1)<30))=AK:=by rfl)
  (N1:(MB.endLine==GA.line)=AK:=by rfl) (hs:AO (e::es) X.env=(AC,eval e X.env)::AO es X.env:=by rfl) (OY:(DT GA (AO es X.env)).any (·.1)=AC:=by rfl) :
  PE X (.Call (.Attribute o name MB) (e::es) [] GA) (tBM X.K T r to t):=by
 intro AG s σ H Q I h;refine wpAny_Call_method_late N2 YR N1 rfl (G4 (ho AG s σ H _ I h) λv s1 ⟨x,H1,I1,r1,ty,q1⟩=>?_);obtain⟨h1,h2⟩:=Pd I1 r1 ty;refine{T,id,pa,slot,Lc,h1,h2,?_};have hA:=ha GA AG s1 σ H1 _ I1 q1;rw[hs] at hA ⊢;refine NN (by show(AC||(DT GA (AO es X.env)).any (·.1))=AC;rw[OY]<;>rfl) (ON ?_);exact G4 hA (λus s2 q0=>by obtain⟨vs,H2,I2,r2,q2⟩:=q0;exact hm AG s2 σ H2 x vs v us Q I2 r1 r2 q2)
/- xs.append(e),list.index on a module's tuple .. are Ja facts of 06m -/
end
def uU(X:Cx)(id:String)(r:V->List V->Hp->VK->Prop):Prop :=
 ∀(AG:List (AT×IF)) (s:AS) (σ:St) (H:Hp) (x:V) (xs:List V) (v:AJ) (us:List AJ) (Q:VK),Inv X AG σ H s->RelV x v->Vals xs us->r x xs H Q ->
  A1 (A4 X.prog X.w) X.A (call (.builtin id) (v::us)) (EP X AG σ Q) X.xe s
theorem Vals.one:∀{x:V} {us:List AJ},Vals [x] us->∃u,us=[u]/\RelV x u
 |_,_,.cons r .nil=>{_,rfl,r}
theorem Vals.zero:∀{us:List AJ},Vals [] us->us=[]
 |_,.nil=>rfl
theorem Vals.dropLast{xs:List V}{us:List AJ}(h:Vals xs us):Vals xs.dropLast us.dropLast:=by
 induction h with
 |nil=>exact .nil
 |cons r t ih =>
  cases t with
  |nil=>exact .nil
  |cons q t'=>exact .cons r ih
theorem Vals.eraseIdx:∀{xs:List V} {us:List AJ} (i:Nat),Vals xs us->Vals (xs.eraseIdx i) (us.eraseIdx i)
 |_,_,_,.nil=>.nil
 |_,_,0,.cons _ t=>t
 |_,_,i+1,.cons r t=>.cons r (Vals.eraseIdx i t)
theorem Vals.rep{xs:List V}{us:List AJ}(h:Vals xs us):∀k:Nat,Vals (BH k xs).flatten (BH k us).flatten
 |0=>.nil
 |k+1=>by
  rw[ES,ES,GZ,GZ];exact Vals.append h (Vals.rep h k)
theorem zP9(l:List α):l.eraseIdx (l.length-1)=l.dropLast:=by
 induction l with
 |nil=>rfl
 |cons a r ih =>
  cases r with
  |nil=>rfl
  |cons b r =>
   have e:(a::b::r).length-1=((b::r).length-1)+1:=by
    have h1:(a::b::r).length=r.length+2:=rfl;have h2:(b::r).length=r.length+1:=rfl;lia
   rw[e,XS,ih]
   all_goals rfl
theorem To{α:Type}:∀(l:List α) (i:Nat),(l.eraseIdx i).length<=l.length
 |[],_=>AM _
 |_::_,0=>K3 _
 |_::r,i+1=>Nat.succ_le_succ (To r i)
theorem Tn(CK:List AJ):∀(k:Nat) (BR:List AJ),
  cJ (λx1 x2=>x1++x2) BR.toArray (BH k CK.toArray)=(BR++(BH k CK).flatten).toArray
 |0,BR=>by simp
 |k+1,BR=>by
  have e:BR.toArray++CK.toArray=(BR++CK).toArray:=by simp
  have e2:(BR++CK)++(BH k CK).flatten=BR++(BH (k+1) CK).flatten:=by
   rw[ES,GZ,CP]
  rw[<-e2,<-Tn CK k (BR++CK),<-e,ES,K7]
section
variable{b:AT}
theorem Inv.lset{NY:List AJ}{f:Array AJ->Array AJ}(I:Inv X AG σ H s)(hH:H l=AA (.lst xs))
  (e:s.heap.get? l=AA { cls:=.type "list",data:=.seq CK.toArray n }) (hf:f CK.toArray=NY.toArray) (hv:Vals ys NY) (hz:ys.length<=sizeLine) :
  Inv X AG σ (D3 H l (.lst ys)) { s with heap:=s.heap.update l (C6 f),toks:=t' }:=by
 have q:=PySem.IsL.update e f;rw[hf] at q;refine I.write (x:=l) (e:=l) (by rw[hH];exact trivial) (.inl rfl) (λb' u hb hu=>(X4 s.heap (C6 f) (FO hb)).trans hu) {_,q} ?_;exact{hz,NY,_,hv,q}
theorem Inv.lnew(I:Inv X AG σ H s)(hv:Vals ys CK)(hz:ys.length<=sizeLine) :
  Inv X AG σ (D3 H s.heap.objs.size (.lst ys)) { s with heap:=s.heap.push { cls:=.type "list",data:=.seq CK.toArray },toks:=t' } :=
 I.laid (λ_ _ q=>AF _ q) (AM _) {hz,CK,0,hv,AV _ rfl}
theorem Inv.fresh(I:Inv X AG σ H s):H s.heap.objs.size=AL:=I.hok.fresh (AM _)
theorem Inv.lstM(I:Inv X AG σ H s)(hH:H l=AA (.lst xs)):xs.length<=sizeLine/\∃(CK:List AJ) (n:Nat),Vals xs CK/\xs.length=CK.length/\s.heap.get? l=AA { cls:=.type "list",data:=.seq CK.toArray n }:=by
 obtain⟨z,CK,n,r,e⟩:=I.hok l _ hH;exact{z,CK,n,r,r.length,e}
theorem Se(h:n<=sizeLine):IG n=AC:=by
 unfold IG;exact decide_eq_false (kD h)
end
def Qw:V->List V->Hp->VK->Prop:=λx vs H Q=>∃l xs y,x=.ref l/\vs=[y]/\H l=AA (.lst xs)/\xs.length<sizeLine/\Q .non (D3 H l (.lst (xs++[y])))
theorem Gf:uU X "list.append" Qw:=by
 intro AG s σ H x vs v us Q I rx rv h;obtain⟨l,xs,y,rfl,rfl,hH,hz,q⟩:=h;cases rx;obtain⟨u,rfl,ru⟩:=rv.one;obtain⟨z,CK,n,r,hl,e⟩:=I.lstM hH;refine LF F.slot_list_append {_,e,rfl} F.entry_list_append (F.args_list_append_2 _ _) (PySem.list_append l CK.toArray n u (by rw[A3];lia)) {e,?_};refine{.non,_,I.lset (NY:=CK++[u]) hH e 's' (r.append (.cons ru .nil)) ?_,rfl,q};rw[BO,KH];exact J9 hz
def zYT:V->List V->Hp->VK->Prop:=λx vs H Q=>∃l b xs zs,x=.ref l/\vs=[.ref b]/\H l=AA (.lst xs)/\H b=AA (.lst zs)/\xs.length+zs.length<=sizeLine/\Q .non (D3 H l (.lst (xs++zs)))
theorem yCS:uU X "list.extend" zYT:=by
 intro AG s σ H x vs v us Q I rx rv h;obtain⟨l,b,xs,zs,rfl,rfl,hH,hB,hz,q⟩:=h;cases rx;obtain⟨u,rfl,ru⟩:=rv.one;cases ru;obtain⟨z,CK,n,r,hl,e⟩:=I.lstM hH;obtain⟨z2,LR,n2,r2,bY,e2⟩:=I.lstM hB;have hsz:CK.toArray.size+LR.toArray.size<=sizeLine:=by rw[A3,A3];lia
 have eK:¬(!CK.toArray.isEmpty&&IG (CK.toArray.size+LR.toArray.size))=AK:=by
  rw[Se hsz,U6];exact B9
 refine LF F.slot_list_extend {_,e,rfl} F.entry_list_extend (F.args_list_extend_2 _ _)
  (AutoSeq1.list_extend_list_list_0 l CK.toArray n b LR.toArray n2 eK (by rw[A3];lia) (AY hsz (A6 _ _))) {e,e2,?_}
 refine{.non,_,I.lset (NY:=CK++LR) hH e 's' (r.append r2) ?_,rfl,q};rw[BO];exact hz
def We:V->List V->Hp->VK->Prop:=λx vs H Q=>∃l xs y,x=.ref l/\vs=[]/\H l=AA (.lst xs)/\xs[xs.length-1]?=AA y/\Q y (D3 H l (.lst xs.dropLast))
theorem yCT:uU X "list.pop" We:=by
 intro AG s σ H x vs v us Q I rx rv h;obtain⟨l,xs,y,rfl,rfl,hH,hy,q⟩:=h;cases rx;have hus:=rv.zero;subst hus;obtain⟨z,CK,n,r,hl,e⟩:=I.lstM hH;obtain⟨u,hu,ru⟩:=r.get hy
 have hy':CK.toArray[CK.toArray.size-1]?=AA u:=by
  show CK.toArray[CK.length-1]?=AA u;rw[<-C3,<-hl];exact hu
 refine LF F.slot_list_pop {_,e,rfl} F.entry_list_pop (F.args_list_pop_1 _) (MeetsSeq.list_pop_last l CK.toArray n u hy' (by rw[A3];lia)) {e,?_};refine{y,_,I.lset (NY:=CK.dropLast) hH e ?_ r.dropLast ?_,ru,q}
 .show CK.toArray.eraseIdxIfInBounds (CK.toArray.size-1)=CK.dropLast.toArray
  rw[A3,RO,zP9]
 .rw[List.length_dropLast]
  exact AY (C7 _ _) z
def Pc:V->List V->Hp->VK->Prop:=λx vs H Q=>∃l xs i k y,x=.ref l/\vs=[.int i]/\H l=AA (.lst xs)/\-(2 ^ 63)<=i/\i<2 ^ 63/\seqIndex? i xs.length=AA k/\xs[k]?=AA y/\Q y (D3 H l (.lst (xs.eraseIdx k)))
theorem zUZ:uU X "list.pop" Pc:=by
 intro AG s σ H x vs v us Q I rx rv h;obtain⟨l,xs,i,k,y,rfl,rfl,hH,h1,h2,hk,hy,q⟩:=h;cases rx;obtain⟨u,rfl,ru⟩:=rv.one;obtain⟨t,rfl⟩:=ru;obtain⟨z,CK,n,r,hl,e⟩:=I.lstM hH;obtain⟨w,hw,LQ⟩:=r.get hy
 refine LF F.slot_list_pop {_,e,rfl} F.entry_list_pop (F.args_list_pop_2 _ _)
  (MeetsSeq.list_pop_at l CK.toArray n i t k w (fitsIndex_both h1 h2) (by rw[A3,<-hl];exact hk) (by rw[<-C3];exact hw) (by rw[A3];lia)) {e,?_}
 refine{y,_,I.lset (NY:=CK.eraseIdx k) hH e ?_ (r.eraseIdx k) ?_,LQ,q}
 .show CK.toArray.eraseIdxIfInBounds k=(CK.eraseIdx k).toArray
  rw[RO]
 .have:=To xs k
  exact AY this z
def Hw:R2:=λx y H Q=>∃l b xs zs,x=.ref l/\y=.ref b/\H l=AA (.lst xs)/\H b=AA (.lst zs)/\xs.length+zs.length<=sizeLine/\∀p,H p=AL->Q (.ref p) (D3 H p (.lst (xs++zs)))
theorem Pb:OpR X (HE .Add) Hw:=by
 intro AG s σ H x y v u Q I rx ry h;obtain⟨l,b,xs,zs,rfl,rfl,hH,hB,hz,q⟩:=h;cases rx;cases ry;obtain⟨z,CK,n,r,hl,e⟩:=I.lstM hH;obtain⟨z2,LR,n2,r2,bY,e2⟩:=I.lstM hB;refine PySem.P.add_list e e2 ?_ (by rw[A3,A3];lia);have ea:CK.toArray++LR.toArray=(CK++LR).toArray:=by simp
 rw[ea];exact{.ref _,_,I.lnew (t':=s.toks) (r.append r2) (by rw[BO];lia),rfl,q _ I.fresh}
def yIL:R2:=λx y H Q=>∃l k xs,x=.ref l/\y=.int k/\H l=AA (.lst xs)/\-(2 ^ 63)<=k/\k<2 ^ 63/\xs.length * k.toNat<=sizeLine /\
 ∀p,H p=AL->Q (.ref p) (D3 H p (.lst (BH k.toNat xs).flatten))
theorem zYU(xs:List α)(k:Nat):(BH k xs).flatten.length=k * xs.length:=by
 induction k with
 |zero=>simp
 |succ k ih=>rw[ES,GZ,BO,ih,Nat.succ_mul,Nat.add_comm]
theorem yCU:OpR X (HE .Mult) yIL:=by
 intro AG s σ H x y v u Q I rx ry h;obtain⟨l,k,xs,rfl,rfl,hH,h1,h2,hz,q⟩:=h;cases rx;obtain⟨t,rfl⟩:=ry;obtain⟨z,CK,n,r,hl,e⟩:=I.lstM hH;have E6:CK.toArray.size * k.toNat<=sizeLine:=by rw[A3,<-hl];exact hz
 have pJ:¬CK.toArray.size * k.toNat>(2 ^ 63-1) / 8:=by
  have:(sizeLine:Nat)<=(2 ^ 63-1) / 8:=by decide
  exact kD (AY E6 this)
 have Mm:¬(!Builtin.List.listFitsIndex k)=AK:=by
  rw[fitsIndex_both h1 h2];exact B9
 have eK:¬IG (CK.toArray.size * k.toNat)=AK:=by
  rw[Se E6];exact B9
 have pE:cJ (λx1 x2=>x1++x2) #[] (BH (if CK.toArray.isEmpty=AK then 0 else k.toNat) CK.toArray)=(BH k.toNat CK).flatten.toArray:=by
  have f0:∀m:Nat,cJ (λx1 x2=>x1++x2) #[] (BH m CK.toArray)=(BH m CK).flatten.toArray:=λm=>by
   have:=Tn CK m [];rw[FY] at this;exact this
  rw[f0]
  cases CK with
  |nil=>simp
  |cons a r'=>rw[if_neg 's']
 refine wpAny_binaryOp_repeat_ref (T:="list") (U:="int") 'd' {_,e,rfl} (λs'=>typeIs_int s' k t) noFill_list_mul F.fills_int_mul F.slot_int_rmul repeat_list F.slot_int_index.lookup
  (LF F.slot_int_rmul (typeIs_int s k t) F.entry_int_rmul (F.args_int_rmul_2 _ _) (int___rmul___int_list k t l CK.toArray n)
   {e,rfl,{_,e,rfl},LF F.slot_list_mul {_,e,rfl} F.entry_list_mul (F.args_list_mul_2 _ _) (AutoListH.list___mul___list_int_3 l CK.toArray n k t Mm pJ eK) {e,?_}})
 rw[pE];exact{.ref _,_,I.lnew (t':=s.toks) (r.rep k.toNat) (by rw[zYU,Nat.mul_comm];exact hz),rfl,q _ I.fresh}
section
variable[DecidableEq κ]
noncomputable def RS(kvs:List (κ×V))(k:κ):Option V:=(kvs.find? λkv=>decide (kv.1=k)).map (·.2)
noncomputable def QD(kvs:List (κ×V))(k:κ)(v:V):List (κ×V) :=
 if(kvs.any λkv=>decide (kv.1=k))=AK then kvs.map (λkv=>if kv.1=k then(kv.1,v) else kv) else kvs++[(k,v)]
theorem Fq{p:κ×V}{r:List (κ×V)}{k:κ}(e:p.1=k):RS (p::r) k=AA p.2:=by simp[RS,EK,e]
theorem Fp{p:κ×V}{r:List (κ×V)}{k:κ}(e:¬p.1=k):RS (p::r) k=RS r k:=by simp[RS,EK,e]
theorem Sd(k:κ):∀kvs:List (κ×V),(kvs.any λkv=>decide (kv.1=k))=(RS kvs k).isSome
 |[]=>rfl
 |p::r=>by
  rw[EV]
  by_cases e:p.1=k
  .simp only[Fq e,decide_eq_true e,Bool.true_or,Option.isSome_some]
  .rw[Fp e,decide_eq_false e,Bool.false_or];exact Sd k r
theorem rG(kvs:List (κ×V))(k:κ)(v:V):(QD kvs k v).length<=kvs.length+1:=by
 unfold QD;split
 .rw[AI];lia
 .rw[BO,BD,K6];lia
theorem RelO.isSome_eq{o:Option V}{u:Option AJ}(r:RelO o u):o.isSome=u.isSome:=by
 cases o with
 |none=>cases u with
  |none=>rfl
  |some _=>exact(show False from r).elim
 |some _=>cases u with
  |none=>exact(show False from r).elim
  |some _=>rfl
theorem RelO.getD{o:Option V}{u:Option AJ}{d:V}{d':AJ}(r:RelO o u)(rd:RelV d d'):RelV (o.getD d) (u.getD d'):=by
 cases o with
 |none=>cases u with
  |none=>exact rd
  |some _=>exact(show False from r).elim
 |some _=>cases u with
  |none=>exact(show False from r).elim
  |some _=>exact r
theorem KV.val{kvs:List (κ×V)}{vs:List (κ×AJ)}(r:KV kvs vs)(k:κ):RelO (RS kvs k) (UG vs k):=by
 unfold KV at r
 induction r with
 |nil=>exact GJ
 |@cons p q ps qs h t ih =>
  obtain⟨h1,h2⟩:=h
  by_cases e:p.1=k
  .have e':q.1=k:=h1.symm.trans e
   have b:UG (q::qs) k=AA q.2:=by simp[UG,EK,e']
   rw[Fq e,b];exact h2
  .have e':¬q.1=k:=λz=>e (h1.trans z)
   have b:UG (q::qs) k=UG qs k:=by simp[UG,EK,e']
   rw[Fp e,b];exact ih
theorem KV.any{kvs:List (κ×V)}{vs:List (κ×AJ)}(r:KV kvs vs)(k:κ):(kvs.any λkv=>decide (kv.1=k))=vs.any λkv=>decide (kv.1=k):=by
 unfold KV at r
 induction r with
 |nil=>rfl
 |cons h t ih=>rw[EV,EV,ih,h.1]
theorem KV.repl{kvs:List (κ×V)}{vs:List (κ×AJ)}(r:KV kvs vs)(k:κ)(ry:RelV y u) :
  KV (kvs.map λkv=>if kv.1=k then(kv.1,y) else kv) (vs.map λkv=>if kv.1=k then(kv.1,u) else kv):=by
 unfold KV at r ⊢
 induction r with
 |nil=>exact .nil
 |@cons p q ps qs h t ih =>
  rw[AU,AU];refine .cons ?_ ih;obtain⟨h1,h2⟩:=h
  by_cases e:p.1=k
  .rw[if_pos e,if_pos (h1.symm.trans e)];exact{h1,ry}
  .rw[if_neg e,if_neg (λz=>e (h1.trans z))];exact{h1,h2}
theorem KV.put{kvs:List (κ×V)}{vs:List (κ×AJ)}(r:KV kvs vs)(k:κ)(ry:RelV y u):KV (QD kvs k y) (stored vs k u):=by
 unfold QD stored;rw[r.any k]
 by_cases e:(vs.any λkv=>decide (kv.1=k))=AK
 .rw[if_pos e,if_pos e];exact r.repl k ry
 .rw[if_neg e,if_neg e];exact Paired.snoc r {rfl,ry}
theorem KV.keys{kvs:List (κ×V)}{vs:List (κ×AJ)}(r:KV kvs vs):kvs.map (·.1)=vs.map (·.1):=by
 unfold KV at r
 induction r with
 |nil=>rfl
 |cons h t ih=>rw[AU,AU,ih,h.1]
theorem KV.length{kvs:List (κ×V)}{vs:List (κ×AJ)}(r:KV kvs vs):kvs.length=vs.length:=Paired.length r
end
theorem k4{k:Key}(r:RelV (kV k) u):(T5 P w).is k u=AK:=by
 cases k with
 |inl i=>obtain⟨t,e⟩:=(show ∃t,u=M6 i t from r);subst e;exact zNF P w i t
 |inr x=>obtain⟨t,e⟩:=(show ∃t,u=WW x t from r);subst e;exact zNG P w x t
theorem Tl{P:CU}{w:D8}:∀{ks:List Key} {us:List AJ},Vals (ks.map kV) us->ItemsAre (T5 P w) ks us
 |[],_,r=>by rw[NU] at r;cases r;exact .nil
 |k::ks,_,r=>by
  rw[AU] at r
  cases r with
  |cons h t=>exact .cons (k4 h) (Tl t)
abbrev KT(H:Hp):List (List Key×V)->List (List Key×AT×AJ)->Prop:=Paired λp q=>p.1=q.1/\H q.2.1=AA (.tup (p.1.map kV))/\RelV p.2 q.2.2
theorem KT.val{xs:List (List Key×AT×AJ)}(r:KT H kvs xs)(k:List Key):RelO (RS kvs k) ((Y5 xs k).map (·.2)):=by
 induction r with
 |nil=>exact GJ
 |@cons p q ps qs h t ih =>
  obtain⟨h1,_,h2⟩:=h
  by_cases e:p.1=k
  .have e':q.1=k:=h1.symm.trans e
   have b:Y5 (q::qs) k=AA q.2:=by simp[Y5,EK,e']
   rw[Fq e,b];exact h2
  .have e':¬q.1=k:=λz=>e (h1.trans z)
   have b:Y5 (q::qs) k=Y5 qs k:=by simp[Y5,EK,e']
   rw[Fp e,b];exact ih
theorem KT.repl{xs:List (List Key×AT×AJ)}(r:KT H kvs xs)(k:List Key)(ry:RelV y u) :
  KT H (kvs.map λkv=>if kv.1=k then(kv.1,y) else kv) (xs.map (putAt k u)):=by
 induction r with
 |nil=>exact .nil
 |@cons p q ps qs h t ih =>
  rw[AU,AU];refine .cons ?_ ih;obtain⟨h1,h2,h3⟩:=h;unfold putAt
  by_cases e:p.1=k
  .rw[if_pos e,if_pos (h1.symm.trans e)];exact{h1,h2,ry}
  .rw[if_neg e,if_neg (λz=>e (h1.trans z))];exact{h1,h2,h3}
theorem KT.put{xs:List (List Key×AT×AJ)}(r:KT H kvs xs)(k:List Key){b:AT}(hb:H b=AA (.tup (k.map kV)))(ry:RelV y u) :
  KT H (QD kvs k y) (storedH xs k b u):=by
 have e:(kvs.any λkv=>decide (kv.1=k))=(Y5 xs k).isSome:=by
  rw[Sd,(r.val k).isSome_eq,P8]
 unfold QD storedH;rw[e]
 by_cases q:(Y5 xs k).isSome=AK
 .rw[if_pos q,if_pos q];exact r.repl k ry
 .rw[if_neg q,if_neg q];exact Paired.snoc r {rfl,hb,ry}
theorem KT.keeps{xs:List (List Key×AT×AJ)}(r:KT H kvs xs)(ht:∀b ys,H b=AA (.tup ys)->H' b=AA (.tup ys)):KT H' kvs xs :=
 pA0 r λ_ _ z=>{z.1,ht _ _ z.2.1,z.2.2}
theorem Xs{u:HO}(ok:HOk P w H h)(e:Rd H a u):ObjOk P w H h a u:=e.ok ok
theorem iV{kvs:List (Key×V)}(ok:HOk P w H h)(e:Rd H a (.dK kvs)):kvs.length<=sizeLine/\(a==GV)=AC/\∃vs,KV kvs vs/\h.DictOf (T5 P w) a vs :=
 show ObjOk P w H h a (.dK kvs) from Xs ok e
theorem Cv{kvs:List (Key×V)}(ok:HOk P w H h)(e:H a=AA (.dK kvs)):kvs.length<=sizeLine/\(a==GV)=AC/\∃vs,KV kvs vs/\h.DictOf (T5 P w) a vs:=iV ok (.inl e)
theorem nN{ks:List Key}(ok:HOk P w H h)(e:H a=AA (.tup (ks.map kV))):(OJ (T5 P w)).is h ks a:=by
 obtain⟨_,CK,r,o,h1,h2,_,n,h3⟩:=(show ObjOk P w H h a (.tup (ks.map kV)) from ok a _ e);exact{o,CK.toArray,n,h1,h2,h3,by simpa using Tl r}
theorem nD(ok:HOk P w H h)(e:Rd H a (.dT kvs)):kvs.length<=sizeLine/\(a==GV)=AC /\
  ∃xs,KT H kvs xs/\h.DictOfH (OJ (T5 P w)) a xs:=by
 obtain⟨z,y,xs,r,o,es,ep,h1,h2,h3,h4,h5⟩:=(show ObjOk P w H h a (.dT kvs) from Xs ok e);refine{z,y,xs,r,o,es,ep,h1,h2,h3,h4,λx hx=>?_,h5}
 have all:∀{l:List (List Key×V)} {m:List (List Key×AT×AJ)},KT H l m->∀x∈m,(OJ (T5 P w)).is h x.1 x.2.1:=by
  intro l m q
  induction q with
  |nil=>intro x hx;exact nomatch hx
  |@cons p q ps qs hq t ih =>
   intro x hx;rcases A7.mp hx with e|hx
   .subst e
    exact nN ok (by rw[<-hq.1];exact hq.2.1)
   .exact ih x hx
 exact all r x hx
theorem Xr(ok:HOk P w H h)(e:H a=AA (.dT kvs)):kvs.length<=sizeLine/\(a==GV)=AC /\
  ∃xs,KT H kvs xs/\h.DictOfH (OJ (T5 P w)) a xs:=nD ok (.inl e)
def iP(H:Hp)(a:AT)(y:V)(r:Option V):Prop :=
 (∃kvs k,Rd H a (.dK kvs)/\y=kV k/\r=RS kvs k)\/∃kvs k b,Rd H a (.dT kvs)/\y=.ref b/\H b=AA (.tup (k.map kV))/\r=RS kvs k
def DPut(H:Hp)(a:AT)(y v:V)(H':Hp):Prop :=
 (∃kvs k,H a=AA (.dK kvs)/\y=kV k/\kvs.length<sizeLine/\H'=D3 H a (.dK (QD kvs k v))) \/
 ∃kvs k b,H a=AA (.dT kvs)/\y=.ref b/\H b=AA (.tup (k.map kV))/\kvs.length<sizeLine/\H'=D3 H a (.dT (QD kvs k v))
theorem DPut.kk{kvs:List (Key×V)}{k:Key}(e:H a=AA (.dK kvs))(hl:kvs.length<sizeLine):DPut H a (kV k) v (D3 H a (.dK (QD kvs k v))):=.inl {kvs,k,e,rfl,hl,rfl}
theorem DPut.t{b:AT}{k:List Key}(e:H a=AA (.dT kvs))(eb:H b=AA (.tup (k.map kV)))(hl:kvs.length<sizeLine) :
  DPut H a (.ref b) v (D3 H a (.dT (QD kvs k v))):=.inr {kvs,k,b,e,rfl,eb,hl,rfl}
section
variable{r:AJ}{o:Option V}
theorem Inv.big(I:Inv X AG σ H s):GV<s.heap.objs.size:=by
 have h:BK<s.heap.objs.size:=(I.mod.glob.keeps I.bk).lt;exact C4 'd' h
theorem zRS(hu:A.units+1<GB)(I:Inv X AG σ H s)(g:iP H a y (AA v))(ry:RelV y u)(h:∀w' s',Inv X AG σ H s'->RelV v w'->Q w' s') :
  A1 (A4 X.prog X.w) A (Q4 (.ref a) u) Q E s:=by
 rcases g with⟨kvs,k,e,ey,l⟩|⟨kvs,k,b,e,ey,eb,l⟩
 .subst ey
  obtain⟨z,hd,vs,MY,dd⟩:=iV I.hok e;obtain⟨w',hw,LQ⟩:=RelO.some_of (v:=v) (o:=UG vs k) (by rw[l];exact MY.val k);exact wpAny_getItem_of (k4 ry) dd.mapOf hw (h w' _ (I.tok _) LQ)
 .subst ey
  cases(show u=DP b from ry);obtain⟨z,hd,xs,MY,dd⟩:=nD I.hok e;obtain⟨w',hw,LQ⟩:=RelO.some_of (v:=v) (o:=(Y5 xs k).map (·.2)) (by rw[l];exact MY.val k);obtain⟨p,hp,YO⟩:=BY.mp hw;refine wpAny_getItem_heap (J7 hu) (nN I.hok eb) dd hp ?_;rw[YO];exact h w' _ (I.tok _) LQ
theorem yIM(hu:A.units+1<GB)(I:Inv X AG σ H s)(g:iP H a y o)(ry:RelV y u)(h:∀s',Inv X AG σ H s'->Q (.bool o.isSome) s') :
  A1 (A4 X.prog X.w) A (EZ .In u (.ref a)) Q E s:=by
 rcases g with⟨kvs,k,e,ey,l⟩|⟨kvs,k,b,e,ey,eb,l⟩
 .subst ey
  obtain⟨z,hd,vs,MY,dd⟩:=iV I.hok e;refine wpAny_in_of (k4 ry) hd dd.mapOf ?_;rw[<-(MY.val k).isSome_eq,<-l];exact h _ (I.tok _)
 .subst ey
  cases(show u=DP b from ry);obtain⟨z,hd,xs,MY,dd⟩:=nD I.hok e;refine wpAny_in_heap (J7 hu) (nN I.hok eb) hd dd ?_;have q:=(MY.val k).isSome_eq;rw[P8] at q;rw[<-q,<-l];exact h _ (I.tok _)
theorem zYW(hu:A.units+1<GB)(I:Inv X AG σ H s)(g:iP H a y o)(ry:RelV y u)(h:∀s',Inv X AG σ H s'->Q (.bool (!o.isSome)) s') :
  A1 (A4 X.prog X.w) A (EZ .NotIn u (.ref a)) Q E s:=by
 rcases g with⟨kvs,k,e,ey,l⟩|⟨kvs,k,b,e,ey,eb,l⟩
 .subst ey
  obtain⟨z,hd,vs,MY,dd⟩:=iV I.hok e;refine wpAny_notIn_of (k4 ry) hd dd.mapOf ?_;rw[<-(MY.val k).isSome_eq,<-l];exact h _ (I.tok _)
 .subst ey
  cases(show u=DP b from ry);obtain⟨z,hd,xs,MY,dd⟩:=nD I.hok e;refine wpAny_notIn_heap (J7 hu) (nN I.hok eb) hd dd ?_;have q:=(MY.val k).isSome_eq;rw[P8] at q;rw[<-q,<-l];exact h _ (I.tok _)
theorem t5{ob:HO}(I:Inv X AG σ H s)(mu:uT (H a))(hs:DS a s.heap h')(he:∃q,h'.get? a=AA q)(new:ObjOk X.prog X.w (D3 H a ob) h' a ob) :
  Inv X AG σ (D3 H a ob) { s with heap:=h',toks:=t' } :=
 I.write (x:=a) (e:=a) mu (.inl rfl) (λb q hb z=>(hs.2 b hb).trans z) he new
theorem Dn{kvs:List (Key×V)}{vs:List (Key×AJ)}(z:kvs.length<=sizeLine)(hd:(a==GV)=AC)(MY:KV kvs vs)(dd:h'.DictOf (T5 P w) a vs) :
  ObjOk P w H' h' a (.dK kvs):={z,hd,vs,MY,dd}
theorem zRU{Q:Unit->AS->Prop}(hu:A.units+1<GB)(I:Inv X AG σ H s)(g:DPut H a y v H')(ry:RelV y u)(rv:RelV v r)(h:∀s',Inv X AG σ H' s'->Q () s') :
  A1 (A4 X.prog X.w) A (setItem (.ref a) u r) Q E s:=by
 rcases g with⟨kvs,k,e,ey,l,eH⟩|⟨kvs,k,b,e,ey,eb,l,eH⟩
 .subst ey eH
  obtain⟨z,hd,vs,MY,dd⟩:=Cv I.hok e;have hz:vs.length<=sizeLine:=by rw[<-MY.length];exact z
  have hl:(QD kvs k v).length<=sizeLine:=by have:=rG kvs k v;lia
  refine wpAny_setItem_pairs (hsz:=hz) (k4 ry) dd λh' b9 hs=>h _ ?_;have he:∃q,h'.get? a=AA q:=let ⟨q,_,_,hq,_⟩:=b9;{q,hq};exact t5 I (by rw[e];exact GJ) hs he (Dn hl hd (MY.put k rv) b9)
 .subst ey eH
  cases(show u=DP b from ry);obtain⟨z,hd,xs,MY,dd⟩:=Xr I.hok e;have hz:xs.length<=sizeLine:=by rw[<-Paired.length MY];exact z
  have hl:(QD kvs k v).length<=sizeLine:=by have:=rG kvs k v;lia
  refine wpAny_setItem_heap (hsz:=hz) (J7 hu) (nN I.hok eb) dd λh' b9 hs=>h _ ?_;obtain⟨q,es,ep,hq,h2,h3,h4,_,h5⟩:=b9;refine t5 I (by rw[e];exact GJ) hs {q,hq} {hl,hd,_,(MY.put k eb rv).keeps λc ys ec=>?_,q,es,ep,hq,h2,h3,h4,h5};rw[FH (Xw ec e (λz=>nomatch z))];exact ec
end
section
variable{kvs:List (Key×V)}{k:Key}
theorem yF7(I:Inv X AG σ H s)(e:Rd H a (.dK kvs))(h:∀t s',Inv X AG σ H s'->Q (.int kvs.length t) s'):A1 (A4 X.prog X.w) A (call (.builtin "len") [.ref a]) Q E s:=by
 obtain⟨z,hd,vs,MY,dd⟩:=iV I.hok e;refine call_len_dict hd dd (by rw[<-MY.length];rw[FZ] at z;lia) ?_;rw[<-MY.length];exact h _ _ (I.tok _)
end
theorem zNL{o:Option V}(I:Inv X AG σ H s)(g:iP H a y o):s.TypeIs (.ref a) "dict":=by
 rcases g with⟨kvs,k,e,_,_⟩|⟨kvs,k,b,e,_,_,_⟩
 .obtain⟨_,_,vs,_,dd⟩:=iV I.hok e
  exact dd.typeIs
 .obtain⟨_,_,xs,_,dd⟩:=nD I.hok e
  exact dd.typeIs
def yF8(td ty tv:TE):TS:=λD σ H=>tv σ H λv H1=>td σ H1 λx H2=>ty σ H2 λy H3=>∃a H4,x=.ref a/\DPut H3 a y v H4/\D.nx σ H4
section
variable{o i:DA}{td ty:TE}
theorem Qv(hu:X.A.units+1<GB)(ho:PE X o td)(hi:PE X i ty)(hv:PE X J0 tv)(hs:HS J0 (AA (.Subscript o i NI)) pos.line X.env=pure AC) :
  PS X (.Assign [.Subscript o i NI] J0 pos) (yF8 td ty tv):=by
 intro AG s σ H D I h;refine wpAny_Assign_Subscript (G4 (hv AG s σ H _ I h) λr s1 ⟨v,H1,I1,rv,q1⟩=>G4 (ho AG s1 σ H1 _ I1 q1) λu s2 ⟨x,H2,I2,rx,q2⟩=>G4 (hi AG s2 σ H2 _ I2 q2) λiv s3 ⟨y,H3,I3,ry,a,H4,ex,g,q3⟩=>?_) hs;subst ex;obtain rfl:u=DP a:=rx;exact zRU hu I3 g ry rv λs4 I4=>{σ,H4,I4,q3}
end
theorem Fo(h:D7)(hb:GV<h.objs.size):ObjOk P w H (h.push { cls:=.type "dict",data:=.dict #[] }) h.objs.size (.dK []) :=
 {BP _,beq_eq_false_iff_ne.mpr (FO (BM hb)),[],.nil,Heap.DictOf.new h}
theorem Sc(h:D7)(hb:GV<h.objs.size):ObjOk P w H (h.push { cls:=.type "dict",data:=.dict #[] }) h.objs.size (.dT []) :=
 {BP _,beq_eq_false_iff_ne.mpr (FO (BM hb)),[],.nil,_,#[],0,AV _ rfl,{rfl,rfl,rfl},rfl,rfl,GK}
def yCX:TE:=λ_ H Q=>∀p,H p=AL->Q (.ref p) (D3 H p (.dK []))
def yCY:TE:=λ_ H Q=>∀p,H p=AL->Q (.ref p) (D3 H p (.dT []))
theorem dE:PE X (.Dict [] [] pos) yCX:=λAG s σ H Q I h =>
 wpAny_Dict_empty {.ref s.heap.objs.size,_,I.laid (a:=s.heap.objs.size) (o:=.dK []) (t':=s.toks) (λ_ _ q=>AF _ q) (AM _) (Fo s.heap I.big),rfl,h _ (I.hok.fresh (AM _))}
theorem dD:PE X (.Dict [] [] pos) yCY:=λAG s σ H Q I h =>
 wpAny_Dict_empty {.ref s.heap.objs.size,_,I.laid (a:=s.heap.objs.size) (o:=.dT []) (t':=s.toks) (λ_ _ q=>AF _ q) (AM _) (Sc s.heap I.big),rfl,h _ (I.hok.fresh (AM _))}
def Dm:List (TE×TE)->St->Hp->(List (V×V)->Hp->Prop)->Prop
 |[],_,H,Q=>Q [] H
 |(tk,tv)::r,σ,H,Q=>tk σ H λx H1=>tv σ H1 λy H2=>Dm r σ H2 λps H3=>Q ((x,y)::ps) H3
abbrev VV:List (V×V)->List (AJ×AJ)->Prop:=Paired λp q=>RelV p.1 q.1/\RelV p.2 q.2
def Bl(X:Cx)(pos:iB)(XD:List (Option DA))(SL:List DA)(lO:List (TE×TE)):Prop :=
 ∀(AG:List (AT×IF)) (s:AS) (σ:St) (H:Hp) (Q:List (V×V)->Hp->Prop),Inv X AG σ H s->Dm lO σ H Q ->
  A1 (A4 X.prog X.w) X.A (evalPairs (pairTrees XD SL X.env pos)) (λvs s'=>∃ps H',Inv X AG σ H' s'/\VV ps vs/\Q ps H') X.xe s
theorem zYX:Bl X pos [] [] []:=λAG s σ H Q I h=>pairTrees_nil_walk {[],H,I,.nil,h}
theorem zU1{k v:DA}{ks:List (Option DA)}{vs:List DA}{tk:TE}(hk:PE X k tk)(hv:PE X v tv)(hr:Bl X pos ks vs lO) :
  Bl X pos (AA k::ks) (v::vs) ((tk,tv)::lO):=λAG s σ H Q I h =>
 pairTrees_cons_walk (G4 (hk AG s σ H _ I h) λu s1 ⟨x,H1,I1,rx,q1⟩=>G4 (hv AG s1 σ H1 _ I1 q1) λw2 s2 ⟨y,H2,I2,ry,q2⟩ =>
  G4 (hr AG s2 σ H2 _ I2 q2) (λws s3 q0=>by obtain⟨ps,H3,I3,MY,q3⟩:=q0;exact{(x,y)::ps,H3,I3,.cons {rx,ry} MY,q3}))
def tL(kvs RG:List (Key×V)):List (Key×V):=RG.foldl (λBR kv=>QD BR kv.1 kv.2) kvs
theorem KV.merge:∀{RG:List (Key×V)} {rs:List (Key×AJ)} {kvs:List (Key×V)} {vs:List (Key×AJ)},KV RG rs->KV kvs vs->KV (tL kvs RG) (merged vs rs):=by
 intro RG rs kvs vs r;unfold KV at r
 induction r generalizing kvs vs with
 |nil=>intro q;exact q
 |@cons p q ps qs h t ih =>
  intro r0
  have e:KV (QD kvs p.1 p.2) (stored vs q.1 q.2):=by
   have:=r0.put p.1 h.2;rw[<-h.1];exact this
  exact ih e
theorem Vk:∀(RG kvs:List (Key×V)),(tL kvs RG).length<=kvs.length+RG.length
 |[],kvs=>by show kvs.length<=kvs.length+0;lia
 |p::r,kvs=>by
  have h1:=Vk r (QD kvs p.1 p.2);have h2:=rG kvs p.1 p.2;show(tL (QD kvs p.1 p.2) r).length<=_;rw[BD];lia
theorem Uv{P:CU}{w:D8}:∀{kvs:List (Key×V)} {ws:List (AJ×AJ)},VV (kvs.map λkv=>(kV kv.1,kv.2)) ws->∃rs,Carries (T5 P w) ws rs/\KV kvs rs
 |[],_,r=>by rw[NU] at r;cases r;exact{[],GJ,.nil}
 |p::kvs,_,r=>by
  rw[AU] at r
  cases r with
  |@cons a b as bs h t =>
   obtain⟨rs,c,q⟩:=Uv (P:=P) (w:=w) t;obtain⟨b1,b2⟩:=b;exact{(p.1,b2)::rs,{k4 h.1,rfl,c},.cons {rfl,h.2} q}
def yF9(lO:List (TE×TE)):TE:=λσ H Q=>∀p,H p=AL->Dm lO σ (D3 H p (.dK [])) λps H2=>H2 p=AA (.dK [])/\∃kvs:List (Key×V),ps=kvs.map (λkv=>(kV kv.1,kv.2))/\kvs.length<=15/\Q (.ref p) (D3 H2 p (.dK (tL [] kvs)))
theorem zYY{XD:List (Option DA)}{SL:List DA}(h:Bl X pos XD SL lO)(SU:XD.all (·.isSome)=AK)(hl:XD.length=SL.length)(h0:XD≠[])
  (h15:XD.length<=15):PE X (.Dict XD SL pos) (yF9 lO):=by
 intro AG s σ H Q I q;have hn:=I.hok.fresh (AM s.heap.objs.size);have I1:=I.laid (a:=s.heap.objs.size) (o:=.dK []) (h':=s.heap.push { cls:=.type "dict",data:=.dict #[] }) (t':=s.toks) (λ_ _ q=>AF _ q) (AM _) (Fo s.heap I.big);refine wpAny_Dict_walk (knd:=T5 X.prog X.w) SU hl h0 h15 (G4 (h AG _ σ _ _ I1 (q _ hn)) λws s2 ⟨ps,H2,I2,MY,e,kvs,ep,lk,q2⟩=>?_);subst ep;obtain⟨rs,c,rk⟩:=Uv (P:=X.prog) (w:=X.w) MY;obtain⟨z,hd,Yv,r0,dd⟩:=Cv I2.hok e;cases r0;refine{rs,c,dd,λh' b9 hs=>{.ref s.heap.objs.size,_,?_,rfl,q2}}
 have hz:(tL [] kvs).length<=sizeLine:=by
  have h1:=Vk kvs [];rw[K6] at h1;rw[FZ];lia
 have he:∃q,h'.get? s.heap.objs.size=AA q:=let ⟨q,_,_,hq,_⟩:=b9;{q,hq};exact t5 I2 (by rw[e];exact GJ) hs he (Dn hz hd (rk.merge .nil) b9)
structure M2(X:Cx)(o:DA)(m:C2)(MB:iB)(e f:DA)(GA:iB):Prop where
 base:JY o m X.env (eval o X.env)=eval o X.env
 few:((DT GA (AO [e,f] X.env)).all (λx=>!x.1)&&(Y4 GA (QQ [] X.env)).all (λx=>x.1.isSome)
  && decide (([e,f]:List DA).length+([]:List MS).length+(if([]:List MS).isEmpty then 0 else 1)<30))=AK
 line:(MB.endLine==GA.line)=AK
 trees:DT GA (AO [e,f] X.env)=[(AC,eval e X.env),(AC,eval f X.env)]
def Jb(H:Hp)(a:AT):Prop:=(∃kvs,Rd H a (.dK kvs))\/∃kvs,Rd H a (.dT kvs)
theorem yCZ(I:Inv X AG σ H s)(d:Jb H a) :
  s.TypeIs (.ref a) "dict"/\(∀b,DP a=.ref b->∃ob,s.heap.get? b=AA ob/\ob.dict=AL)/\(a==GV)=AC:=by
 rcases d with⟨kvs,e⟩|⟨kvs,e⟩
 .obtain⟨_,hd,vs,_,dd⟩:=iV I.hok e
  refine{dd.typeIs,λb q=>?_,hd};cases q;obtain⟨ob,_,_,h1,h2,_⟩:=dd;exact{ob,h1,h2.2.1}
 .obtain⟨_,hd,xs,_,dd⟩:=nD I.hok e
  refine{dd.typeIs,λb q=>?_,hd};cases q;obtain⟨ob,_,_,h1,h2,_⟩:=dd;exact{ob,h1,h2.2.1}
section
variable{d:V}{r:AJ}{o:Option V}
theorem yC0(hu:A.units+1<GB)(I:Inv X AG σ H s)(g:iP H a y o)(ry:RelV y u)(rd:RelV d r)(h:∀w' s',Inv X AG σ H s'->RelV (o.getD d) w'->Q w' s') :
  A1 (A4 X.prog X.w) A (call (.builtin "dict.get") [.ref a,u,r]) Q E s:=by
 rcases g with⟨kvs,k,e,ey,l⟩|⟨kvs,k,b,e,ey,eb,l⟩
 .subst ey
  obtain⟨z,hd,vs,MY,dd⟩:=iV I.hok e;refine call_meetsIn NJ dd.typeIs WB (U3 _ _ _) (meets_dict_get_default (T5 X.prog X.w) a (k4 ry) hd r) {_,dd.mapOf,h _ _ (I.tok _) ?_};rw[l];exact(MY.val k).getD rd
 .subst ey
  cases(show u=DP b from ry);obtain⟨z,hd,xs,MY,dd⟩:=nD I.hok e;refine call_meetsIn NJ dd.typeIs WB (U3 _ _ _) (meetsH_dict_get_default (OJ (T5 X.prog X.w)) a b hd r) {J7 hu,k,xs,nN I.hok eb,dd,h _ _ (I.tok _) ?_};rw[l];exact(MY.val k).getD rd
end
def yC1(td ty tx:TE):TE:=λσ H Q=>td σ H λx H1=>∃a,x=.ref a/\Jb H1 a/\ty σ H1 λy H2=>tx σ H2 λz H3=>∃o,iP H3 a y o/\Q (o.getD z) H3
section
variable{o f:DA}{td ty tx:TE}
theorem zU2(hu:X.A.units+1<GB)(ho:PE X o td)(he:PE X e ty)(hf:PE X f tx)(m:M2 X o "get" MB e f GA):PE X (.Call (.Attribute o "get" MB) [e,f] [] GA) (yC1 td ty tx):=by
 intro AG s σ H Q I h;refine wpAny_Call_method m.base m.few m.line PySem.F.plainAttrs_dict NJ PySem.F.type_dict_get (G4 (ho AG s σ H _ I h) λu s1 ⟨x,H1,I1,rx,a,ex,d,q1⟩=>?_);subst ex;obtain rfl:u=DP a:=rx;obtain⟨t1,t2,_⟩:=yCZ I1 d;refine{t1,t2,?_};rw[m.trees]
 refine NN rfl (ON (P0 (G4 (he AG s1 σ H1 _ I1 q1) λiv s2 ⟨y,H2,I2,ry,q2⟩ =>
  P0 (G4 (hf AG s2 σ H2 _ I2 q2) λfv s3 ⟨z,H3,I3,rz,ov,g,q3⟩=>cL ?_))))
 exact yC0 hu I3 g ry rz λw' s4 I4 LQ=>{_,H3,I4,LQ,q3}
end
section
variable{kvs:List (Key×V)}
end
end L2
variable{ZT:List C2}{XP:(C2->Option AJ)->D7->Prop}{YP:D8->D7->Prop}{q:CU}
namespace Att
open PySem PySem.W PySem.Calls PyProof.Rows
theorem zHH{P:Params}:∀(ns:List Int) (vs:List AJ),WellAll P h vs (ns.map WData.int)->GC vs ns:=by
 intro ns
 induction ns with
 |nil =>
  intro vs w;rw[NU] at w;cases w;exact .nil
 |cons n ns ih =>
  intro vs w;rw[AU] at w
  cases w with
  |cons a b =>
   cases a;exact .cons _ _ (ih _ b)
theorem zRX{l:OpenLaw}(hn:l.most=AA n){P:Params}{args:List WData}{oM:List AJ}
  (UA:l.row.toRowW.claim.pre args=AK) (Kw:WellAll P h oM args) :
  ∃a vs ns,oM=[DP a]/\args=[WData.list (ns.map WData.int)]/\h.get? a=AA { cls:=.type "list",data:=.seq vs.toArray }/\GC vs ns/\ns.length<=n:=by
 have hsh:WShape.hasAll [] args [.list .int]=AK:=(pre_splitW UA).1;have hc:l.pre.holds [] { args:=args }=AK:=(pre_splitW UA).2;obtain⟨d,r,rfl,h1,h2⟩:=hasAllW_cons hsh;obtain rfl:=hasAllW_nil h2;obtain⟨xs,rfl,h3⟩:=hasW_list h1;obtain⟨ns,rfl⟩:=items_int h3
 have E6:ns.length<=n:=by
  unfold OpenLaw.pre at hc
  have h4:(WTm.not (.lt (.lit (.int (n:Int))) (.len (.arg 0)))).holds [] { args:=[.list (ns.map .int)] }=AK:=by
   have h4:=(holds_andW hc).1;rw[hn] at h4;exact h4
  have h5:=condW_of h4 (w_not (w_lt w_lit (w_len_list (w_arg rfl))));rw[AI] at h5;refine E8 λq=>?_;have q':(n:Int)<((ns.length:Nat):Int):=by lia
  first
   |(rw[decide_eq_true q'] at h5;exact absurd h5 'd')
   |(simp at h5;lia)
 cases Kw with
 |cons w1 w2 =>
  cases w2
  cases w1 with
  |list ho SU=>exact{_,_,ns,rfl,rfl,ho,zHH ns _ SU,E6}
theorem zRY(l:OpenLaw)(args:List WData):l.row.toRowW.claim.post args (.bool AK) args=AK :=
 postW_of (r:=l.row.toRowW) (X:=(AK==AK))
  (show WShape.has [] (.bool AK) .bool=AK by first|rfl|decide|simp[WShape.has,WShape.arms,WShape.armsAll])
  (show(WTm.eq .res (.lit (.bool AK))).value [] { args:=args,res:=AA (.bool AK),after:=args }=AA (.bool (AK==AK)) from w_eq_bool (w_res rfl) w_lit) rfl
theorem attach_call{l:OpenLaw}{d:DefRec}
  (hn:l.most=AA n) (xD:d.params.defaults=[])
  (call:∀(w:D8) (s₀ E4:AS) (mg mb:C2->Option AJ) (fa:AT) (o:IF) (pm cd SW:AJ) (a:AT) (vs:List AJ) (ns:List Int),
   Ground q ZT [] XP w s₀ mg mb E4.heap->YP w E4.heap ->
   E4.heap.get? fa=AA o->o.data=.func (docDef d.name d.params d.body d.scope pm cd SW)->E4.heap.CodeRec cd d.name->mg d.name=AA (.ref fa) ->
   E4.heap.get? a=AA { cls:=.type "list",data:=.seq vs.toArray }->GC vs ns->ns.length<=n->E4.gens=#[] ->
   GY (A4 l.prog w) Q6 (.call (.ref fa) {[.ref a],[]}) (λr s'=>r=.ok (.ret (.bool AK))/\OldK E4.heap s'.heap/\s'.os=E4.os/\NW s'.gens) E4) :
  WalkO q ZT XP YP l.row.toRowW d [] (λf vs=>aW f vs):=by
 intro w s₀ E4 mg mb G Y fa o pm cd SW dV kV ho hd MM hD wU hg args oM as UA hlay hrd Kw hlo;obtain rfl:dV=.none:=Dflts.none hD xD;obtain rfl:kV=.none:=Dflts.noKw hD;obtain⟨a,vs,ns,rfl,rfl,eG,eO,E6⟩:=zRX hn UA Kw;refine enter_call (MO (call w s₀ E4 mg mb fa o pm cd SW a vs ns G Y ho (fd_plain hd) MM wU eG eO E6 hg) λr s' hq=>?_);obtain⟨rfl,h2,h3,h4⟩:=hq;exact{.inl {.bool AK,.bool AK,[],rfl,λ_=>rfl,.bool AK,zRY l _,λ_=>{OC,λ_ hm=>(nomatch hm)}},h2,h3,h4}
section
variable{K:Frag}
noncomputable def yHK(h:D7)(L d:AT):List (AT×IF):=(DL h.objs.size).filterMap λa=>if a=L\/a=d then AL else(h.get? a).map λo=>(a,o)
end
end Att
variable{CX:L2.CXT}{sp:L2.Sp}
namespace L2
open PySem PySem.Spec PyProof.Rows
theorem Tk:∀{vs:List AJ} {ns:List Int},GC vs ns->Vals (ns.map V.int) vs
 |_,_,.nil=>.nil
 |_,_,.cons n t h=>.cons {t,rfl} (Tk h)
def Hs(H:Hp):Prop:=∀b,H b=AL\/(∃o xs,H b=AA (.frz o (.lst xs)))\/∃q,H b=AA (.tbl q #[])
structure Tabs(K:AD)(q:CU):Prop where
 rcs:∀x∈gM,∀c T,ET K x=AA (c,T)->∃d,(PyProof.Rows.recsOf q).find? (λe=>e.name==x)=AA d
 out:∀x∈gM,∀c T,ET K x=AA (c,T)->K.lookup T=AL
 uni:∀x∈gM,∀y∈gM,∀c c' T,ET K x=AA (c,T)->ET K y=AA (c',T)->x=y
def CB(K:AD)(base:D7):Prop:=∀x∈gM,∀c T,ET K x=AA (c,T)->LJ base c T
theorem Tabs.uq{K:AD}(t:Tabs K q){T:AT}{u v:C2}(a:TB K T u)(b:TB K T v):u=v:=by
 obtain⟨x,c,h1,h2,rfl⟩:=a;obtain⟨y,c',g1,g2,rfl⟩:=b;rw[t.uni x h1 y g1 c c' T h2 g2]
open Classical in
noncomputable def kZ(K:AD)(H:Hp):Hp:=λb=>if h:∃q,TB K b q then AA (.tbl h.choose #[]) else H b
theorem zYZ{K:AD}(t:Tabs K q){T:AT}{u:C2}(a:TB K T u):kZ K H T=AA (.tbl u #[]):=by
 have h:∃q,TB K T q:={u,a};unfold kZ;rw[dif_pos h,t.uq h.choose_spec a]
theorem zY0{K:AD}{b:AT}(a:∀q,¬TB K b q):kZ K H b=H b:=by
 unfold kZ;rw[dif_neg (λq0=>by obtain⟨q,z⟩:=q0;exact a q z)]
theorem zU3{K:AD}{mb:C2->Option AJ}{fa:AT}{E4:AS}{vs:List AJ}
  (KX:K.In E4.heap) (jT:E4.heap.Ns BK mg) (hb:E4.heap.Ns M5 mb) (hbb:∀x:C2,x≠"__name__"->mb x=GL x) (Lx:E4.heap.NoLimit) (Ch:∃bm ob,mg "__builtins__"=AA (.ref bm)/\bm≠M5/\E4.heap.get? bm=AA ob/\ob.cls=.type "module"/\ob.dict=AA M5/\ob.data=.plain) (hg:E4.gens=#[])
  (tK:Tabs K q) (tT:∀x∈gM,∀c T,ET K x=AA (c,T)->LJ E4.heap c T/\E4.heap.get? T=AA (LH #[]))
  (ha:E4.heap.get? a=AA { cls:=.type "list",data:=.seq vs.toArray }) (hi:GC vs ns) (hl:ns.length<=sizeLine) (hr:Room k Q6)
  (F:∀base:D7,K.In base->base.Ns BK mg->CB K base->FnOk P w K mg base CX k fa fd [x] sp) (PR:∀(s:AS) (u:AJ),US s fd {[u],[]} [(x,u)])
  (bV:∀H:Hp,Hs H->SqL K H a (ns.map V.int)->sp [.ref a] H (λv _=>v=.bl AK) λ_ _ _=>False)
  (Nj:∀H e s',CX [] H E4 (λ_ _ _=>False) e s'->False) :
  GY (A4 P w) Q6 (.call (.ref fa) {[.ref a],[]}) (λr s'=>r=.ok (.ret (.bool AK))/\OldK E4.heap s'.heap/\s'.os=E4.os/\NW s'.gens) E4:=by
 have rv:=Tk hi;have Ks:=hi.length
 have XB:∀{T u},TB K T u->E4.heap.get? T=AA (LH #[])/\cF E4.heap T/\K.lookup T=AL:=λ{T u} h=>by
  obtain⟨x,c,h1,h2,_⟩:=h;obtain⟨z1,z2⟩:=tT x h1 c T h2;exact{z2,(z1.tab z2).isCodeTable,tK.out x h1 c T h2}
 have sC:∀{u},¬TB K a u:=λ{u} h=>by
  have e:=(XB h).1;rw[ha] at e;cases e
 -- from an abstract heap in which nothing but the script and the tables is VP
 have xQ:∀H0:Hp,(∀b,H0 b=AL\/∃o xs,H0 b=AA (.frz o (.lst xs)))->SqL K H0 a (ns.map V.int)->HOk P w H0 E4.heap->(∀b,H0 b≠AL->b=a)->(H0 a≠AL->K.lookup a=AL) ->
   GY (A4 P w) Q6 (.call (.ref fa) {[.ref a],[]}) (λr s'=>r=.ok (.ret (.bool AK))/\OldK E4.heap s'.heap/\s'.os=E4.os/\NW s'.gens) E4:=by
  intro H0 hO0 hS0 Lp hA0 hK0;have hT:∀{T u},TB K T u->kZ K H0 T=AA (.tbl u #[]):=λh=>zYZ tK h;have hN:∀b,(∀u,¬TB K b u)->kZ K H0 b=H0 b:=λb h=>zY0 h
  have gr:∀b u,H0 b=AA u->kZ K H0 b=AA u:=λb u e=>by
   have:b=a:=hA0 b (by rw[e];simp);rw[hN b λu=>by rw[this];exact sC,e]
  generalize hH:kZ K H0=H at hT hN gr
  have hO:Hs H:=λb=>by
   by_cases h:∃u,TB K b u
   .obtain⟨u,h⟩:=h;exact .inr (.inr {u,hT h})
   .rw[hN b λu z=>h {u,z}]
    exact(hO0 b).imp_right .inl
  have hS:SqL K H a (ns.map V.int):=hS0.imp (λz=>z.imp (gr _ _) (λq0=>by obtain⟨o,z⟩:=q0;exact{o,gr _ _ z})) id
  have hok:HOk P w H E4.heap:=λb u e=>by
   by_cases h:∃u,TB K b u
   .obtain⟨v,h⟩:=h
    rw[hT h] at e;cases e;exact{(XB h).1,trivial,λpos cv z=>by cases z}
   .rw[hN b λu z=>h {u,z}] at e
    refine(Lp b u e).stay (λc v _ q=>q) (λc q=>gr _ _ q) (λc xs q=>gr _ _ q) λc o x q=>gr _ _ q
  have hA:∀b,H b≠AL->b=a\/∃u,TB K b u:=λb z=>by
   by_cases h:∃u,TB K b u
   .exact .inr h
   .rw[hN b λu z=>h {u,z}] at z
    exact .inl (hA0 b z)
  have hK:H a≠AL->K.lookup a=AL:=λz=>hK0 (by rw[<-hN a λu=>sC];exact z);have R0:∀{b:AT} {o:IF},E4.heap.get? b=AA o->H b=AL->(fU E4.heap H).get? b=AA o:=λe n=>zUN e n
  have vY:∀{b:AT} {o:IF} {es:Array IR} {ep:Nat},E4.heap.get? b=AA o->o.data=.dict es ep->H b=AL:=λ{b o es ep} e d=>by
   cases q:H b with
   |none=>rfl
   |some u =>
    rcases hA b (by rw[q];simp) with e'|⟨v,h⟩
    .subst e'
     rw[ha] at e;cases e;have d':mS vs.toArray _=Data.dict es ep:=d;cases d'
    .rw[(XB h).1] at e;cases e
     have d':TH #[]=Data.dict es ep:=d;cases d'
  have Br:∀{b:AT} {m:C2->Option AJ},E4.heap.Ns b m->(fU E4.heap H).Ns b m:=λ{b m} ⟨o,es,ep,e,d,r⟩=>{o,es,ep,R0 e (vY e d),d,r}
  have hKb:K.In (fU E4.heap H):=λb o e=>R0 (KX b o e) (by
   cases q:H b with
   |none=>rfl
   |some u =>
    rcases hA b (by rw[q];simp) with e'|⟨v,h⟩
    .subst e'
     rw[hK (by rw[q];simp)] at e;cases e
    .rw[(XB h).2.2] at e;cases e)
  have hM:Mod K mg (fU E4.heap H):={hKb,Br jT,{mb,Br hb,hbb},let ⟨mc,h1,h2⟩:=Lx;{mc,Br h1,h2},by
   obtain⟨bm,ob,b1,b2,b3,b4,b5,b6⟩:=Ch;refine{bm,ob,b1,b2,R0 b3 ?_,b4,b5,b6}
   cases q:H bm with
   |none=>rfl
   |some u =>
    rcases hA bm (by rw[q];simp) with e'|⟨v,h⟩
    .subst e';rw[ha] at b3;cases b3;injection b4 with z;exact absurd z 'd'
    .rw[(XB h).1] at b3;cases b3;cases b4}
  have e0:Env0 P w K mg (fU E4.heap H) Q6 [] E4 H:={λT u h=>{_,hT h},rfl,hM,λb o e=>zYG e,C0 (zQ9 _ _),trivial,λb hb=>absurd (show b∈([]:List AT) from hb) 's',hok,.of_eq hg}
  have hCB:CB K (fU E4.heap H):=λx hx c T e=>by
   obtain⟨⟨o,lN,Np,tf,xL,tg,inF,Jp,tt,e1,e2,r⟩,_⟩:=tT x hx c T e;refine{o,lN,Np,tf,xL,tg,inF,Jp,tt,R0 e1 ?_,e2,r}
   cases q:H c with
   |none=>rfl
   |some u =>
    rcases hA c (by rw[q];simp) with e'|⟨v,h⟩
    .subst e';rw[ha] at e1;cases e1;injection e2 with z;exact absurd z 'd'
    .rw[(XB h).1] at e1;cases e1;cases e2
  refine MO ((F _ hKb (Br jT) hCB).run Q6 [] E4 H {[.ref a],[]} [.ref a] [.ref a] _ _ hr e0 (PR E4 (.ref a)) (.cons rfl .nil) (bV H hO hS)) λr s' h=>?_
  cases r with
  |error e=>exact(Nj H e s' h).elim
  |ok fl =>
   cases fl with
   |next=>exact IJ h
   |brk=>exact IJ h
   |cont=>exact IJ h
   |ret u =>
    obtain⟨v,H',os,bare,un,wR,r',q⟩:=h;have q':v=.bl AK:=q;subst q';obtain rfl:u=JI AK:=r'
    have HM:∀b o,E4.heap.get? b=AA o->s'.heap.get? b=AA o\/(cF E4.heap b/\o=LH #[]/\∃ps,s'.heap.get? b=AA (LH ps)):=λb o e=>by
     cases q:H b with
     |none=>exact .inl (un.keep b o e q (by intro z;exact absurd (show b∈([]:List AT) from z) 's') 's')
     |some u =>
      rcases hO b with z|⟨ob,xs,z⟩|⟨v,z⟩
      .rw[q] at z;cases z
      .have z2:=un.frzs b ob _ z
       obtain⟨e1,_⟩:=hok b _ z;obtain⟨e2,_⟩:=wR b _ z2;rw[e] at e1;cases e1;exact .inl e2
      .obtain⟨m,z2⟩:=un.tbls b v _ z
       obtain⟨e2,_⟩:=wR b _ z2
       by_cases h:∃u,TB K b u
       .obtain⟨w',h⟩:=h
        rw[(XB h).1] at e;cases e;exact .inr {(XB h).2.1,rfl,_,e2}
       .rw[hN b λu z=>h {u,z}] at z
        rcases hO0 b with y|⟨ob,xs,y⟩
        .rw[z] at y;cases y
        .rw[z] at y;cases y
    refine{rfl,{λb o e=>?_,λb o e=>?_},os,bare}
    .rcases HM b o e with z|⟨ht,rfl,ps,hP⟩
     .exact .inl z
     .exact .inr (.inl {ht,rfl,#[],ps,rfl,by rw[Array.empty_append];exact hP})
    .rcases HM b o e with z|⟨_,_,ps,hP⟩
     .exact{o,z}
     .exact{_,hP}
 cases hk:K.lookup a with
 |some o =>
  -- the script is one of the module's own objects
  have e:=KX a o hk;rw[ha] at e;cases e;refine xQ (λ_=>AL) (λ_=>.inl rfl) (.inr {_,vs.toArray,_,hk,rfl,rfl,rfl,by rw[A3,Ks];exact hl,by simpa using rv}) (λb u z=>by have z':(AL:Option HO)=AA u:=z;cases z') (λb z=>absurd rfl z) λz=>absurd rfl z
 |none =>
  refine xQ (λb=>if b=a then AA (.frz { cls:=.type "list",data:=.seq vs.toArray } (.lst (ns.map V.int))) else AL) (λb=>?_) (.inl (.inr {{ cls:=.type "list",data:=.seq vs.toArray },if_pos rfl})) (λb u z=>?_) (λb z=>?_) λ_=>hk
  .by_cases hb:b=a
   .exact .inr {_,_,if_pos hb}
   .exact .inl (if_neg hb)
  .by_cases hb:b=a
   .have z':=(if_pos hb).symm.trans z
    cases z';subst hb;exact{ha,by rw[AI];exact hl,vs,_,rv,ha}
   .have z':=(if_neg hb).symm.trans z
    cases z'
  .by_cases hb:b=a
   .exact hb
   .exact absurd (if_neg hb) z
theorem walk_of{l:RL}{d:DefRec}{K:Params->AD}{CX:D8->CXT}{sp:D8->Sp}
  (hn:l.most=AA n) (aN:n<=sizeLine) (xD:d.params.defaults=[]) (hr:Room k Q6)
  (hY:∀(w:D8) (h:D7),YP w h->(K w.params).In h) (tK:∀w:D8,Tabs (K w.params) q)
  (F:∀(w:D8) (mg:C2->Option AJ) (fa:AT) (h:D7),(K w.params).In h->h.Ns BK mg->mg d.name=AA (.ref fa) ->
   ∃fd:JZ,(∀(s:AS) (u:AJ),US s fd {[u],[]} [(x,u)]) /\
    ∀base:D7,(K w.params).In base->base.Ns BK mg->CB (K w.params) base->FnOk l.prog w (K w.params) mg base (CX w) k fa fd [x] (sp w))
  (bV:∀(w:D8) (H:Hp) (a:AT) (ns:List Int),ns.length<=n->Hs H->SqL (K w.params) H a (ns.map V.int)->sp w [.ref a] H (λv _=>v=.bl AK) λ_ _ _=>False)
  (Nj:∀(w:D8) (H:Hp) (s:AS) (e:AJ) (s':AS),CX w [] H s (λ_ _ _=>False) e s'->False) :
  hZ q ZT XP YP l.row.toRowW d [] (λf vs=>aW f vs):=by
 refine Att.attach_call hn xD λw s₀ E4 mg mb fa o pm cd SW a vs ns G Y ho hd MM wU eG eO E6 hg=>?_;have KX:=hY w _ Y;obtain⟨fd,hb,hF⟩:=F w mg fa _ KX G.T.g wU;exact zU3 KX G.T.g G.T.b G.T.builtins G.T.nolimit G.T.bmain hg (tK w) (λx hx c T e=>let ⟨d,hd⟩:=(tK w).rcs x hx c T e;PySem.W.tab_of G.T KX hd e) eG eO (AY E6 aN) hr hF hb (λH hO hS=>bV w H a ns E6 hO hS) λH e s'=>Nj w H E4 e s'
noncomputable def gI(s:FF):Arguments:=match s with
 |.FunctionDef _ a _ _ _ _ _ _ _ _=>a
 |_=>{ posonlyargs:=[],args:=[],vararg:=AL,kwonlyargs:=[],kw_defaults:=[],kwarg:=AL,defaults:=[] }
noncomputable def W5(s:FF):List FF:=match s with
 |.FunctionDef _ _ b _ _ _ _ _ _ _=>b
 |_=>[]
noncomputable def J4(s:FF):NT:=match s with
 |.FunctionDef _ _ _ _ _ _ sc _ _ _=>sc
 |_=>{ kind:=.function,names:=[],isGenerator:=AC,isCoroutine:=AC }
abbrev LP:CXT:=λ_ _ _ _ _ _=>False
abbrev E0:XK:=λ_ _ _=>False
theorem Cz:Do LP X E0:=λ_ _ _ _ _ _ _ h=>h.elim
structure Fun(K:AD)(x qual:C2)(st:FF)(f:AT)(fd:JZ):Prop where
 ex:∃(oc:AJ) (od:Option AT) (kV SW pm:AJ) (an:Option AT) (G3 ct:AJ) (aJ:Array (Option AJ)),
  fd=FN x qual (gI st) (W5 st) (J4 st) .none kV SW pm an G3 ct/\K.lookup f=AA {oc,od,.func fd,aJ}/\JP K G3 qual=AK
 kp:FD K (.ref f)=AK
section
variable{K:AD}
theorem Fun.ok{st:FF}(F:Fun K x qual st f fd)(S:FnScope N ps (J4 st))(len:∀vs H Q E,sp vs H Q E->vs.length=ps.length)
  (LC:∀(G3:AJ) (A:DU) (outer:List XT) (s:AS) (H:Hp) (vs:List V) (Q:VK) (E:XK),Room k (A.deeper (G7 qual (J4 st) s.heap.objs.size f G3))->sp vs H Q E ->
   ∃t,PSs (TN LP P w K mg base N qual (J4 st) f G3 A outer s H E).nox (W5 st) t/\t { nx:=λ_ H'=>Q .non H',rt:=Q } (start N vs) H):FnOk P w K mg base LP (k+1) f fd ps sp:=by
 obtain⟨oc,od,kV,SW,pm,an,G3,ct,aJ,rfl,lk,MM⟩:=F.ex;refine Cw lk MM S len λA outer s H vs Q E hr bV=>?_;obtain⟨t,h,q⟩:=LC G3 A outer s H vs Q E hr bV;exact{t,h.nox,q}
theorem Fun.binds{st:FF}(F:Fun K x qual st f fd)
  (h:∀(kV SW pm:AJ) (an:Option AT) (G3 ct:AJ) (us:List AJ),us.length=ps.length->OL (FN x qual (gI st) (W5 st) (J4 st) .none kV SW pm an G3 ct) {us,[]}=pure (ps.zip us)):Binds K fd ps []:=by
 obtain⟨oc,od,kV,SW,pm,an,G3,ct,aJ,rfl,lk,MM⟩:=F.ex;exact .all (h kV SW pm an G3 ct)
theorem Dl{st:FF}{aJ:Array (Option AJ)}{kV SW G3:AJ}(l:K.lookup f=AA {oc,od,.func (FN x qual (gI st) (W5 st) (J4 st) .none kV SW pm an G3 ct),aJ})
  (c:JP K G3 qual=AK) (k:FD K (.ref f)=AK):Fun K x qual st f (FN x qual (gI st) (W5 st) (J4 st) .none kV SW pm an G3 ct):={{oc,od,kV,SW,pm,an,G3,ct,aJ,rfl,l,c},k}
end
theorem Ge(h:n<=1000):n<sizeLine:=AR h 'd'
theorem pv(i:Nat)(hN:X.N[i]?=AA x:=by rfl)(hv:ZR X.env.scope x:=by first|exact BN rfl|exact D2 (BN rfl)|exact D2 (D2 rfl))(hd:(x==("__debug__":C2))=AC:=by decide)
  (MM:(x==("__classdict__":C2))=AC:=by decide):PE X (.Name x pos) (uL i):=gA hN hv hd MM
theorem Wd{A B:Prop}(h:B):if AC=AK then A else B:=by
 rw[if_neg B9];exact h
theorem Wc{A B:Prop}(h:A):if AK=AK then A else B:=by
 rw[if_pos rfl];exact h
def Same(H H':Hp):Prop:=∀b o,H b=AA o->H' b=AA o
theorem Same.seq{K:AD}(e:Same H H')(h:SqL K H a xs):SqL K H' a xs:=by
 rcases h with(h|⟨o,h⟩)|h
 .exact .inl (.inl (e _ _ h))
 .exact .inl (.inr {o,e _ _ h})
 .exact .inr h
end L2
namespace TS
open PySem PyProof.Rows
section
variable{prog:CU}{w:D8}{A:DU}{E:AJ->AS->Prop}{s:AS}{BW:Array BA}{kd:FL}
structure SB(BW:Array BA)(kd:FL)(st:BS):Prop where
 perm:(A0 st).Perm BW
 kind:kindOf st=kd
 failed:j7 st=AL
theorem SB.size{st:BS}(h:SB BW kd st):(A0 st).size=BW.size:=h.perm.size_eq
theorem SB.setArr{st:BS}(h:SB BW kd st){xs:Array BA}(hp:xs.Perm (A0 st)):SB BW kd (setArr st xs):={hp.trans h.perm,h.kind,h.failed}
theorem SB.mem{st:BS}(h:SB BW kd st){i:Nat}(hi:i<(A0 st).size):(A0 st)[i]∈BW:=h.perm.mem_iff.mp (AH hi)
theorem qV{st:BS}{HC:Array BA}{i:Nat}{Q:BA->BS->Prop}(hi:i<HC.size)(h:Q HC[i] st):N5 (A4 prog w) A E s (elem' HC i) Q st:=by
 rw[elem'_eq,getElem?_pos HC i hi];exact BC h
theorem L9{α:Type}{c:Prop}[Decidable c]{x y:StateT BS TC α}{Q:α->BS->Prop}{st:BS}(h1:c->N5 (A4 prog w) A E s x Q st)(h2:¬c->N5 (A4 prog w) A E s y Q st) :
  N5 (A4 prog w) A E s (if c then x else y) Q st:=by
 by_cases h:c
 .rw[if_pos h];exact h1 h
 .rw[if_neg h];exact h2 h
end
section
variable{prog:CU}{w:D8}{A:DU}{E:AJ->AS->Prop}{s:AS}{BW:Array BA}{kd:FL}
theorem zN{st:BS}{i j:Nat}{Q:PUnit->BS->Prop}(h:Q ⟨⟩ (setArr st (O1 (A0 st) i j ((j-i) / 2)))):N5 (A4 prog w) A E s (reverseSlice' i j) Q st:=by
 rw[reverseSlice'_eq];exact M1 h
def Kp(BW:Array BA)(kd:FL)(st CT:BS):Prop:=SB BW kd CT/\DM CT=DM st
theorem Kp.rev{st CT:BS}{i j d:Nat}(h:Kp BW kd st CT):Kp BW kd st (setArr CT (O1 (A0 CT) i j d)):={h.1.setArr (mirror_perm _ _ _ _),h.2}
end
noncomputable def tZ:Bool->BA->Array BA->Nat->Nat->Nat->StateT BS TC (Option Nat):=sortPriv% PySem.Builtin.gallop
section
variable{prog:CU}{w:D8}{A:DU}{E:AJ->AS->Prop}{s:AS}{BW:Array BA}{kd:FL}
end
noncomputable def Hf:Nat->StateT BS TC Unit:=sortPriv% PySem.Builtin.setMinGallop
abbrev tJ(st:BS)(g:Nat):BS:=TZ (kindOf st) (A0 st) (DM st) g (j7 st)
theorem zGV(g:Nat):Hf g=modify λs=>tJ s g:=rfl
noncomputable def zU4:Array BA->Array BA->StateT BS TC (Array BA):=sortPriv% PySem.Builtin.mergeLo
noncomputable def zU5:Array BA->Array BA->StateT BS TC (Array BA):=sortPriv% PySem.Builtin.mergeHi
structure Mid(a b out:Array BA)(ia ib:Nat):Prop where
 perm:(out.toList++a.toList.drop ia++b.toList.drop ib).Perm (a.toList++b.toList)
 la:ia<=a.size
 lb:ib<=b.size
 sz:out.size=ia+ib
theorem Mid.pushB{a b out:Array BA}{ia ib:Nat}(m:Mid a b out ia ib)(h:ib<b.size):Mid a b (out.push b[ib]) ia (ib+1):=by
 refine{?_,m.la,h,by rw[EI,m.sz];lia}
 have e:b.toList.drop ib=b[ib]::b.toList.drop (ib+1):=by
  rw[EQ (by simpa using h)];simp
 have p:=m.perm;rw[e] at p;refine KI ?_ p;rw[FG];simp only[CP,KG];exact JT _ (iG.symm)
theorem Mid.pushA{a b out:Array BA}{ia ib:Nat}(m:Mid a b out ia ib)(h:ia<a.size):Mid a b (out.push a[ia]) (ia+1) ib:=by
 refine{?_,h,m.lb,by rw[EI,m.sz];lia}
 have e:a.toList.drop ia=a[ia]::a.toList.drop (ia+1):=by
  rw[EQ (by simpa using h)];simp
 have p:=m.perm;rw[e] at p;refine KI ?_ p;rw[FG];simp only[CP,KG,NG];exact G2 _
theorem Ri(a:Array BA)(i:Nat):(a.extract i a.size).toList=a.toList.drop i:=by
 rw[KW];exact J2 's'
theorem Mid.done{a b out:Array BA}{ia ib:Nat}(m:Mid a b out ia ib):(out++a.extract ia a.size++b.extract ib b.size).Perm (a++b):=by
 rw[EH];simp only[ER,Ri];exact m.perm
theorem Mid.lastA{a b out:Array BA}{ia ib:Nat}(m:Mid a b out ia ib):(out++b.extract ib b.size++a.extract ia a.size).Perm (a++b):=by
 rw[EH];simp only[ER,Ri];refine KI ?_ m.perm;simp only[CP];exact JT _ ZA
section
variable{prog:CU}{w:D8}{A:DU}{E:AJ->AS->Prop}{s:AS}{BW:Array BA}{kd:FL}
def Gal(st CT:BS):Prop:=∃g,CT=tJ st g
theorem Gal.refl(st:BS):Gal st st:={gallopOf st,rfl}
theorem Gal.set{st CT:BS}(h:Gal st CT)(g:Nat):Gal st (tJ CT g):=by
 obtain⟨g',rfl⟩:=h;exact{g,rfl}
theorem Gal.kind{st CT:BS}(h:Gal st CT)(hk:kindOf st=kd):kindOf CT=kd:=by
 obtain⟨g',rfl⟩:=h;exact hk
theorem zY2{st:BS}{g:Nat}{Q:Unit->BS->Prop}(h:Q () (tJ st g)):N5 (A4 prog w) A E s (Hf g) Q st:=by
 rw[zGV];exact M1 h
end
structure MidH(a b out:Array BA)(na nb:Nat):Prop where
 perm:(a.toList.take na++b.toList.take nb++out.toList.reverse).Perm (a.toList++b.toList)
 la:na<=a.size
 lb:nb<=b.size
 sz:out.size+na+nb=a.size+b.size
theorem Tj(a:Array BA)(n:Nat)(h:n-1<a.size)(h0:1<=n):a.toList.take n=a.toList.take (n-1)++[a[n-1]]:=by
 obtain⟨m,rfl⟩:∃m,n=m+1:={n-1,by lia};have h':m<a.toList.length:=by simpa using h
 simp only[Nat.add_sub_cancel];rw[CH h'];simp
theorem MidH.pushA{a b out:Array BA}{na nb:Nat}(m:MidH a b out na nb)(h0:1<=na)(h:na-1<a.size):MidH a b (out.push a[na-1]) (na-1) nb:=by
 refine{?_,CV h,m.lb,by rw[EI];have:=m.sz;lia};have p:=m.perm;rw[Tj a na h h0] at p;refine KI ?_ p;rw[FG,a9];simp only[CP,KG,fK,iF,FY,NG];exact JT _ iG
theorem MidH.pushB{a b out:Array BA}{na nb:Nat}(m:MidH a b out na nb)(h0:1<=nb)(h:nb-1<b.size):MidH a b (out.push b[nb-1]) na (nb-1):=by
 refine{?_,m.la,CV h,by rw[EI];have:=m.sz;lia};have p:=m.perm;rw[Tj b nb h h0] at p;rw[FG,a9];simpa only[CP,KG,fK,iF,FY,NG] using p
theorem Eo(a:Array BA)(i n:Nat)(h:i<=n):a.toList.take i++(a.extract i n).toList=a.toList.take n:=by
 rw[KW];show a.toList.take i++(a.toList.drop i).take (n-i)=_
 conv=>rhs;rw[show n=i+(n-i) by lia]
 rw[List.take_add]
theorem Sb(a:Array BA)(i:Nat):(a.extract 0 i).toList=a.toList.take i:=by
 have:=Eo a 0 i (BP _);simpa using this
theorem MidH.done{a b out:Array BA}{na nb:Nat}(m:MidH a b out na nb):(a.extract 0 na++b.extract 0 nb++out.reverse).Perm (a++b):=by
 rw[EH];simp only[ER,Sb,OO];exact m.perm
theorem MidH.firstB{a b out:Array BA}{na nb:Nat}(m:MidH a b out na nb):(b.extract 0 nb++a.extract 0 na++out.reverse).Perm (a++b):=by
 rw[EH];simp only[ER,Sb,OO];refine KI ?_ m.perm;exact UP _ ZA
section
variable{prog:CU}{w:D8}{A:DU}{E:AJ->AS->Prop}{s:AS}{BW:Array BA}{kd:FL}
end
theorem Rh(c:List BA):∀(a:Array BA) (sa k:Nat),sa+k+c.length<=a.size ->
  ((c.zipIdx k).foldl (λa (p:BA×Nat)=>a.setIfInBounds (sa+p.2) p.1) a).toList=a.toList.take (sa+k)++c++a.toList.drop (sa+k+c.length):=by
 induction c with
 |nil=>intro a sa k h;simp
 |cons x r ih =>
  intro a sa k h;rw[KJ,K7];have hl:(x::r).length=r.length+1:=rfl;rw[ih (a.setIfInBounds (sa+k) x) sa (k+1) (by rw[MV];lia)];have KZ:sa+k<a.toList.length:=by simp;lia
  rw[UT];rw[show sa+(k+1)=(sa+k)+1 by lia];rw[CH (by simpa using KZ),List.take_set_of_le (AM _),List.getElem_set_self,List.drop_set_of_lt (FX (A6 _ _))];rw[show sa+k+1+r.length=sa+k+(x::r).length by rw[hl];lia];simp
theorem zR2{a c:Array BA}{sa sb nb:Nat}(h1:sa<=sb)(h2:sb+nb<=a.size)(hp:c.Perm (a.extract sa sb++a.extract sb (sb+nb))) :
  (c.toList.zipIdx.foldl (λa (p:BA×Nat)=>a.setIfInBounds (sa+p.2) p.1) a).Perm a:=by
 have hl:c.toList.length=(sb-sa)+nb:=by
  have:=hp.size_eq;rw[IB,JJ,JJ] at this;simp;lia
 rw[EH,Rh c.toList a sa 0 'l'];have jS:=EH.mp hp;rw[ER] at jS;have e1:=Eo a sa sb h1;have e2:=Eo a sb (sb+nb) (A6 _ _);have e3:=List.take_append_drop (sb+nb) a.toList
 have q:(a.toList.take (sa+0)++c.toList++a.toList.drop (sa+0+c.toList.length)).Perm (a.toList.take sa++((a.extract sa sb).toList++(a.extract sb (sb+nb)).toList)++a.toList.drop (sb+nb)):=by
  rw[show sa+0=sa from Nat.add_zero _,show sa+c.toList.length=sb+nb by lia];exact UP _ (JT _ jS)
 refine q.trans ?_;rw[<-CP,e1,e2,e3]
section
variable{prog:CU}{w:D8}{A:DU}{E:AJ->AS->Prop}{s:AS}{BW:Array BA}{kd:FL}
theorem zY3{st st2:BS}{Q:PUnit->BS->Prop}(h:Q ⟨⟩ st2):N5 (A4 prog w) A E s (set st2:StateT BS TC PUnit) Q st:=by
 unfold N5;rw[StateT.run_set];exact wpAny_pure {rfl,h}
end
abbrev Run:=Nat×Nat×Nat
section
variable{prog:CU}{w:D8}{A:DU}{E:AJ->AS->Prop}{s:AS}{BW:Array BA}{kd:FL}
theorem yC2{c:Prop}[Decidable c]{a b n:Nat}(h1:a<=n)(h2:b<=n):(if c then a else b)<=n:=by
 split
 .exact h1
 .exact h2
end
end TS
variable{cl:List (C2×AT)}{own CG:List C2}{js:List Nat}{JN:D7}{ifs:List DA}{pp T8:iB}{J:L2.It}{R:Result->AS->Prop}{H1:L2.Hp}{o:L2.HO}{ND kx vx:DA}{wi:L2.TI}
namespace L2
open PySem PySem.Spec PyProof.Rows
def PTs(X:Cx)(ifs:List DA)(t:TT):Prop :=
 ∀(AG:List (AT×IF)) (s:AS) (σ:St) (H:Hp) (Q:Bool->Hp->Prop),Inv X AG σ H s->t σ H Q ->
  A1 (A4 X.prog X.w) X.A (forIn ifs AK λc r=>if r=AK then do let ok <-V9 c X.env (eval c X.env);pure (QT ok) else pure (QT r)) (TP X AG σ Q) X.xe s
def Wb:TT:=λ_ H Q=>Q AK H
theorem ZN:PTs X [] Wb:=λ_ _ _ H _ I h=>wpAny_tests_nil {H,I,h}
theorem zY4{t:TT}(h:PT X c t):PTs X [c] t:=λAG s σ H Q I hw=>wpAny_tests_one (h AG s σ H Q I hw)
noncomputable def K1(X:Cx)(scope:NT)(cl:List (C2×AT))(nm:List C2)(C:AT)(s:AS)(H:Hp)(fp:List AT):Cx where
 prog:=X.prog
 w:=X.w
 K:=X.K
 mg:=X.mg
 base:=X.base
 A:=X.A
 N:=nm
 s₀:=s
 H₀:=H
 env:=Y2 scope cl C X.env
 outer:=X.stack
 stack:=X.stack
 ex:=fp
 fn:=λ_=>AC
 calm:=X.calm
 pn:=[]
 xe:=λ_ _=>False
noncomputable def WN(k:Nat)(js:List Nat)(σ:St):St:=BH k AL++js.map λj=>(σ[j]?).getD AL
structure CompNm(X:Cx)(scope:NT)(cl:List (C2×AT))(own CG:List C2)(js:List Nat):Prop where
 clos:Y3 scope X.env=pure cl
 kind:scope.kind=.function
 nocell:∀y∈scope.names,y.2≠.cell
 loc:∀y∈scope.names,y.2=.local->scope.names.lookup y.1=AA .local
 dom:∀y∈scope.names,y.2=.free->y.1∈CG
 nm:cl.map (·.1)=CG
 cells:∀p∈cl,X.env.cells.lookup p.1=AA p.2
 slot:CG.map AA=js.map λj=>X.N[j]?
 vis:∀x∈CG,X.env.kindOf x=AA .cell\/X.env.kindOf x=AA .free
 fr:∀x∈CG,(UH scope X.env).names.lookup x=AA .cell\/(UH scope X.env).names.lookup x=AA .free
 no:∀x∈own,x∉CG
 dis:∀x∈own,scope.names.lookup x=AA .local
theorem uB{α β:Type}[BEq α][LawfulBEq α]:∀{l:List (α×β)} {x:α} {c:β},l.lookup x=AA c->(x,c)∈l
 |[],_,_,h=>by simp at h
 |(a,b)::r,x,c,h=>by
  rw[NF] at h
  cases e:x==a with
  |true=>rw[e] at h;cases h;have:=eq_of_beq e;subst this;exact A2
  |false=>rw[e] at h;exact AZ _ (uB h)
theorem Hj{α β:Type}[BEq α][LawfulBEq α]:∀{l:List (α×β)} {x:α},x∈l.map (·.1)->∃c,l.lookup x=AA c
 |[],_,h=>by simp at h
 |(a,b)::r,x,h=>by
  rw[NF]
  cases e:x==a with
  |true=>exact{b,rfl}
  |false =>
   refine Hj ?_;rcases A7.mp h with q|q
   .have q:x=a:=q
    subst q;simp at e
   .exact q
theorem Al{env:XT}:∀{names:List (C2×UO)} {x:C2} {k:UO},(names.map λ(n,k)=>if(k==fI&&env.scope.kind==.function&&env.kindOf n==AA .cell) then(n,NameKind.cell) else(n,k)).lookup x=AA k ->
  (k=.cell\/k=.free)->∃k',(x,k')∈names/\(k'=.cell\/k'=.free)
 |[],_,_,h,_=>by simp at h
 |(n,k0)::r,x,k,h,hk=>by
  rw[AU,NF] at h
  by_cases hc:(k0==fI&&env.scope.kind==.function&&env.kindOf n==AA .cell)=AK
  .simp only[hc,if_true] at h
   cases e:x==n with
   |true =>
    have:=eq_of_beq e;subst this
    have hf:k0=.free:=by
     have:=(Z7.mp (Z7.mp hc).1).1;exact eq_of_beq this
    exact{k0,A2,.inr hf}
   |false =>
    rw[e] at h;obtain⟨k',h1,h2⟩:=Al h hk;exact{k',AZ _ h1,h2}
  .simp only[hc,if_false,EA] at h
   cases e:x==n with
   |true =>
    rw[e] at h;have:=eq_of_beq e;subst this;cases h;exact{k0,A2,hk}
   |false =>
    rw[e] at h;obtain⟨k',h1,h2⟩:=Al h hk;exact{k',AZ _ h1,h2}
theorem CompNm.cl_of(n:CompNm X scope cl own CG js){c:AT}(h:cl.lookup x=AA c):X.env.cells.lookup x=AA c:=n.cells _ (uB h)
theorem CompNm.has(n:CompNm X scope cl own CG js)(h:x∈CG):∃c,cl.lookup x=AA c:=Hj (by rw[n.nm];exact h)
theorem Inv.stk_of{b:AT}(I:Inv X AG σ H s)(hf:FpOk X AG H b):b∉SJ X.stack:=λz=>by
 rcases A7.mp (I.stkSub b z) with e|e
 .exact hf.2.1 e
 .exact hf.2.2.1 e
theorem zQA{m:C2->Option AJ}{tk:Nat}{own':List C2}(n:CompNm X scope cl own CG js)(I:Inv X AG σ H s)(hf:∀b∈fp,FpOk X AG H b)
  (KZ:∀b∈fp,b<s.heap.objs.size) (jT:JN.Ns s.heap.objs.size m) (HM:∀b o,s.heap.get? b=AA o->JN.get? b=AA o) :
  Inv (K1 X scope cl (own++CG) s.heap.objs.size s H fp) [] (WN own.length js σ) H { s with heap:=JN,toks:=tk }:=by
 have hl:js.length=CG.length:=by
  have:=congrArg K0 n.slot;simpa using this.symm
 refine{{I.tab,I.ok.mod,n.kind,I.ok.glob,I.ok.blt,AM _,λx y c h1 h2=>I.ok.inj x y c (n.cl_of h1) (n.cl_of h2),λx hx=>?_,(λx c h=>nomatch h),I.ok.hd,I.ok.frames,.inl rfl,λb hb=>{BM (KZ b hb),λx c e=>(hf b hb).2.2.2.2.1 x c (n.cl_of e)},
   I.bs,AY I.ok.bsz I.sz,λb o e hb=>?_,λb hb=>I.stk_of (hf b hb),I.stack,I.stkFree},
  rfl,I.bare,Un.kept HM,{m,jT,λi x v e1 e2 e3=>?_},λx c e=>?_,I.hok.fresh (AM _),λx c e=>I.freeC x c (n.cl_of e),(λp hp=>nomatch hp),I.hok.kept HM,?_}
 .have hx:(UH scope X.env).names.lookup x=AA .cell\/(UH scope X.env).names.lookup x=AA .free:=hx
  have KA:∃k',(x,k')∈scope.names/\(k'=.cell\/k'=.free):=by
   rcases hx with h|h
   .exact Al h (.inl rfl)
   .exact Al h (.inr rfl)
  obtain⟨k',h1,h2⟩:=KA;rcases h2 with h2|h2
  .exact absurd h2 (n.nocell _ h1)
  .exact n.has (n.dom _ h1 h2)
 .obtain⟨_,_,_,h4,_⟩:=hf b hb
  rcases h4 with h4|h4
  .exact I.ok.noex b o e h4
  .exact absurd (AN (A5 e) I.ok.bsz) (WD.mpr h4)
 ·-- a captured name
  have hi:own.length<=i:=by
   rcases Nat.lt_or_ge i own.length with h|h
   .unfold WN at e2
    rw[CF (by simpa using h),D5,if_pos h] at e2;cases e2
   .exact h
  have e1:(own++CG)[i]?=AA x:=e1;rw[B0 hi] at e1;unfold WN at e2;rw[B0 (by simpa using hi),C5,AX] at e2
  cases ej:js[i-own.length]? with
  |none=>rw[ej] at e2;cases e2
  |some j =>
   rw[ej] at e2;have e2:AA ((σ[j]?).getD AL)=AA (AA v):=e2
   have hj:X.N[j]?=AA x:=by
    have q:=congrArg (λl=>l[i-own.length]?) n.slot;simp only[AX,e1,ej,JD] at q;exact(BJ q).symm
   have hv:σ[j]?=AA (AA v):=by
    cases es:σ[j]? with
    |none=>rw[es] at e2;cases e2
    |some o=>rw[es] at e2;exact e2
   have bU:x∈CG:=DH e1;obtain⟨m0,hn0,sN⟩:=I.loc
   have vis:ZR X.env.scope x:=by
    rcases n.vis x bU with k|k
    .exact .inr (.inl k)
    .exact .inr (.inr k)
   obtain⟨u,r,lk⟩:=sN j x v hj hv vis;refine{u,r,.inr {n.fr x bU,?_}};obtain⟨c,hc⟩:=n.has bU;refine{c,hc,?_};rcases lk with⟨k,_⟩|⟨_,c',ZZ,z⟩
   .rcases n.vis x bU with k'|k'
    .rw[k] at k';cases k'
    .rw[k] at k';cases k'
   .rw[n.cl_of hc] at ZZ
    cases ZZ;obtain⟨o,ho,hd⟩:=z;exact{o,HM _ _ ho,hd}
 .obtain⟨v,o,ho,hd⟩:=I.cell x c (n.cl_of e)
  exact{v,o,HM _ _ ho,hd}
 .show(WN own.length js σ).length=(own++CG).length
  unfold WN;rw[BO,BO,C5,AI,hl]
abbrev TM:=St->Hp->(St->Hp->Prop)->Prop
def PM(X:Cx)(m:TC Unit)(t:TM):Prop :=
 ∀(AG:List (AT×IF)) (s:AS) (σ:St) (H:Hp) (N:St->Hp->Prop),Inv X AG σ H s->t σ H N->A1 (A4 X.prog X.w) X.A m (λ_ s'=>∃σ' H',Inv X AG σ' H' s'/\N σ' H') (λ_ _=>False) s
def tWalkC(J:It)(g:TG)(tt:TT)(tm:TM):TM:=λσ H N=>∃W:Nat->Nat->St->Hp->Prop,(∃m,W 0 m σ H)/\∀i m σ H,W i m σ H ->
 (J.stop i H/\N σ H)\/(J.go i H/\∀x H',J.yld i H x H'->g x σ H' λσ2 H2=>tt σ2 H2 λb H3 =>
  if b=AK then tm σ2 H3 (λσ4 H4=>∃m',m'<m/\W (i+1) m' σ4 H4) else ∃m',m'<m/\W (i+1) m' σ2 H3)
theorem Pa{Y:Cx}{d:Nat}{BR:AJ}{m:TC Unit}{g:TG}{tt:TT}{tm:TM}{tn:Nat->D7->Prop}{N:St->Hp->Prop}
  (oW:Y.A.under (.compLoop e d (.ref it) BR Y.env)=Y.A) (pH:(A4 Y.prog Y.w).den (.compLoop e d (.ref it) BR Y.env)=(Y1 e d (.ref it) BR Y.env).onRaise (λx=>do cB x Y.env;theTreesLotGoes x))
  (dZ:Y1 e d (.ref it) BR Y.env=(do
   JH pp
   match <-J8 (.ref it) with
   |none=>pure (.done .next)
   |some v =>
    FP tg (.ref it) v
    LG tg Y.env v
    let mut ok:=AK
    for c in ifs do
     if ok then ok <-V9 c Y.env (eval c Y.env)
    if ok then m
    WV (.compLoop e d (.ref it) BR Y.env)))
  (hx:Y.xe=λ_ _=>False) (hc:Y.calm=AK) (hg:PG Y tg g) (ht:PTs Y ifs tt) (hm:PM Y m tm) (T:Turn Y.prog Y.w Y.K tg J fp it tn)
  {AG:List (AT×IF)} {σ:St} {H:Hp} {s:AS} (I:Inv Y AG σ H s) (st:tn 0 s.heap) (f:∀b∈fp,FpOk Y AG H b) (h:tWalkC J g tt tm σ H N)
  (hR:∀σ' H' s',Inv Y AG σ' H' s'->N σ' H'->R (.ok .next) s') :
  GY (A4 Y.prog Y.w) Y.A (.compLoop e d (.ref it) BR Y.env) R s:=by
 obtain⟨W,⟨m0,w0⟩,turn⟩:=h;have VR:∀{H':Hp},(∀b∈fp,H' b=AL)->∀b∈fp,FpOk Y AG H' b:=λhn b hb=>{hn b hb,(f b hb).2};have wM:∀{α:Type} {t:TC α} {Q:α->AS->Prop} {s:AS} {E:AJ->AS->Prop},A1 (A4 Y.prog Y.w) Y.A t Q Y.xe s->A1 (A4 Y.prog Y.w) Y.A t Q E s:=λh=>DB h (λ_ _ q=>q) λ_ _ z=>by rw[hx] at z;exact z.elim
 refine codeAny_loop rfl (λk s'=>∃i σ' H',Inv Y AG σ' H' s'/\tn i s'.heap/\(∀b∈fp,H' b=AL)/\W i k σ' H') (λn s3 hI=>?_) m0 {0,σ,H,I,st,λb hb=>(f b hb).1,w0};obtain⟨i,σ3,H3,I3,K5,xK,w3⟩:=hI;rw[oW,pH];refine wpAny_noted ?_;rw[dZ];refine AB (IM (AB ?_));rcases turn i n σ3 H3 w3 with⟨stop,qn⟩|⟨go,step⟩
 .refine G4 (T.done Y rfl rfl rfl hc i AG s3 σ3 H3 _ I3 (VR xK) K5 stop) λr s4 q0=>?_;obtain⟨hr,I4⟩:=q0
  subst hr;exact wpAny_pure (hR _ _ _ I4 qn)
 .refine G4 (T.item Y rfl rfl rfl hc i AG s3 σ3 H3 _ I3 (VR xK) K5 go) λr s4 q0=>?_;obtain⟨u,hr,h4⟩:=q0
  subst hr;refine AB (G4 h4 λ_ s5 ⟨x,H5,I5,r5,y5,jJ,Nm⟩=>?_);have Og:=I5.pinned (VR Nm) (T.obj _ _ jJ);refine AB (G4 (wM (hg _ s5 σ3 H5 x u _ Og r5 (step x H5 y5))) λ_ s6 ⟨σ6,H6,I6,q6⟩=>?_)
  have WV:∀{σ7:St} {H7:Hp} {s7:AS},Inv Y (AG++tM fp s5.heap) σ7 H7 s7->(∃m',m'<n/\W (i+1) m' σ7 H7)->∃m,m<n/\∃i σ' H',Inv Y AG σ' H' s7/\tn i s7.heap/\(∀b∈fp,H' b=AL)/\W i m σ' H':=λ{σ7 H7 s7} I7 ⟨m',hm,w7⟩=>by
   refine{m',hm,i+1,σ7,H7,I7.unpinned,T.keep _ _ _ jJ λb hb o e=>(I7.pin (b,o) (BG _ (BG _ (Ae hb e)))).1,λb hb=>?_,w7};obtain⟨o,e,d⟩:=T.obj _ _ jJ b hb;exact(I7.pin (b,o) (BG _ (BG _ (Ae hb e)))).2.1
  refine AB (G4 (wM (ht _ s6 σ6 H6 _ I6 q6)) λb s7 ⟨H7,I7,q7⟩=>?_)
  cases b with
  |false=>exact wpAny_pure {rfl,WV I7 q7}
  |true =>
   exact AB (DB (hm _ s7 σ6 H7 _ I7 q7) ((λ_ s8 q0=>by obtain⟨σ8,H8,I8,q8⟩:=q0;exact wpAny_pure {rfl,WV I8 q8})) λ_ _ z=>z.elim)
def qL(wi:TI)(k:Nat)(js:List Nat)(o:HO)(g:Hp->TG)(tt:Hp->TT)(tm:Hp->AT->TM):TE:=λσ H Q=>wi σ H λJ H1=>∀BR,H1 BR=AL ->
 tWalkC J (g (D3 H1 BR o)) (tt (D3 H1 BR o)) (tm (D3 H1 BR o) BR) (WN k js σ) (D3 H1 BR o) λ_ H'=>Q (.ref BR) H'
theorem Ad{s2:AS}{dN:TC AJ}{obj:IF}{m:AT->XT->TC Unit}{g:Hp->TG}{tt:Hp->TT}{tm:Hp->AT->TM}{tn:Nat->D7->Prop}{Q:VK}
  {RR:AJ->AT->Result->AS->Prop}
  (pE:∀{Q:AJ->AS->Prop} {s:AS},Q (.ref s.heap.objs.size) { s with heap:=s.heap.push obj }->A1 (A4 X.prog X.w) X.A dN Q E s)
  (eG:ObjOk X.prog X.w (D3 H1 s2.heap.objs.size o) (s2.heap.push obj) s2.heap.objs.size o)
  (oW:∀BR env,X.A.under (.compLoop e 0 (.ref it) BR env)=X.A) (pH:∀BR env,(A4 X.prog X.w).den (.compLoop e 0 (.ref it) BR env)=(Y1 e 0 (.ref it) BR env).onRaise (λx=>do cB x env;theTreesLotGoes x))
  (dZ:∀BR env,Y1 e 0 (.ref it) (.ref BR) env=(do
   JH pp
   match <-J8 (.ref it) with
   |none=>pure (.done .next)
   |some v =>
    FP tg (.ref it) v
    LG tg env v
    let mut ok:=AK
    for c in ifs do
     if ok then ok <-V9 c env (eval c env)
    if ok then m BR env
    WV (.compLoop e 0 (.ref it) (.ref BR) env)))
  (oY:∀{BR:AJ} {env:XT} {R:Result->AS->Prop} {s:AS},GY (A4 X.prog X.w) X.A (.compLoop e 0 (.ref it) BR env) R s->A1 (A4 X.prog X.w) X.A (N8 (.ref it)) (λoS s'=>GY (A4 X.prog X.w) X.A (.compLoop e 0 oS BR env) R s')
   (notedBy (A4 X.prog X.w) X.A env λx s'=>R (.error x) s') s->GY (A4 X.prog X.w) X.A (.compStart e 0 (.ref it) BR env) R s)
  (n:CompNm X scope cl own CG js) (hc:X.calm=AK) (hg:∀C s H fp,PG (K1 X scope cl (own++CG) C s H fp) tg (g H)) (ht:∀C s H fp,PTs (K1 X scope cl (own++CG) C s H fp) ifs (tt H))
  (hm:∀C s H fp BR,PM (K1 X scope cl (own++CG) C s H fp) (m BR (Y2 scope cl C X.env)) (tm H BR))
  (I2:Inv X AG σ H1 s2) (T:Turn X.prog X.w X.K tg J fp it tn) (st2:tn 0 s2.heap) (f2:∀b∈fp,FpOk X AG H1 b)
  (hW:∀BR,H1 BR=AL->tWalkC J (g (D3 H1 BR o)) (tt (D3 H1 BR o)) (tm (D3 H1 BR o) BR) (WN own.length js σ) (D3 H1 BR o) λ_ H'=>Q (.ref BR) H')
  (hRR:∀BR C H' s' m,Inv X AG σ H' s'->H' C=AL->C≠X.env.locals->X.s₀.heap.objs.size<=C->(∀x c,X.env.cells.lookup x=AA c->c≠C)->(∀p∈X.pn++AG,p.1≠C)->s'.heap.Ns C m->Q (.ref BR) H'->RR (.ref BR) C (.ok .next) s') :
  A1 (A4 X.prog X.w) X.A dN (λBR VQ=>A1 (A4 X.prog X.w) X.A (newFunctionEnv scope X.env.globals cl [] X.env.qual AL .none (AA X.env)) (λxT Jq =>
   GY (A4 X.prog X.w) X.A (.compStart e 0 (.ref it) BR { xT with scope:=UH scope X.env }) (RR BR xT.locals) Jq) E VQ) E s2:=by
 refine pE (jZ n.nocell (by intro y hy;simp at hy) (λJN YQ YN=>?_) n.kind);dsimp only at YQ YN ⊢;have wT:H1 s2.heap.objs.size=AL:=I2.hok.fresh (AM _)
 have I3:Inv X AG σ (D3 H1 s2.heap.objs.size o) { s2 with heap:=s2.heap.push obj } :=
  I2.laid (t':=s2.toks) (λb u e=>AF _ e) (AM _) eG
 have hWa:=hW s2.heap.objs.size wT;generalize Bx:({ s2 with heap:=s2.heap.push obj }:AS)=s3 at I3;have Mg:s2.heap.push obj=s3.heap:=by rw[<-Bx]
 have Kg:∀b o,s2.heap.get? b=AA o->s3.heap.get? b=AA o:=λb o e=>by rw[<-Mg];exact AF _ e
 rw[Mg] at YQ YN ⊢;have eJ:∀b∈fp,b<s2.heap.objs.size:=λb hb=>by obtain⟨o,ho,_⟩:=T.obj _ _ st2 b hb;exact A5 ho
 have hsz:s3.heap.objs.size=s2.heap.objs.size+1:=by rw[<-Mg,FI]
 have f3:∀b∈fp,FpOk X AG (D3 H1 s2.heap.objs.size o) b:=λb hb=>by
  obtain⟨q,r⟩:=f2 b hb;exact{by rw[FH (BM (eJ b hb))];exact q,r}
 have vV:∀b o,s3.heap.get? b=AA o->JN.get? b=AA o:=λb o e=>YN.extBut b o (BM (A5 e)) (AF _ e);have e4:({ s2 with heap:=JN,toks:=s2.toks+([]:List (C2×AJ)).length }:AS)={ s3 with heap:=JN,toks:=s2.toks+([]:List (C2×AJ)).length }:=by rw[<-Bx]
 have IY:=zQA (own':=[]) (tk:=s2.toks+([]:List (C2×AJ)).length) n I3 f3 (λb hb=>by rw[hsz];exact G0 (eJ b hb)) YQ vV;have Zb:tn 0 JN:=T.keep _ _ _ st2 λb hb o e=>vV b o (Kg b o e)
 have VR:∀b∈fp,FpOk (K1 X scope cl (own++CG) s3.heap.objs.size s3 (D3 H1 s2.heap.objs.size o) fp) [] (D3 H1 s2.heap.objs.size o) b:=λb hb =>
   {(f3 b hb).1,BM (by show b<s3.heap.objs.size;rw[hsz];exact G0 (eJ b hb)),I3.stk_of (f3 b hb),.inl hb,λx c e=>(f3 b hb).2.2.2.2.1 x c (n.cl_of e),(λp hp=>nomatch hp)}
 have oQ:∀s4:AS,s4={ s3 with heap:=JN,toks:=s2.toks+([]:List (C2×AJ)).length } ->
   GY (A4 X.prog X.w) X.A (.compLoop e 0 (.ref it) (.ref s2.heap.objs.size) (Y2 scope cl s3.heap.objs.size X.env)) (RR (.ref s2.heap.objs.size) s3.heap.objs.size) s4:=by
  rintro s4 rfl;refine Pa (Y:=K1 X scope cl (own++CG) s3.heap.objs.size s3 (D3 H1 s2.heap.objs.size o) fp) (oW _ _) (pH _ _) (dZ _ _) rfl hc (hg _ _ _ _) (ht _ _ _ _) (hm _ _ _ _ _) T IY Zb VR hWa ?_;intro σ6 H6 s6 I6 q
  have I7:Inv X AG σ H6 s6:=I3.call' I6.os I6.base I6.hok I6.bare λb hb=>by
   obtain⟨_,g1,_,g3,g4,g5⟩:=f3 b hb;exact{g3,g1,g4,g5}
  obtain⟨mC,hnC,_⟩:=I6.loc
  exact hRR _ _ H6 s6 mC I7 I6.free (EY I3.lt) I3.sz (λx c e z=>by
    obtain⟨v,zc⟩:=I3.cell x c e
    exact absurd zc.lt (by rw[z];exact GE _))
   (λp hp z=>absurd (A5 (I3.pin p hp).1) (by rw[z];exact GE _)) hnC q
 rw[e4];exact oY (oQ _ rfl) (T.self _ 0 _ _ _ Zb (oQ _ rfl))
def kY(BR:AT)(te:TE):TM:=λσ H N=>te σ H λy H4=>∃ys,H4 BR=AA (.lst ys)/\ys.length<sizeLine/\N σ (D3 H4 BR (.lst (ys++[y])))
theorem En{BR:AT}(hx:X.xe=λ_ _=>False)(he:PE X ND te):PM X (do let _ <-call (.builtin "list.append") [.ref BR,<-eval ND X.env]) (kY BR te):=by
 intro AG s σ H N I h;have h1:=he AG s σ H _ I h;rw[hx] at h1;refine AB (G4 h1 λyv Jx ⟨y,H10,xW,r10,ys,ha,hz,q⟩=>?_);have:=Gf (X:=X) _ Jx σ H10 (.ref BR) [y] (.ref BR) [yv] (λv H'=>v=.non/\H'=D3 H10 BR (.lst (ys++[y]))) xW rfl (.cons r10 .nil) {_,ys,y,rfl,rfl,ha,hz,rfl,rfl};refine AB (DB this (λ_ s11 ⟨v,H11,I11,_,_,eH⟩=>wpAny_pure {σ,H11,I11,?_}) λ_ _ z=>by rw[hx] at z;exact z);subst eH;exact q
theorem zR3{k:Key}{r:AJ}{kvs:List (Key×V)}{Q:Unit->AS->Prop}(I:Inv X AG σ H s)(e:H a=AA (.dK kvs))(l:kvs.length<sizeLine)(ry:RelV (kV k) u)(rv:RelV v r)
  (h:∀s',Inv X AG σ (D3 H a (.dK (QD kvs k v))) s'->Q () s'):A1 (A4 X.prog X.w) A (fC a u r) Q E s:=by
 obtain⟨z,hd,vs,MY,dd⟩:=Cv I.hok e;have hz:vs.length<=sizeLine:=by rw[<-MY.length];exact z
 have hl:(QD kvs k v).length<=sizeLine:=by have:=rG kvs k v;lia
 refine wpAny_dictSet_pairs (hsz:=hz) (k4 ry) dd λh' b9 hs=>h _ ?_;have he:∃q,h'.get? a=AA q:=let ⟨q,_,_,hq,_⟩:=b9;{q,hq};exact t5 I (by rw[e];exact GJ) hs he (Dn hl hd (MY.put k rv) b9)
def Dt(BR:AT)(tk tv:TE):TM:=λσ H N=>tk σ H λx H3=>tv σ H3 λy H4=>∃kvs k,H4 BR=AA (.dK kvs)/\x=kV k/\kvs.length<sizeLine/\N σ (D3 H4 BR (.dK (QD kvs k y)))
theorem zU6{BR:AT}{tk:TE}(hx:X.xe=λ_ _=>False)(hk:PE X kx tk)(hv:PE X vx tv):PM X (do
 let kv <-eval kx X.env
 let vv <-IU [kv] (eval vx X.env)
 JH pp
 IU [kv,vv] (fC BR kv vv)) (Dt BR tk tv):=by
 intro AG s σ H N I h;have h1:=hk AG s σ H _ I h;rw[hx] at h1;refine AB (G4 h1 λkv s3 ⟨x,H3,I3,r3,q3⟩=>?_);have h2:=hv AG s3 σ H3 _ I3 q3;rw[hx] at h2;refine AB (CS (G4 h2 λvv s4 ⟨y,H4,I4,r4,kvs,k,e,ek,hz,q⟩=>?_));subst ek;exact AB (IM (CS (zR3 I4 e hz r3 r4 λs' I'=>{σ,_,I',q})))
def Ds(wi:TI)(g:TG)(tt:TT)(tm:TM):TM:=λσ H N=>wi σ H λJ H1=>tWalkC J g tt tm σ H1 N
theorem zDW{ND g0 QG iter ifs rest scope pos it BR env}
  (h0:GY (A4 prog w) A (.compLoop (.ListComp ND (g0::{QG,iter,ifs,0}::rest) scope pos) 1 it BR env) R s)
  (h:A1 (A4 prog w) A (N8 it) (λoS s'=>GY (A4 prog w) A (.compLoop (.ListComp ND (g0::{QG,iter,ifs,0}::rest) scope pos) 1 oS BR env) R s')
   (notedBy (A4 prog w) A env λx s'=>R (.error x) s') s) :
  GY (A4 prog w) A (.compStart (.ListComp ND (g0::{QG,iter,ifs,0}::rest) scope pos) 1 it BR env) R s:=by
 refine codeAny_of_tree ?_;show A1 _ A ((compStart (.ListComp ND (g0::{QG,iter,ifs,0}::rest) scope pos) 1 it BR env).onRaise (λx=>do cB x env;JH theWindowsPlace)) _ _ s;refine wpAny_notedAt ?_;unfold compStart;show A1 _ A (ask >>= _) _ _ s;refine AB (wpAny_askSetting (wpAny_ite ?_));split
 .first
   |exact AB (wpAny_pure (wpAny_pure (TK rfl h0)))
   |exact wpAny_pure (TK rfl h0)
 .first
   |exact AB (FC (AB (IM (AB (DB h (λoS s' h'=>wpAny_pure (TK rfl h')) λ_ _ x=>x)))))
   |(refine AB (FC ?_);show A1 _ _ (JH iter.pos >>= _) _ _ s;exact AB (IM (AB (DB h (λoS s' h'=>wpAny_pure (TK rfl h')) λ_ _ x=>x))))
theorem zY5{BR:AT}{iter:DA}{g0:Comprehension}{g:TG}{tt:TT}{sc:NT}(hx:X.xe=λ_ _=>False)(hc:X.calm=AK)(hi:PI X tg iter wi)(hg:PG X tg g)(ht:PTs X ifs tt)(he:PE X ND te)
  (hs:∀x,CM iter X.env x=pure x):PM X (do
    let x <-eval iter X.env
    JH iter.pos
    let x <-CM iter X.env x
    let _ <-runOwn (.compStart (.ListComp ND [g0,⟨tg,iter,ifs,0⟩] sc pos) 1 (<-IU [x] (N8 x)) (.ref BR) X.env) X.env) (Ds wi g tt (kY BR te)):=by
 intro AG s σ H N I h;have h1:=hi AG s σ H _ I h;rw[hx] at h1;refine AB (G4 h1 λv s1 h2=>AB (IM (AB (jY (hs v) (AB (CS (G4 h2 λoR s2 h3=>?_)))))));obtain⟨it,fp,tn,J,H2,e,I2,T,st2,f2,hW⟩:=h3;subst e;refine AB (wpAny_runOwn (zDW ?_ (T.self _ 0 _ _ _ st2 ?_)))
 all_goals
  refine Pa (Y:=X) (pp:=iter.pos) (m:=(do let _ <-call (.builtin "list.append") [.ref BR,<-eval ND X.env])) rfl rfl rfl hx hc hg ht (En hx he) T I2 st2 f2 hW ?_;intro σ' H' s' I' n';exact wpAny_pure {σ',H',I',n'}
theorem zL0(ND tg iter bQ J1:DA)(ifs T9:List DA)(scope:NT)(pos:iB)(it BR:AJ)(env:XT) :
  Y1 (.ListComp ND [{tg,iter,ifs,0},{bQ,J1,T9,0}] scope pos) 0 it BR env=(do
   JH iter.pos
   match <-J8 it with
   |none=>pure (.done .next)
   |some v =>
    FP tg it v
    LG tg env v
    let mut ok:=AK
    for c in ifs do
     if ok then ok <-V9 c env (eval c env)
    if ok then(do
     let x <-eval J1 env
     JH J1.pos
     let x <-CM J1 env x
     let _ <-runOwn (.compStart (.ListComp ND [⟨tg,iter,ifs,0⟩,⟨bQ,J1,T9,0⟩] scope pos) 1 (<-IU [x] (N8 x)) BR env) env)
    WV (.compLoop (.ListComp ND [{tg,iter,ifs,0},{bQ,J1,T9,0}] scope pos) 0 it BR env)):=by
 simp only[bind_assoc,pure_bind]
 rfl
theorem zU7{iter bQ J1:DA}{T9:List DA}{wi2:Hp->TI}{g g2:Hp->TG}{tt tt2:Hp->TT}{te:Hp->TE}(n:CompNm X scope cl own CG js)(hc:X.calm=AK)(hi:PI X tg iter wi)
  (hg:∀C s H fp,PG (K1 X scope cl (own++CG) C s H fp) tg (g H)) (ht:∀C s H fp,PTs (K1 X scope cl (own++CG) C s H fp) ifs (tt H))
  (Me:∀C s H fp,PI (K1 X scope cl (own++CG) C s H fp) bQ J1 (wi2 H)) (Mk:∀C s H fp,PG (K1 X scope cl (own++CG) C s H fp) bQ (g2 H)) (Ld:∀C s H fp,PTs (K1 X scope cl (own++CG) C s H fp) T9 (tt2 H))
  (he:∀C s H fp,PE (K1 X scope cl (own++CG) C s H fp) ND (te H))
  (hs:∀x,CM iter X.env x=pure x:=by intro _;rfl) (MZ:∀C x,CM J1 (Y2 scope cl C X.env) x=pure x:=by intro _ _;rfl) :
  PE X (.ListComp ND [{tg,iter,ifs,0},{bQ,J1,T9,0}] scope pos) (qL wi own.length js (.lst []) g tt λH BR=>Ds (wi2 H) (g2 H) (tt2 H) (kY BR (te H))):=by
 intro AG s σ H Q I h;rw[eval_ListComp];refine JX (use:=AL) rfl hs n.clos n.kind n.loc (DB (hi AG s σ H _ I h) (λxv E4 JN=>DB JN (λoR PL ML=>?_) λ_ _ e=>e) λ_ _ e=>e);obtain⟨it,fp,tn,J,H2,e,I2,T,st2,f2,hW⟩:=ML;subst e
 refine Ad (obj:={ cls:=.type "list",dict:=AL,data:=.seq ([]:List AJ).toArray }) (pp:=iter.pos) (ifs:=ifs) (tg:=tg) (RR:=λBR C=>j8 (A4 X.prog X.w) X.A X.xe AL (EP X AG σ Q) BR C)
  (m:=λBR env=>(do
    let x <-eval J1 env
    JH J1.pos
    let x <-CM J1 env x
    let _ <-runOwn (.compStart (.ListComp ND [⟨tg,iter,ifs,0⟩,⟨bQ,J1,T9,0⟩] scope pos) 1 (<-IU [x] (N8 x)) (.ref BR) env) env))
  (o:=.lst []) (λ{Q s} h=>C8 h) (show ObjOk _ _ _ _ _ (.lst []) from{BP _,[],0,.nil,AV _ rfl}) (λ_ _=>rfl) (λ_ _=>rfl) (λ_ _=>zL0 _ _ _ _ _ _ _ _ _ _ _ _) (λh0 h1=>O2 h0 h1) n hc hg ht
  (λC s H fp BR=>zY5 (X:=K1 X scope cl (own++CG) C s H fp) rfl hc (Me C s H fp) (Mk C s H fp) (Ld C s H fp) (he C s H fp) (MZ C)) I2 T st2 f2 hW ?_
 intro BR C H' s' m I' hC h1 h2 h3 h4 hn q;exact{m,hn,λh' sb=>{.ref BR,H',I'.turned (t':=s'.toks) (λb o hb e=>sb.extBut b o hb e) hC h1 (.inr h2) h3 h4,rfl,q}}
theorem zU8{iter:DA}{g:Hp->TG}{tt:Hp->TT}{tk tv:Hp->TE}(n:CompNm X scope cl own CG js)(hc:X.calm=AK)(hi:PI X tg iter wi)
  (hg:∀C s H fp,PG (K1 X scope cl (own++CG) C s H fp) tg (g H)) (ht:∀C s H fp,PTs (K1 X scope cl (own++CG) C s H fp) ifs (tt H))
  (hk:∀C s H fp,PE (K1 X scope cl (own++CG) C s H fp) kx (tk H)) (hv:∀C s H fp,PE (K1 X scope cl (own++CG) C s H fp) vx (tv H))
  (hs:∀x,CM iter X.env x=pure x:=by intro _;rfl) :
  PE X (.DictComp kx vx [{tg,iter,ifs,0}] scope pos) (qL wi own.length js (.dK []) g tt λH BR=>Dt BR (tk H) (tv H)):=by
 intro AG s σ H Q I h;rw[arm_eval_DictComp];refine JX (use:=AL) rfl hs n.clos n.kind n.loc (DB (hi AG s σ H _ I h) (λxv E4 JN=>DB JN (λoR PL ML=>?_) λ_ _ e=>e) λ_ _ e=>e);obtain⟨it,fp,tn,J,H2,e,I2,T,st2,f2,hW⟩:=ML;subst e
 refine Ad (obj:={ cls:=.type "dict",dict:=AL,data:=.dict #[] }) (pp:=iter.pos) (ifs:=ifs) (tg:=tg) (RR:=λBR C=>j8 (A4 X.prog X.w) X.A X.xe AL (EP X AG σ Q) BR C)
  (m:=λBR env=>(do
   let kv <-eval kx env
   let vv <-IU [kv] (eval vx env)
   JH { kx.pos with endLine:=vx.pos.endLine,endCol:=vx.pos.endCol }
   IU [kv,vv] (fC BR kv vv)))
  (λ{Q s} h=>C8 h) (Fo PL.heap I2.big) (λ_ _=>rfl) (λ_ _=>rfl) (λ_ _=>rfl) (λh0 h1=>codeAny_compStart_dict h0 h1) n hc hg ht
  (λC s H fp BR=>zU6 (X:=K1 X scope cl (own++CG) C s H fp) rfl (hk C s H fp) (hv C s H fp)) I2 T st2 f2 hW ?_
 intro BR C H' s' m I' hC h1 h2 h3 h4 hn q;exact{m,hn,λh' sb=>{.ref BR,H',I'.turned (t':=s'.toks) (λb o hb e=>sb.extBut b o hb e) hC h1 (.inr h2) h3 h4,rfl,q}}
theorem zY6{iter:DA}{g:Hp->TG}{tt:Hp->TT}{te:Hp->TE}(n:CompNm X scope cl own CG js)(hc:X.calm=AK)(hi:PI X tg iter wi)
  (hg:∀C s H fp,PG (K1 X scope cl (own++CG) C s H fp) tg (g H)) (ht:∀C s H fp,PTs (K1 X scope cl (own++CG) C s H fp) ifs (tt H)) (he:∀C s H fp,PE (K1 X scope cl (own++CG) C s H fp) ND (te H))
  (hs:∀x,CM iter X.env x=pure x:=by intro _;rfl):PE X (.ListComp ND [{tg,iter,ifs,0}] scope pos) (qL wi own.length js (.lst []) g tt λH BR=>kY BR (te H)):=by
 intro AG s σ H Q I h;rw[eval_ListComp];refine JX (use:=AL) rfl hs n.clos n.kind n.loc (DB (hi AG s σ H _ I h) (λxv E4 JN=>DB JN (λoR PL ML=>?_) λ_ _ e=>e) λ_ _ e=>e);obtain⟨it,fp,tn,J,H2,e,I2,T,st2,f2,hW⟩:=ML;subst e
 refine Ad (obj:={ cls:=.type "list",dict:=AL,data:=.seq ([]:List AJ).toArray }) (pp:=iter.pos) (ifs:=ifs) (tg:=tg) (RR:=λBR C=>j8 (A4 X.prog X.w) X.A X.xe AL (EP X AG σ Q) BR C)
  (m:=λBR env=>(do let _ <-call (.builtin "list.append") [.ref BR,<-eval ND env]))
  (o:=.lst []) (λ{Q s} h=>C8 h) (show ObjOk _ _ _ _ _ (.lst []) from{BP _,[],0,.nil,AV _ rfl}) (λ_ _=>rfl) (λ_ _=>rfl) (λ_ _=>rfl) (λh0 h1=>O2 h0 h1) n hc hg ht
  (λC s H fp BR=>En (X:=K1 X scope cl (own++CG) C s H fp) rfl (he C s H fp)) I2 T st2 f2 hW ?_
 intro BR C H' s' m I' hC h1 h2 h3 h4 hn q;exact{m,hn,λh' sb=>{.ref BR,H',I'.turned (t':=s'.toks) (λb o hb e=>sb.extBut b o hb e) hC h1 (.inr h2) h3 h4,rfl,q}}
theorem Gz{iter:DA}{g:Hp->TG}{tt:Hp->TT}{te:Hp->TE}(n:CompNm X scope cl own CG js)(hc:X.calm=AK)(hi:PI X tg iter wi)
  (hg:∀C s H fp,PG (K1 X scope cl (own++CG) C s H fp) tg (g H)) (ht:∀C s H fp,PTs (K1 X scope cl (own++CG) C s H fp) ifs (tt H)) (he:∀C s H fp,PE (K1 X scope cl (own++CG) C s H fp) ND (te H))
  (hN:X.N.Nodup) (hx:X.N[i]?=AA x) (hl:X.env.scope.names.lookup x=AA .local)
  (jN:HS (.ListComp ND [{tg,iter,ifs,0}] scope pos) (AA (.Name x NI)) T8.line X.env=pure AK)
  (hs:∀x,CM iter X.env x=pure x:=by intro _;rfl):PS X (.Assign [.Name x NI] (.ListComp ND [{tg,iter,ifs,0}] scope pos) T8) (mZ (qL wi own.length js (.lst []) g tt λH BR=>kY BR (te H)) (k6 i)):=by
 intro AG s σ H D I h;rw[exec_Assign_Name_used _ _ _ _ jN];refine AB (IM (AB ?_));show A1 _ X.A (do let _ <-comprehension (.ListComp ND [⟨tg,iter,ifs,0⟩] scope pos) scope X.env _ (newList []) AC (eval iter X.env) (AA (LG (.Name x NI) X.env))) _ _ s
 refine AB (DB (JX (use:=AA (LG (.Name x NI) X.env)) (Q:=λ_ s'=>SP X AG D .next s') rfl hs n.clos n.kind n.loc
  (DB (hi AG s σ H _ I h) (λxv E4 JN=>DB JN (λoR PL ML=>?_) λ_ _ e=>e) λ_ _ e=>e)) (λ_ s' hq=>wpAny_pure (wpAny_pure hq)) λ_ _ e=>e)
 obtain⟨it,fp,tn,J,H2,e,I2,T,st2,f2,hW⟩:=ML;subst e
 refine Ad (obj:={ cls:=.type "list",dict:=AL,data:=.seq ([]:List AJ).toArray }) (pp:=iter.pos) (ifs:=ifs) (tg:=tg) (Q:=λx H1=>k6 i x σ H1 D.nx) (RR:=λBR C=>j8 (A4 X.prog X.w) X.A X.xe (AA (LG (.Name x NI) X.env)) (λ_ s'=>SP X AG D .next s') BR C)
  (m:=λBR env=>(do let _ <-call (.builtin "list.append") [.ref BR,<-eval ND env]))
  (o:=.lst []) (λ{Q s} h=>C8 h) (show ObjOk _ _ _ _ _ (.lst []) from{BP _,[],0,.nil,AV _ rfl}) (λ_ _=>rfl) (λ_ _=>rfl) (λ_ _=>rfl) (λh0 h1=>O2 h0 h1) n hc hg ht
  (λC s H fp BR=>En (X:=K1 X scope cl (own++CG) C s H fp) rfl (he C s H fp)) I2 T st2 f2 hW ?_
 intro BR C H' s' m I' hC h1 h2 h3 h4 hn q;show A1 _ X.A (LG (.Name x NI) X.env (.ref BR)) _ _ _;refine wpAny_assign_Name (Gg I' hN hx (.inl hl) (v:=.ref BR) rfl (λgR I'' sb=>?_) (.inr hl));obtain⟨a,sb,ha⟩:=sb
 have hCa:C≠a:=by
  rcases ha with ha|ha
  .rw[ha];exact h1
  .exact λz=>h3 x a ha z.symm
 exact{m,hn.sameBut sb hCa,λh' Jw=>{_,H',I''.turned (t':=gR.toks) (λb o hb e=>Jw.extBut b o hb e) hC h1 (.inr h2) h3 h4,q}}
end L2
namespace TS
open PySem PySem.W PyProof.Rows
section
variable{prog:CU}{w:D8}{A:DU}{E:AJ->AS->Prop}{s:AS}
theorem zL1{vs:List AJ}{xs:Array BA}(h:xs.Perm (GW vs)):(xs.map (·.2)).toList.Perm vs:=by
 have p:=(EH.mp h).map (·.2);rw[M4] at p;have e:(vs.zip vs).map (·.2)=vs:=List.map_snd_zip (AM _);rw[e] at p;simpa using p
end
end TS
variable{ep:Nat}{l1 l2:AT}{H2:L2.Hp}
namespace L2
open PySem PySem.Spec PyProof.Rows
theorem Vals.perm(p:ws.Perm us):∀{xs:List V},Vals xs us->∃ys,ys.Perm xs/\Vals ys ws:=by
 induction p with
 |nil=>intro xs r;cases r;exact{[],G2 _,.nil}
 |cons a _ ih =>
  intro xs r
  cases r with
  |cons h t =>
   obtain⟨ys,q,r'⟩:=ih t;exact{_::ys,q.cons _,.cons h r'}
 |swap a b l =>
  intro xs r
  cases r with
  |cons h t =>
   cases t with
   |cons h' t'=>exact{_::_::_,H9 _ _ _,.cons h' (.cons h t')}
 |trans _ _ bT ih2 =>
  intro xs r;obtain⟨ys,q,r'⟩:=ih2 r;obtain⟨zs,q',vK⟩:=bT r';exact{zs,q'.trans q,vK}
def Oz(H:Hp)(y:V):Prop:=∃(p:AT) (n:Int) (ns:List Int),y=.ref p/\H p=AA (.tup ((n::ns).map V.int))
theorem Em{X:Cx}{AG:List (AT×IF)}{σ:St}{H:Hp}{s:AS}(I:Inv X AG σ H s):∀{ys:List V} {us:List AJ},Vals ys us->(∀y∈ys,Oz H y) ->
  ∃fs:List AJ,fs.length=us.length/\RM s.heap us fs/\(∀v∈fs,∃n t,v=.int n t)/\∀u∈us,∃(p:AT) (CK:List AJ) (ns:List Int),u=.ref p/\UQ s.heap p CK.toArray/\GC CK ns
 |_,_,.nil,_=>{[],rfl,R6,(λv hv=>nomatch hv),(λu hu=>nomatch hu)}
 |_,_,.cons r t,h=>by
  obtain⟨fs,e1,e2,e3,e4⟩:=Em I t λy hy=>h y (AZ _ hy);obtain⟨p,n,ns,ey,hp⟩:=h _ A2;subst ey;cases r;obtain⟨CK,rv,tp,_⟩:=I.tuple (SqT.of (K:=X.K) hp);have hi:GC CK (n::ns):=nW rv;have Mf:=hi
  cases hi with
  |cons _ tk r' =>
   obtain⟨o,ho,hc,k,hd⟩:=id tp;refine{.int n tk::fs,by rw[BD,BD,e1],PySem.W.KatTups.cons ho hc hd 's' e2,λv hv=>?_,λu hu=>?_}
   .rcases A7.mp hv with rfl|hv
    .exact{_,_,rfl}
    .exact e3 v hv
   .rcases A7.mp hu with rfl|hu
    .exact{p,_,n::ns,rfl,tp,Mf}
    .exact e4 u hu
theorem Gd{h h':D7}(k:∀b o,h.get? b=AA o->h'.get? b=AA o):∀{us fs:List AJ},RM h us fs->RM h' us fs
 |[],[],_=>R6
 |[],_::_,t=>t.elim
 |_::_,[],t=>t.elim
 |_::_,_::_,t=>by
  obtain⟨⟨a,o,xs,n,e,ho,r⟩,t⟩:=t;exact{{a,o,xs,n,e,k _ _ ho,r},Gd k t}
structure RawD(h:D7)(d:AT)(es:Array IR)(ep:Nat):Prop where
 ex:∃o,h.get? d=AA o/\o.ExactDict/\o.data=.dict es ep
 ns:(d==GV)=AC
theorem RawD.ty{d:AT}{es:Array IR}(r:RawD s.heap d es ep):s.TypeIs (.ref d) "dict":=let ⟨o,h1,h2,_⟩:=r.ex;{o,h1,h2.1}
theorem zY7{d:AT}{es:Array IR}(r:RawD s.heap d es ep)(hf:(es.size:Int)<2 ^ 63)(h:∀t tk,Q (.int es.size t) { s with toks:=tk }) :
  A1 (A4 prog w) A (call (.builtin "len") [.ref d]) Q E s:=by
 obtain⟨o,ho,hc,hd⟩:=r.ex;refine MF kind_len plain_len entry_len (args_len1 _) ?_;unfold EF.«len»;refine AB (m:=oneArg "len" _) (wpAny_pure ?_);refine AB (m:=callSpecial? (.ref d) (EX "__len__")) (C9 (name:=EX "__len__") r.ty F.slot_dict_len (CY F.slot_dict_len r.ty F.entry_dict_len ?_ (F.args_dict_len_1 _)));show A1 _ _ (dictSize d >>= _) _ _ s;unfold dictSize;refine AB (AB (KP ho hd (wpAny_pure ?_)));show A1 _ _ (Builtin.Dict.pendingCount d >>= _) _ _ s;refine AB (wpAny_pendingCount_other r.ns ?_);refine AB (j3 (wpAny_pure {_,rfl,?_}));refine AB (CS (wpAny_pure (AB (QO ?_))));show A1 _ _ (if((es.size:Int)+((0:Nat):Int))<0 then _ else _) _ _ _;rw[if_neg 'l'];show A1 _ _ (if((es.size:Int)+((0:Nat):Int))>=2 ^ 63 then _ else _) _ _ _;rw[if_neg 'l'];have e0:((es.size:Int)+((0:Nat):Int))=(es.size:Int):=by simp
 show A1 _ _ (retInt ((es.size:Int)+((0:Nat):Int))) _ _ _;rw[e0];exact AB (j3 (wpAny_pure {_,rfl,h _ _}))
theorem zY{d:AT}{es:Array IR}(r:RawD s.heap d es ep)
  (h:∀h',(∀b o,s.heap.get? b=AA o->h'.get? b=AA o)->h'.IsKeyIter s.heap.objs.size d 0 es.size ep->Q (.ref s.heap.objs.size) { s with heap:=h' }):A1 (A4 prog w) A (N8 (.ref d)) Q E s:=by
 obtain⟨o,ho,hc,hd⟩:=r.ex;refine NS r.ty F.slot_dict_iter (CY F.slot_dict_iter r.ty F.entry_dict_iter ?_ (F.args_dict_iter_1 _));unfold EF.«dict.__iter__» QU;refine AB (AB (PU r.ty (wpAny_pure ?_)));unfold TJ;show A1 _ _ ((if _ then _ else _) >>= _) _ _ s;rw[if_neg (by rw[r.ns];exact B9)];refine AB (wpAny_pure (AB (KP ho hd (AB (PB ho hd ?_)))));refine AB (C8 (wpAny_pure {_,rfl,"dict_keyiterator",_,{_,AV _ rfl,rfl},F.slot_dict_keyiterator_next.lookup,?_}));exact h _ (λb o e=>AF _ e) {_,AV _ rfl,rfl,by simp[E7]}
theorem Fv{d:AT}{es:Array IR}{Q:Option AJ->AS->Prop}(k:s.heap.IsKeyIter it d i es.size ep)(r:RawD s.heap d es ep)(hi:i<es.size)
  (h:∀h',h'.IsKeyIter it d (i+1) es.size ep->DS it s.heap h'->Q (AA es[i].key) { s with heap:=h' }):A1 (A4 prog w) A (J8 (.ref it)) Q E s:=by
 obtain⟨oi,lW,hci,jV⟩:=id k;obtain⟨o,ho,hc,hd⟩:=r.ex;unfold J8;refine AB (GQ (C9 (name:=EX "__next__") k.typeIs F.slot_dict_keyiterator_next (CY F.slot_dict_keyiterator_next k.typeIs F.entry_dict_keyiterator_next ?_ (F.args_dict_keyiterator_next_1 _))));refine AB (wpAny_pure (AB (AB ?_)))
 first
  |refine AB (IA k.typeIs (wpAny_pure (AB (QP lW jV ?_))))
  |refine AB (JW k.typeIs (wpAny_pure (AB (QP lW jV ?_))))
 simp only[show NV "dict_keyiterator"=AC by decide,EA,if_false];show A1 _ _ (if(DP d==GH)=AK then _ else _) _ _ s;rw[if_neg (show ¬((DP d==GH)=AK) from B9)];refine AB (wpAny_pure (AB (KP ho hd ?_)));rw[if_neg 's'];refine AB (wpAny_pure (AB (PB ho hd ?_)));rw[if_neg 's'];refine wpAny_pure ?_;simp only[show ¬((i:Int)<0) from by lia,if_false,MW,Array.getElem?_eq_getElem hi];refine AB ?_
 first
  |refine AB (IA k.typeIs (wpAny_pure (AB (PV k.typeIs ?_))))
  |refine AB (JW k.typeIs (wpAny_pure (AB (PV k.typeIs ?_))))
 show A1 _ _ (OK (.ref it) 1 (E7 ((i:Int)+1)) >>= _) _ _ s;refine AB (QM lW jV 's' ?_)
 have k':(s.heap.update it (Obj.mapFields (·.setIfInBounds 1 (E7 ((i:Int)+1))))).IsKeyIter it d (i+1) es.size ep :=
  {_,OH _ lW (Z3 (ME jV _)),(iC ..).trans hci,by rw[ME jV];simp[E7]}
 refine AB (CS (AB (PV (s:={ s with heap:=s.heap.update it (Obj.mapFields (·.setIfInBounds 1 (E7 ((i:Int)+1)))) }) k'.typeIs ?_)));show A1 _ _ (pure es[i].key) _ _ _;exact wpAny_pure (wpAny_pure {_,rfl,wpAny_pure (h _ k' (GR ..))})
theorem El{d:AT}{es:Array IR}{Q:Option AJ->AS->Prop}(hh:A.handled=AL)(k:s.heap.IsKeyIter it d i es.size ep)(r:RawD s.heap d es ep)(hi:es.size<=i)
  (h:∀h',Z6 it s.heap h'->Q AL { s with heap:=h' }):A1 (A4 prog w) A (J8 (.ref it)) Q E s:=by
 obtain⟨oi,lW,hci,jV⟩:=id k;obtain⟨o,ho,hc,hd⟩:=r.ex;unfold J8;refine AB (GQ (C9 (name:=EX "__next__") k.typeIs F.slot_dict_keyiterator_next (CY F.slot_dict_keyiterator_next k.typeIs F.entry_dict_keyiterator_next ?_ (F.args_dict_keyiterator_next_1 _))));refine AB (wpAny_pure (AB (AB ?_)))
 first
  |refine AB (IA k.typeIs (wpAny_pure (AB (QP lW jV ?_))))
  |refine AB (JW k.typeIs (wpAny_pure (AB (QP lW jV ?_))))
 simp only[show NV "dict_keyiterator"=AC by decide,EA,if_false];show A1 _ _ (if(DP d==GH)=AK then _ else _) _ _ s;rw[if_neg (show ¬((DP d==GH)=AK) from B9)];refine AB (wpAny_pure (AB (KP ho hd ?_)));rw[if_neg 's'];refine AB (wpAny_pure (AB (PB ho hd ?_)));rw[if_neg 's'];refine wpAny_pure ?_;simp only[show ¬((i:Int)<0) from by lia,if_false,MW,Array.getElem?_eq_none hi];refine AB ?_
 first
  |refine AB (IA k.typeIs (wpAny_pure ?_))
  |refine AB (JW k.typeIs (wpAny_pure ?_))
 show A1 _ _ (OK (.ref it) 0 .none >>= _) _ _ s;refine AB (QM lW jV 's' ?_);show A1 _ _ (newExc (.type "StopIteration") [] >>= _) _ _ _;refine AB ?_;simp only[newExc,newTuple];refine AB (C8 ?_ (by size_fits));refine AB (m:=QR _ _) (jY (a:=GH) (by first|rfl|(simp only[QR];rfl)) (C8 ?_ (by size_fits)));simp only[raiseNew];refine AB (wpAny_handled ?_);rw[show A.in1.handled=AL from hh];refine AB (wpAny_pure (wpAny_throw ?_));refine AB (V6 (T:="StopIteration") (b:=AK) {_,AV _ rfl,rfl} Y0 ?_);exact wpAny_pure (h _ (((GR ..).extBut.push _).push _))
theorem nM(x:ObjOk P w H h a (.dT kvs)):∃es ep,RawD h a es ep/\es.size=kvs.length/\kvs.length<=sizeLine /\
  ∀(i:Nat) (hi:i<es.size),∃(p:AT) (k:List Key),es[i].key=.ref p/\(kvs.map (·.1))[i]?=AA k/\H p=AA (.tup (k.map kV)):=by
 obtain⟨z,y,xs,r,o,es,ep,h1,h2,h3,h4,h5⟩:=x
 have hl:es.size=xs.length:=by
  have:=congrArg K0 h4;simpa using this
 have bY:kvs.length=xs.length:=Paired.length r;refine{es,ep,{{o,h1,h2,h3},y},by lia,z,λi hi=>?_}
 have KA:∀{l:List (List Key×V)} {m:List (List Key×AT×AJ)},Paired (λ(p:List Key×V) (q:List Key×AT×AJ)=>p.1=q.1/\H q.2.1=AA (.tup (p.1.map kV))/\RelV p.2 q.2.2) l m ->
   ∀(i:Nat) q,m[i]?=AA q->∃k,(l.map (·.1))[i]?=AA k/\H q.2.1=AA (.tup (k.map kV)):=by
  intro l m q
  induction q with
  |nil=>intro i q e;simp at e
  |@cons p q ps qs hq t ih =>
   intro i z e
   cases i with
   |zero=>simp at e;subst e;exact{p.1,by simp,hq.2.1}
   |succ i=>obtain⟨k,e1,e2⟩:=ih i z (by simpa using e);exact{k,by simpa using e1,e2}
 have QH:i<xs.length:=AN hi (C0 hl);obtain⟨k,e1,e2⟩:=KA r i xs[i] (by simp[QH])
 have e3:es[i]=entryOfKey (OJ (T5 P w)) xs[i]:=by
  have q:es.toList[i]?=AA es[i]:=by simp[hi]
  rw[h4] at q;simp[QH] at q;exact q.symm
 exact{xs[i].2.1,k,by rw[e3];rfl,e1,e2}
def Yp(d:AT)(o:IF)(kvs:List (List Key×V)):It :=
 {λi H=>i<kvs.length/\H d=AA (.frz o (.dT kvs)),λi H x H'=>H'=H/\∃p k,x=.ref p/\(kvs.map (·.1))[i]?=AA k/\H p=AA (.tup (k.map kV)),λi H=>kvs.length<=i/\H d=AA (.frz o (.dT kvs))}
theorem Ua{K:AD}(d it:AT)(o:IF)(kvs:List (List Key×V))(es:Array IR)(ep:Nat)(hd:o.data=.dict es ep)(hz:es.size=kvs.length) :
  Turn P w K tg (Yp d o kvs) [it] it (λi h=>h.IsKeyIter it d i es.size ep) where
 mem:=by simp
 obj:=λi h st b hb=>by
  have e:b=it:=by simpa using hb
  subst e;obtain⟨o,e,c,d⟩:=st;exact{o,e,λv z=>by rw[d] at z;cases z}
 keep:=λi h h' st k=>let ⟨o,e,r⟩:=st;{o,k it 's' o e,r}
 item:=by
  intro X hP hw hK hc i AG s σ H E I hf st hg;subst hP hw hK;obtain⟨hi,hk⟩:=hg;obtain⟨ho,hx⟩:=I.hok d _ hk;obtain⟨mE,mF,LQ,e1,e2,e3⟩:=nM hx;obtain⟨o',q1,q2,q3⟩:=LQ.ex;rw[ho] at q1;cases q1;rw[hd] at q3;injection q3 with q4 q5;subst q4;subst q5;obtain⟨f0,f1,f2,f3,f4,f5⟩:=hf it 's';refine Fv st LQ 'l' λh' CT sb=>?_;obtain⟨p,k,p1,p2,p3⟩:=e3 i 'l';have I1:Inv X AG σ H { s with heap:=h' }:=I.turned (t':=s.toks) (λb ob hb e=>(sb.2 b hb).trans e) f0 f1 f3 f4 f5;obtain⟨oi,e,c,dd⟩:=id CT;refine{_,rfl,sZ (s:={ s with heap:=h' }) e c dd 'd' {.ref p,H,I1,p1,{rfl,p,k,rfl,p2,p3},CT,λb hb=>(hf b hb).1}}
 done:=by
  intro X hP hw hK hc i AG s σ H E I hf st hg;subst hP hw hK;obtain⟨hi,hk⟩:=hg;obtain⟨ho,hx⟩:=I.hok d _ hk;obtain⟨mE,mF,LQ,e1,e2,e3⟩:=nM hx;obtain⟨o',q1,q2,q3⟩:=LQ.ex;rw[ho] at q1;cases q1;rw[hd] at q3;injection q3 with q4 q5;subst q4;subst q5;obtain⟨f0,f1,f2,f3,f4,f5⟩:=hf it 's';exact El (I.ok.hd hc) st LQ (AY (C0 hz) hi) λh' eb=>{rfl,I.turned (t':=s.toks) (λb ob hb e=>eb b ob hb e) f0 f1 f3 f4 f5}
 self:=λ_ _ _ _ _ st h=>QN st h
theorem Inv.freeze(I:Inv X AG σ H s)(ha:H a=AA (.dT kvs)) :
  ∃o,s.heap.get? a=AA o/\Inv X AG σ (D3 H a (.frz o (.dT kvs))) s:=by
 have x:=I.hok a _ ha;obtain⟨es,ep,⟨⟨o,h1,h2,h3⟩,_⟩,_⟩:=nM x;have kt:∀b ys,H b=AA (.tup ys)->b≠a:=λb ys e z=>by rw[z,ha] at e;cases e
 have ko:∀b y,H b=AA (.own y)->b≠a:=λb y e z=>by rw[z,ha] at e;cases e
 have kf:∀b ob u,H b=AA (.frz ob u)->b≠a:=λb ob u e z=>by rw[z,ha] at e;cases e
 have kb:∀b t ps,H b=AA (.tbl t ps)->b≠a:=λb t ps e z=>by rw[z,ha] at e;cases e
 have kn:∀b,H b=AL->b≠a:=λb e z=>by rw[z,ha] at e;cases e
 refine{o,h1,I.un (t':=s.toks) (h':=s.heap) {λb ob e _ _ _=>e,λb ob e _ _ _=>{ob.slots,e},λb ob e n _=>by rw[FH (kn b n)];exact n,λb ob e _=>{ob,e},λb ys e=>by rw[FH (kt b ys e)];exact e,λb ob u e=>by rw[FH (kf b ob u e)];exact e,λb t ps e=>{#[],by rw[FH (kb b t ps e),e];simp}} λb u e=>?_}
 by_cases hb:b=a
 .subst hb
  rw[HJ] at e;cases e;exact{h1,x.stay (λc v _ q=>q) (λc q=>by rw[FH (ko c _ q)];exact q) (λc ys q=>by rw[FH (kt c ys q)];exact q) λc ob x q=>by rw[FH (kf c ob _ q)];exact q}
 .rw[FH hb] at e
  exact(I.hok b u e).stay (λc v _ q=>q) (λc q=>by rw[FH (ko c _ q)];exact q) (λc ys q=>by rw[FH (kt c ys q)];exact q) λc ob x q=>by rw[FH (kf c ob _ q)];exact q
theorem zU9:CallR X (.type "range") (λxs H Q=>∃j:Int,xs=[.int j]/\∀p,H p=AL->Q (.ref p) (D3 H p (.rng 0 j))):=by
 intro AG s σ H xs us Q I r h;obtain⟨j,rfl,q⟩:=h;obtain⟨u,rfl,ru⟩:=YD r;obtain⟨t,rfl⟩:=ru;exact call_range_1 {.ref s.heap.objs.size,_,I.laid (o:=.rng 0 j) (λb o e=>AF _ e) (AM _) {_,_,_,AV _ rfl},rfl,q _ I.fresh}
theorem zQB:∀(n:Nat) (us:List AJ),us.length=n->(∀(i:Nat) v,us[i]?=AA v->∃t,v=M6 (i:Int) t)->Vals ((DL n).map λi:Nat=>V.int (i:Int)) us:=by
 intro n
 induction n with
 |zero=>intro us hl _;have:=List.length_eq_zero_iff.mp hl;subst this;exact .nil
 |succ n ih =>
  intro us hl h
  have e:us=us.take n++[us[n]'(by lia)]:=by
   rw[<-CH 'l',J2 (C0 hl)]
  rw[e,kG,HX];refine Vals.append (ih _ (by rw[GG];lia) λi v hv=>?_) (.cons ?_ .nil)
  .rw[List.getElem?_take] at hv
   split at hv
   .exact h i v hv
   .cases hv
  .obtain⟨t,et⟩:=h n (us[n]'(by lia)) 's'
   exact{t,et}
theorem zJ1(hc:X.calm=AK):CallR X (.type "list") (λxs H Q=>∃(p:AT) (n:Nat),xs=[.ref p]/\H p=AA (.rng 0 (n:Int))/\n<=1000/\∀l,H l=AL->Q (.ref l) (D3 H l (.lst ((DL n).map λi:Nat=>V.int (i:Int))))):=by
 intro AG s σ H xs us Q I r h;obtain⟨p,n,rfl,hp,hn,q⟩:=h;obtain⟨u,rfl,ru⟩:=YD r;cases ru;obtain⟨t,u,v,e⟩:=(show ObjOk X.prog X.w H s.heap p (.rng 0 (n:Int)) from I.hok p _ hp);refine call_list_range (I.ok.hd hc) (show IsRange s.heap p 0 (n:Int) 1 t u v from e) (small_one 'd' 'd' 'l' 'l') (n:=n) (by rw[rangeSize_one];first|lia|(split<;>lia)) (AY hn (DX _ _)) λh' tk BR c k hS hI=>?_;obtain⟨hz,hi⟩:=hI
 have rv:Vals ((DL n).map λi:Nat=>V.int (i:Int)) BR.toList:=zQB n _ (by simpa using hz) λi v hv=>by
  obtain⟨t,et⟩:=hi i v (by rw[<-C3];exact hv);exact{t,by rw[et];simp}
 refine{.ref s.heap.objs.size,_,I.laid (o:=.lst ((DL n).map λi:Nat=>V.int (i:Int))) k (AM _) {?_,BR.toList,c,rv,by simpa using hS},rfl,q _ I.fresh};rw[AI,EU,FZ];exact AY hn (DX _ _)
theorem Tz{Q:Option IF->AS->Prop}(h:Q (s.heap.get? a) s):A1 (A4 prog w) A (j4 a) Q E s:=λΓ p hΓ=>by
 show Sem.wp _ Γ (.loadIfAlive a .pure) _ _ p s;rw[Sem.wp_loadIfAlive];exact(wpAny_pure h:A1 (A4 prog w) A (pure _) Q E s) Γ p hΓ
theorem qR{t:AT}{x:AJ}(k:s.heap.IsTupleIter it t i)(ht:s.heap.IsTuple t items)(hx:items[i]?=AA x)
  (h:∀h',h'.IsTupleIter it t (i+1)->DS it s.heap h'->Q x { s with heap:=h' }):A1 (A4 prog w) A (CJ (.ref it)) Q E s:=by
 obtain⟨o,ho,hc,hd⟩:=id k;obtain⟨ol,Cc,_,nl,Mu⟩:=ht;unfold CJ;refine AB (C9 (name:=EX "__next__") k.typeIs F.slot_tuple_iterator_next (CY F.slot_tuple_iterator_next k.typeIs F.entry_tuple_iterator_next ?_ (F.args_tuple_iterator_next_1 _)));show A1 _ _ (R1 (.ref it) 0 >>= _) _ _ s;refine AB (DC ho hd (x:=.ref t) rfl ?_);show A1 _ _ (if(DP t==GH)=AK then _ else _) _ _ s;rw[if_neg (show ¬((DP t==GH)=AK) from B9)];show A1 _ _ (R1 (.ref it) 1 >>= _) _ _ s;refine AB (DC ho hd (x:=.int i 0) rfl ?_);show A1 _ _ (seqItems? (.ref t) >>= _) _ _ s;refine AB (GU Cc Mu ?_);simp only[MW,hx];refine AB (QM ho hd 's' (wpAny_pure {x,rfl,wpAny_pure (h _ ?_ (GR ..))}));exact{_,OH _ ho (Z3 (ME hd _)),(iC ..).trans hc,by rw[ME hd];simp[E7]}
theorem zR{t:AT}(hh:A.handled=AL)(k:s.heap.IsTupleIter it t i)(ht:s.heap.IsTuple t items)(hx:items[i]?=AL)
  (h:∀h' e,Z6 it s.heap h'->(∃o,h'.get? e=AA o/\o.cls=.type "StopIteration")->E (.ref e) { s with heap:=h' }):A1 (A4 prog w) A (CJ (.ref it)) Q E s:=by
 obtain⟨o,ho,hc,hd⟩:=id k;obtain⟨ol,Cc,_,nl,Mu⟩:=ht;unfold CJ;refine AB (C9 (name:=EX "__next__") k.typeIs F.slot_tuple_iterator_next (CY F.slot_tuple_iterator_next k.typeIs F.entry_tuple_iterator_next ?_ (F.args_tuple_iterator_next_1 _)));show A1 _ _ (R1 (.ref it) 0 >>= _) _ _ s;refine AB (DC ho hd (x:=.ref t) rfl ?_);show A1 _ _ (if(DP t==GH)=AK then _ else _) _ _ s;rw[if_neg (show ¬((DP t==GH)=AK) from B9)];show A1 _ _ (R1 (.ref it) 1 >>= _) _ _ s;refine AB (DC ho hd (x:=.int i 0) rfl ?_);show A1 _ _ (seqItems? (.ref t) >>= _) _ _ s;refine AB (GU Cc Mu ?_);simp only[MW,hx];refine AB (FC (AB (QM ho hd 's' ?_)));show A1 _ _ (newExc (.type "StopIteration") [] >>= _) _ _ _;refine AB ?_;simp only[newExc,newTuple];refine AB (C8 ?_ (by size_fits));refine AB (m:=QR _ _) (jY (a:=GH) (by first|rfl|(simp only[QR];rfl)) (C8 ?_ (by size_fits)));simp only[raiseNew];refine AB (wpAny_handled ?_)
 first|rw[show A.in1.handled=AL from hh]|rw[hh]
 exact AB (wpAny_pure (wpAny_throw (h _ _ (((GR ..).extBut.push _).push _) {_,AV _ rfl,rfl})))
structure ZipSt(h:D7)(n l1 l2:AT)(i:Nat):Prop where
 zo:∃f0 f1,h.get? (n+4)=AA { cls:=.type "zip",dict:=AL,data:=.fields #[f0,.bool f1,.bool AC,.ref (n+2),.ref (n+3)],slots:=#[] }/\(f0=.none\/∃T:Nat,f0=E7 T)
 ti:KR h (n+2) (.ref n) (.ref (n+1))
 to:∃a b,KR h (n+3) a b
 k1:h.IsTupleIter n l1 i
 k2:h.IsTupleIter (n+1) l2 i
theorem tO{t:AT}(x:h.IsTupleIter it t i)(k:∀o,h.get? it=AA o->h'.get? it=AA o):h'.IsTupleIter it t i:=let ⟨o,e,r⟩:=x;{o,k o e,r}
theorem Oy{t:AT}{CK:Array AJ}(x:h.IsTuple t CK)(k:∀o,h.get? t=AA o->h'.get? t=AA o):h'.IsTuple t CK:=let ⟨o,e,r⟩:=x;{o,k o e,r}
theorem ZipSt.keep{n:AT}(z:ZipSt h n l1 l2 i)(k:∀b∈[n,n+1,n+2,n+3,n+4],∀o,h.get? b=AA o->h'.get? b=AA o):ZipSt h' n l1 l2 i:=by
 obtain⟨f0,f1,e,r⟩:=z.zo;obtain⟨a,b,to⟩:=z.to;exact{{f0,f1,k _ 's' _ e,r},k _ 's' _ z.ti,{a,b,k _ 's' _ to},tO z.k1 (k _ 's'),tO z.k2 (k _ 's')}
def Ek(n:AT)(h h':D7):Prop:=∀c o,c≠n->c≠n+1->c≠n+3->c≠n+4->h.get? c=AA o->h'.get? c=AA o
abbrev gQ(h:D7)(n:AT)(f0:AJ)(f1:Bool):Prop:=h.get? (n+4)=AA { cls:=.type "zip",dict:=AL,data:=.fields #[f0,.bool f1,.bool AC,.ref (n+2),.ref (n+3)],slots:=#[] }
def F0(f0:AJ):Prop:=f0=.none\/∃T:Nat,f0=E7 T
theorem lF(a:AT)(h:D7):DS a h h:={rfl,λ_ _=>rfl}
theorem Uu{n:AT}{f0:AJ}{f1:Bool}{Q:Bool->AS->Prop}(hz:gQ s.heap n f0 f1)(hf:F0 f0)
  (h:∀b h' f1,gQ h' n f0 f1->DS (n+4) s.heap h'->Q b { s with heap:=h' }):A1 (A4 prog w) A (C1 (.ref (n+4))) Q E s:=by
 unfold C1;rcases hf with rfl|⟨T,rfl⟩
 .exact AB (DC hz rfl (x:=.none) rfl (wpAny_pure (h AK s.heap f1 hz (lF _ _))))
 .refine AB (DC hz rfl (x:=E7 T) rfl ?_)
  show A1 _ _ (j4 (T:Int).toNat >>= _) _ _ _;refine AB (Tz ?_)
  cases e:(s.heap.get? (T:Int).toNat).isNone with
  |true=>exact wpAny_pure (h AK s.heap f1 hz (lF _ _))
  |false =>
   simp only[EA,if_false];refine AB (DC hz rfl (x:=.bool f1) rfl ?_)
   cases f1 with
   |true =>
    exact wpAny_pure (h AC s.heap AK hz (lF _ _))
   |false =>
    show A1 _ _ (OK (.ref (n+4)) 1 (.bool AK) >>= _) _ _ _;exact AB (CW hz 's' λh' oU Q2=>wpAny_pure (h AC h' AK oU Q2))
def uK(n l:AT):Prop:=l≠n/\l≠n+1/\l≠n+3/\l≠n+4
theorem YE{t:AT}{CK:Array AJ}(k:h.IsTuple t CK)(hs:DS a h h')(ne:t≠a):h'.IsTuple t CK:=Oy k λo e=>hs.extBut _ _ ne e
theorem TV{t:AT}(k:h.IsTupleIter t l i)(hs:DS a h h')(ne:t≠a):h'.IsTupleIter t l i:=tO k λo e=>hs.extBut _ _ ne e
theorem aC(h:j≠k):n+j≠n+k:=by lia
theorem gH(h:k≠0):n≠n+k:=by lia
theorem zVA{n:AT}{xs ys:Array AJ}{x y:AJ}{Q:Option AJ->AS->Prop}(z:ZipSt s.heap n l1 l2 i)(o1:uK n l1)(o2:uK n l2)
  (eM:s.heap.IsTuple l1 xs) (bY:s.heap.IsTuple l2 ys) (hx:xs[i]?=AA x) (hy:ys[i]?=AA y)
  (hQ:∀h',ZipSt h' n l1 l2 (i+1)->KR h' s.heap.objs.size x y->h'.objs.size=s.heap.objs.size+1->Ek n s.heap h'->Q (AA (.ref s.heap.objs.size)) { s with heap:=h' }) :
  A1 (A4 prog w) A (J8 (.ref (n+4))) Q E s:=by
 obtain⟨f0,f1,hz,hf⟩:=z.zo;obtain⟨a,b,sP⟩:=z.to;have sQ:=z.ti;have k1:=z.k1;have k2:=z.k2;obtain⟨p1,p2,p3,p4⟩:=o1;obtain⟨q1,q2,q3,q4⟩:=o2;have hT:s.TypeIs (.ref (n+4)) "zip":={_,hz,rfl};have hG:n+3≠n+4:=aC 'd';have xO:n+2≠n+4:=aC 'd';have eU:n+1≠n+4:=aC 'd';have eV:n≠n+4:=gH 'd';have mJ:n+1≠n+3:=aC 'd';have sT:n≠n+3:=gH 'd';have aQ:n≠n+1:=gH 'd';have d23:n+2≠n+3:=aC 'd';have Cn:n+2≠n+1:=aC 'd';have Co:n+2≠n:=(gH 'd').symm;unfold J8;refine AB (GQ (C9 (name:=EX "__next__") hT F.slot_zip_next (CY F.slot_zip_next hT F.entry_zip_next ?_ (F.args_zip_next_1 _))));show A1 _ _ (R1 (.ref (n+4)) 2 >>= _) _ _ _;refine AB (DC hz rfl (x:=.bool AC) rfl ?_);show A1 _ _ (R1 (.ref (n+4)) 3 >>= _) _ _ _;refine AB (DC hz rfl (x:=.ref (n+2)) rfl ?_);refine AB (GU sQ rfl ?_);show A1 _ _ (C1 (.ref (n+4)) >>= _) _ _ _;refine AB (Uu hz hf λfr h₀ g1 UY JG=>?_);have YT:KR h₀ (n+3) a b:=JG.extBut _ _ hG sP;have SO:=TV k1 JG eV;have XE:=TV k2 JG eU;have SM:=YE eM JG p4;have XC:=YE bY JG q4;have hTI₀:KR h₀ (n+2) (.ref n) (.ref (n+1)):=JG.extBut _ _ xO sQ
 cases fr with
 |true =>
  simp only[if_true];refine AB (FC ?_);refine AB (DC UY rfl (x:=.ref (n+3)) rfl ?_);refine AB (CW UY 's' λJN Q0 KE=>?_);replace Q0:gQ JN n .ellipsis g1:=Q0;refine AB ?_;simp only[KJ,kF,OB,OS];refine AB (AB (N6 ?_));show A1 _ _ (CJ (.ref n) >>= _) _ _ _;refine AB (qR (TV SO KE eV) (YE SM KE p4) hx λML XF G6=>wpAny_pure ?_);have SV:KR ML (n+3) a b:=G6.extBut _ _ sT.symm (KE.extBut _ _ hG YT);refine AB (GU SV rfl ?_);refine AB (QL SV λOX V3 LY=>?_);replace V3:KR OX (n+3) x b:=V3;refine AB (QO (wpAny_pure ?_));refine AB (AB (N6 ?_));show A1 _ _ (CJ (.ref (n+1)) >>= _) _ _ _;refine AB (qR (TV (TV (TV XE KE eU) G6 aQ.symm) LY mJ) (YE (YE (YE XC KE q4) G6 q1) LY q3) hy λNZ dR LB=>wpAny_pure ?_);have eT:KR NZ (n+3) x b:=LB.extBut _ _ mJ.symm V3;refine AB (GU eT rfl ?_);refine AB (QL eT λLA V2 Q1=>?_);replace V2:KR LA (n+3) x y:=V2;refine AB (QO (wpAny_pure (wpAny_pure ?_)));refine AB (GU V2 rfl ?_);refine AB (M3 ?_);have hsz:LA.objs.size=s.heap.objs.size:=by rw[Q1.1,LB.1,LY.1,G6.1,KE.1,JG.1]
  have lR:gQ LA n .ellipsis g1:=Q1.extBut _ _ hG.symm (LB.extBut _ _ eU.symm (LY.extBut _ _ hG.symm (G6.extBut _ _ eV.symm Q0)))
  have lY:∀c o,c≠n+4->c≠n+3->c≠n->c≠n+1->s.heap.get? c=AA o->LA.get? c=AA o:=λc o c1 c2 c3 c4 e =>
   Q1.extBut _ _ c2 (LB.extBut _ _ c4 (LY.extBut _ _ c2 (G6.extBut _ _ c3 (KE.extBut _ _ c1 (JG.extBut _ _ c1 e)))))
  have wG:LA.IsTupleIter n l1 (i+1):=TV (TV (TV XF LY sT) LB aQ) Q1 sT;have wF:LA.IsTupleIter (n+1) l2 (i+1):=TV dR Q1 mJ;have wI:n+4<LA.objs.size:=A5 lR;show A1 _ _ (HN (.ref (n+4)) (.ref LA.objs.size) >>= _) _ _ _;refine AB ?_;unfold HN;have wH:gQ (LA.push { cls:=.type "tuple",data:=.seq #[x,y] }) n .ellipsis g1:=AF _ lR;refine AB (CW wH 's' λdU dX eC=>?_);replace dX:gQ dU n (E7 LA.objs.size) g1:=dX;refine CW dX 's' λSQ dW eA=>?_;replace dW:gQ SQ n (E7 LA.objs.size) AC:=dW;have up:∀c o,c≠n+4->LA.get? c=AA o->SQ.get? c=AA o:=λc o c1 e=>eA.extBut _ _ c1 (eC.extBut _ _ c1 (AF _ e));have l9:KR SQ LA.objs.size x y:=eA.extBut _ _ (EY wI) (eC.extBut _ _ (EY wI) (AV _ rfl));have Zr:SQ.objs.size=LA.objs.size+1:=by rw[eA.1,eC.1,FI]
  have zs:ZipSt SQ n l1 l2 (i+1):={{_,_,dW,.inr {_,rfl}},up _ _ xO (lY _ _ xO d23 Co Cn sQ),{x,y,up _ _ hG V2},tO wG λo e=>up _ o eV e,tO wF λo e=>up _ o eU e};rw[hsz] at l9 Zr;refine wpAny_pure {_,rfl,wpAny_pure ?_};show Q (AA (.ref LA.objs.size)) _;rw[hsz];exact hQ SQ zs l9 Zr λc o c1 c2 c3 c4 e=>up c o c4 (lY c o c4 c3 c1 c2 e)
 |false =>
  simp only[EA,if_false];refine AB ?_;rw[<-LX];simp only[OB,OS];refine AB (AB (CS ?_));show A1 _ _ (CJ (.ref n) >>= _) _ _ _;refine AB (qR SO SM hx λML XF G6=>wpAny_pure (wpAny_pure ?_));refine AB (AB (CS ?_));show A1 _ _ (CJ (.ref (n+1)) >>= _) _ _ _;refine AB (qR (TV XE G6 aQ.symm) (YE XC G6 q1) hy λNZ dR LB=>wpAny_pure (wpAny_pure (wpAny_pure ?_)));refine AB (M3 (items:=[x,y]) ?_);have hsz:NZ.objs.size=s.heap.objs.size:=by rw[LB.1,G6.1,JG.1]
  have eN:∀c o,c≠n+4->c≠n->c≠n+1->s.heap.get? c=AA o->NZ.get? c=AA o:=λc o c1 c3 c4 e=>LB.extBut _ _ c4 (G6.extBut _ _ c3 (JG.extBut _ _ c1 e))
  have zs:ZipSt (NZ.push { cls:=.type "tuple",data:=.seq #[x,y] }) n l1 l2 (i+1):=ZipSt.keep (h:=NZ) {{f0,g1,LB.extBut _ _ eU.symm (G6.extBut _ _ eV.symm UY),hf},eN _ _ xO Co Cn sQ,{a,b,eN _ _ hG sT.symm mJ.symm sP},TV XF LB aQ,dR}
   λb _ o e=>AF _ e
  refine wpAny_pure {_,rfl,wpAny_pure ?_};show Q (AA (.ref NZ.objs.size)) _;have hP:KR (NZ.push { cls:=.type "tuple",data:=.seq #[x,y] }) NZ.objs.size x y:=AV _ rfl;have Q2:(NZ.push { cls:=.type "tuple",data:=.seq #[x,y] }).objs.size=NZ.objs.size+1:=FI ..;rw[hsz] at hP Q2 ⊢;exact hQ _ zs hP Q2 λc o c1 c2 c3 c4 e=>AF _ (eN c o c4 c1 c2 e)
theorem zY8{n:AT}{xs ys:Array AJ}{Q:Option AJ->AS->Prop}(hh:A.handled=AL)(z:ZipSt s.heap n l1 l2 i)(o1:uK n l1)(o2:uK n l2)
  (eM:s.heap.IsTuple l1 xs) (bY:s.heap.IsTuple l2 ys) (jU:xs[i]?=AL\/ys[i]?=AL)
  (hQ:∀h',Ek n s.heap h'->Q AL { s with heap:=h' }):A1 (A4 prog w) A (J8 (.ref (n+4))) Q E s:=by
 obtain⟨f0,f1,hz,hf⟩:=z.zo;obtain⟨a,b,sP⟩:=z.to;have sQ:=z.ti;have k1:=z.k1;have k2:=z.k2;obtain⟨p1,p2,p3,p4⟩:=o1;obtain⟨q1,q2,q3,q4⟩:=o2;have hT:s.TypeIs (.ref (n+4)) "zip":={_,hz,rfl};have hG:n+3≠n+4:=aC 'd';have xO:n+2≠n+4:=aC 'd';have eU:n+1≠n+4:=aC 'd';have eV:n≠n+4:=gH 'd';have mJ:n+1≠n+3:=aC 'd';have sT:n≠n+3:=gH 'd';have aQ:n≠n+1:=gH 'd'
 have fin:∀{h':D7} {e:AT},(∃o,h'.get? e=AA o/\o.cls=.type "StopIteration")->Ek n s.heap h' ->
   A1 (A4 prog w) A (isInstance (.ref e) (.type "StopIteration") >>= λb=>if b=AK then pure AL else throw (.ref e)) Q E { s with heap:=h' }:=λ{h' e} he hk=>by
  obtain⟨o,ho,hc⟩:=he;exact AB (V6 (T:="StopIteration") (b:=AK) {o,ho,hc} Y0 (wpAny_pure (hQ _ hk)))
 unfold J8;refine AB (GQ (C9 (name:=EX "__next__") hT F.slot_zip_next (CY F.slot_zip_next hT F.entry_zip_next ?_ (F.args_zip_next_1 _))));show A1 _ _ (R1 (.ref (n+4)) 2 >>= _) _ _ _;refine AB (DC hz rfl (x:=.bool AC) rfl ?_);show A1 _ _ (R1 (.ref (n+4)) 3 >>= _) _ _ _;refine AB (DC hz rfl (x:=.ref (n+2)) rfl ?_);refine AB (GU sQ rfl ?_);show A1 _ _ (C1 (.ref (n+4)) >>= _) _ _ _;refine AB (Uu hz hf λfr h₀ g1 UY JG=>?_);have YT:KR h₀ (n+3) a b:=JG.extBut _ _ hG sP;have SO:=TV k1 JG eV;have XE:=TV k2 JG eU;have SM:=YE eM JG p4;have XC:=YE bY JG q4
 cases fr with
 |true =>
  simp only[if_true];refine AB (FC ?_);refine AB (DC UY rfl (x:=.ref (n+3)) rfl ?_);refine AB (CW UY 's' λJN Q0 KE=>?_);replace Q0:gQ JN n .ellipsis g1:=Q0;refine AB ?_;simp only[KJ,kF,OB,OS];refine AB (AB (N6 ?_));show A1 _ _ (CJ (.ref n) >>= _) _ _ _
  cases hx:xs[i]? with
  |none =>
   refine AB (zR hh (TV SO KE eV) (YE SM KE p4) hx λML e G6 he=>?_);obtain⟨oe,pC,xH⟩:=he;have lT:gQ ML n .ellipsis g1:=G6 _ _ eV.symm Q0;have Mo:e≠n+4:=λx=>by subst x;rw[lT] at pC;cases pC;simp at xH
   exact CW lT 's' λOX _ LY=>fin {oe,LY.extBut _ _ Mo pC,xH} λc o c1 c2 c3 c4 x=>LY.extBut _ _ c4 (G6 _ _ c1 (KE.extBut _ _ c4 (JG.extBut _ _ c4 x)))
  |some x =>
   have hy:ys[i]?=AL:=by rcases jU with h|h;rw[hx] at h;cases h;exact h
   refine AB (qR (TV SO KE eV) (YE SM KE p4) hx λML XF G6=>wpAny_pure ?_);have SV:KR ML (n+3) a b:=G6.extBut _ _ sT.symm (KE.extBut _ _ hG YT);refine AB (GU SV rfl ?_);refine AB (QL SV λOX V3 LY=>?_);refine AB (QO (wpAny_pure ?_));refine AB (AB (N6 ?_));show A1 _ _ (CJ (.ref (n+1)) >>= _) _ _ _;refine AB (zR hh (TV (TV (TV XE KE eU) G6 aQ.symm) LY mJ) (YE (YE (YE XC KE q4) G6 q1) LY q3) hy λNZ e LB he=>?_);obtain⟨oe,pC,xH⟩:=he;have lS:gQ NZ n .ellipsis g1:=LB _ _ eU.symm (LY.extBut _ _ hG.symm (G6.extBut _ _ eV.symm Q0));have Mo:e≠n+4:=λx=>by subst x;rw[lS] at pC;cases pC;simp at xH
   exact CW lS 's' λLA _ Q1=>fin {oe,Q1.extBut _ _ Mo pC,xH} λc o c1 c2 c3 c4 x=>Q1.extBut _ _ c4 (LB _ _ c2 (LY.extBut _ _ c3 (G6.extBut _ _ c1 (KE.extBut _ _ c4 (JG.extBut _ _ c4 x)))))
 |false =>
  simp only[EA,if_false];refine AB ?_;rw[<-LX];simp only[OB,OS];refine AB (AB (CS ?_));show A1 _ _ (CJ (.ref n) >>= _) _ _ _
  cases hx:xs[i]? with
  |none =>
   refine AB (zR hh SO SM hx λML e G6 he=>?_);exact fin he λc o c1 c2 c3 c4 x=>G6 _ _ c1 (JG.extBut _ _ c4 x)
  |some x =>
   have hy:ys[i]?=AL:=by rcases jU with h|h;rw[hx] at h;cases h;exact h
   refine AB (qR SO SM hx λML XF G6=>wpAny_pure (wpAny_pure ?_));refine AB (AB (CS ?_));show A1 _ _ (CJ (.ref (n+1)) >>= _) _ _ _;refine AB (zR hh (TV XE G6 aQ.symm) (YE XC G6 q1) hy λNZ e LB he=>?_);exact fin he λc o c1 c2 c3 c4 x=>LB _ _ c2 (G6.extBut _ _ c1 (JG.extBut _ _ c4 x))
theorem Inv.turnedL(I:Inv X AG σ H s)(hf:∀b∈fp,FpOk X AG H b)(k:∀b o,b∉fp->s.heap.get? b=AA o->h'.get? b=AA o):Inv X AG σ H { s with heap:=h',toks:=t' }:=by
 have vZ:∀b u,H b=AA u->b∉fp:=λb u e z=>by rw[(hf b z).1] at e;cases e
 refine I.step (g':=s.gens) (d':=s.drawn) (ch:=fp) (λb hb=>?_) (λb o _ _ hc e _=>k b o hc e) (λb o _ _ hc e _=>{o.slots,k b o hc e}) (λ_ _ _ _ n=>n)
  (λb o hc e=>{o,k b o hc e}) (λ_ _ e=>e) (λ_ _ _ e=>e) (λb t ps e=>{#[],by rw[e];simp}) (λm hm=>?_) (λb u e=>?_) I.bare
 .obtain⟨f0,f1,f2,f3,f4,f5⟩:=hf b hb
  exact{f3,f1,f4,f5}
 .obtain⟨o,es,ep,ho,r⟩:=hm
  exact{o,es,ep,k _ o (λz=>(hf _ z).2.1 rfl) ho,r}
 .refine(I.hok b u e).stay (λc v hc q=>k c v ?_ q) (λ_ q=>q) (λ_ _ q=>q) λ_ _ _ q=>q
  rcases hc with z|z
  .rw[z];exact vZ b u e
  .exact vZ c _ z
theorem FpOk.off(I:Inv X AG σ H s)(hf:∀b∈fp,FpOk X AG H b)(h:SqT X.K H a xs):a∉fp:=λz=>by
 obtain⟨f0,f1,f2,f3,f4,f5⟩:=hf a z;rcases h with h|⟨o,CK,n,hk,_⟩
 .rcases h with h|⟨o,h⟩
  .rw[f0] at h;cases h
  .rw[f0] at h;cases h
 .have hb:=I.ok.mod.kin a o hk
  rcases f3 with f3|f3
  .exact I.ok.noex a o hb f3
  .exact absurd (AN (A5 hb) I.ok.bsz) (WD.mpr f3)
theorem yC4{n:AT}{Q:Unit → AS → Prop}(z : ZipSt s.heap n l1 l2 i)(h : ∀ h', ZipSt h' n l1 l2 i → DS (n + 4) s.heap h' → Q () { s with heap := h' }) :
    A1 (A4 prog w) A (FP tg (.ref (n + 4)) u) Q E s := by
  have hz := h s.heap z (lF _ _);obtain ⟨f0, f1, e, hf⟩ := id z.zo;unfold FP
  cases tg <;> first
    | exact wpAny_pure hz
    | (cases u <;> first
        | exact wpAny_pure hz
        | (
          refine AB (YY e ?_);dsimp only;split
          · refine AB (FC ?_)
            show A1 _ _ (OK (.ref (n + 4)) 0 .none) Q E s;refine CW e 's' fun h' oU Q2 => h h' ?_ Q2
            obtain ⟨a, b, sP⟩ := z.to;exact {{.none, f1, oU, .inl rfl}, Q2.extBut _ _ (aC 'd') z.ti, {a, b, Q2.extBut _ _ (aC 'd') sP}, TV z.k1 Q2 (gH 'd'), TV z.k2 Q2 (aC 'd')}
          · exact wpAny_pure hz))
theorem Ss{n:AT}(z:ZipSt s.heap n l1 l2 i)(h:Q (.ref (n+4)) s):A1 (A4 prog w) A (N8 (.ref (n+4))) Q E s:=by
 obtain⟨f0,f1,e,hf⟩:=z.zo;have hT:s.TypeIs (.ref (n+4)) "zip":={_,e,rfl};refine NS hT F.slot_zip_iter (CY F.slot_zip_iter hT F.entry_zip_iter ?_ (F.args_zip_iter_1 _));show A1 _ _ (ret (.ref (n+4))) _ _ s;exact wpAny_pure {_,rfl,"zip",_,hT,F.slot_zip_next.lookup,h}
noncomputable abbrev zW(h:D7)(l1:AT):D7:=h.push { cls:=.type "tuple_iterator",data:=.fields #[.ref l1,.int 0 0] }
abbrev zV(h:D7)(l1 l2:AT):D7:=(zW h l1).push { cls:=.type "tuple_iterator",data:=.fields #[.ref l2,.int 0 0] }
abbrev zU(h:D7)(l1 l2:AT):D7:=(zV h l1 l2).push { cls:=.type "tuple",data:=.seq #[.ref h.objs.size,.ref (zW h l1).objs.size] }
abbrev zT(h:D7)(l1 l2:AT):D7:=(zU h l1 l2).push { cls:=.type "tuple",data:=.seq #[.none,.none] }
abbrev nO(h:D7)(l1 l2:AT):D7:=(zT h l1 l2).push { cls:=.type "zip",data:=.fields #[.none,.bool AC,.bool AC,.ref (zV h l1 l2).objs.size,.ref (zU h l1 l2).objs.size] }
theorem zQC(l1 l2:AT)(xs ys:Array AJ) :
  Meets (EF.«zip.__new__» {[.type "zip",.ref l1,.ref l2],[]}) (λ_ R s=>s.heap.IsTuple l1 xs/\s.heap.IsTuple l2 ys /\
   R (.ok (.ret (.ref (zT s.heap l1 l2).objs.size))) { s with heap:=nO s.heap l1 l2 }) :=
 .of_wp λprog w A R s h=>by
  obtain⟨hp,g,d,tk,os⟩:=s;obtain⟨eM,bY,h⟩:=h;have jO:=sub_zip;have hL1:Heap.IsTuple (X3 {hp,g,d,tk,os}) l1 xs:=eM;have hL2:Heap.IsTuple (X3 {hp.push { cls:=.type "tuple_iterator",data:=.fields #[.ref l1,.int 0 0] },g,d,tk,os}) l2 ys:=Oy bY λo e=>AF _ e
  wp_walk using SZ hL1,SZ hL2
  exact{_,rfl,h}
theorem zR6{xs ys:Array AJ}(eM:s.heap.IsTuple l1 xs)(bY:s.heap.IsTuple l2 ys)
  (h:∀h',ZipSt h' s.heap.objs.size l1 l2 0->h'.objs.size=s.heap.objs.size+5->(∀c o,s.heap.get? c=AA o->h'.get? c=AA o)->Q (.ref (s.heap.objs.size+4)) { s with heap:=h' }) :
  A1 (A4 prog w) A (call (.type "zip") [.ref l1,.ref l2]) Q E s:=by
 refine callType_new F.called_zip 'd' (F.typeCall_zip_2 _ _) (F.newCall_zip_2 _ _) (λobj=>F.args_object_init_3 obj _ _) F.entry_zip_new
  (zQC l1 l2 xs ys) {eM,bY,?_}
 have z1:(zW s.heap l1).objs.size=s.heap.objs.size+1:=FI ..;have z2:(zV s.heap l1 l2).objs.size=s.heap.objs.size+2:=by rw[FI,z1]
 have z3:(zU s.heap l1 l2).objs.size=s.heap.objs.size+3:=by rw[FI,z2]
 have z4:(zT s.heap l1 l2).objs.size=s.heap.objs.size+4:=by rw[FI,z3]
 have z5:(nO s.heap l1 l2).objs.size=s.heap.objs.size+5:=by rw[FI,z4]
 have g5:(nO s.heap l1 l2).get? (zT s.heap l1 l2).objs.size=AA _:=AV _ rfl;have g4:(nO s.heap l1 l2).get? (zU s.heap l1 l2).objs.size=AA _:=AF _ (AV _ rfl);have g3:(nO s.heap l1 l2).get? (zV s.heap l1 l2).objs.size=AA _:=AF _ (AF _ (AV _ rfl));have g2:(nO s.heap l1 l2).get? (zW s.heap l1).objs.size=AA _:=AF _ (AF _ (AF _ (AV _ rfl)));have g1:(nO s.heap l1 l2).get? s.heap.objs.size=AA _:=AF _ (AF _ (AF _ (AF _ (AV _ rfl))));show _/\_;rw[z2,z3,z4] at g5;rw[z1,z2] at g3;rw[z3] at g4;rw[z1] at g2;rw[z4]
 exact{{_,g5,rfl},h _ {{.none,AC,g5,.inl rfl},g3,{_,_,g4},{_,g1,rfl,rfl},{_,g2,rfl,rfl}} z5 λc o x =>
  AF _ (AF _ (AF _ (AF _ (AF _ x))))}
def Yo(K:AD)(a b:AT):It :=
 {λi H=>∃xs ys x y,SqT K H a xs/\SqT K H b ys/\xs[i]?=AA x/\ys[i]?=AA y,
  λi H v H'=>∃p x y,v=.ref p/\H p=AL/\H'=D3 H p (.tup [x,y])/\(∀xs,SqT K H a xs->xs[i]?=AA x)/\(∀ys,SqT K H b ys->ys[i]?=AA y),
  λi H=>∃xs ys,SqT K H a xs/\SqT K H b ys/\(xs.length<=i\/ys.length<=i)}
abbrev jC(n:AT):List AT:=[n,n+1,n+2,n+3,n+4]
theorem lt5{c S:Nat}(h:c∈[n,n+1,n+2,n+3,n+4])(KZ:n+4<S):c<S:=by
 simp only[A7,BZ,or_false] at h;lia
theorem Yh{c:Nat}(h:c∈[n,n+1,n+2,n+3,n+4]):n<=c:=by
 simp only[A7,BZ,or_false] at h;lia
theorem rV{n:AT}(h:a∉jC n):uK n a:=by
 simp only[jC,A7,BZ,or_false,not_or] at h;exact{h.1,h.2.1,h.2.2.2.1,h.2.2.2.2}
theorem zVB{K:AD}(a b n:AT):Turn P w K tg (Yo K a b) (jC n) (n+4) (λi h=>ZipSt h n a b i) where
 mem:=by simp
 obj:=λi h st c hc=>by
  obtain⟨f0,f1,e,_⟩:=st.zo;obtain⟨u,v,e3⟩:=st.to;obtain⟨o0,e0,_,d0⟩:=st.k1;obtain⟨o1,e1,_,d1⟩:=st.k2;simp only[jC,A7,BZ,or_false] at hc;rcases hc with rfl|rfl|rfl|rfl|rfl
  .exact{_,e0,λv z=>by rw[d0] at z;cases z}
  .exact{_,e1,λv z=>by rw[d1] at z;cases z}
  .exact{_,st.ti,λv z=>by have z':mS _ _=SD v:=z;cases z'}
  .exact{_,e3,λv z=>by have z':mS _ _=SD v:=z;cases z'}
  .exact{_,e,λv z=>by have z':TH _=SD v:=z;cases z'}
 keep:=λi h h' st k=>st.keep k
 item:=by
  intro X hP hw hK hc i AG s σ H E I hf st hg;subst hP hw hK;obtain⟨xs,ys,x,y,X2,bX,hx,hy⟩:=hg;obtain⟨YM,vG,p1,sI⟩:=I.tuple X2;obtain⟨LR,dM,p2,aK⟩:=I.tuple bX;obtain⟨u1,wN,ru1⟩:=vG.get hx;obtain⟨u2,hu2,ru2⟩:=dM.get hy;refine zVA st (rV (FpOk.off I hf X2)) (rV (FpOk.off I hf bX)) (show s.heap.IsTuple a YM.toArray from p1) (show s.heap.IsTuple b LR.toArray from p2) (x:=u1) (y:=u2) (by simpa using wN) (by simpa using hu2) λh' CT hp hsz hk=>?_;refine{_,rfl,yC4 (s:={ s with heap:=h' }) CT λh2 st2 MZ=>?_};obtain⟨f0,f1,e4,_⟩:=id st.zo;have KZ:∀c∈jC n,c<s.heap.objs.size:=λc hc=>lt5 hc (A5 e4);have nin:s.heap.objs.size∉jC n:=λz=>GE _ (KZ _ z)
  have I1:Inv X AG σ (D3 H s.heap.objs.size (.tup [x,y])) { s with heap:=s.heap.push { cls:=.type "tuple",data:=.seq #[u1,u2] } } :=
   I.laid (t':=s.toks) (λb u e=>AF _ e) (AM _) {by show 2<=sizeLine;decide,[u1,u2],.cons ru1 (.cons ru2 .nil),{_,AV _ rfl,rfl,rfl,0,rfl}}
  have xB:∀c∈jC n,FpOk X AG (D3 H s.heap.objs.size (.tup [x,y])) c:=λc hc=>{by rw[FH (BM (KZ c hc))];exact(hf c hc).1,(hf c hc).2};have n4:n+4∈jC n:=by simp
  have I2:Inv X AG σ (D3 H s.heap.objs.size (.tup [x,y])) { s with heap:=h2 }:=I1.turnedL (t':=s.toks) xB λc o hc e=>by
   have c4:c≠n+4:=λz=>hc (by rw[z];exact n4);refine MZ.extBut _ _ c4 ?_
   by_cases ZX:c=s.heap.objs.size
   .subst ZX
    rw[AV _ rfl] at e;cases e;exact hp
   .have e':s.heap.get? c=AA o:=by
     rw[MT _ _ _ ZX] at e;exact e
    obtain⟨q0,q1,q3,q4⟩:=rV hc;exact hk c o q0 q1 q3 q4 e'
  exact{.ref s.heap.objs.size,_,I2,rfl,{_,x,y,rfl,I.fresh,rfl,λzs hz=>by rw[I.tuple_inj hz X2];exact hx,λzs hz=>by rw[I.tuple_inj hz bX];exact hy},st2,λc hc=>(xB c hc).1}
 done:=by
  intro X hP hw hK hc i AG s σ H E I hf st hg;subst hP hw hK;obtain⟨xs,ys,X2,bX,hx⟩:=hg;obtain⟨YM,vG,p1,sI⟩:=I.tuple X2;obtain⟨LR,dM,p2,aK⟩:=I.tuple bX;have l1:=vG.length;have l2:=dM.length;refine zY8 (I.ok.hd hc) st (rV (FpOk.off I hf X2)) (rV (FpOk.off I hf bX)) (show s.heap.IsTuple a YM.toArray from p1) (show s.heap.IsTuple b LR.toArray from p2) (hx.imp (λh=>by simp;lia) (λh=>by simp;lia)) λh' hk=>{rfl,I.turnedL (t':=s.toks) hf λc o hc e=>?_};obtain⟨q0,q1,q3,q4⟩:=rV hc;exact hk c o q0 q1 q3 q4 e
 self:=λ_ _ _ _ _ st h=>Ss st h
def yIN(K:AD)(ta:TA):TI:=λσ H R=>ta σ H λvs H1=>∃a b,vs=[.ref a,.ref b]/\(∃xs,SqT K H1 a xs)/\(∃ys,SqT K H1 b ys)/\R (Yo K a b) H1
theorem yC5{a b:DA}{ta:TA}(hg:Gl X "zip")(hm:X.mg "zip"=AL)(ha:PA X [a,b] ta)(hs:AO [a,b] X.env=[(AC,eval a X.env),(AC,eval b X.env)]:=by rfl)(MZ:AO [b] X.env=[(AC,eval b X.env)]:=by rfl) :
  PI X tg (.Call (.Name "zip" p) [a,b] [] pos) (yIN X.K ta):=by
 intro AG s σ H R I h;refine Call_ (lA I hg hm (u:=.type "zip") (by decide +kernel) (FS (G4 (ha pos AG s σ H _ I h) λus s1 ⟨vs,H1,I1,r1,q1⟩=>?_) (by rw[hs,MZ]) (by rw[MZ];rfl)));obtain⟨c,d,e,⟨xs,X2⟩,⟨ys,bX⟩,q⟩:=q1;subst e
 cases r1 with
 |cons r rr =>
  cases rr with
  |cons r' rr =>
   cases rr;cases r;cases r';obtain⟨YM,vG,p1,sI⟩:=I1.tuple X2;obtain⟨LR,dM,p2,aK⟩:=I1.tuple bX;refine zR6 (show s1.heap.IsTuple c YM.toArray from p1) (show s1.heap.IsTuple d LR.toArray from p2) λh' st hsz k=>?_;refine Ss (s:={ s1 with heap:=h' }) st ?_;refine{s1.heap.objs.size+4,jC s1.heap.objs.size,_,_,H1,rfl,I1.kept (t':=s1.toks) k,zVB c d _,st,λb hb=>?_,q};exact I1.fpOk (Yh hb) (I1.hok.fresh (Yh hb))
mutual
inductive DV(K:AD)(H:Hp):V->G9->Prop
 |non:DV K H .non .none
 |bl (b:Bool):DV K H (.bl b) (.bool b)
 |int (i:Int):DV K H (.int i) (.int i)
 |str (x:C2):LN (.str x)=AK->DV K H (.str x) (.str x)
 |tup {a:AT} {xs:List V} {ds:List G9}:SqT K H a xs->DVs K H xs ds->DV K H (.ref a) (.tuple ds)
 |lst {a:AT} {xs:List V} {ds:List G9}:SqL K H a xs->DVs K H xs ds->DV K H (.ref a) (.list ds)
inductive DVs(K:AD)(H:Hp):List V->List G9->Prop
 |nil:DVs K H [] []
 |cons {x:V} {d:G9} {xs:List V} {ds:List G9}:DV K H x d->DVs K H xs ds->DVs K H (x::xs) (d::ds)
end
theorem DV.ind{K:AD}{P:V->G9->Prop}{Q:List V->List G9->Prop}(h1:P .non .none)(h2:∀b,P (.bl b) (.bool b))(h3:∀i,P (.int i) (.int i))(h4:∀x,LN (.str x)=AK->P (.str x) (.str x))
  (h5:∀{a xs ds},SqT K H a xs->DVs K H xs ds->Q xs ds->P (.ref a) (.tuple ds)) (h6:∀{a xs ds},SqL K H a xs->DVs K H xs ds->Q xs ds->P (.ref a) (.list ds))
  (q1:Q [] []) (q2:∀{x d xs ds},DV K H x d->DVs K H xs ds->P x d->Q xs ds->Q (x::xs) (d::ds)):(∀{v d},DV K H v d->P v d)/\∀{v d},DVs K H v d->Q v d :=
 {λh=>DV.rec (motive_1:=λv d _=>P v d) (motive_2:=λv d _=>Q v d) h1 h2 h3 h4 h5 h6 q1 q2 h,λh=>DVs.rec (motive_1:=λv d _=>P v d) (motive_2:=λv d _=>Q v d) h1 h2 h3 h4 h5 h6 q1 q2 h}
theorem pA1{K:AD}:(∀{v d},DV K H v d->d.canLay0=AK)/\∀{v d},DVs K H v d->FT d=AK :=
 DV.ind (P:=λ_ d=>d.canLay0=AK) (Q:=λ_ d=>FT d=AK) rfl (λ_=>rfl) (λ_=>rfl) (λ_ h=>h) (λ_ _ h=>by rw[LN];exact h) (λ_ _ h=>by rw[LN];exact h) rfl (λ_ _ h t=>by rw[FT,h,t];rfl)
theorem DV.can{K:AD}{d:G9}(h:DV K H v d):d.canLay0=AK:=pA1.1 h
theorem DVs.can{K:AD}{v:List V}{d:List G9}(h:DVs K H v d):FT d=AK:=pA1.2 h
theorem pA2(I:Inv X AG σ H s):(∀{v d},DV X.K H v d->∀u,RelV v u->∃as,cE s.heap u d as)/\∀{v d},DVs X.K H v d->∀u,Vals v u->∃as,Y6 s.heap u d as:=by
 refine DV.ind (P:=λv d=>∀u,RelV v u->∃as,cE s.heap u d as) (Q:=λv d=>∀u,Vals v u->∃as,Y6 s.heap u d as) ?_ ?_ ?_ ?_ ?_ ?_ ?_ ?_
 .intro _ r;cases r;exact{_,.none}
 .intro b _ r;cases r;exact{_,.bool b}
 .intro i _ r;obtain⟨t,rfl⟩:=r;exact{_,.int i t}
 .intro x _ _ r;obtain⟨t,rfl⟩:=r;exact{_,.str x t}
 .intro a xs ds hq _ ih _ r
  cases r;obtain⟨CK,rv,⟨o,ho,hc,n,hd⟩,hz⟩:=I.tuple hq;obtain⟨as,ra⟩:=ih _ rv;exact{as,.tuple ho hc hd (by simpa using ra)}
 .intro a xs ds hq _ ih _ r
  cases r;obtain⟨CK,rv,pl,hz⟩:=I.list hq;obtain⟨o,ho,hc,n,hd⟩:=pl.isList;obtain⟨as,ra⟩:=ih _ rv;exact{_,.list ho hc hd (by simpa using ra)}
 .intro _ r;cases r;exact{_,.nil}
 .intro x d xs ds _ _ h t _ r
  cases r with
  |cons r1 r2 =>
   obtain⟨as,ra⟩:=h _ r1;obtain⟨bs,rb⟩:=t _ r2;exact{_,.cons ra rb}
theorem DV.reads(I:Inv X AG σ H s){d:G9}(h:DV X.K H v d)(r:RelV v u):∃as,cE s.heap u d as:=(pA2 I).1 h u r
theorem DVs.reads(I:Inv X AG σ H s){v:List V}{d:List G9}(h:DVs X.K H v d){u:List AJ}(r:Vals v u):∃as,Y6 s.heap u d as:=(pA2 I).2 h u r
def Av(K:AD)(dO:Bool):R2:=λx y H Q=>∃d e,DV K H x d/\DV K H y e/\min d.depth e.depth<=60/\Q (.bl (if dO then !D0 d e else D0 d e)) H
theorem Ox(hu:X.A.units+64<GB):OpR X (EZ .Eq) (Av X.K AC):=by
 intro AG s σ H x y v u Q I rx ry h;obtain⟨d,e,hd,he,hm,q⟩:=h;obtain⟨as,ra⟩:=hd.reads I rx;obtain⟨bs,rb⟩:=he.reads I ry;exact SeqAt.compareEq_reads ra rb hd.can he.can 'l' {.bl _,H,I,rfl,q}
theorem yC6(hu:X.A.units+64<GB):OpR X (EZ .NotEq) (Av X.K AK):=by
 intro AG s σ H x y v u Q I rx ry h;obtain⟨d,e,hd,he,hm,q⟩:=h;obtain⟨as,ra⟩:=hd.reads I rx;obtain⟨bs,rb⟩:=he.reads I ry;exact SeqAt.compareNe_reads ra rb hd.can he.can 'l' {.bl _,H,I,rfl,q}
open Classical in
noncomputable def YH(h:D7)(e:G9)(y:AJ):Bool:=if z:∃(d:G9) (as:List AT),cE h y d as then D0 z.choose e else AC
theorem tN{e d:G9}{y:AJ}{as:List AT}(r:cE h y d as):YH h e y=D0 d e:=by
 have z:∃(d:G9) (as:List AT),cE h y d as:={d,as,r};unfold YH;rw[dif_pos z];obtain⟨as',r'⟩:=z.choose_spec;rw[(cE.unique r _ _ r').1]
theorem Ak:∀{us:List AJ} {ds:List G9} {as:List AT},Y6 h us ds as->∀u∈us,∃d∈ds,∃bs,cE h u d bs:=by
 intro us
 induction us with
 |nil=>intro _ _ _ u hu;cases hu
 |cons v us ih =>
  intro ds as h u hu
  cases h with
  |cons r t =>
  rcases A7.mp hu with rfl|hu
  .exact{_,A2,_,r}
  .obtain⟨d,hd,bs,q⟩:=ih t u hu
   exact{d,AZ _ hd,bs,q}
theorem Aj{e:G9}:∀{us:List AJ} {ds:List G9} {as:List AT},Y6 h us ds as->us.any (YH h e)=ds.any λd=>D0 d e:=by
 intro us
 induction us with
 |nil=>intro ds as h;cases h;rfl
 |cons v us ih =>
  intro ds as h
  cases h with
  |cons r t=>rw[EV,EV,tN r,ih t]
theorem tY:∀{ds:List G9},FT ds=AK->∀d∈ds,d.canLay0=AK
 |[],_,d,hd=>by cases hd
 |x::ds,h,d,hd=>by
  rw[FT,EB] at h;rcases A7.mp hd with rfl|hd
  .exact h.1
  .exact tY h.2 d hd
def rT(K:AD)(dO:Bool):R2:=λx y H Q=>∃p xs ds e,y=.ref p/\(SqL K H p xs\/SqT K H p xs)/\DVs K H xs ds/\DV K H x e/\e.depth<=60 /\
 Q (.bl (if dO then !(ds.any λd=>D0 d e) else ds.any λd=>D0 d e)) H
theorem Ow(hu:X.A.units+64<GB):OpR X (EZ .In) (rT X.K AC):=by
 intro AG s σ H x y v u Q I rx ry h;obtain⟨p,xs,ds,e,rfl,hq,YS,hx,hm,q⟩:=h;cases ry;obtain⟨bs,rb⟩:=hx.reads I rx
 have wN:X.A.in1.units+61<GB:=by
  have:X.A.in1.units<=X.A.units+1:=by first|exact AM _|simp[Around.in1]
  lia
 rcases hq with hq|hq
 .obtain⟨CK,r,pl,hz⟩:=I.list hq
  obtain⟨as,ra⟩:=YS.reads I r;refine SeqAt.in_listAt (YH s.heap e) pl.isList (λw hw=>?_) {.bl _,H,I,rfl,?_}
  .obtain⟨d,hd,cs,rd⟩:=Ak ra w (by simpa using hw)
   rw[tN rd];exact M7 d e _ s w v cs bs rd rb (tY YS.can d hd) hx.can 'l'
  .rw[show CK.toArray.any (YH s.heap e)=CK.any (YH s.heap e) by simp,Aj ra]
   exact q
 .obtain⟨CK,r,pl,hz⟩:=I.tuple hq
  obtain⟨as,ra⟩:=YS.reads I r;refine SeqAt.in_tupleAt (YH s.heap e) pl (λw hw=>?_) {.bl _,H,I,rfl,?_}
  .obtain⟨d,hd,cs,rd⟩:=Ak ra w (by simpa using hw)
   rw[tN rd];exact M7 d e _ s w v cs bs rd rb (tY YS.can d hd) hx.can 'l'
  .rw[show CK.toArray.any (YH s.heap e)=CK.any (YH s.heap e) by simp,Aj ra]
   exact q
theorem zR7(hu:X.A.units+64<GB):OpR X (EZ .NotIn) (rT X.K AK):=by
 intro AG s σ H x y v u Q I rx ry h;obtain⟨p,xs,ds,e,rfl,hq,YS,hx,hm,q⟩:=h;cases ry;obtain⟨bs,rb⟩:=hx.reads I rx
 have wN:X.A.in1.units+61<GB:=by
  have:X.A.in1.units<=X.A.units+1:=by first|exact AM _|simp[Around.in1]
  lia
 rcases hq with hq|hq
 .obtain⟨CK,r,pl,hz⟩:=I.list hq
  obtain⟨as,ra⟩:=YS.reads I r;refine SeqAt.notIn_listAt (YH s.heap e) pl.isList (λw hw=>?_) {.bl _,H,I,rfl,?_}
  .obtain⟨d,hd,cs,rd⟩:=Ak ra w (by simpa using hw)
   rw[tN rd];exact M7 d e _ s w v cs bs rd rb (tY YS.can d hd) hx.can 'l'
  .rw[show CK.toArray.any (YH s.heap e)=CK.any (YH s.heap e) by simp,Aj ra]
   exact q
 .obtain⟨CK,r,pl,hz⟩:=I.tuple hq
  obtain⟨as,ra⟩:=YS.reads I r;refine SeqAt.notIn_tupleAt (YH s.heap e) pl (λw hw=>?_) {.bl _,H,I,rfl,?_}
  .obtain⟨d,hd,cs,rd⟩:=Ak ra w (by simpa using hw)
   rw[tN rd];exact M7 d e _ s w v cs bs rd rb (tY YS.can d hd) hx.can 'l'
  .rw[show CK.toArray.any (YH s.heap e)=CK.any (YH s.heap e) by simp,Aj ra]
   exact q
theorem DVs.ints{K:AD}{H:Hp}:∀ns:List Int,DVs K H (ns.map V.int) (ns.map PC)
 |[]=>.nil
 |n::ns=>.cons (.int n) (DVs.ints ns)
theorem Fu(x:Int):∀ns:List Int,((ns.map PC).any λd=>D0 d (.int x))=decide (x∈ns)
 |[]=>rfl
 |n::ns=>by
  rw[AU,EV,Fu x ns,D0]
  by_cases h:n=x
  .subst h;simp
  .have h':¬x=n:=λz=>h z.symm
   simp[h,h']
def Gr(H H':Hp):Prop:=∀b u,H b=AA u->H' b=AA u
theorem Gr.trans(g:Gr H H1)(g':Gr H1 H2):Gr H H2:=λb u e=>g' b u (g b u e)
theorem Gr.new{p:AT}(hp:H p=AL):Gr H (D3 H p o):=λb u e=>by rw[FH (W6 e hp)];exact e
theorem SqT.gr{K:AD}(h:SqT K H a xs)(g:Gr H H'):SqT K H' a xs:=by
 rcases h with h|h
 .rcases h with h|⟨o,h⟩
  .exact .inl (.inl (g _ _ h))
  .exact .inl (.inr {o,g _ _ h})
 .exact .inr h
theorem zE9{t sl:AT}{lo:Option Int}(ht:UQ s.heap t items)(hs:s.heap.IsSliceOf sl vl vu .none)(pl:QS vl lo)(pu:QS vu hi)
  (hw:HT.sIx items.size 0 lo=0/\HT.sIx items.size items.size hi=items.size) (h:Q (.ref t) s):A1 (A4 prog w) A (Q4 (.ref t) (.ref sl)) Q E s:=by
 obtain⟨os,gX,ZX,YS⟩:=id hs;have Ng:s.TypeIs (.ref sl) "slice":={os,gX,ZX};unfold Q4
 try with_reducible refine CS ?_
 first|refine AB (wpAny_pure ?_)|skip
 refine AB (wpAny_sequenceKey ht.typeIs 'd' ?_)
 refine AB (C9 (name:=EX "__getitem__") ht.typeIs ED
  (CY ED ht.typeIs mM ?_ (args_tuple_getitem _ _)))
 show A1 _ _ (P1 (.ref t) >>= _) _ _ s;refine AB (tupleItemsOf_ ht ?_);refine AB (O0 Ng ?_);rw[if_pos 'd'];refine AB (HT.sliceApplied_gen hs pl pu ?_);rw[hw.1,hw.2];have e:(((0:Nat):Int)==0&&(1:Int)==1&&(items.size-0)==items.size)=AK:=by simp
 show A1 _ _ (if(((0:Nat):Int)==0&&(1:Int)==1&&(items.size-0)==items.size)=AK then _ else _) _ _ s;rw[if_pos e];show A1 _ _ (P2 (.ref t) >>= _) _ _ s;unfold P2;refine AB (AB (O0 ht.typeIs (wpAny_pure ?_)));show A1 _ _ (if(UJ "tuple"==UJ "tuple")=AK then _ else _) _ _ s;rw[if_pos 'd'];exact AB (FC (wpAny_pure {_,rfl,wpAny_pure h}))
theorem zY9{t b:AT}{vs:List AJ}(ht:UQ s.heap t vs.toArray)(hb:UQ s.heap b ws.toArray)
  (h0:vs=[]->Q (.ref b) s) (h1:vs≠[]->ws=[]->Q (.ref t) s) (h2:vs≠[]->ws≠[]->Q (.ref s.heap.objs.size) { s with heap:=s.heap.push { cls:=.type "tuple",data:=.seq (vs++ws).toArray } })
  (hsz:vs.length+ws.length<=sizeLine):A1 (A4 prog w) A (HE .Add (.ref t) (.ref b)) Q E s:=by
 by_cases hv:vs=[]
 .obtain⟨⟨cls,dd,data,sl⟩,ho,hc,n,hd⟩:=id ht
  obtain⟨⟨xS,mI,data2,lP⟩,V0,eR,n2,b8⟩:=id hb;simp only at hc hd eR b8;subst hc hd eR b8
  exact UI {_,ho,rfl} {_,V0,rfl} V8 aU M9 MQ (MD _ _)
   (tuple_addW0 t b vs.toArray ws.toArray n n2 dd mI sl lP (by simp[hv])) {ho,V0,h0 hv}
 .exact HT.cat_tup ht hb hv (h1 hv) (h2 hv) hsz
theorem zR8{lo:Option Int}(h:HT.sIx xs.length 0 lo=0/\HT.sIx xs.length xs.length hi=xs.length):ZH xs lo hi=xs:=by
 unfold ZH;rw[h.1,h.2,L8,Nat.sub_zero,GF]
section
variable(K:AD)
end
theorem zVC{c:AJ}{b:Bool}(I:Inv X AG σ H s)(ha:SqT X.K H a xs)
  (e:BU X.K (.type "tuple") c=AA b) (h:∀tk,Q (.bool b) { s with toks:=tk }):A1 (A4 X.prog X.w) A (call (.builtin "isinstance") [.ref a,c]) Q E s:=by
 obtain⟨CK,r,p,_⟩:=I.tuple ha;obtain⟨o,h1,h2,_⟩:=p;exact DG Y8 I.kIn {o,h1,h2} e (λz=>nomatch z) h
theorem zZA{bs:List Bool}:∀{us:List AJ},Vals (bs.map V.bl) us->us=bs.map JI:=by
 induction bs with
 |nil=>intro us r;rw[NU] at r;cases r;rfl
 |cons b bs ih =>
  intro us r;rw[AU] at r
  cases r with
  |cons r1 r2=>cases r1;rw[ih r2];rfl
theorem zR9(bs:List Bool):(DL bs.length).all (λi=>bs.getD i AC)=bs.all id:=by
 rw[kI,iI,iI];constructor
 .intro h b hb
  obtain⟨i,hi,e⟩:=OR.mp hb;have:=h i (IP.mpr hi);rw[IQ,BL hi] at this;rw[<-e];exact this
 .intro h i hi
  have hi:=IP.mp hi;rw[IQ,BL hi];exact h _ (IV hi)
theorem zVD(bs:List Bool):TruthOf prog w A (λi v=>(bs.map JI).toArray[i]?=AA v) (λi=>bs.getD i AC):=by
 intro i v s Q E hP hQ;have hP:(bs.map JI)[i]?=AA v:=by simpa using hP
 rw[AX] at hP
 cases e:bs[i]? with
 |none=>rw[e] at hP;cases hP
 |some b =>
  rw[e] at hP;cases hP;refine IT ?_;have e3:bs.getD i AC=b:=by rw[IQ,e];rfl
  have hQ:Q (bs.getD i AC) s:=hQ;rw[e3] at hQ;exact hQ
def Wa(K:AD):List V->Hp->VK->Prop:=λxs H Q=>∃(p:AT) (bs:List Bool),xs=[.ref p]/\SqL K H p (bs.map V.bl)/\Q (.bl (bs.all id)) H
theorem zVE(hc:X.calm=AK):CallR X (.builtin "all") (Wa X.K):=by
 intro AG s σ H xs us Q I r h;obtain⟨p,bs,rfl,hp,q⟩:=h;obtain⟨u,rfl,ru⟩:=YD r;cases ru;obtain⟨CK,rv,pl,hz⟩:=I.list hp;have e:=zZA rv;subst e;have KZ:p<s.heap.objs.size:=by obtain⟨o,ho,_⟩:=pl.isList;exact A5 ho
 refine call_all_walk (HD pl.isList ?_);refine{_,_,_,_,_,_,λi=>bs.getD i AC,rfl,Walks.list (by have:=I.ok.hd hc;simp[this]) _ p (BM KZ) (bs.map JI).toArray,{{_,AV _ rfl,rfl,rfl},pl.isList.push _},zVD bs,λh' tk hk=>?_};have e2:(DL (bs.map JI).toArray.size).all (λi=>bs.getD i AC)=bs.all id:=by simpa using zR9 bs
 refine{.bl (bs.all id),H,I.kept (t':=tk) λb o e=>hk b o ?_ (AF _ e),by rw[e2];rfl,q};simp only[BB];exact BM (A5 e)
abbrev fT(h:D7)(n:AT)(f0:AJ)(f1:Bool)(i:Int)(HM:AJ):Prop :=
 h.get? (n+1)=AA { cls:=.type "enumerate",dict:=AL,data:=.fields #[f0,.bool f1,.ref n,E7 i,.none,HM],slots:=#[] }
theorem zSA{n:AT}{f0 HM:AJ}{f1:Bool}{i:Int}{Q:Bool->AS->Prop}(hz:fT s.heap n f0 f1 i HM)(hf:F0 f0)
  (h:∀b h' f1,fT h' n f0 f1 i HM->DS (n+1) s.heap h'->Q b { s with heap:=h' }):A1 (A4 prog w) A (C1 (.ref (n+1))) Q E s:=by
 unfold C1;rcases hf with rfl|⟨T,rfl⟩
 .exact AB (DC hz rfl (x:=.none) rfl (wpAny_pure (h AK s.heap f1 hz (lF _ _))))
 .refine AB (DC hz rfl (x:=E7 T) rfl ?_)
  show A1 _ _ (j4 (T:Int).toNat >>= _) _ _ _;refine AB (Tz ?_)
  cases e:(s.heap.get? (T:Int).toNat).isNone with
  |true=>exact wpAny_pure (h AK s.heap f1 hz (lF _ _))
  |false =>
   simp only[EA,if_false];refine AB (DC hz rfl (x:=.bool f1) rfl ?_)
   cases f1 with
   |true=>exact wpAny_pure (h AC s.heap AK hz (lF _ _))
   |false =>
    show A1 _ _ (OK (.ref (n+1)) 1 (.bool AK) >>= _) _ _ _;exact AB (CW hz 's' λh' oU Q2=>wpAny_pure (h AC h' AK oU Q2))
theorem lt2{c S:Nat}(h:c∈[n,n+1])(KZ:n+1<S):c<S:=by
 simp only[A7,BZ,or_false] at h;lia
theorem Yi{c:Nat}(h:c∈[n,n+1]):n<=c:=by
 simp only[A7,BZ,or_false] at h;lia
def PairsAt(K:AD)(H:Hp)(zs:List V)(ps:List (Int×Int)):Prop:=Paired (λ(z:V) (p:Int×Int)=>∃q,z=.ref q/\SqT K H q [.int p.1,.int p.2]) zs ps
theorem PairsAt.gr{K:AD}{H H':Hp}{zs:List V}{ps:List (Int×Int)}(h:PairsAt K H zs ps)(g:Gr H H'):PairsAt K H' zs ps:=pA0 h (λ_ _ q0=>by obtain⟨q,e,k⟩:=q0;exact{q,e,k.gr g})
theorem zSB(hc:X.calm=AK):CallR X (.builtin "min") (λxs H Q=>∃(l:AT) (ns:List Int),xs=[.ref l]/\SqL X.K H l (ns.map V.int)/\ns≠[]/\∀m,m∈ns->(∀x∈ns,m<=x)->Q (.int m) H):=by
 intro AG s σ H xs us Q I r h;obtain⟨l,ns,rfl,hl,RX,q⟩:=h;obtain⟨u,rfl,ru⟩:=YD r;cases ru;obtain⟨CK,rv,pl,hz⟩:=I.list hl;have hi:GC CK ns:=nW rv;have E6:=rv.length;rw[AI] at E6;have VZ:0<ns.length:=by cases ns with|nil=>exact absurd rfl RX|cons _ _=>simp
 have KZ:l<s.heap.objs.size:=by obtain⟨o,ho,_⟩:=pl.isList;exact A5 ho
 refine call_min_walk (HD pl.isList ?_);refine{_,_,_,_,_,_,_,rfl,Walks.list (A:=X.A.in1) (by have:=I.ok.hd hc;simp[this]) _ l (BM KZ) CK.toArray,{{_,AV _ rfl,rfl,rfl},pl.isList.push _},?_,by simp;lia,CmpOf.ints_lt (λi=>ns.getD i 0) (λi v hv=>TF hi i v (by simpa using hv)),λv h' tk hP hk=>?_}
 .intro b hb
  show b<(s.heap.push _).objs.size;rw[FI];rcases A7.mp hb with rfl|hb
  .exact DW _
  .rw[BB.mp hb]
   exact G0 KZ
 .obtain⟨b1,b2⟩:=argBest_lt (λi=>ns.getD i 0) (CK.toArray.size-1)
  obtain⟨t,rfl⟩:=TF hi _ v (List.getElem?_toArray.symm.trans hP);have hsz:CK.toArray.size=ns.length:=by simpa using E6.symm
  have hbl:argBest (λi j=>decide (ns.getD i 0<ns.getD j 0)) (CK.toArray.size-1)<ns.length:=by lia
  have gd:∀j,(hj:j<ns.length)->ns.getD j 0=ns[j]:=λj hj=>by rw[IQ,BL hj];rfl
  refine{.int _,H,I.kept (t':=tk) λb o e=>hk b o ?_ (AF _ e),{t,rfl},q _ ?_ λx hx=>?_}
  .simp only[BB]
   exact BM (A5 e)
  .rw[gd _ hbl]
   exact IV hbl
  .obtain⟨j,hj,rfl⟩:=OR.mp hx
   have:=b2 j 'l';rw[gd j hj] at this;exact this
section
variable{a b x:AJ}{T I S:AT}
end
theorem zSC{l1 l2:List V}(pp:l1.Perm l2):∀ns:List Int,l2=ns.map V.int->∃ms:List Int,l1=ms.map V.int/\ms.Perm ns:=by
 induction pp with
 |nil=>intro ns e;cases ns with|nil=>exact{[],rfl,G2 _}|cons _ _=>cases e
 |cons a _ ih =>
  intro ns e
  cases ns with
  |nil=>cases e
  |cons b ns =>
   rw[AU] at e;injection e with e1 e2;obtain⟨ms,h1,h2⟩:=ih ns e2;exact{b::ms,by rw[AU,e1,h1],h2.cons b}
 |swap a b l =>
  intro ns e
  match ns,e with
  |c::d::ns,e =>
   rw[AU,AU] at e;injection e with e1 e2;injection e2 with e2 e3;exact{d::c::ns,by rw[AU,AU,e1,e2,e3],H9 _ _ _}
 |trans _ _ bT ih2 =>
  intro ns e;obtain⟨ms,h1,h2⟩:=ih2 ns e;obtain⟨ks,h3,h4⟩:=bT ms h1;exact{ks,h3,h4.trans h2}
theorem tW{kvs:List (Key×V)}(x:ObjOk P w H h a (.dK kvs)):∃es ep,RawD h a es ep/\es.size=kvs.length/\kvs.length<=sizeLine /\
  ∀(i:Nat) (hi:i<es.size),∃k:Key,(kvs.map (·.1))[i]?=AA k/\RelV (kV k) es[i].key:=by
 obtain⟨z,y,vs,r,o,es,ep,h1,h2,h3,h4,h5,h6⟩:=x;have hl:es.size=vs.length:=by rw[<-h5.length];simp
 have bY:kvs.length=vs.length:=r.length;refine{es,ep,{{o,h1,h2,h3},y},by lia,z,λi hi=>?_};have QH:i<vs.length:=AN hi (C0 hl);obtain⟨e1,_⟩:=h5.get? (i:=i) (e:=es[i]) (k:=vs[i].1) (v:=vs[i].2) (by simp[hi]) (by simp[QH]);refine{vs[i].1,by rw[r.keys];simp[QH],?_};rw[Um] at e1;rcases cY e1 with⟨j,t,z1,z2⟩|⟨y,t,z1,z2⟩
 .rw[z1,z2];exact{t,rfl}
 .rw[z1,z2];exact{t,rfl}
def Yq(d:AT)(o:IF)(kvs:List (Key×V)):It :=
 {λi H=>i<kvs.length/\H d=AA (.frz o (.dK kvs)),λi H x H'=>H'=H/\∃k,x=kV k/\(kvs.map (·.1))[i]?=AA k,λi H=>kvs.length<=i/\H d=AA (.frz o (.dK kvs))}
theorem Ut{K:AD}(d it:AT)(o:IF)(kvs:List (Key×V))(es:Array IR)(ep:Nat)(hd:o.data=.dict es ep)(hz:es.size=kvs.length) :
  Turn P w K tg (Yq d o kvs) [it] it (λi h=>h.IsKeyIter it d i es.size ep) where
 mem:=by simp
 obj:=λi h st b hb=>by
  have e:b=it:=by simpa using hb
  subst e;obtain⟨o,e,c,d⟩:=st;exact{o,e,λv z=>by rw[d] at z;cases z}
 keep:=λi h h' st k=>let ⟨o,e,r⟩:=st;{o,k it 's' o e,r}
 item:=by
  intro X hP hw hK hc i AG s σ H E I hf st hg;subst hP hw hK;obtain⟨hi,hk⟩:=hg;obtain⟨ho,hx⟩:=I.hok d _ hk;obtain⟨mE,mF,LQ,e1,e2,e3⟩:=tW hx;obtain⟨o',q1,q2,q3⟩:=LQ.ex;rw[ho] at q1;cases q1;rw[hd] at q3;injection q3 with q4 q5;subst q4;subst q5;obtain⟨f0,f1,f2,f3,f4,f5⟩:=hf it 's';refine Fv st LQ 'l' λh' CT sb=>?_;obtain⟨k,p2,p3⟩:=e3 i 'l';have I1:Inv X AG σ H { s with heap:=h' }:=I.turned (t':=s.toks) (λb ob hb e=>(sb.2 b hb).trans e) f0 f1 f3 f4 f5;obtain⟨oi,e,c,dd⟩:=id CT;refine{_,rfl,sZ (s:={ s with heap:=h' }) e c dd 'd' {kV k,H,I1,p3,{rfl,k,rfl,p2},CT,λb hb=>(hf b hb).1}}
 done:=by
  intro X hP hw hK hc i AG s σ H E I hf st hg;subst hP hw hK;obtain⟨hi,hk⟩:=hg;obtain⟨ho,hx⟩:=I.hok d _ hk;obtain⟨mE,mF,LQ,e1,e2,e3⟩:=tW hx;obtain⟨o',q1,q2,q3⟩:=LQ.ex;rw[ho] at q1;cases q1;rw[hd] at q3;injection q3 with q4 q5;subst q4;subst q5;obtain⟨f0,f1,f2,f3,f4,f5⟩:=hf it 's';exact El (I.ok.hd hc) st LQ (AY (C0 hz) hi) λh' eb=>{rfl,I.turned (t':=s.toks) (λb ob hb e=>eb b ob hb e) f0 f1 f3 f4 f5}
 self:=λ_ _ _ _ _ st h=>QN st h
theorem Inv.freezeK{kvs:List (Key×V)}(I:Inv X AG σ H s)(ha:H a=AA (.dK kvs)) :
  ∃o,s.heap.get? a=AA o/\Inv X AG σ (D3 H a (.frz o (.dK kvs))) s:=by
 have x:=I.hok a _ ha;obtain⟨es,ep,⟨⟨o,h1,h2,h3⟩,_⟩,_⟩:=tW x;have kt:∀b ys,H b=AA (.tup ys)->b≠a:=λb ys e z=>by rw[z,ha] at e;cases e
 have ko:∀b y,H b=AA (.own y)->b≠a:=λb y e z=>by rw[z,ha] at e;cases e
 have kf:∀b ob u,H b=AA (.frz ob u)->b≠a:=λb ob u e z=>by rw[z,ha] at e;cases e
 have kb:∀b t ps,H b=AA (.tbl t ps)->b≠a:=λb t ps e z=>by rw[z,ha] at e;cases e
 have kn:∀b,H b=AL->b≠a:=λb e z=>by rw[z,ha] at e;cases e
 refine{o,h1,I.un (t':=s.toks) (h':=s.heap) {λb ob e _ _ _=>e,λb ob e _ _ _=>{ob.slots,e},λb ob e n _=>by rw[FH (kn b n)];exact n,λb ob e _=>{ob,e},λb ys e=>by rw[FH (kt b ys e)];exact e,λb ob u e=>by rw[FH (kf b ob u e)];exact e,λb t ps e=>{#[],by rw[FH (kb b t ps e),e];simp}} λb u e=>?_}
 by_cases hb:b=a
 .subst hb
  rw[HJ] at e;cases e;exact{h1,x.stay (λc v _ q=>q) (λc q=>by rw[FH (ko c _ q)];exact q) (λc ys q=>by rw[FH (kt c ys q)];exact q) λc ob x q=>by rw[FH (kf c ob _ q)];exact q}
 .rw[FH hb] at e
  exact(I.hok b u e).stay (λc v _ q=>q) (λc q=>by rw[FH (ko c _ q)];exact q) (λc ys q=>by rw[FH (kt c ys q)];exact q) λc ob x q=>by rw[FH (kf c ob _ q)];exact q
end L2
namespace TS
open PySem PyProof.Rows
section
variable{prog:CU}{w:D8}{A:DU}{E:AJ->AS->Prop}{s:AS}{BW:Array BA}{kd:FL}{L:BA->BA->Bool}
def WH(prog:CU)(w:D8)(A:DU)(s:AS)(kd:FL)(BW:Array BA)(L:BA->BA->Bool):Prop :=
 ∀x y:BA,x∈BW->y∈BW->∀(Q:Bool->AS->Prop) (E:AJ->AS->Prop),Q (L x y) s->A1 (A4 prog w) A (keyLt' kd x.1 y.1) Q E s
theorem zQ{st:BS}{x y:BA}{Q:Option Bool->BS->Prop}(hA:WH prog w A s kd BW L)(hk:kindOf st=kd)(hx:x∈BW)(hy:y∈BW)(h:Q (AA (L x y)) st) :
  N5 (A4 prog w) A E s (lt' x y) Q st:=by
 rw[lt'_eq];refine BI (NR ?_);rw[hk];refine BI (QK (GQ (hA x y hx hy _ _ {rfl,?_})));exact BC h
def Yr(B:Nat->Bool)(n k:Nat):Prop:=k<=n/\(∀i<k,B i=AK)/\∀i,k<=i->i<n->B i=AC
theorem Ih{α β γ:Type}{T:β->γ->StateT BS TC α}{M:Model}{A:DU}{E:AJ->AS->Prop}{s:AS}{Q:α->BS->Prop}{st:BS}{N3:Prop}(P:β->γ->Prop)(h1:(∀x y,P x y->N5 M A E s (T x y) Q st)->N3)(h2:∀x y,P x y->N5 M A E s (T x y) Q st):N3:=h1 h2
theorem Us{st:BS}{left:Bool}{KA:BA}{HC:Array BA}{base n hint:Nat}{Q:Option Nat->BS->Prop}{B:Nat->Bool}(hA:WH prog w A s kd BW L)(hk:kindOf st=kd)(M0:KA∈BW)(QI:∀x∈HC,x∈BW)
  (hb:base+n<=HC.size) (hh:hint<n) (hB:∀i (hi:base+i<HC.size),B i=if left then L HC[base+i] KA else !L KA HC[base+i]) (mono:∀i j,i<=j->j<n->B j=AK->B i=AK)
  (h:∀k,Yr B n k->Q (AA k) st):N5 (A4 prog w) A E s (tZ left KA HC base n hint) Q st:=by
 have hm:∀(i:Nat) (hi:base+i<HC.size),HC[base+i]∈BW:=λi hi=>QI _ (AH hi)
 have pZ:∀i j,i<=j->j<n->B i=AC->B j=AC:=λi j MH hj hi=>by
  cases e:B j with
  |false=>rfl
  |true=>rw[mono i j MH hj e] at hi;cases hi
 have Cq:∀(i:Nat) (hi:i<n) {Q:Option Bool->BS->Prop},Q (AA (B i)) st->N5 (A4 prog w) A E s (do let x <-elem' HC (base+i);if left=AK then lt' x KA else return (<-lt' KA x).map (!·)) Q st:=λi hi {Q} q=>by
  have QH:base+i<HC.size:=AN (A9 hi _) hb;have eB:=hB i QH;refine BI (qV QH (L9 (λhl=>zQ hA hk (hm _ QH) M0 ?_) λhl=>BI (zQ hA hk M0 (hm _ QH) (BC ?_))))
  .rw[if_pos hl] at eB;rw[<-eB];exact q
  .rw[if_neg hl] at eB;show Q (AA (!_)) st;rw[<-eB];exact q
 clear hB
 refine Ih (M:=A4 prog w) (A:=A) (E:=E) (s:=s) (λlo hi:Nat=>lo<=hi/\hi<=n/\(∀i<lo,B i=AK)/\∀i,hi<=i->i<n->B i=AC) (λK=>by
  refine BI (Cq hint hh ?_)
  cases e:B hint with
  |true =>
   refine BI (JV (FU (I:=λx c CT=>CT=st/\∃l o,c=(AL,l,o)/\B (hint+l)=AK/\hint+l<n/\l<o/\x+1<=o)
    (Q:=λc CT=>CT=st/\∃l o,c=(AL,l,o)/\B (hint+l)=AK/\hint+l<n/\l<o/\(n-hint<=o\/hint+o<n/\B (hint+o)=AC)) ?step ((λc CT q0=>by obtain⟨e,l,o,e1,e2,e3,e4,e5⟩:=q0;exact{e,l,o,e1,e2,e3,e4,.inl 'o'})) {rfl,0,1,rfl,e,hh,DW _,AM _}) ?post)
   case step =>
    rintro x c CT _ _ ⟨rfl,l,o,rfl,h1,h2,h3,h4⟩
    try dsimp only
    refine L9 (λq=>BC {rfl,l,o,rfl,h1,h2,h3,.inl q}) (λq=>?_);refine BI (Cq (hint+o) 'o' ?_)
    cases e:B (hint+o) with
    |true=>exact BC {rfl,o,2 * o+1,rfl,e,by omega,by omega,by omega}
    |false=>exact BC {rfl,l,o,rfl,h1,h2,h3,.inr {by omega,e}}
   case post =>
    rintro c CT ⟨rfl,l,o,rfl,h1,h2,h3,h4⟩
    have hP:hint+l+1<=hint+min o (n-hint)/\hint+min o (n-hint)<=n/\(∀i<hint+l+1,B i=AK)/\∀i,hint+min o (n-hint)<=i->i<n->B i=AC:={by omega,by omega,λi hi=>mono i (hint+l) (G1 hi) h2 h1,λi hi hn=>by
     rcases h4 with h4|⟨h4,h5⟩
     .omega
     .exact pZ (hint+o) i 'o' hn h5}
    revert hP
    dsimp only;generalize hint+l+1=lo',hint+min o (n-hint)=QH;exact λhP=>K lo' QH hP
  |false =>
   refine BI (JV (FU (I:=λx c CT=>CT=st/\∃l o,c=(AL,l,o)/\B (hint-l)=AC/\l<=hint/\l<o/\x+1<=o)
    (Q:=λc CT=>CT=st/\∃l o,c=(AL,l,o)/\B (hint-l)=AC/\l<=hint/\l<o/\(hint+1<=o\/o<=hint/\B (hint-o)=AK)) ?step ((λc CT q0=>by obtain⟨e,l,o,e1,e2,e3,e4,e5⟩:=q0;exact{e,l,o,e1,e2,e3,e4,.inl 'o'})) {rfl,0,1,rfl,e,BP _,DW _,AM _}) ?post)
   case step =>
    rintro x c CT _ _ ⟨rfl,l,o,rfl,h1,h2,h3,h4⟩
    try dsimp only
    refine L9 (λq=>BC {rfl,l,o,rfl,h1,h2,h3,.inl q}) (λq=>?_);refine BI (Cq (hint-o) (AR (C7 _ _) hh) ?_)
    cases e:B (hint-o) with
    |true=>exact BC {rfl,l,o,rfl,h1,h2,h3,.inr {G1 (kE q),e}}
    |false=>exact BC {rfl,o,2 * o+1,rfl,e,G1 (kE q),by omega,by omega}
   case post =>
    rintro c CT ⟨rfl,l,o,rfl,h1,h2,h3,h4⟩
    exact K (hint+1-min o (hint+1)) (hint-l) {by omega,CV (AR (C7 _ _) hh),λi hi=>by
     rcases h4 with h4|⟨h4,h5⟩
     .omega
     .exact mono i (hint-o) 'o' (AR (C7 _ _) hh) h5,λi hi hn=>pZ (hint-l) i hi hn h1}) ?_
 rintro lo hi ⟨p1,p2,p3,p4⟩
 refine BI (JV (FU (I:=λx c st2=>st2=st/\∃l r,c=(AL,l,r)/\l<=r/\r<=n/\(∀i<l,B i=AK)/\(∀i,r<=i->i<n->B i=AC)/\r-l+x<=n)
  (Q:=λc st2=>st2=st/\∃l r,c=(AL,l,r)/\Yr B n r) ?st2 ((λc st2 q0=>by obtain⟨e,l,r,e1,e2,e3,e4,e5,e6⟩:=q0;exact{e,l,r,e1,e3,λi hi=>e4 i 'o',e5})) {rfl,lo,hi,rfl,p1,p2,p3,p4,by omega}) ?po2)
 case po2 =>
  rintro c st2 ⟨rfl,l,r,rfl,hr⟩;exact BC (h r hr)
 case st2 =>
  rintro x c st2 _ _ ⟨rfl,l,r,rfl,q1,q2,q3,q4,q5⟩
  try dsimp only
  refine L9 (λq=>BC {rfl,l,r,rfl,q2,λi hi=>q3 i 'o',q4}) (λq=>?_);refine BI (Cq (l+(r-l) / 2) 'o' ?_)
  cases e:B (l+(r-l) / 2) with
  |true=>exact BC {rfl,l+(r-l) / 2+1,r,rfl,by omega,q2,λi hi=>mono i (l+(r-l) / 2) (G1 hi) 'o' e,q4,by omega}
  |false=>exact BC {rfl,l,l+(r-l) / 2,rfl,A6 _ _,by omega,q3,λi hi hn=>pZ (l+(r-l) / 2) i hi hn e,by omega}
end
structure Ord(L:BA->BA->Bool)(BW:Array BA):Prop where
 asym:∀x y,x∈BW->y∈BW->L x y=AK->L y x=AC
 trans:∀x y z,x∈BW->y∈BW->z∈BW->L y x=AC->L z y=AC->L z x=AC
def SA(L:BA->BA->Bool)(a:Array BA):Prop:=∀(i j:Nat) (hj:j<a.size) (MH:i<j),L a[j] (a[i]'(C4 MH hj))=AC
theorem Ord.refl{L:BA->BA->Bool}{BW:Array BA}(O:Ord L BW){x:BA}(hx:x∈BW):L x x=AC:=by
 cases e:L x x with
 |false=>rfl
 |true=>rw[O.asym x x hx hx e] at e;cases e
theorem SA.le{L:BA->BA->Bool}{BW a:Array BA}(O:Ord L BW)(ha:∀x∈a,x∈BW)(s:SA L a){i j:Nat}(hj:j<a.size)(MH:i<=j):L a[j] (a[i]'(AR MH hj))=AC:=by
 rcases DN MH with h|h
 .exact s i j hj h
 .subst h;exact O.refl (ha _ (AH _))
section
variable{prog:CU}{w:D8}{A:DU}{E:AJ->AS->Prop}{s:AS}{BW:Array BA}{kd:FL}{L:BA->BA->Bool}
theorem Tx{st:BS}{KA:BA}{HC:Array BA}{base n hint:Nat}{Q:Option Nat->BS->Prop}(hA:WH prog w A s kd BW L)(O:Ord L BW)(hk:kindOf st=kd)(M0:KA∈BW)(QI:∀x∈HC,x∈BW)
  (hb:base+n<=HC.size) (hh:hint<n) (sl:∀(i j:Nat) (hj:base+j<HC.size) (MH:i<j),j<n->L HC[base+j] (HC[base+i]'(C4 (A9 MH _) hj))=AC)
  (h:∀k,k<=n->(∀(i:Nat) (hi:base+i<HC.size),i<k->L KA HC[base+i]=AC)->(∀(i:Nat) (hi:base+i<HC.size),k<=i->i<n->L KA HC[base+i]=AK)->Q (AA k) st):N5 (A4 prog w) A E s (tZ AC KA HC base n hint) Q st:=by
 refine Us (B:=λi=>if hi:base+i<HC.size then !L KA HC[base+i] else AC) hA hk M0 QI hb hh (λi hi=>by simp[hi]) (λi j MH hj e=>?_) λk ⟨c1,c2,c3⟩=>h k c1 (λi hi eP=>?_) (λi hi Mb ZW=>?_)
 .rcases DN MH with h'|h'
  .have b7:base+j<HC.size:=AN (A9 hj _) hb
   have QH:base+i<HC.size:=AR (EJ (AM _) MH) b7;rw[dif_pos b7] at e;show(if hi:base+i<HC.size then !L KA HC[base+i] else AC)=AK;rw[dif_pos QH];have e':L KA HC[base+j]=AC:=by simpa using e
   rw[O.trans _ _ _ (QI _ (AH QH)) (QI _ (AH b7)) M0 (sl i j b7 h' hj) e']
   rfl
  .subst h';exact e
 .have:=c2 i eP
  simpa[hi] using this
 .have:=c3 i Mb ZW
  simpa[hi] using this
theorem Tw{st:BS}{KA:BA}{HC:Array BA}{base n hint:Nat}{Q:Option Nat->BS->Prop}(hA:WH prog w A s kd BW L)(O:Ord L BW)(hk:kindOf st=kd)(M0:KA∈BW)(QI:∀x∈HC,x∈BW)
  (hb:base+n<=HC.size) (hh:hint<n) (sl:∀(i j:Nat) (hj:base+j<HC.size) (MH:i<j),j<n->L HC[base+j] (HC[base+i]'(C4 (A9 MH _) hj))=AC)
  (h:∀k,k<=n->(∀(i:Nat) (hi:base+i<HC.size),i<k->L HC[base+i] KA=AK)->(∀(i:Nat) (hi:base+i<HC.size),k<=i->i<n->L HC[base+i] KA=AC)->Q (AA k) st):N5 (A4 prog w) A E s (tZ AK KA HC base n hint) Q st:=by
 refine Us (B:=λi=>if hi:base+i<HC.size then L HC[base+i] KA else AC) hA hk M0 QI hb hh (λi hi=>by simp[hi]) (λi j MH hj e=>?_) λk ⟨c1,c2,c3⟩=>h k c1 (λi hi eP=>?_) (λi hi Mb ZW=>?_)
 .rcases DN MH with h'|h'
  .have b7:base+j<HC.size:=AN (A9 hj _) hb
   have QH:base+i<HC.size:=AR (EJ (AM _) MH) b7;rw[dif_pos b7] at e;show(if hi:base+i<HC.size then L HC[base+i] KA else AC)=AK;rw[dif_pos QH]
   cases ei:L HC[base+i] KA with
   |true=>rfl
   |false =>
    rw[O.trans _ _ _ M0 (QI _ (AH QH)) (QI _ (AH b7)) ei (sl i j b7 h' hj)] at e;cases e
  .subst h';exact e
 .have:=c2 i eP
  simpa[hi] using this
 .have:=c3 i Mb ZW
  simpa[hi] using this
end
structure MidO(L:BA->BA->Bool)(a b out:Array BA)(ia ib:Nat):Prop where
 m:Mid a b out ia ib
 so:out.toList.Pairwise λx y=>L y x=AC
 oa:∀x∈out,∀(i:Nat) (hi:i<a.size),ia<=i->L a[i] x=AC
 ob:∀x∈out,∀(i:Nat) (hi:i<b.size),ib<=i->L b[i] x=AC
section
variable{L:BA->BA->Bool}{a b out:Array BA}{ia ib:Nat}
theorem Qt{x:BA}(h:out.toList.Pairwise λx y=>L y x=AC)(hx:∀y∈out,L x y=AC):(out.push x).toList.Pairwise λx y=>L y x=AC:=by
 rw[FG,IN];refine{h,XR _ _,λy hy z hz=>?_};rw[BB.mp hz];exact hx y (FR.mp hy)
theorem MidO.pushB(m:MidO L a b out ia ib)(sb:SA L b)(h:ib<b.size)(UZ:∀(i:Nat) (hi:i<a.size),ia<=i->L a[i] b[ib]=AC):MidO L a b (out.push b[ib]) ia (ib+1) where
 m:=m.m.pushB h
 so:=Qt m.so λy hy=>m.ob y hy ib h (AM _)
 oa:=λx hx i hi PQ=>by
  rcases HF.mp hx with hx|rfl
  .exact m.oa x hx i hi PQ
  .exact UZ i hi PQ
 ob:=λx hx i hi RY=>by
  rcases HF.mp hx with hx|rfl
  .exact m.ob x hx i hi (AY (A6 _ _) RY)
  .exact sb ib i hi (FX RY)
theorem MidO.pushA(m:MidO L a b out ia ib)(sa:SA L a)(h:ia<a.size)(UZ:∀(i:Nat) (hi:i<b.size),ib<=i->L b[i] a[ia]=AC):MidO L a b (out.push a[ia]) (ia+1) ib where
 m:=m.m.pushA h
 so:=Qt m.so λy hy=>m.oa y hy ia h (AM _)
 oa:=λx hx i hi PQ=>by
  rcases HF.mp hx with hx|rfl
  .exact m.oa x hx i hi (AY (A6 _ _) PQ)
  .exact sa ia i hi (FX PQ)
 ob:=λx hx i hi RY=>by
  rcases HF.mp hx with hx|rfl
  .exact m.ob x hx i hi RY
  .exact UZ i hi RY
theorem Ft(a:Array BA){i k:Nat}(h:i+k<a.size):out++a.extract i (i+(k+1))=(out++a.extract i (i+k)).push a[i+k]:=by
 apply Array.ext'
 rw[ER,FG,ER,KW,KW,CP]
 congr 1
 show(a.toList.drop i).take (i+(k+1)-i)=(a.toList.drop i).take (i+k-i)++[a[i+k]];rw[show i+(k+1)-i=k+1 from NM _ _,show i+k-i=k from NM _ _,CH (by simp;lia)];simp
theorem MidO.manyA(sa:SA L a):∀{k:Nat},MidO L a b out ia ib->ia+k<=a.size->(∀(i:Nat) (hi:i<a.size),ia<=i->i<ia+k->∀(j:Nat) (hj:j<b.size),ib<=j->L b[j] a[i]=AC)->MidO L a b (out++a.extract ia (ia+k)) (ia+k) ib
 |0,m,_,_=>by
  have e:out++a.extract ia (ia+0)=out:=by simp<;>lia
  rw[e];exact m
 |k+1,m,h,UZ=>by
  have z:=MidO.manyA sa (k:=k) m 'l' λi hi h1 h2=>UZ i hi h1 (C4 h2 (A9 (DW _) _));rw[Ft a (show ia+k<a.size from AN (A9 (DW _) _) h)];exact z.pushA sa (AN (A9 (DW _) _) h) λj hj wY=>UZ (ia+k) (AN (A9 (DW _) _) h) (A6 _ _) (A9 (DW _) _) j hj wY
theorem MidO.manyB(sb:SA L b):∀{k:Nat},MidO L a b out ia ib->ib+k<=b.size->(∀(i:Nat) (hi:i<b.size),ib<=i->i<ib+k->∀(j:Nat) (hj:j<a.size),ia<=j->L a[j] b[i]=AC)->MidO L a b (out++b.extract ib (ib+k)) ia (ib+k)
 |0,m,_,_=>by
  have e:out++b.extract ib (ib+0)=out:=by simp<;>lia
  rw[e];exact m
 |k+1,m,h,UZ=>by
  have z:=MidO.manyB sb (k:=k) m 'l' λi hi h1 h2=>UZ i hi h1 (C4 h2 (A9 (DW _) _));rw[Ft b (show ib+k<b.size from AN (A9 (DW _) _) h)];exact z.pushB sb (AN (A9 (DW _) _) h) λj hj wZ=>UZ (ib+k) (AN (A9 (DW _) _) h) (A6 _ _) (A9 (DW _) _) j hj wZ
theorem MidO.doneB(m:MidO L a b out ia ib)(sa:SA L a)(h:ib=b.size):(out++a.extract ia a.size++b.extract ib b.size).toList.Pairwise λx y=>L y x=AC:=by
 have la:=m.m.la;have z:=m.manyA sa (k:=a.size-ia) 'l' λi hi h1 h2 j hj wY=>by lia
 rw[show ia+(a.size-ia)=a.size by lia] at z;have e:b.extract ib b.size=#[]:=by rw[h];simp
 rw[e,bC];exact z.so
theorem MidO.doneA(m:MidO L a b out ia ib)(sb:SA L b)(h:ia=a.size):(out++a.extract ia a.size++b.extract ib b.size).toList.Pairwise λx y=>L y x=AC:=by
 have lb:=m.m.lb;have z:=m.manyB sb (k:=b.size-ib) 'l' λi hi h1 h2 j hj wZ=>by lia
 rw[show ib+(b.size-ib)=b.size by lia] at z;have e:a.extract ia a.size=#[]:=by rw[h];simp
 rw[e,bC];exact z.so
theorem MidO.lastA(m:MidO L a b out ia ib)(sa:SA L a)(sb:SA L b)(h:ia+1=a.size)(hl:∀(j:Nat) (hj:j<b.size),L (a[a.size-1]'(by lia)) b[j]=AC):(out++b.extract ib b.size++a.extract ia a.size).toList.Pairwise λx y=>L y x=AC:=by
 have lb:=m.m.lb
 have z:=m.manyB sb (k:=b.size-ib) 'l' λi hi h1 h2 j hj wZ=>by
  have e:j=a.size-1:=by lia
  subst e;exact hl i hi
 rw[show ib+(b.size-ib)=b.size by lia] at z;have z2:=z.manyA sa (k:=1) (C0 h) λi hi h1 h2 j hj wY=>by lia
 rw[h] at z2;exact z2.so
end
@[elab_as_elim] theorem Au{K:Prop}{α0 α1 α2 α3 γ:Type}{f:α0->α1->α2->α3->γ}{P:α0->α1->α2->α3->Prop}{G:γ->Prop}{c:γ}(H:K/\∃x0 x1 x2 x3,c=f x0 x1 x2 x3/\P x0 x1 x2 x3)(k:K->∀x0 x1 x2 x3,P x0 x1 x2 x3->G (f x0 x1 x2 x3)):G c:=by
 obtain⟨g,x0,x1,x2,x3,rfl,p⟩:=H;exact k g x0 x1 x2 x3 p
@[elab_as_elim] theorem rS{K:Prop}{α0 α1 α2 α3 α4 γ:Type}{f:α0->α1->α2->α3->α4->γ}{P:α0->α1->α2->α3->α4->Prop}{G:γ->Prop}{c:γ}(H:K/\∃x0 x1 x2 x3 x4,c=f x0 x1 x2 x3 x4/\P x0 x1 x2 x3 x4)(k:K->∀x0 x1 x2 x3 x4,P x0 x1 x2 x3 x4->G (f x0 x1 x2 x3 x4)):G c:=by
 obtain⟨g,x0,x1,x2,x3,x4,rfl,p⟩:=H;exact k g x0 x1 x2 x3 x4 p
@[elab_as_elim] theorem rR{K:Prop}{α0 α1 α2 α3 α4 α5 γ:Type}{f:α0->α1->α2->α3->α4->α5->γ}{P:α0->α1->α2->α3->α4->α5->Prop}{G:γ->Prop}{c:γ}(H:K/\∃x0 x1 x2 x3 x4 x5,c=f x0 x1 x2 x3 x4 x5/\P x0 x1 x2 x3 x4 x5)(k:K->∀x0 x1 x2 x3 x4 x5,P x0 x1 x2 x3 x4 x5->G (f x0 x1 x2 x3 x4 x5)):G c:=by
 obtain⟨g,x0,x1,x2,x3,x4,x5,rfl,p⟩:=H;exact k g x0 x1 x2 x3 x4 x5 p
@[elab_as_elim] theorem Vz{K:Prop}{α0 α1 α2 α3 α4 α5 α6 γ:Type}{f:α0->α1->α2->α3->α4->α5->α6->γ}{P:α0->α1->α2->α3->α4->α5->α6->Prop}{G:γ->Prop}{c:γ}(H:K/\∃x0 x1 x2 x3 x4 x5 x6,c=f x0 x1 x2 x3 x4 x5 x6/\P x0 x1 x2 x3 x4 x5 x6)(k:K->∀x0 x1 x2 x3 x4 x5 x6,P x0 x1 x2 x3 x4 x5 x6->G (f x0 x1 x2 x3 x4 x5 x6)):G c:=by
 obtain⟨g,x0,x1,x2,x3,x4,x5,x6,rfl,p⟩:=H;exact k g x0 x1 x2 x3 x4 x5 x6 p
section
variable{prog:CU}{w:D8}{A:DU}{E:AJ->AS->Prop}{s:AS}{BW:Array BA}{kd:FL}{L:BA->BA->Bool}{β:Type}{Q:β->BS->Prop}{st:BS}
theorem WM{HC:Array BA}{i:Nat}{f:BA->StateT BS TC β}(hi:i<HC.size)(h:N5 (A4 prog w) A E s (f HC[i]) Q st):N5 (A4 prog w) A E s (elem' HC i >>= f) Q st:=BI (qV hi h)
theorem At{g:Nat}{f:Unit->StateT BS TC β}(h:N5 (A4 prog w) A E s (f ()) Q (tJ st g)):N5 (A4 prog w) A E s (Hf g >>= f) Q st:=BI (zY2 h)
theorem Vy{x y:BA}{f:Option Bool->StateT BS TC β}(hA:WH prog w A s kd BW L)(hk:kindOf st=kd)(hx:x∈BW)(hy:y∈BW)(h:N5 (A4 prog w) A E s (f (AA (L x y))) Q st):N5 (A4 prog w) A E s (lt' x y >>= f) Q st:=BI (zQ hA hk hx hy h)
theorem qK{γ:Type}{a b:Nat}{f:Nat->γ->StateT BS TC (ForInStep γ)}{k:γ->StateT BS TC β}(I:Nat->γ->BS->Prop)(R:γ->BS->Prop)
  (wO:∀i c st,a<=i->i<b->I i c st->N5 (A4 prog w) A E s (f i c) (λr CT=>match r with|.done c'=>R c' CT|.yield c'=>I (i+1) c' CT) st)
  (jU:∀c st,I (max a b) c st->R c st) {c:γ} (h:I a c st) (hp:∀c CT,R c CT->N5 (A4 prog w) A E s (k c) Q CT):N5 (A4 prog w) A E s (forIn [a:b] c f >>= k) Q st:=BI (JV (FU I wO jU h) hp)
theorem Vx{KA:BA}{HC:Array BA}{base n hint:Nat}{f:Option Nat->StateT BS TC β}(hA:WH prog w A s kd BW L)(O:Ord L BW)(hk:kindOf st=kd)(M0:KA∈BW)(QI:∀x∈HC,x∈BW)
  (hb:base+n<=HC.size) (hh:hint<n) (sl:∀(i j:Nat) (hj:base+j<HC.size) (MH:i<j),j<n->L HC[base+j] (HC[base+i]'(C4 (A9 MH _) hj))=AC)
  (h:∀k,k<=n->(∀(i:Nat) (hi:base+i<HC.size),i<k->L KA HC[base+i]=AC)->(∀(i:Nat) (hi:base+i<HC.size),k<=i->i<n->L KA HC[base+i]=AK)->N5 (A4 prog w) A E s (f (AA k)) Q st):N5 (A4 prog w) A E s (tZ AC KA HC base n hint >>= f) Q st:=BI (Tx hA O hk M0 QI hb hh sl h)
theorem Vw{KA:BA}{HC:Array BA}{base n hint:Nat}{f:Option Nat->StateT BS TC β}(hA:WH prog w A s kd BW L)(O:Ord L BW)(hk:kindOf st=kd)(M0:KA∈BW)(QI:∀x∈HC,x∈BW)
  (hb:base+n<=HC.size) (hh:hint<n) (sl:∀(i j:Nat) (hj:base+j<HC.size) (MH:i<j),j<n->L HC[base+j] (HC[base+i]'(C4 (A9 MH _) hj))=AC)
  (h:∀k,k<=n->(∀(i:Nat) (hi:base+i<HC.size),i<k->L HC[base+i] KA=AK)->(∀(i:Nat) (hi:base+i<HC.size),k<=i->i<n->L HC[base+i] KA=AC)->N5 (A4 prog w) A E s (f (AA k)) Q st):N5 (A4 prog w) A E s (tZ AK KA HC base n hint >>= f) Q st:=BI (Tw hA O hk M0 QI hb hh sl h)
end
section
variable{prog:CU}{w:D8}{A:DU}{E:AJ->AS->Prop}{s:AS}{BW:Array BA}{kd:FL}{L:BA->BA->Bool}
theorem Vv{α β:Type}{T:β->StateT BS TC α}{M:Model}{A:DU}{E:AJ->AS->Prop}{s:AS}{Q:α->BS->Prop}{st:BS}{N3:Prop}(h1:(∀x,N5 M A E s (T x) Q st)->N3)(h2:∀x,N5 M A E s (T x) Q st):N3:=h1 h2
theorem zNR{st:BS}{a b:Array BA}{Q:Array BA->BS->Prop}(hA:WH prog w A s kd BW L)(O:Ord L BW)(hk:kindOf st=kd)(ha:∀x∈a,x∈BW)(hb:∀x∈b,x∈BW)(na:1<=a.size)(nb:1<=b.size)(sa:SA L a)(sb:SA L b)(hf:∀(i:Nat) (hi:i<a.size),L a[i] (b[0]'(FX nb))=AC)(hl:∀(j:Nat) (hj:j<b.size),L (a[a.size-1]'(by lia)) b[j]=AC)
  (h:∀c CT,Gal st CT->c.Perm (a++b)->(c.toList.Pairwise λx y=>L y x=AC)->Q c CT):N5 (A4 prog w) A E s (zU4 a b) Q st:=by
 refine BI (QK (FC {rfl,?_}));dsimp only;refine WM (FX nb) ?_
 have m0:MidO L a b #[b[0]] 0 1:=by
  have z:MidO L a b #[] 0 0:={{by simp,BP _,BP _,rfl},OC,λx hx=>by simp at hx,λx hx=>by simp at hx};exact z.pushB sb (FX nb) λi hi _=>hf i hi
 refine L9 (λe1=>BC (h _ _ (Gal.refl st) m0.m.done (m0.doneB sa (beq_iff_eq.mp e1)))) (λe1=>?_);replace e1:¬1=b.size:=λz=>e1 (beq_iff_eq.mpr z);refine L9 (λe2=>BC (h _ _ (Gal.refl st) m0.m.lastA (m0.lastA sa sb (beq_iff_eq.mp e2) hl))) (λe2=>?_);replace e2:¬0+1=a.size:=λz=>e2 (beq_iff_eq.mpr z);refine BI (NR ?_)
 refine qK
  (I:=λi c CT=>Gal st CT/\∃out ia ib g,c=(AL,out,ia,ib,g)/\MidO L a b out ia ib/\ia+1<a.size/\ib<b.size/\i+1<=out.size)
  (R:=λc CT=>Gal st CT/\∃r out ia ib g,c=(AA r,out,ia,ib,g)/\(r.Perm (a++b)/\r.toList.Pairwise λx y=>L y x=AC)) ?step ?fin ?init ?post
 case init=>exact{Gal.refl st,_,_,_,_,rfl,m0,GN na e2,GN nb e1,by simp}
 case post =>
  intro c CT H;refine rS (c:=c) H λg r out ia ib gg p=>?_;clear H;exact BC (h _ _ g p.1 p.2)
 case fin =>
  intro c CT H;refine Au (c:=c) H λg out ia ib gg P=>?_;clear H;have m:=P.1;have h1:=P.2.1;have h2:=P.2.2.1;have h3:=P.2.2.2;clear P;exfalso;have:=m.m.sz;lia
 case step =>
  intro i c CT _ hi H;refine Au (c:=c) H λg out ia ib gg P=>?_;clear H;have m:=P.1;have h1:=P.2.1;have h2:=P.2.2.1;have h3:=P.2.2.2;clear P;dsimp only;have Jo:0<a.size+b.size:=AR (BP _) hi
  -- one by one
  refine qK
   (I:=λ_ c st2=>Gal st st2/\∃out ia ib ac bc,c=(AL,out,ia,ib,ac,bc)/\MidO L a b out ia ib/\ia+1<a.size/\ib<b.size/\i+1<=out.size)
   (R:=λc st2=>Gal st st2/\∃r out ia ib ac bc,c=(r,out,ia,ib,ac,bc)/\(match r with
    |some r=>(r.Perm (a++b)/\r.toList.Pairwise λx y=>L y x=AC)
    |none=>MidO L a b out ia ib/\ia+1<a.size/\ib<b.size/\i+1<=out.size)) ?step1 ?fin1 {g,_,_,_,_,_,rfl,m,h1,h2,h3} ?post1
  case fin1 =>
   intro c st2 H;refine rS (c:=c) H λg2 out ia ib ac bc P=>?_;clear H;have m:=P.1;have h1:=P.2.1;have h2:=P.2.2.1;have h3:=P.2.2.2;clear P;exact{g2,AL,_,_,_,_,_,rfl,m,h1,h2,h3}
  case step1 =>
   intro j c st2 _ hj H;refine rS (c:=c) H λg2 out ia ib ac bc P=>?_;clear H;have m:=P.1;have h1:=P.2.1;have h2:=P.2.2.1;have h3:=P.2.2.2;clear P;dsimp only;refine WM h2 (WM (AR (A6 _ _) h1) (Vy hA (g2.kind hk) (hb _ (AH h2)) (ha _ (AH _)) ?_));have PQ:ia<a.size:=AR (A6 _ _) h1;refine L9 (λew=>?_) (λew=>?_)
   .refine WM h2 ?_
    have m2:=m.pushB sb h2 λi hi w6=>O.trans _ _ _ (hb _ (AH h2)) (ha _ (AH PQ)) (ha _ (AH hi)) (O.asym _ _ (hb _ (AH h2)) (ha _ (AH PQ)) ew) (sa.le O ha hi w6);have MZ:i+1<=(out.push b[ib]).size:=by rw[EI];lia
    refine L9 (λq=>BC {g2,AA _,_,_,_,_,_,rfl,m2.m.done,m2.doneB sa (beq_iff_eq.mp q)}) (λq=>?_);have UC:ib+1<b.size:=GN h2 λz=>q (beq_iff_eq.mpr z);refine L9 (λ_=>?_) (λ_=>?_)
    .exact BC {g2,AL,_,_,_,_,_,rfl,m2,h1,UC,MZ}
    .exact BC {g2,_,_,_,_,_,rfl,m2,h1,UC,MZ}
   .refine WM PQ ?_
    have m2:=m.pushA sa PQ λi hi w6=>O.trans _ _ _ (ha _ (AH PQ)) (hb _ (AH h2)) (hb _ (AH hi)) (RA.mpr ew) (sb.le O hb hi w6);have MZ:i+1<=(out.push a[ia]).size:=by rw[EI];lia
    refine L9 (λq=>BC {g2,AA _,_,_,_,_,_,rfl,m2.m.lastA,m2.lastA sa sb (beq_iff_eq.mp q) hl}) (λq=>?_);have YV:ia+1+1<a.size:=GN h1 λz=>q (beq_iff_eq.mpr z);refine L9 (λ_=>?_) (λ_=>?_)
    .exact BC {g2,AL,_,_,_,_,_,rfl,m2,YV,h2,MZ}
    .exact BC {g2,_,_,_,_,_,rfl,m2,YV,h2,MZ}
  case post1 =>
   intro c st2 H;refine rR (c:=c) H λg2 r out ia ib ac bc hr=>?_;clear H
   cases r with
   |some r=>exact BC {g2,r,_,_,_,_,rfl,hr}
   |none =>
    have m:=hr.1;have h1:=hr.2.1;have h2:=hr.2.2.1;have h3:=hr.2.2.2;clear hr;dsimp only;refine BI (QK (FC {rfl,?_}))
    refine qK
     (I:=λj c K5=>Gal st K5/\∃out ia ib gg ac bc,c=(AL,out,ia,ib,gg,ac,bc)/\MidO L a b out ia ib/\ia+1<a.size/\ib<b.size/\i+1+(if j=0 then 0 else 1)<=out.size)
     (R:=λc K5=>Gal st K5/\∃r out ia ib gg ac bc,c=(r,out,ia,ib,gg,ac,bc)/\(match r with
      |some r=>(r.Perm (a++b)/\r.toList.Pairwise λx y=>L y x=AC)
      |none=>MidO L a b out ia ib/\ia+1<a.size/\ib<b.size/\i+2<=out.size)) ?step2 ?fin2 {g2,_,_,_,_,_,_,rfl,m,h1,h2,by simpa using h3} ?post2
    case fin2 =>
     intro c K5 H;refine rR (c:=c) H λg3 out ia ib gg ac bc P=>?_;clear H;have m:=P.1;have h1:=P.2.1;have h2:=P.2.2.1;have h3:=P.2.2.2;clear P;rw[if_neg (EY (AN Jo (NL _ _)))] at h3;exact{g3,AL,_,_,_,_,_,_,rfl,m,h1,h2,h3}
    case step2 =>
     intro j c K5 _ hj H;refine rR (c:=c) H λg3 out ia ib gg ac bc P=>?_;clear H;have m:=P.1;have h1:=P.2.1;have h2:=P.2.2.1;have h3:=P.2.2.2;clear P
     replace h3:i+1<=out.size:=by
      split at h3<;>lia
     dsimp only
     refine Vv (M:=A4 prog w) (A:=A) (E:=E) (s:=s) (λK=>by
      refine L9 (λhg=>?gpos) (λhg=>?gneg)
      case gneg =>
       generalize gg=g';exact K g'
      case gpos=>exact K (gg-1)) (λgg=>?_)
     refine At ?_;refine WM h2 (Vx hA O ((g3.set _).kind hk) (hb _ (AH h2)) ha 'l' 'l' (λi j hj MH _=>sa (ia+i) (ia+j) hj (A9 MH _)) λk bZ c1 c2=>?_)
     have mL:∀(i:Nat) (hi:i<a.size),ia+k<=i->L a[i] b[ib]=AC:=λi hi eP=>O.asym _ _ (hb _ (AH h2)) (ha _ (AH hi)) (by
      have z:=c2 (i-ia) 'l' 'l' 'l'
      simpa[show ia+(i-ia)=i by lia] using z)
     dsimp only
     refine Ih (λ(out:Array BA) (ia:Nat)=>MidO L a b out ia ib/\ia+1<a.size/\i+1<=out.size/\∀(i:Nat) (hi:i<a.size),ia<=i->L a[i] b[ib]=AC) (λK=>by
      by_cases pG:¬(k>0)
      .rw[if_neg pG]
       have hP:MidO L a b out ia ib/\ia+1<a.size/\i+1<=out.size/\∀(i:Nat) (hi:i<a.size),ia<=i->L a[i] b[ib]=AC:={m,h1,h3,λi hi eP=>mL i hi 'l'}
       revert hP
       generalize out=YL,ia=ia';exact λhP=>K YL ia' hP
      .rw[if_pos (LO.mp pG)]
       replace m:=m.manyA sa (k:=k) 'l' λi hi YV UC j hj wY=>O.trans _ _ _ (ha _ (AH hi)) (hb _ (AH h2)) (hb _ (AH hj)) (by
        have z:=c1 (i-ia) 'l' 'l'
        simpa[show ia+(i-ia)=i by lia] using z) (sb.le O hb hj wY)
       refine L9 (λq1=>BC {g3.set _,AA _,_,_,_,_,_,_,rfl,m.m.lastA,m.lastA sa sb (beq_iff_eq.mp q1) hl}) (λq1=>?_);replace q1:¬(ia+k+1=a.size):=λz=>q1 (beq_iff_eq.mpr z);refine L9 (λq2=>BC {g3.set _,AA _,_,_,_,_,_,_,rfl,m.m.done,m.doneA sb (beq_iff_eq.mp q2)}) (λq2=>?_);replace q2:¬(ia+k=a.size):=λz=>q2 (beq_iff_eq.mpr z)
       exact K _ _ {m,by lia,by rw[IB];lia,mL}) ?_
     clear c1 c2 mL m h1 h3 bZ;intro out ia P;have m:=P.1;have h1:=P.2.1;have h3:=P.2.2.1;have mL:=P.2.2.2;clear P;refine WM h2 ?_;have ZV:=m.m.sz;replace m:=m.pushB sb h2 mL;have hs:=m.m.sz;refine L9 (λq3=>BC {g3.set _,AA _,_,_,_,_,_,_,rfl,m.m.done,m.doneB sa (beq_iff_eq.mp q3)}) (λq3=>?_);replace q3:¬(ib+1=b.size):=λz=>q3 (beq_iff_eq.mpr z);refine WM (AR (A6 _ _) h1) (Vw hA O ((g3.set _).kind hk) (ha _ (AH _)) hb 'l' 'l' (λi j hj MH _=>sb (ib+1+i) (ib+1+j) hj (A9 MH _)) λk2 lZ d1 d2=>?_);dsimp only
     refine Ih (λ(out:Array BA) (ib:Nat)=>MidO L a b out ia ib/\ib<b.size/\i+2<=out.size/\∀(i:Nat) (hi:i<b.size),ib<=i->L b[i] (a[ia]'(AR (A6 _ _) h1))=AC) (λK=>by
      by_cases pF:¬(k2>0)
      .rw[if_neg pF]
       have hP:MidO L a b (out.push b[ib]) ia (ib+1)/\ib+1<b.size/\i+2<=(out.push b[ib]).size/\∀(i:Nat) (hi:i<b.size),ib+1<=i->L b[i] (a[ia]'(AR (A6 _ _) h1))=AC:={m,GN (J9 h2) q3,by rw[EI];lia,λi hi w6=>by
        have z:=d2 (i-(ib+1)) 'l' 'l' 'l'
        simpa[show ib+1+(i-(ib+1))=i by lia] using z}
       revert hP
       generalize out.push b[ib]=YL,ib+1=ib';exact λhP=>K YL ib' hP
      .rw[if_pos (LO.mp pF)]
       replace m:=m.manyB sb (k:=k2) 'l' λi hi YV UC j hj wZ=>O.trans _ _ _ (hb _ (AH hi)) (ha _ (AH _)) (ha _ (AH hj)) (O.asym _ _ (hb _ (AH hi)) (ha _ (AH _)) (by
        have z:=d1 (i-(ib+1)) 'l' 'l'
        simpa[show ib+1+(i-(ib+1))=i by lia] using z)) (sa.le O ha hj wZ)
       refine L9 (λq4=>BC {g3.set _,AA _,_,_,_,_,_,_,rfl,m.m.done,m.doneB sa (beq_iff_eq.mp q4)}) (λq4=>?_);replace q4:¬(ib+1+k2=b.size):=λz=>q4 (beq_iff_eq.mpr z)
       exact K _ _ {m,by lia,by rw[IB];lia,λi hi w6=>by
        have z:=d2 (i-(ib+1)) 'l' 'l' 'l'
        simpa[show ib+1+(i-(ib+1))=i by lia] using z}) ?_
     clear d1 d2 lZ m q3 hs ZV h3 mL;intro out ib P;have m:=P.1;have h2:=P.2.1;have h3:=P.2.2.1;have d2:=P.2.2.2;clear P;refine WM (AR (A6 _ _) h1) ?_;have MZ:=m.m.sz;replace m:=m.pushA sa (AR (A6 _ _) h1) d2;have Bx:=m.m.sz;refine L9 (λq5=>?_) (λq5=>?_)
     .exact BC {g3.set _,AA _,_,_,_,_,_,_,rfl,m.m.lastA,m.lastA sa sb (beq_iff_eq.mp q5) hl}
     .have Zg:¬(_=_):=λz=>q5 (beq_iff_eq.mpr z)
      refine L9 (λq6=>?_) (λq6=>?_)
      .exact BC {g3.set _,AL,_,_,_,_,_,_,rfl,m,GN (J9 h1) Zg,h2,by lia}
      .exact BC {g3.set _,_,_,_,_,_,_,rfl,m,GN (J9 h1) Zg,h2,by rw[if_neg (EY (Nat.succ_pos _))];lia}
    case post2 =>
     intro c K5 H;refine Vz (c:=c) H λg3 r out ia ib gg ac bc hr=>?_;clear H
     cases r with
     |some r=>exact BC {g3,r,_,_,_,_,rfl,hr}
     |none =>
      have m:=hr.1;have h1:=hr.2.1;have h2:=hr.2.2.1;have h3:=hr.2.2.2;clear hr;exact At (BC {g3.set _,_,_,_,_,rfl,m,h1,h2,h3})
end
structure MidHO(L:BA->BA->Bool)(a b out:Array BA)(na nb:Nat):Prop where
 m:MidH a b out na nb
 so:out.toList.Pairwise λx y=>L x y=AC
 oa:∀x∈out,∀(i:Nat) (hi:i<a.size),i<na->L x a[i]=AC
 ob:∀x∈out,∀(i:Nat) (hi:i<b.size),i<nb->L x b[i]=AC
section
variable{L:BA->BA->Bool}{a b out:Array BA}{na nb:Nat}
theorem Sr{x:BA}(h:out.toList.Pairwise λx y=>L x y=AC)(hx:∀y∈out,L y x=AC):(out.push x).toList.Pairwise λx y=>L x y=AC:=by
 rw[FG,IN];refine{h,XR _ _,λy hy z hz=>?_};rw[BB.mp hz];exact hx y (FR.mp hy)
theorem MidHO.pushA(m:MidHO L a b out na nb)(sa:SA L a)(h0:1<=na)(h:na-1<a.size)(UZ:∀(j:Nat) (hj:j<b.size),j<nb->L a[na-1] b[j]=AC):MidHO L a b (out.push a[na-1]) (na-1) nb where
 m:=m.m.pushA h0 h
 so:=Sr m.so λy hy=>m.oa y hy (na-1) h 'l'
 oa:=λx hx i hi PQ=>by
  rcases HF.mp hx with hx|rfl
  .exact m.oa x hx i hi (AN PQ (C7 _ _))
  .exact sa i (na-1) h (PQ)
 ob:=λx hx i hi RY=>by
  rcases HF.mp hx with hx|rfl
  .exact m.ob x hx i hi RY
  .exact UZ i hi RY
theorem MidHO.pushB(m:MidHO L a b out na nb)(sb:SA L b)(h0:1<=nb)(h:nb-1<b.size)(UZ:∀(j:Nat) (hj:j<a.size),j<na->L b[nb-1] a[j]=AC):MidHO L a b (out.push b[nb-1]) na (nb-1) where
 m:=m.m.pushB h0 h
 so:=Sr m.so λy hy=>m.ob y hy (nb-1) h 'l'
 oa:=λx hx i hi PQ=>by
  rcases HF.mp hx with hx|rfl
  .exact m.oa x hx i hi PQ
  .exact UZ i hi PQ
 ob:=λx hx i hi RY=>by
  rcases HF.mp hx with hx|rfl
  .exact m.ob x hx i hi (AN RY (C7 _ _))
  .exact sb i (nb-1) h (RY)
theorem Qs(a:Array BA){i n:Nat}(h:i<n)(hn:n-1<a.size):out++(a.extract i n).reverse=(out.push a[n-1])++(a.extract i (n-1)).reverse:=by
 have e:a.extract i n=(a.extract i (n-1)).push a[n-1]:=by
  have z:=Ft (out:=#[]) a (i:=i) (k:=n-1-i) 'l';rw[show i+(n-1-i+1)=n by lia] at z;simpa[show i+(n-1-i)=n-1 by lia] using z
 rw[e];generalize a.extract i (n-1)=x;generalize a[n-1]=y
 apply Array.ext'
 simp
theorem MidHO.manyA(sa:SA L a){i0:Nat}(m:MidHO L a b out na nb)(h:i0<=na)(UZ:∀(i:Nat) (hi:i<a.size),i0<=i->i<na->∀(j:Nat) (hj:j<b.size),j<nb->L a[i] b[j]=AC):MidHO L a b (out++(a.extract i0 na).reverse) i0 nb:=by
 obtain⟨d,hd⟩:∃d,na=i0+d:={na-i0,by lia}
 induction d generalizing na out with
 |zero =>
  have e0:na=i0:=by lia
  subst e0
  have e:out++(a.extract na na).reverse=out:=by
   have:a.extract na na=#[]:=by simp<;>lia
   rw[this];simp
  rw[e];exact m
 |succ d ih =>
  have la:=m.m.la;rw[Qs a (show i0<na by lia) 'l'];exact ih (m.pushA sa 'l' 'l' λj hj SS=>UZ (na-1) 'l' 'l' 'l' j hj SS) 'l' (λi hi h1 h2=>UZ i hi h1 (AN h2 (C7 _ _))) 'l'
theorem MidHO.manyB(sb:SA L b){i0:Nat}(m:MidHO L a b out na nb)(h:i0<=nb)(UZ:∀(i:Nat) (hi:i<b.size),i0<=i->i<nb->∀(j:Nat) (hj:j<a.size),j<na->L b[i] a[j]=AC):MidHO L a b (out++(b.extract i0 nb).reverse) na i0:=by
 obtain⟨d,hd⟩:∃d,nb=i0+d:={nb-i0,by lia}
 induction d generalizing nb out with
 |zero =>
  have e0:nb=i0:=by lia
  subst e0
  have e:out++(b.extract nb nb).reverse=out:=by
   have:b.extract nb nb=#[]:=by simp<;>lia
   rw[this];simp
  rw[e];exact m
 |succ d ih =>
  have lb:=m.m.lb;rw[Qs b (show i0<nb by lia) 'l'];exact ih (m.pushB sb 'l' 'l' λj hj SS=>UZ (nb-1) 'l' 'l' 'l' j hj SS) 'l' (λi hi h1 h2=>UZ i hi h1 (AN h2 (C7 _ _))) 'l'
theorem Di(h:out.toList.Pairwise λx y=>L x y=AC):out.reverse.toList.Pairwise λx y=>L y x=AC:=by
 rw[OO,List.pairwise_reverse];exact h
theorem MidHO.doneA(m:MidHO L a b out na nb)(sb:SA L b)(h:na=0):(a.extract 0 na++b.extract 0 nb++out.reverse).toList.Pairwise λx y=>L y x=AC:=by
 have z:=Di (m.manyB sb (i0:=0) (BP _) λi hi h1 h2 j hj SS=>by lia).so;subst h;simpa using z
theorem MidHO.doneB(m:MidHO L a b out na nb)(sa:SA L a)(h:nb=0):(a.extract 0 na++b.extract 0 nb++out.reverse).toList.Pairwise λx y=>L y x=AC:=by
 have z:=Di (m.manyA sa (i0:=0) (BP _) λi hi h1 h2 j hj SS=>by lia).so;subst h;simpa using z
theorem MidHO.firstB(m:MidHO L a b out na nb)(sa:SA L a)(sb:SA L b)(h:nb=1)(hf:∀(i:Nat) (hi:i<a.size),L a[i] (b[0]'(by have:=m.m.lb;lia))=AC):(b.extract 0 nb++a.extract 0 na++out.reverse).toList.Pairwise λx y=>L y x=AC:=by
 have z1:=m.manyA sa (i0:=0) (BP _) λi hi h1 h2 j hj SS=>by
  have e:j=0:=by lia
  subst e;exact hf i hi
 have z:=Di (z1.manyB sb (i0:=0) (BP _) λi hi h1 h2 j hj SS=>by lia).so;simpa using z
end
section
variable{prog:CU}{w:D8}{A:DU}{E:AJ->AS->Prop}{s:AS}{BW:Array BA}{kd:FL}{L:BA->BA->Bool}
theorem Vu{α β γ δ:Type}{T:β->γ->δ->StateT BS TC α}{M:Model}{A:DU}{E:AJ->AS->Prop}{s:AS}{Q:α->BS->Prop}{st:BS}{N3:Prop}(P:β->γ->Prop)(h1:(∀x y z,P x y->N5 M A E s (T x y z) Q st)->N3)(h2:∀x y z,P x y->N5 M A E s (T x y z) Q st):N3:=h1 h2
theorem zNS{st:BS}{a b:Array BA}{Q:Array BA->BS->Prop}(hA:WH prog w A s kd BW L)(O:Ord L BW)(hk:kindOf st=kd)(ha:∀x∈a,x∈BW)(hb:∀x∈b,x∈BW)(na:1<=a.size)(nb:1<=b.size)(sa:SA L a)(sb:SA L b)(hf:∀(i:Nat) (hi:i<a.size),L a[i] (b[0]'(FX nb))=AC)(hl:∀(j:Nat) (hj:j<b.size),L (a[a.size-1]'(by lia)) b[j]=AC)
  (h:∀c CT,Gal st CT->c.Perm (a++b)->(c.toList.Pairwise λx y=>L y x=AC)->Q c CT):N5 (A4 prog w) A E s (zU5 a b) Q st:=by
 refine BI (QK (FC {rfl,?_}));dsimp only;refine WM 'l' ?_
 have m0:MidHO L a b #[a[a.size-1]] (a.size-1) b.size:=by
  have z:MidHO L a b #[] a.size b.size:={{by rw[J2 's',J2 's'];simp,AM _,AM _,by simp},OC,λx hx=>by simp at hx,λx hx=>by simp at hx};exact z.pushA sa (na) 'l' λj hj _=>hl j hj
 refine L9 (λe1=>?_) (λe1=>?_)
 .exact BC (h _ _ (Gal.refl st) m0.m.done (m0.doneA sb (beq_iff_eq.mp e1)))
 refine L9 (λe2=>?_) (λe2=>?_)
 .exact BC (h _ _ (Gal.refl st) m0.m.firstB (m0.firstB sa sb (beq_iff_eq.mp e2) hf))
 have Ny:¬(a.size-1=0):=λz=>e1 (beq_iff_eq.mpr z);have Nv:¬(b.size=1):=λz=>e2 (beq_iff_eq.mpr z);refine BI (NR ?_)
 refine qK
  (I:=λi c CT=>Gal st CT/\∃na nb out g,c=(AL,na,nb,out,g)/\MidHO L a b out na nb/\1<=na/\2<=nb/\i+1<=out.size)
  (R:=λc CT=>Gal st CT/\∃r na nb out g,c=(AA r,na,nb,out,g)/\(r.Perm (a++b)/\r.toList.Pairwise λx y=>L y x=AC)) ?step ?fin ?init ?post
 case init=>exact{Gal.refl st,_,_,_,_,rfl,m0,by lia,by lia,by simp}
 case post =>
  intro c CT H;refine rS (c:=c) H λg r ia ib out gg p=>?_;clear H;exact BC (h _ _ g p.1 p.2)
 case fin =>
  intro c CT H;refine Au (c:=c) H λg na nb out gg P=>?_;clear H;have m:=P.1;have h1:=P.2.1;have h2:=P.2.2.1;have h3:=P.2.2.2;clear P;exfalso;have:=m.m.sz;lia
 case step =>
  intro i c CT _ hi H;refine Au (c:=c) H λg na nb out gg P=>?_;clear H;have m:=P.1;have h1:=P.2.1;have h2:=P.2.2.1;have h3:=P.2.2.2;clear P;dsimp only;have Jo:0<a.size+b.size:=AR (BP _) hi
  refine qK
   (I:=λ_ c st2=>Gal st st2/\∃na nb out ac bc,c=(AL,na,nb,out,ac,bc)/\MidHO L a b out na nb/\1<=na/\2<=nb/\i+1<=out.size)
   (R:=λc st2=>Gal st st2/\∃r na nb out ac bc,c=(r,na,nb,out,ac,bc)/\(match r with
    |some r=>(r.Perm (a++b)/\r.toList.Pairwise λx y=>L y x=AC)
    |none=>MidHO L a b out na nb/\1<=na/\2<=nb/\i+1<=out.size)) ?step1 ?fin1 {g,_,_,_,_,_,rfl,m,h1,h2,h3} ?post1
  case fin1 =>
   intro c st2 H;refine rS (c:=c) H λg2 na nb out ac bc P=>?_;clear H;have m:=P.1;have h1:=P.2.1;have h2:=P.2.2.1;have h3:=P.2.2.2;clear P;exact{g2,AL,_,_,_,_,_,rfl,m,h1,h2,h3}
  case step1 =>
   intro j c st2 _ hj H;refine rS (c:=c) H λg2 na nb out ac bc P=>?_;clear H;have m:=P.1;have h1:=P.2.1;have h2:=P.2.2.1;have h3:=P.2.2.2;clear P;dsimp only;have la:=m.m.la;have lb:=m.m.lb;refine WM 'l' (WM 'l' (Vy hA (g2.kind hk) (hb _ (AH _)) (ha _ (AH _)) ?_));have PQ:na-1<a.size:=by lia
   have RY:nb-1<b.size:=by lia
   refine L9 (λew=>?_) (λew=>?_)
   .refine WM PQ ?_
    have m2:=m.pushA sa h1 PQ λj hj SS=>O.trans _ _ _ (hb _ (AH hj)) (hb _ (AH RY)) (ha _ (AH PQ)) (sb.le O hb RY 'l') (O.asym _ _ (hb _ (AH RY)) (ha _ (AH PQ)) ew);have MZ:i+1<=(out.push a[na-1]).size:=by rw[EI];lia
    refine L9 (λq=>BC {g2,AA _,_,_,_,_,_,rfl,m2.m.done,m2.doneA sb (beq_iff_eq.mp q)}) (λq=>?_);have YV:1<=na-1:=Nat.pos_of_ne_zero λz=>q (beq_iff_eq.mpr z);refine L9 (λq=>?_) (λq=>?_)
    .exact BC {g2,AL,_,_,_,_,_,rfl,m2,YV,h2,MZ}
    .exact BC {g2,_,_,_,_,_,rfl,m2,YV,h2,MZ}
   .refine WM RY ?_
    have m2:=m.pushB sb (AY (DX _ _) h2) RY λj hj SS=>O.trans _ _ _ (ha _ (AH hj)) (ha _ (AH PQ)) (hb _ (AH RY)) (sa.le O ha PQ 'l') (RA.mpr ew);have MZ:i+1<=(out.push b[nb-1]).size:=by rw[EI];lia
    refine L9 (λq=>BC {g2,AA _,_,_,_,_,_,rfl,m2.m.firstB,m2.firstB sa sb (beq_iff_eq.mp q) hf}) (λq=>?_)
    have UC:2<=nb-1:=by
     have q':¬(nb-1=1):=λz=>q (beq_iff_eq.mpr z);lia
    refine L9 (λq=>?_) (λq=>?_)
    .exact BC {g2,AL,_,_,_,_,_,rfl,m2,h1,UC,MZ}
    .exact BC {g2,_,_,_,_,_,rfl,m2,h1,UC,MZ}
  case post1 =>
   intro c st2 H;refine rR (c:=c) H λg2 r na nb out ac bc hr=>?_;clear H
   cases r with
   |some r=>exact BC {g2,r,_,_,_,_,rfl,hr}
   |none =>
    have m:=hr.1;have h1:=hr.2.1;have h2:=hr.2.2.1;have h3:=hr.2.2.2;clear hr;dsimp only;refine BI (QK (FC {rfl,?_}))
    refine qK
     (I:=λj c K5=>Gal st K5/\∃na nb out gg ac bc,c=(AL,na,nb,out,gg,ac,bc)/\MidHO L a b out na nb/\1<=na/\2<=nb/\i+1+(if j=0 then 0 else 1)<=out.size)
     (R:=λc K5=>Gal st K5/\∃r na nb out gg ac bc,c=(r,na,nb,out,gg,ac,bc)/\(match r with
      |some r=>(r.Perm (a++b)/\r.toList.Pairwise λx y=>L y x=AC)
      |none=>MidHO L a b out na nb/\1<=na/\2<=nb/\i+2<=out.size)) ?step2 ?fin2 {g2,_,_,_,_,_,_,rfl,m,h1,h2,by simpa using h3} ?post2
    case fin2 =>
     intro c K5 H;refine rR (c:=c) H λg3 na nb out gg ac bc P=>?_;clear H;have m:=P.1;have h1:=P.2.1;have h2:=P.2.2.1;have h3:=P.2.2.2;clear P;rw[if_neg (EY (AN Jo (NL _ _)))] at h3;exact{g3,AL,_,_,_,_,_,_,rfl,m,h1,h2,h3}
    case step2 =>
     intro j c K5 _ hj H;refine rR (c:=c) H λg3 na nb out gg ac bc P=>?_;clear H;have m:=P.1;have h1:=P.2.1;have h2:=P.2.2.1;have h3:=P.2.2.2;clear P
     replace h3:i+1<=out.size:=by
      split at h3<;>lia
     dsimp only;have la:=m.m.la;have lb:=m.m.lb
     refine Vv (λK=>by
      refine L9 (λhg=>?gpos) (λhg=>?gneg)
      case gneg =>
       generalize gg=g';exact K g'
      case gpos=>exact K (gg-1)) (λgg=>?_)
     refine At ?_;refine WM 'l' (Vx hA O ((g3.set _).kind hk) (hb _ (AH _)) ha (AY (C0 (EN _)) la) 'l' (λi j hj MH _=>sa (0+i) (0+j) hj (A9 MH _)) λk bZ c1 c2=>?_);have RY:nb-1<b.size:=by lia
     have hJ:∀(i:Nat) (hi:i<a.size),i<k->L b[nb-1] a[i]=AC:=λi hi eP=>by
      have z:=c1 i (AR (C0 (EN _)) hi) eP;simpa using z
     dsimp only
     refine Vu (λ(out:Array BA) (na:Nat)=>MidHO L a b out na nb/\1<=na/\i+1<=out.size/\∀(i:Nat) (hi:i<a.size),i<na->L b[nb-1] a[i]=AC) (λK=>by
      by_cases pG:¬(na-k>0)
      .rw[if_neg pG]
       have hP:MidHO L a b out na nb/\1<=na/\i+1<=out.size/\∀(i:Nat) (hi:i<a.size),i<na->L b[nb-1] a[i]=AC:={m,h1,h3,λi hi eP=>hJ i hi 'l'}
       revert hP
       generalize na-k=ac';generalize out=YL,na=sG;exact λhP=>K YL sG ac' hP
      .rw[if_pos (LO.mp pG)]
       replace m:=m.manyA sa bZ λi hi YV UC j hj SS=>O.trans _ _ _ (hb _ (AH hj)) (hb _ (AH RY)) (ha _ (AH hi)) (sb.le O hb RY 'l') (O.asym _ _ (hb _ (AH RY)) (ha _ (AH hi)) (by
        have z:=c2 i (AR (C0 (EN _)) hi) YV UC
        simpa using z))
       refine L9 (λq1=>BC {g3.set _,AA _,_,_,_,_,_,_,rfl,m.m.done,m.doneA sb (beq_iff_eq.mp q1)}) (λq1=>?_);replace q1:¬(k=0):=λz=>q1 (beq_iff_eq.mpr z)
       exact K _ _ _ {m,by lia,by rw[IB];lia,hJ}) ?_
     clear c1 c2 hJ m h1 h3 bZ la;intro out na ac P;have m:=P.1;have h1:=P.2.1;have h3:=P.2.2.1;have hJ:=P.2.2.2;clear P;refine WM (RY) ?_;have ZV:=m.m.sz;have la:=m.m.la;replace m:=m.pushB sb (AY (DX _ _) h2) (RY) hJ;have hs:=m.m.sz;refine L9 (λq3=>BC {g3.set _,AA _,_,_,_,_,_,_,rfl,m.m.firstB,m.firstB sa sb (beq_iff_eq.mp q3) hf}) (λq3=>?_);have q3':¬(nb-1=1):=λz=>q3 (beq_iff_eq.mpr z);refine WM 'l' (Vw hA O ((g3.set _).kind hk) (ha _ (AH _)) hb 'l' 'l' (λi j hj MH _=>sb (0+i) (0+j) hj (A9 MH _)) λk2 lZ d1 d2=>?_);have PQ:na-1<a.size:=by lia
     have pW:∀(j:Nat) (hj:j<b.size),j<k2->L a[na-1] b[j]=AC:=λj hj SS=>O.asym _ _ (hb _ (AH hj)) (ha _ (AH _)) (by
      have z:=d1 j (AR (C0 (EN _)) hj) SS
      simpa using z)
     dsimp only
     refine Vu (λ(out:Array BA) (nb:Nat)=>MidHO L a b out na nb/\2<=nb/\i+2<=out.size/\∀(j:Nat) (hj:j<b.size),j<nb->L a[na-1] b[j]=AC) (λK=>by
      by_cases pF:¬(nb-1-k2>0)
      .rw[if_neg pF]
       have hP:MidHO L a b (out.push b[nb-1]) na (nb-1)/\2<=nb-1/\i+2<=(out.push b[nb-1]).size/\∀(j:Nat) (hj:j<b.size),j<nb-1->L a[na-1] b[j]=AC:={m,by lia,by rw[EI];lia,λj hj SS=>pW j hj 'l'}
       revert hP
       generalize nb-1-k2=bc';generalize out.push b[nb-1]=YL;generalize nb-1=Zo;exact λhP=>K YL Zo bc' hP
      .rw[if_pos (LO.mp pF)]
       replace m:=m.manyB sb lZ λi hi YV UC j hj SS=>O.trans _ _ _ (ha _ (AH hj)) (ha _ (AH PQ)) (hb _ (AH hi)) (sa.le O ha PQ 'l') (by
        have z:=d2 i (AR (C0 (EN _)) hi) YV UC
        simpa using z)
       refine L9 (λq4=>BC {g3.set _,AA _,_,_,_,_,_,_,rfl,m.m.firstB,m.firstB sa sb (beq_iff_eq.mp q4) hf}) (λq4=>?_);replace q4:¬(k2=1):=λz=>q4 (beq_iff_eq.mpr z);refine L9 (λq5=>BC {g3.set _,AA _,_,_,_,_,_,_,rfl,m.m.done,m.doneB sa (beq_iff_eq.mp q5)}) (λq5=>?_);replace q5:¬(k2=0):=λz=>q5 (beq_iff_eq.mpr z)
       exact K _ _ _ {m,by lia,by rw[IB,EI];lia,pW}) ?_
     clear d1 d2 pW lZ m hs ZV h3 hJ;intro out Zo bc P;have m:=P.1;have UC:=P.2.1;have h3:=P.2.2.1;have pW:=P.2.2.2;clear P;refine WM (PQ) ?_;have MZ:=m.m.sz;replace m:=m.pushA sa (h1) (PQ) pW;have Bx:=m.m.sz;refine L9 (λq6=>BC {g3.set _,AA _,_,_,_,_,_,_,rfl,m.m.done,m.doneA sb (beq_iff_eq.mp q6)}) (λq6=>?_);have q6':¬(na-1=0):=λz=>q6 (beq_iff_eq.mpr z);refine L9 (λq7=>?_) (λq7=>?_)
     .exact BC {g3.set _,AL,_,_,_,_,_,_,rfl,m,by lia,UC,by lia}
     .exact BC {g3.set _,_,_,_,_,_,_,rfl,m,by lia,UC,by rw[if_neg (EY (Nat.succ_pos _))];lia}
    case post2 =>
     intro c K5 H;refine Vz (c:=c) H λg3 r na nb out gg ac bc hr=>?_;clear H
     cases r with
     |some r=>exact BC {g3,r,_,_,_,_,rfl,hr}
     |none =>
      have m:=hr.1;have h1:=hr.2.1;have h2:=hr.2.2.1;have h3:=hr.2.2.2;clear hr;exact At (BC {g3.set _,_,_,_,_,rfl,m,h1,h2,h3})
end
def Seg(L:BA->BA->Bool)(a:Array BA)(i n:Nat):Prop:=∀(p q:Nat) (hq:q<a.size) (N0:p<q),i<=p->q<i+n->L a[q] (a[p]'(C4 N0 hq))=AC
theorem zZB{a c:Array BA}{sa:Nat}(h:sa+c.size<=a.size):(c.toList.zipIdx.foldl (λa (p:BA×Nat)=>a.setIfInBounds (sa+p.2) p.1) a).size=a.size /\
  ∀(p:Nat) (hp:p<(c.toList.zipIdx.foldl (λa (p:BA×Nat)=>a.setIfInBounds (sa+p.2) p.1) a).size) (jS:p<a.size),
   (c.toList.zipIdx.foldl (λa (p:BA×Nat)=>a.setIfInBounds (sa+p.2) p.1) a)[p]=if h:sa<=p/\p-sa<c.size then c[p-sa]'h.2 else a[p]:=by
 have e:=Rh c.toList a sa 0 (by simpa using h);generalize c.toList.zipIdx.foldl (λa (p:BA×Nat)=>a.setIfInBounds (sa+p.2) p.1) a=r at e ⊢;rw[show sa+0=sa from Nat.add_zero _] at e
 have hs:r.size=a.size:=by
  have:=congrArg K0 e;simp at this;lia
 refine{hs,λp hp jS=>?_};have e2:r.toList[p]?=(a.toList.take sa++c.toList++a.toList.drop (sa+c.toList.length))[p]?:=by rw[e]
 rw[C3,getElem?_pos r p hp] at e2;have hl:(a.toList.take sa).length=sa:=by simp;lia
 by_cases h1:p<sa
 .rw[dif_neg 'l']
  rw[CP,CF 'l',W0 h1,C3,getElem?_pos a p jS] at e2;exact BJ e2
 .by_cases h2:p-sa<c.size
  .rw[dif_pos {E8 h1,h2}]
   rw[CP,B0 'l',hl,CF (by simpa using h2),C3,getElem?_pos c (p-sa) h2] at e2;exact BJ e2
  .rw[dif_neg 'l']
   rw[CP,B0 'l',hl,B0 (by simp;lia),List.getElem?_drop] at e2;rw[show sa+c.toList.length+(p-sa-c.toList.length)=p by simp;lia,C3,getElem?_pos a p jS] at e2;exact BJ e2
section
variable{prog:CU}{w:D8}{A:DU}{E:AJ->AS->Prop}{s:AS}{BW:Array BA}{kd:FL}{L:BA->BA->Bool}
theorem Ej{a:Array BA}{i j:Nat}{x:BA}(hx:x∈a.extract i j):∃(p:Nat) (hp:p<a.size),i<=p/\p<j/\x=a[p]:=by
 rw[Array.mem_iff_getElem] at hx;obtain⟨k,hk,rfl⟩:=hx;rw[JJ] at hk;exact{i+k,by lia,A6 _ _,by lia,by simp}
theorem yIO{P N3:Prop}(h1:P->N3)(h2:P):N3:=h1 h2
theorem zNU{st:BS}{i sa na sb nb pa pb:Nat}{Q:Bool->BS->Prop}(hA:WH prog w A s kd BW L)(O:Ord L BW)(hB:SB BW kd st)(e1:(DM st)[i]?=AA (sa,na,pa))(e2:(DM st)[i+1]?=AA (sb,nb,pb))
  (h1:1<=na) (h2:1<=nb) (wP:sb=sa+na) (hz:sb+nb<=BW.size) (ga:Seg L (A0 st) sa na) (gb:Seg L (A0 st) sb nb)
  (h:∀CT,SB BW kd CT->DM CT=((DM st).setIfInBounds i (sa,na+nb,pa)).eraseIdxIfInBounds (i+1)->Seg L (A0 CT) sa (na+nb) ->
   (∀(p:Nat) (hp:p<(A0 CT).size) (jS:p<(A0 st).size),p<sa\/sa+(na+nb)<=p->(A0 CT)[p]=(A0 st)[p])->Q AK CT) :
  N5 (A4 prog w) A E s (mergeAt' i) Q st:=by
 refine BI (NR ?_);rw[e1,e2];dsimp only;have hsz:=hB.size;have SU:∀x∈A0 st,x∈BW:=λx hx=>hB.perm.mem_iff.mp hx;have mm:∀(p:Nat) (hp:p<(A0 st).size),(A0 st)[p]∈BW:=λp hp=>SU _ (AH hp);refine BI (zY3 ?_);have sS:SB BW kd (setPending st (((DM st).setIfInBounds i (sa,na+nb,pa)).eraseIdxIfInBounds (i+1))):={hB.perm,hB.kind,hB.failed};have eD:sb<(A0 st).size:=by lia
 -- b's first is at D6 the others of b;a's last is at least the others of a
 have b0:∀(q:Nat) (hq:q<(A0 st).size),sb<=q->q<sb+nb->L (A0 st)[q] (A0 st)[sb]=AC:=λq hq h3 h4=>by
  rcases DN h3 with z|z
  .exact gb sb q hq z (AM _) h4
  .subst z;exact O.refl (mm _ _)
 have Ci:sa+na-1<(A0 st).size:=by lia
 have aL:∀(p:Nat) (hp:p<(A0 st).size),sa<=p->p<sa+na->L (A0 st)[sa+na-1] (A0 st)[p]=AC:=λp hp h3 h4=>by
  rcases DN (show p<=sa+na-1 by lia) with z|z
  .exact ga p (sa+na-1) Ci z h3 'l'
  .subst z;exact O.refl (mm _ _)
 refine BI (qV (HC:=A0 st) (eD) (BI (Tx (HC:=A0 st) hA O sS.kind (SU _ (AH _)) SU 'l' (FX h1) (λi j hj MH SS=>ga (sa+i) (sa+j) hj (A9 MH _) (A6 _ _) (A9 SS _)) λk hk c1 c2=>?_)))
 have hJ:∀(p:Nat) (hp:p<(A0 st).size),sa<=p->p<sa+k->L (A0 st)[sb] (A0 st)[p]=AC:=λp hp h3 h4=>by
  have z:=c1 (p-sa) 'l' 'l';simpa[show sa+(p-sa)=p by lia] using z
 have mL:∀(p:Nat) (hp:p<(A0 st).size),sa+k<=p->p<sa+na->L (A0 st)[sb] (A0 st)[p]=AK:=λp hp h3 h4=>by
  have z:=c2 (p-sa) 'l' 'l' 'l';simpa[show sa+(p-sa)=p by lia] using z
 dsimp only;refine L9 (λq=>?_) (λq=>?_)
 .have q':na-k=0:=beq_iff_eq.mp q
  refine BC (h _ sS rfl (λp r hr WS h3 h4=>?_) λp hp jS _=>rfl)
  by_cases xJ:r<sa+na
  .exact ga p r hr WS h3 xJ
  .by_cases eS:sb<=p
   .exact gb p r hr WS eS 'l'
   .exact O.trans _ _ _ (mm p (C4 WS hr)) (mm sb eD) (mm r hr) (hJ p (C4 WS hr) h3 'l') (b0 r hr 'l' 'l')
 have q':¬(na-k=0):=λz=>q (beq_iff_eq.mpr z);refine BI (qV (HC:=A0 st) 'l' (BI (Tw (HC:=A0 st) hA O sS.kind (SU _ (AH _)) SU 'l' 'l' (λi j hj MH SS=>gb (sb+i) (sb+j) hj (A9 MH _) (A6 _ _) (A9 SS _)) λm hm d1 d2=>?_)));have eal:sa+k+(na-k)-1=sa+na-1:=by lia
 have pW:∀(r:Nat) (hr:r<(A0 st).size),sb<=r->r<sb+m->L (A0 st)[r] (A0 st)[sa+na-1]=AK:=λr hr h3 h4=>by
  have z:=d1 (r-sb) 'l' 'l';simpa[show sb+(r-sb)=r by lia,eal] using z
 have d2':∀(r:Nat) (hr:r<(A0 st).size),sb+m<=r->r<sb+nb->L (A0 st)[r] (A0 st)[sa+na-1]=AC:=λr hr h3 h4=>by
  have z:=d2 (r-sb) 'l' 'l' 'l';simpa[show sb+(r-sb)=r by lia,eal] using z
 dsimp only;refine L9 (λr=>?_) (λr=>?_)
 .have r':m=0:=beq_iff_eq.mp r
  refine BC (h _ sS rfl (λp r hr WS h3 h4=>?_) λp hp jS _=>rfl)
  by_cases xJ:r<sa+na
  .exact ga p r hr WS h3 xJ
  .by_cases eS:sb<=p
   .exact gb p r hr WS eS 'l'
   .exact O.trans _ _ _ (mm p (C4 WS hr)) (mm _ Ci) (mm r hr) (aL p (C4 WS hr) h3 'l') (d2' r hr 'l' 'l')
 have r':¬(m=0):=λz=>r (beq_iff_eq.mpr z)
 have ex:∀i j x,x∈(A0 st).extract i j->x∈BW:=λi j x hx=>by
  obtain⟨p,hp,_,_,rfl⟩:=Ej hx;exact mm p hp
 have zx:((A0 st).extract (sa+k) sb).size=na-k:=by rw[JJ];lia
 have zy:((A0 st).extract sb (sb+m)).size=m:=by rw[JJ];lia
 have sx:SA L ((A0 st).extract (sa+k) sb):=λi j hj MH=>by
  rw[zx] at hj;simpa using ga (sa+k+i) (sa+k+j) 'l' (A9 MH _) 'l' 'l'
 have sy:SA L ((A0 st).extract sb (sb+m)):=λi j hj MH=>by
  rw[zy] at hj;simpa using gb (sb+i) (sb+j) 'l' (A9 MH _) (A6 _ _) (A9 (AN hj hm) _)
 have hf:∀(i:Nat) (hi:i<((A0 st).extract (sa+k) sb).size),L ((A0 st).extract (sa+k) sb)[i] (((A0 st).extract sb (sb+m))[0]'(by lia))=AC:=λi hi=>by
  have z:=O.asym _ _ (mm sb eD) (mm (sa+k+i) 'l') (mL (sa+k+i) 'l' (A6 _ _) 'l');simpa using z
 have hl:∀(j:Nat) (hj:j<((A0 st).extract sb (sb+m)).size),L (((A0 st).extract (sa+k) sb)[((A0 st).extract (sa+k) sb).size-1]'(by lia)) ((A0 st).extract sb (sb+m))[j]=AC:=λj hj=>by
  have z:=O.asym _ _ (mm (sb+j) 'l') (mm (sa+na-1) Ci) (pW (sb+j) 'l' (A6 _ _) 'l');simpa[zx,show sa+k+(na-k-1)=sa+na-1 by lia] using z
 refine yIO (λK=>L9 (λ_=>BI (zNR (a:=(A0 st).extract (sa+k) sb) (b:=(A0 st).extract sb (sb+m)) hA O sS.kind (ex _ _) (ex _ _) 'l' 'l' sx sy hf hl K)) (λ_=>BI (zNS (a:=(A0 st).extract (sa+k) sb) (b:=(A0 st).extract sb (sb+m)) hA O sS.kind (ex _ _) (ex _ _) 'l' 'l' sx sy hf hl K))) ?_;rintro c CT ⟨g,rfl⟩ hp eE;refine BI (M1 (BI (NR (BC ?_))));have hn:(j7 st).isNone=AK:=by rw[hB.failed];rfl
 show Q (j7 st).isNone _;rw[hn];have ZX:c.size=na-k+m:=by rw[hp.size_eq,IB,zx,zy]
 obtain⟨os,Kn⟩:=zZB (a:=A0 st) (c:=c) (sa:=sa+k) 'l'
 have xR:∀(j:Nat) (hj:j<c.size),(∃(p:Nat) (hp:p<(A0 st).size),sa+k<=p/\p<sb/\c[j]=(A0 st)[p])\/∃(p:Nat) (hp:p<(A0 st).size),sb<=p/\p<sb+m/\c[j]=(A0 st)[p]:=λj hj=>by
  have hx:c[j]∈(A0 st).extract (sa+k) sb++(A0 st).extract sb (sb+m):=hp.mem_iff.mp (AH hj);rcases Array.mem_append.mp hx with hx|hx
  .exact .inl (Ej hx)
  .exact .inr (Ej hx)
 refine h _ {(zR2 'l' 'l' hp).trans hB.perm,hB.kind,hB.failed} rfl (λp r hr WS h3 h4=>?_) λp Ca Lk Cb=>?_
 .have XG:r<(A0 st).size:=by rw[<-os];exact hr
  show L (_:Array BA)[r] (_:Array BA)[p]=AC;rw[Kn r hr XG,Kn p (C4 WS hr) (C4 WS XG)]
  by_cases gW:p<sa+k
  .rw[dif_neg (show ¬(sa+k<=p/\p-(sa+k)<c.size) by lia)]
   by_cases pA:r<sa+k
   .rw[dif_neg (show ¬(sa+k<=r/\r-(sa+k)<c.size) by lia)]
    exact ga p r XG WS h3 (AN pA (EJ (AM _) hk))
   .by_cases o9:r-(sa+k)<c.size
    .rw[dif_pos (show sa+k<=r/\r-(sa+k)<c.size from{E8 pA,o9})]
     rcases xR _ o9 with⟨u,hu,u1,u2,eu⟩|⟨u,hu,u1,u2,eu⟩
     .rw[eu];exact ga p u hu (AN gW u1) h3 (AN u2 (C0 wP))
     .rw[eu];exact O.trans _ _ _ (mm p (C4 WS XG)) (mm sb eD) (mm u hu) (hJ p (C4 WS XG) h3 gW) (b0 u hu u1 (AN u2 (EJ (AM _) hm)))
    .rw[dif_neg (show ¬(sa+k<=r/\r-(sa+k)<c.size) by lia)]
     exact O.trans _ _ _ (mm p (C4 WS XG)) (mm sb eD) (mm r XG) (hJ p (C4 WS XG) h3 gW) (b0 r XG 'l' 'l')
  .by_cases YO:p-(sa+k)<c.size
   .rw[dif_pos (show sa+k<=p/\p-(sa+k)<c.size from{E8 gW,YO})]
    by_cases o9:r-(sa+k)<c.size
    .rw[dif_pos (show sa+k<=r/\r-(sa+k)<c.size from{by lia,o9})]
     have z:=EO.mp eE (p-(sa+k)) (r-(sa+k)) (by simpa using YO) (by simpa using o9) 'l';simpa using z
    .rw[dif_neg (show ¬(sa+k<=r/\r-(sa+k)<c.size) by lia)]
     rcases xR _ YO with⟨u,hu,u1,u2,eu⟩|⟨u,hu,u1,u2,eu⟩
     .rw[eu];exact O.trans _ _ _ (mm u hu) (mm _ Ci) (mm r XG) (aL u hu (AY (A6 _ _) u1) (AN u2 (C0 wP))) (d2' r XG 'l' 'l')
     .rw[eu];exact gb u r XG 'l' u1 'l'
   .rw[dif_neg (show ¬(sa+k<=p/\p-(sa+k)<c.size) by lia),dif_neg (show ¬(sa+k<=r/\r-(sa+k)<c.size) by lia)]
    exact gb p r XG WS 'l' 'l'
 .show(_:Array BA)[p]=_
  rw[Kn p Ca Lk,dif_neg (show ¬(sa+k<=p/\p-(sa+k)<c.size) by lia)]
end
theorem seg_iff{L:BA->BA->Bool}{a:Array BA}{i n:Nat}:Seg L a i n↔∀p q x y,p<q->i<=p->q<i+n->a[p]?=AA x->a[q]?=AA y->L y x=AC:=by
 constructor
 .intro h p q x y N0 hi hq ex ey
  obtain⟨h1,rfl⟩:=CO.mp ex;obtain⟨h2,rfl⟩:=CO.mp ey;exact h p q h2 N0 hi hq
 .intro h p q hq N0 hi hn
  exact h p q _ _ N0 hi hn (getElem?_pos a p (C4 N0 hq)) (getElem?_pos a q hq)
section
variable{prog:CU}{w:D8}{A:DU}{E:AJ->AS->Prop}{s:AS}{BW:Array BA}{kd:FL}{L:BA->BA->Bool}
theorem qZ{st:BS}{i j:Nat}{Q:Option Bool->BS->Prop}(hA:WH prog w A s kd BW L)(hB:SB BW kd st)(hi:i<(A0 st).size)(hj:j<(A0 st).size)(h:Q (AA (L (A0 st)[i] (A0 st)[j])) st) :
  N5 (A4 prog w) A E s (ltAt' i j) Q st:=by
 rw[ltAt'_eq];refine BI (NR ?_);exact BI (qV hi (BI (qV hj (zQ hA hB.kind (hB.mem hi) (hB.mem hj) h))))
theorem zIQ{st:BS}{lo n ok:Nat}{Q:Bool->BS->Prop}(hA:WH prog w A s kd BW L)(O:Ord L BW)(hn:lo+n<=BW.size)(hok:ok<=n)(h1:1<=n)(hB:SB BW kd st)(hs:Seg L (A0 st) lo ok)
  (h:∀CT,SB BW kd CT->DM CT=DM st->Seg L (A0 CT) lo n->(∀p,p<lo->(A0 CT)[p]?=(A0 st)[p]?)->Q AK CT):N5 (A4 prog w) A E s (binarySort' lo n ok) Q st:=by
 rw[binarySort'_eq]
 refine BI (JV (FU (I:=λk c CT=>c=(AL,())/\SB BW kd CT/\DM CT=DM st/\Seg L (A0 CT) lo k/\∀p,p<lo->(A0 CT)[p]?=(A0 st)[p]?)
  (Q:=λc CT=>c=(AL,())/\SB BW kd CT/\DM CT=DM st/\Seg L (A0 CT) lo n/\∀p,p<lo->(A0 CT)[p]?=(A0 st)[p]?) ?step ?fin {rfl,hB,rfl,?ini,λ_ _=>rfl}) ?post)
 case ini =>
  intro p q hq N0 hp pB;exact hs p q hq N0 hp 'o'
 case fin =>
  rintro c CT ⟨e,mD,hp,Q2,ho⟩;refine{e,mD,hp,λp q hq N0 hp pB=>Q2 p q hq N0 hp ?_,ho};omega
 case post =>
  rintro c CT ⟨rfl,mD,hp,Q2,ho⟩;exact BC (h CT mD hp Q2 ho)
 case step =>
  rintro k c CT hak hkn ⟨rfl,mD,hp,Q2,ho⟩;have hsz:=mD.size;have bZ:lo+k<(A0 CT).size:=by omega
  have mm:∀(p:Nat) (hp:p<(A0 CT).size),(A0 CT)[p]∈BW:=λp hp=>mD.mem hp
  refine BI (JV (FU (I:=λx c PN=>PN=CT/\∃l r,c=(AL,l,r)/\l<=r/\r<=k/\(∀(p:Nat) (hp:lo+p<(A0 CT).size),p<l->L (A0 CT)[lo+k] (A0 CT)[lo+p]=AC)/\(∀(p:Nat) (hp:lo+p<(A0 CT).size),r<=p->p<k->L (A0 CT)[lo+k] (A0 CT)[lo+p]=AK)/\r-l+x<=k)
   (Q:=λc PN=>PN=CT/\∃l r,c=(AL,l,r)/\l<=k/\(∀(p:Nat) (hp:lo+p<(A0 CT).size),p<l->L (A0 CT)[lo+k] (A0 CT)[lo+p]=AC)/\(∀(p:Nat) (hp:lo+p<(A0 CT).size),l<=p->p<k->L (A0 CT)[lo+k] (A0 CT)[lo+p]=AK)) ?istep
   ((λc PN q0=>by obtain⟨e,l,r,e2,q1,q2,q3,q4,q5⟩:=q0;exact{e,l,r,e2,AY q1 q2,q3,λp hp h1 h2=>q4 p hp 'o' h2})) {rfl,0,k,rfl,BP _,AM _,λp hp h=>by omega,λp hp h1 h2=>by omega,by omega}) ?ipost)
  case istep =>
   rintro x c PN _ hxk ⟨rfl,l,r,rfl,q1,q2,q3,q4,q5⟩;dsimp only
   by_cases l0:l>=r
   .rw[if_pos l0]
    exact BC {rfl,l,r,rfl,AY q1 q2,q3,λp hp h1 h2=>q4 p hp 'o' h2}
   .rw[if_neg l0]
    have hm:lo+(l+r) / 2<(A0 PN).size:=by omega
    refine BI (qZ hA mD bZ hm ?_)
    cases e:L (A0 PN)[lo+k] (A0 PN)[lo+(l+r) / 2] with
    |true =>
     refine BC {rfl,l,(l+r) / 2,rfl,by omega,by omega,q3,λp hp h1 h2=>?_,by omega}
     cases e3:L (A0 PN)[lo+k] (A0 PN)[lo+p] with
     |true=>rfl
     |false =>
      rcases DN h1 with z|z
      .rw[O.trans _ _ _ (mm _ hm) (mm _ hp) (mm _ bZ) (Q2 (lo+(l+r) / 2) (lo+p) hp (A9 z _) (A6 _ _) (A9 h2 _)) e3] at e
       cases e
      .subst z;rw[e] at e3;cases e3
    |false =>
     refine BC {rfl,(l+r) / 2+1,r,rfl,by omega,q2,λp hp h1=>?_,q4,by omega};rcases DN (show p<=(l+r) / 2 from G1 h1) with z|z
     .exact O.trans _ _ _ (mm _ hp) (mm _ hm) (mm _ bZ) (Q2 (lo+p) (lo+(l+r) / 2) hm (A9 z _) (A6 _ _) 'o') e
     .subst z;exact e
  case ipost =>
   rintro c PN ⟨rfl,l,r,rfl,hl,q3,q4⟩;show N5 _ _ _ _ (do moveDown' (lo+k) (lo+l);pure (QT (AL,()))) _ _;rw[moveDown'_eq];have bu:=getElem?_bubble (xs:=A0 PN) bZ (lo+k-(lo+l)) (C7 _ _);refine BI (M1 (BC {rfl,mD.setArr (bubble_perm _ _ _),hp,?_,λp YO=>?_}))
   .show Seg L (bubble (A0 PN) (lo+k) (lo+k-(lo+l))) lo (k+1)
    have Lj:=seg_iff.mp Q2;rw[seg_iff];intro p q x y N0 hlp pB ex ey;rw[bu] at ex ey;rw[show lo+k-(lo+k-(lo+l))=lo+l by omega] at ex ey
    by_cases gW:p=lo+l
    .rw[if_pos gW] at ex
     rw[if_neg 'o',if_pos 'o'] at ey;obtain⟨z1,rfl⟩:=CO.mp ex;obtain⟨z2,rfl⟩:=CO.mp ey;have z:=q4 (q-1-lo) 'o' 'o' 'o';have e:lo+(q-1-lo)=q-1:=by omega
     simp only[e] at z;exact O.asym _ _ (mm _ z1) (mm _ z2) z
    .rw[if_neg gW] at ex
     by_cases X2:q=lo+l
     .rw[if_pos X2] at ey
      rw[if_neg 'o'] at ex;obtain⟨z1,rfl⟩:=CO.mp ex;obtain⟨z2,rfl⟩:=CO.mp ey;have z:=q3 (p-lo) 'o' 'o';have e:lo+(p-lo)=p:=by omega
      simp only[e] at z;exact z
     .rw[if_neg X2] at ey
      by_cases YO:lo+l<p/\p<=lo+k
      .rw[if_pos YO] at ex
       rw[if_pos 'o'] at ey;exact Lj (p-1) (q-1) x y 'o' 'o' 'o' ex ey
      .rw[if_neg YO] at ex
       by_cases bX:lo+l<q/\q<=lo+k
       .rw[if_pos bX] at ey
        exact Lj p (q-1) x y 'o' (hlp) 'o' ex ey
       .rw[if_neg bX] at ey
        exact Lj p q x y (N0) (hlp) 'o' ex ey
   .show(bubble (A0 PN) (lo+k) (lo+k-(lo+l)))[p]?=_
    rw[bu,if_neg 'o',if_neg 'o'];exact ho p YO
end
section
variable{L:BA->BA->Bool}{a BW:Array BA}
def Desc(L:BA->BA->Bool)(a:Array BA)(i n:Nat):Prop:=∀p q x y,p<q->i<=p->q<i+n->a[p]?=AA x->a[q]?=AA y->L x y=AC
def Blk(L:BA->BA->Bool)(a:Array BA)(i j:Nat):Prop:=∀p q x y,i<=p->p<j->i<=q->q<j->a[p]?=AA x->a[q]?=AA y->L x y=AC
theorem mir{xs:Array BA}{i j:Nat}(hj:j<=xs.size)(k:Nat):(O1 xs i j ((j-i) / 2))[k]?=if i<=k/\k<j then xs[i+j-1-k]? else xs[k]?:=getElem?_mirror_all hj k
theorem Desc.blk{lo n i:Nat}(d:Desc L a lo n)(hi:lo<=i)(hj:lo+n<=a.size)(b:Blk L a i (lo+n)):Desc L (O1 a i (lo+n) ((lo+n-i) / 2)) lo n:=by
 intro p q x y N0 hp hq ex ey;rw[mir hj] at ex ey
 by_cases gW:i<=p/\p<lo+n
 .rw[if_pos gW] at ex
  rw[if_pos 'l'] at ey;exact b _ _ x y 'l' 'l' 'l' 'l' ex ey
 .rw[if_neg gW] at ex
  by_cases X2:i<=q/\q<lo+n
  .rw[if_pos X2] at ey
   exact d p _ x y 'l' hp 'l' ex ey
  .rw[if_neg X2] at ey
   exact d p q x y N0 hp hq ex ey
theorem Desc.rev{lo n:Nat}(d:Desc L a lo n)(hj:lo+n<=a.size):Seg L (O1 a lo (lo+n) ((lo+n-lo) / 2)) lo n:=by
 rw[seg_iff];intro p q x y N0 hp hq ex ey;rw[mir hj] at ex ey;rw[if_pos 'l'] at ex ey;exact d _ _ y x 'l' 'l' 'l' ey ex
theorem Seg.more{lo n:Nat}(O:Ord L BW)(hm:∀x∈a,x∈BW)(s:Seg L a lo n)(h1:1<=n)(hs:lo+n<a.size)(h:L a[lo+n] (a[lo+n-1]'(AR (C7 _ _) hs))=AC):Seg L a lo (n+1):=by
 intro p q hq N0 hp pB;rcases DN (show q<=lo+n by lia) with z|z
 .exact s p q hq N0 hp z
 .subst z
  rcases DN (show p<=lo+n-1 by lia) with z|z
  .exact O.trans _ _ _ (hm _ (AH _)) (hm _ (AH _)) (hm _ (AH hs)) (s p (lo+n-1) (AR (C7 _ _) hs) z hp 'l') h
  .subst z;exact h
theorem Desc.snoc{lo n:Nat}{y:BA}(d:Desc L a lo n)(h:∀p z,lo<=p->p<lo+n->a[p]?=AA z->L z y=AC)(e:a[lo+n]?=AA y):Desc L a lo (n+1):=λp q x y' N0 hp hq ex ey=>by
 rcases DN (show q<=lo+n by lia) with z|z
 .exact d p q x y' N0 hp z ex ey
 .subst z
  rw[e] at ey;cases ey;exact h p x hp (N0) ex
theorem Qr{lo n i:Nat}{P:BA->Prop}(hj:lo+n<=a.size)(hi:lo<=i)(h:∀p z,lo<=p->p<lo+n->a[p]?=AA z->P z):∀p z,lo<=p->p<lo+n->(O1 a i (lo+n) ((lo+n-i) / 2))[p]?=AA z->P z:=λp z h1 h2 e=>by
 rw[mir hj] at e;split at e
 .exact h _ z 'l' 'l' e
 .exact h p z h1 h2 e
theorem Blk.mir{i j:Nat}(b:Blk L a i j)(hj:j<=a.size):Blk L (O1 a i j ((j-i) / 2)) i j:=λp q x y h1 h2 h3 h4 ex ey=>by
 rw[TS.mir hj,if_pos {h1,h2}] at ex;rw[TS.mir hj,if_pos {h3,h4}] at ey;exact b _ _ x y 'l' 'l' 'l' 'l' ex ey
theorem Blk.one{i:Nat}(O:Ord L BW)(hm:∀x∈a,x∈BW):Blk L a i (i+1):=λp q x y h1 h2 h3 h4 ex ey=>by
 have e1:p=i:=by lia
 have e2:q=i:=by lia
 subst e1;subst e2;rw[ex] at ey;cases ey;exact O.refl (hm _ (Array.mem_of_getElem? ex))
theorem Seg.one{lo:Nat}:Seg L a lo 1:=λp q hq N0 hp pB=>by lia
end
section
variable{prog:CU}{w:D8}{A:DU}{E:AJ->AS->Prop}{s:AS}{BW:Array BA}{kd:FL}{L:BA->BA->Bool}
def KpO(BW:Array BA)(kd:FL)(lo:Nat)(st CT:BS):Prop:=Kp BW kd st CT/\∀p,p<lo->(A0 CT)[p]?=(A0 st)[p]?
theorem KpO.rev{st CT:BS}{lo i j:Nat}(h:KpO BW kd lo st CT)(hi:lo<=i)(hj:j<=BW.size):KpO BW kd lo st (setArr CT (O1 (A0 CT) i j ((j-i) / 2))):=by
 refine{h.1.rev,λp hp=>?_};show(O1 (A0 CT) i j ((j-i) / 2))[p]?=_;rw[mir (by rw[h.1.1.size];exact hj),if_neg 'l'];exact h.2 p hp
theorem Vt{α:Type}{T:StateT BS TC α}{M:Model}{A:DU}{E:AJ->AS->Prop}{s:AS}{Q:α->BS->Prop}{N3:Prop}(P:BS->Prop)(h1:(∀st,P st->N5 M A E s T Q st)->N3)(h2:∀st,P st->N5 M A E s T Q st):N3:=h1 h2
theorem zL8{st:BS}{lo RF:Nat}{Q:Option Nat->BS->Prop}(hA:WH prog w A s kd BW L)(O:Ord L BW)(hn:lo+RF<=BW.size)(h1:1<=RF)(hB:SB BW kd st)
  (h:∀m CT,KpO BW kd lo st CT->1<=m->m<=RF->Seg L (A0 CT) lo m->Q (AA m) CT):N5 (A4 prog w) A E s (countRun' lo RF) Q st:=by
 have k0:KpO BW kd lo st st:={{hB,rfl},λ_ _=>rfl};have hsz:=hB.size;have mm:∀x∈A0 st,x∈BW:=λx hx=>hB.perm.mem_iff.mp hx;refine BI (JV (FU (I:=λx c CT=>CT=st/\c=(AL,x)/\Seg L (A0 st) lo x) (Q:=λc CT=>CT=st/\∃n,c=(AL,n)/\1<=n/\n<=RF/\Seg L (A0 st) lo n/\(n=RF\/∃(hx:lo+n<(A0 st).size),L (A0 st)[lo+n] ((A0 st)[lo+n-1]'(AR (C7 _ _) hx))=AK)) ?s1 ?f1 {rfl,rfl,Seg.one}) ?p1)
 case f1 =>
  rintro c CT ⟨rfl,rfl,sg⟩;have e:(if 1<=RF then RF else 1)=RF:=if_pos h1;exact{rfl,_,rfl,mQ _ _,by lia,sg,.inl 'l'}
 case s1 =>
  rintro x c CT pM wL ⟨rfl,rfl,sg⟩;have RH:lo+x<(A0 CT).size:=by lia
  refine BI (qZ hA hB RH (show lo+x-1<(A0 CT).size from AR (C7 _ _) RH) ?_)
  cases e:L (A0 CT)[lo+x] ((A0 CT)[lo+x-1]'(AR (C7 _ _) RH)) with
  |true=>exact BC {rfl,x,rfl,pM,CV wL,sg,.inr {RH,e}}
  |false=>exact BC {rfl,rfl,sg.more O mm pM RH e}
 case p1 =>
  rintro c CT ⟨rfl,n,rfl,Zz,aN,sg,Cb⟩;refine L9 (λq=>?_) (λq=>?_)
  .exact BC (h n _ k0 Zz aN sg)
  have q':¬(n=RF):=λz=>q (beq_iff_eq.mpr z)
  obtain⟨RH,wV⟩:∃(hx:lo+n<(A0 CT).size),L (A0 CT)[lo+n] ((A0 CT)[lo+n-1]'(AR (C7 _ _) hx))=AK:=by
   rcases Cb with z|z
   .exact absurd z q'
   .exact z
  -- the first n are alike,and the next is below
  have start:∀st1,KpO BW kd lo CT st1->Blk L (A0 st1) lo (lo+n)->(∀p x,lo<=p->p<lo+n->(A0 st1)[p]?=AA x->L x (A0 CT)[lo+n]=AC)->(A0 st1)[lo+n]?=(A0 CT)[lo+n]?->Desc L (A0 st1) lo (n+1):=λst1 k1 bl SU he p q x y N0 hp hq ex ey=>by
   rcases DN (show q<=lo+n by lia) with z|z
   .exact bl p q x y hp (C4 N0 z) (CV (AR hp N0)) z ex ey
   .subst z
    rw[he,getElem?_pos (A0 CT) (lo+n) RH] at ey;cases ey;exact SU p x hp (N0) ex
  have Cp:∀(Zx:n=1\/L ((A0 CT)[lo]'(AR (A6 _ _) RH)) ((A0 CT)[lo+n-1]'(AR (C7 _ _) RH))=AC),Blk L (A0 CT) lo (lo+n):=λZx p q x y hp YO hq bX ex ey=>by
   obtain⟨z1,rfl⟩:=CO.mp ex;obtain⟨z2,rfl⟩:=CO.mp ey
   have le:∀(u v:Nat) (hv:v<(A0 CT).size) (La:u<=v),lo<=u->v<lo+n->L (A0 CT)[v] ((A0 CT)[u]'(AR La hv))=AC:=λu v hv La h3 h4=>by
    rcases DN La with z|z
    .exact sg u v hv z h3 h4
    .subst z;exact O.refl (mm _ (AH _))
   rcases Zx with z|z
   .have e1:p=lo:=by lia
    have e2:q=lo:=by lia
    subst e1;subst e2;exact O.refl (mm _ (AH _))
   ·-- y<=last<=first<=x turned: y at D6 x
    have a1:=le q (lo+n-1) (AR (C7 _ _) RH) 'l' hq 'l';have a2:=le lo p z1 hp (AM _) YO
    exact O.trans _ _ _ (mm _ (AH z2)) (mm _ (AH (show lo<(A0 CT).size from AR (A6 _ _) RH))) (mm _ (AH z1))
     (O.trans _ _ _ (mm _ (AH z2)) (mm _ (AH (show lo+n-1<(A0 CT).size from AR (C7 _ _) RH))) (mm _ (AH (show lo<(A0 CT).size from AR (A6 _ _) RH))) a1 z) a2
  have p7:Blk L (A0 CT) lo (lo+n)->∀p x,lo<=p->p<lo+n->(A0 CT)[p]?=AA x->L x (A0 CT)[lo+n]=AC:=λbl p x hp YO ex=>by
   obtain⟨z1,rfl⟩:=CO.mp ex;have a1:=O.asym _ _ (mm _ (AH RH)) (mm _ (AH (show lo+n-1<(A0 CT).size from AR (C7 _ _) RH))) wV;have a2:=bl p (lo+n-1) _ _ hp YO 'l' 'l' (getElem?_pos (A0 CT) p z1) (getElem?_pos (A0 CT) (lo+n-1) (AR (C7 _ _) RH));exact O.trans _ _ _ (mm _ (AH RH)) (mm _ (AH (show lo+n-1<(A0 CT).size from AR (C7 _ _) RH))) (mm _ (AH z1)) a1 a2
  refine Vt (λst1=>KpO BW kd lo CT st1/\Desc L (A0 st1) lo (n+1)) (λK=>by
   refine L9 (λq1=>?_) (λq1=>?_)
   case refine_2=>exact K _ {k0,start _ k0 (Cp (.inl 'l')) (p7 (Cp (.inl 'l'))) rfl}
   case refine_1 =>
    refine BI (qZ hA hB (show lo<(A0 CT).size from AR (A6 _ _) RH) (show lo+n-1<(A0 CT).size from AR (C7 _ _) RH) ?_);cases eq1:L ((A0 CT)[lo]'(AR (A6 _ _) RH)) ((A0 CT)[lo+n-1]'(AR (C7 _ _) RH))
    case true=>exact BC (h n _ k0 Zz aN sg)
    refine BI (zN ?_);have bl:=Cp (.inr eq1);have k1:=k0.rev (i:=lo) (j:=lo+n) (AM _) (AY (EJ (AM _) aN) hn)
    exact K _ {k1,start _ k1 (Blk.mir (i:=lo) (j:=lo+n) bl (CV RH)) (Qr (CV RH) (AM _) (p7 bl)) (by
     show(O1 (A0 CT) lo (lo+n) ((lo+n-lo) / 2))[lo+n]?=_
     rw[mir (CV RH),if_neg 'l'])}) ?_
  clear start Cp p7;rintro st1 ⟨k1,D1⟩;refine BI (QK (FC {rfl,?_}));have mk:∀st2,KpO BW kd lo CT st2->∀x∈A0 st2,x∈BW:=λst2 k x hx=>k.1.1.perm.mem_iff.mp hx
  refine BI (JV (FU (I:=λx c st2=>∃WR,c=(AL,x,WR)/\KpO BW kd lo CT st2/\Desc L (A0 st2) lo x/\WR+1<=x/\Blk L (A0 st2) (lo+x-(WR+1)) (lo+x))
   (Q:=λc st2=>∃m WR,c=(AL,m,WR)/\KpO BW kd lo CT st2/\n+1<=m/\m<=RF/\Desc L (A0 st2) lo m/\WR+1<=m/\Blk L (A0 st2) (lo+m-(WR+1)) (lo+m)) ?s2 ?f2 {0,rfl,k1,D1,DX _ _,Blk.one O (mk _ k1)}) ?p2)
  case f2 =>
   rintro c st2 ⟨WR,rfl,k,D,RX,bk⟩;exact{_,WR,rfl,k,mQ _ _,by lia,D,RX,bk}
  case s2 =>
   rintro x c st2 pM wL ⟨WR,rfl,k,D,RX,bk⟩;have aK:=k.1.1.size;have m2:=mk _ k;have SR:lo+x<(A0 st2).size:=by lia
   have oV:lo+x-1<(A0 st2).size:=AR (C7 _ _) SR
   have all1:L (A0 st2)[lo+x-1] (A0 st2)[lo+x]=AC->∀p z,lo<=p->p<lo+x->(A0 st2)[p]?=AA z->L z (A0 st2)[lo+x]=AC:=λe p z hp YO ez=>by
    obtain⟨z1,rfl⟩:=CO.mp ez;rcases DN (show p<=lo+x-1 by lia) with u|u
    .exact O.trans _ _ _ (m2 _ (AH SR)) (m2 _ (AH oV)) (m2 _ (AH z1)) e (D p (lo+x-1) _ _ u hp 'l' ez (getElem?_pos (A0 st2) (lo+x-1) oV))
    .subst u;exact e
   refine BI (qZ hA k.1.1 SR oV ?_)
   cases e:L (A0 st2)[lo+x] (A0 st2)[lo+x-1] with
   |true =>
    have al:=all1 (O.asym _ _ (m2 _ (AH SR)) (m2 _ (AH oV)) e);simp only[if_true];refine L9 (λ_=>?_) (λ_=>?_)
    .have k':=k.rev (i:=lo+x-(WR+1)) (j:=lo+x) 'l' 'l'
     refine BI (zN (BC {0,rfl,k',?_,DX _ _,Blk.one O (mk _ k')}));refine Desc.snoc (y:=(A0 st2)[lo+x]) (D.blk 'l' (CV SR) bk) (Qr (CV SR) 'l' al) ?_;show(O1 (A0 st2) (lo+x-(WR+1)) (lo+x) ((lo+x-(lo+x-(WR+1))) / 2))[lo+x]?=_;rw[mir (CV SR),if_neg 'l'];exact getElem?_pos (A0 st2) (lo+x) SR
    .exact BC {0,rfl,k,D.snoc al (getElem?_pos (A0 st2) (lo+x) SR),DX _ _,Blk.one O m2}
   |false =>
    refine BI (qZ hA k.1.1 oV SR ?_)
    cases e2:L (A0 st2)[lo+x-1] (A0 st2)[lo+x] with
    |true=>exact BC {x,WR,rfl,k,pM,CV wL,D,RX,bk}
    |false =>
     have al:=all1 e2;refine BC {WR+1,rfl,k,D.snoc al (getElem?_pos (A0 st2) (lo+x) SR),EJ RX (AM _),λp q u v YV UC h3' h4' eu ev=>?_}
     by_cases hp:p<lo+x
     .by_cases hq:q<lo+x
      .exact bk p q u v 'l' hp 'l' hq eu ev
      .have e3:q=lo+x:=by lia
       subst e3;rw[getElem?_pos (A0 st2) (lo+x) SR] at ev;cases ev;exact al p u 'l' hp eu
     .have e3:p=lo+x:=by lia
      subst e3;rw[getElem?_pos (A0 st2) (lo+x) SR] at eu;cases eu
      by_cases hq:q<lo+x
      .obtain⟨z1,rfl⟩:=CO.mp ev
       have a1:=bk (lo+x-1) q _ _ 'l' 'l' 'l' hq (getElem?_pos (A0 st2) (lo+x-1) oV) ev;exact O.trans _ _ _ (m2 _ (AH z1)) (m2 _ (AH oV)) (m2 _ (AH SR)) a1 e
      .have e4:q=lo+x:=by lia
       subst e4;rw[getElem?_pos (A0 st2) (lo+x) SR] at ev;cases ev;exact O.refl (m2 _ (AH SR))
  case p2 =>
   rintro c st2 ⟨m,WR,rfl,k2,UB,RI,D,RX,bk⟩;have aK:=k2.1.1.size;dsimp only
   refine Vt (λst1=>KpO BW kd lo CT st1/\Desc L (A0 st1) lo m) (λK=>by
    refine L9 (λ_=>?_) (λ_=>?_)
    case refine_2=>exact K _ {k2,D}
    case refine_1=>exact BI (zN (K _ {k2.rev (i:=lo+m-(WR+1)) (j:=lo+m) 'l' (AY (EJ (AM _) RI) hn),D.blk (i:=lo+m-(WR+1)) 'l' 'l' bk}))) ?_
   clear k2 D bk aK;rintro st2 ⟨k2,D⟩;have hz3:=k2.1.1.size;refine BI (zN ?_);have sE:=Desc.rev D (by first|exact AY (AY (EJ (AM _) RI) hn) (C0 hz3.symm)|lia);have k3:=k2.rev (i:=lo) (j:=lo+m) (AM _) (AY (EJ (AM _) RI) hn);refine BI (JV (FU (I:=λx c K5=>KpO BW kd lo CT K5/\c=(AL,x)/\Seg L (A0 K5) lo x) (Q:=λc K5=>KpO BW kd lo CT K5/\∃n,c=(AL,n)/\1<=n/\n<=RF/\Seg L (A0 K5) lo n) ?s3 ?f3 {k3,rfl,sE}) ?p3)
   case f3 =>
    rintro c K5 ⟨k,rfl,sg⟩;exact{k,_,rfl,AY h1 (NL _ _),by lia,sg}
   case s3 =>
    rintro x c K5 pM wL ⟨k,rfl,sg⟩;have hz4:=k.1.1.size;have SR:lo+x<(A0 K5).size:=by lia
    refine BI (qZ hA k.1.1 SR (show lo+x-1<(A0 K5).size from AR (C7 _ _) SR) ?_)
    cases e:L (A0 K5)[lo+x] ((A0 K5)[lo+x-1]'(AR (C7 _ _) SR)) with
    |true=>exact BC {k,x,rfl,AY (AY (DX _ _) UB) pM,CV wL,sg}
    |false=>exact BC {k,rfl,sg.more O (mk _ k) (AY (AY (DX _ _) UB) pM) SR e}
   case p3 =>
    rintro c K5 ⟨k,z,rfl,sI,aK,sg⟩;exact BC (h z _ k sI aK sg)
end
section
variable{L:BA->BA->Bool}{x x':Array BA}
theorem Seg.keep{i n:Nat}(s:Seg L x i n)(h:∀q,i<=q->q<i+n->x'[q]?=x[q]?):Seg L x' i n:=by
 rw[seg_iff] at s ⊢;intro p q u v N0 hp hq eu ev;rw[h p hp (C4 N0 hq)] at eu;rw[h q (CV (AR hp N0)) hq] at ev;exact s p q u v N0 hp hq eu ev
def CovO(L:BA->BA->Bool)(x:Array BA):List Run->Nat->Nat->Prop
 |[],a,b=>a=b
 |(st,len,_)::r,a,b=>st=a/\1<=len/\Seg L x a len/\CovO L x r (a+len) b
theorem CovO.le:∀{p:List Run} {a b:Nat},CovO L x p a b->a<=b
 |[],_,_,h=>C0 h
 |(_,len,_)::r,a,b,h=>by have:=CovO.le h.2.2.2;lia
theorem CovO.len:∀{p:List Run} {a b:Nat},CovO L x p a b->p.length+a<=b
 |[],_,_,h=>by have h:_=_:=h;simp;lia
 |(_,len,_)::r,a,b,h=>by have:=CovO.len h.2.2.2;have:=h.2.1;rw[BD];lia
theorem CovO.keepIn:∀{p:List Run} {a b:Nat},CovO L x p a b->(∀q,a<=q->q<b->x'[q]?=x[q]?)->CovO L x' p a b
 |[],_,_,h,_=>h
 |(_,len,_)::r,a,b,h,hk=>by
  have:=CovO.le h.2.2.2;exact{h.1,h.2.1,h.2.2.1.keep λq h1 h2=>hk q h1 (AN h2 this),CovO.keepIn h.2.2.2 λq h1 h2=>hk q (AY (A6 _ _) h1) h2}
theorem CovO.keep{p:List Run}{b:Nat}(h:CovO L x p 0 b)(hk:∀q,q<b->x'[q]?=x[q]?):CovO L x' p 0 b:=h.keepIn λq _ hq=>hk q hq
theorem CovO.snoc:∀{p:List Run} {a b n k:Nat},CovO L x p a b->1<=n->Seg L x b n->CovO L x (p++[(b,n,k)]) a (b+n)
 |[],a,b,n,k,h,hn,s=>by
  have h:a=b:=h;subst h;exact{rfl,hn,s,rfl}
 |(_,len,_)::r,a,b,n,k,h,hn,s=>{h.1,h.2.1,h.2.2.1,CovO.snoc h.2.2.2 hn s}
theorem CovO.modify:∀{p:List Run} {a b i pw:Nat},CovO L x p a b->CovO L x (p.modify i λ(st,len,_)=>(st,len,pw)) a b
 |[],a,b,i,pw,h=>by simpa using h
 |(_,len,_)::r,a,b,0,pw,h=>{h.1,h.2.1,h.2.2.1,h.2.2.2}
 |(_,len,_)::r,a,b,i+1,pw,h=>by
  rw[List.modify_succ_cons];exact{h.1,h.2.1,h.2.2.1,CovO.modify h.2.2.2}
theorem CovO.last{p:List Run}{b:Nat}(h:CovO L x p 0 b)(hl:p.length<=1):Seg L x 0 b:=by
 match p,h,hl with
 |[],h,_ =>
  have h:0=b:=h;subst h;intro p q hq N0 hp pB;lia
 |[(st,len,k)],h,_ =>
  obtain⟨_,_,s,e⟩:=h;have e:0+len=b:=e;have e':b=len:=by lia
  subst e';exact s
theorem CovO.at:∀{p:List Run} {a b i sa na pa sb nb pb:Nat},CovO L x p a b->p[i]?=AA (sa,na,pa)->p[i+1]?=AA (sb,nb,pb) ->
  (1<=na/\1<=nb/\sb=sa+na/\sb+nb<=b/\a<=sa)/\Seg L x sa na/\Seg L x sb nb /\
  ((∀q,q<sa\/sa+(na+nb)<=q->x'[q]?=x[q]?)->Seg L x' sa (na+nb)->CovO L x' ((p.set i (sa,na+nb,pa)).eraseIdx (i+1)) a b)
 |[],a,b,i,_,_,_,_,_,_,h,e,_=>by simp at e
 |[y],a,b,0,_,_,_,_,_,_,h,e,e2=>by simp at e2
 |y::z::r,a,b,0,sa,na,pa,sb,nb,pb,h,e,e2=>by
  simp at e e2;subst e;subst e2;obtain⟨h1,h2,h3,h4,h5,h6,h7⟩:=h;have:=h7.le;refine{{h2,h5,by lia,by lia,by lia},by rw[h1];exact h3,by rw[h4];exact h6,λhk s=>?_};show CovO L x' ((sa,na+nb,pa)::r) a b;refine{h1,AY h2 (A6 _ _),by rw[<-h1];exact s,?_};rw[<-Nat.add_assoc];exact h7.keepIn λq h8 _=>hk q 'l'
 |(_,len,_)::r,a,b,i+1,sa,na,pa,sb,nb,pb,h,e,e2=>by
  obtain⟨⟨q1,q2,q3,q4,q5⟩,s1,s2,q6⟩:=CovO.at h.2.2.2 (by simpa using e) (by simpa using e2);exact{{q1,q2,q3,q4,AY (A6 _ _) q5},s1,s2,λhk s=>{h.1,h.2.1,h.2.2.1.keep λq h8 h9=>hk q 'l',q6 hk s}}
end
section
variable{prog:CU}{w:D8}{A:DU}{E:AJ->AS->Prop}{s:AS}{BW:Array BA}{kd:FL}{L:BA->BA->Bool}
structure SRO(L:BA->BA->Bool)(BW:Array BA)(kd:FL)(lo:Nat)(st:BS):Prop where
 sb:SB BW kd st
 cov:CovO L (A0 st) (DM st).toList 0 lo
 le:lo<=BW.size
theorem Vh{st:BS}{i lo:Nat}{Q:Bool->BS->Prop}(hA:WH prog w A s kd BW L)(O:Ord L BW)(R:SRO L BW kd lo st)(hi:i+1<(DM st).size)
  (h:∀CT,SRO L BW kd lo CT->(DM CT).size+1=(DM st).size->(∀q,lo<=q->(A0 CT)[q]?=(A0 st)[q]?)->Q AK CT) :
  N5 (A4 prog w) A E s (mergeAt' i) Q st:=by
 have Mf:i<(DM st).size:=AR (A6 _ _) hi;obtain⟨⟨sa,na,pa⟩,e1⟩:∃r:Run,(DM st)[i]?=AA r:={_,getElem?_pos _ i Mf};obtain⟨⟨sb,nb,pb⟩,e2⟩:∃r:Run,(DM st)[i+1]?=AA r:={_,getElem?_pos _ (i+1) hi};obtain⟨⟨q1,q2,q3,q4,q5⟩,s1,s2,_⟩:=R.cov.at (x':=A0 st) (i:=i) (by rw[C3];exact e1) (by rw[C3];exact e2);refine zNU hA O R.sb e1 e2 q1 q2 q3 (AY q4 R.le) s1 s2 λCT hB hp sg hk=>?_;have sI:=hB.size;have aK:=R.sb.size
 have bZ:∀q,q<sa\/sa+(na+nb)<=q->(A0 CT)[q]?=(A0 st)[q]?:=λq hq=>by
  by_cases z:q<BW.size
  .rw[getElem?_pos (A0 CT) q 'l',getElem?_pos (A0 st) q 'l',hk q 'l' 'l' hq]
  .rw[getElem?_neg (A0 CT) q 'l',getElem?_neg (A0 st) q 'l']
 have hz:i+1<((DM st).setIfInBounds i (sa,na+nb,pa)).size:=by rw[MV];exact hi
 refine h CT {hB,?_,R.le} ?_ λq hq=>bZ q (.inr 'l')
 .rw[hp,WF,dif_pos hz,Array.toList_eraseIdx,UT]
  exact(R.cov.at (x':=A0 CT) (i:=i) (by rw[C3];exact e1) (by rw[C3];exact e2)).2.2.2 bZ sg
 .rw[hp,WF,dif_pos hz,Array.size_eraseIdx,MV]
  lia
theorem yIP{α:Type}{T:Nat->StateT BS TC α}{M:Model}{A:DU}{E:AJ->AS->Prop}{s:AS}{Q:α->BS->Prop}{N3:Prop}(P:Nat->BS->Prop)(h1:(∀n st,P n st->N5 M A E s (T n) Q st)->N3)(h2:∀n st,P n st->N5 M A E s (T n) Q st):N3:=h1 h2
theorem zL9{st:BS}{Q:Unit->BS->Prop}(hA:WH prog w A s kd BW L)(O:Ord L BW)(hB:SB BW kd st)(hp:DM st=#[])
  (h:∀CT,SB BW kd CT->Seg L (A0 CT) 0 BW.size->Q () CT):N5 (A4 prog w) A E s sortRuns' Q st:=by
 rw[sortRuns'_eq];refine BI (NR ?_);dsimp only;rw[hB.size]
 refine BI (JV (FU (I:=λx c CT=>∃lo,c=(AL,lo)/\SRO L BW kd lo CT/\x<=lo)
  (Q:=λc CT=>∃lo,c=(AL,lo)/\SRO L BW kd lo CT/\BW.size<=lo) ?step ((λc CT q0=>by obtain⟨lo,e,R,hx⟩:=q0;exact{lo,e,R,AY (NL _ _) hx})) {0,rfl,{hB,by rw[hp];rfl,BP _},AM _}) ?post)
 case step =>
  rintro x c CT _ hx ⟨lo,rfl,R,gT⟩;dsimp only;refine L9 (λq=>?_) (λq=>?_)
  .exact BC {lo,rfl,R,q}
  refine BI (zL8 hA O 'l' 'l' R.sb λm st2 k2 UB RI Jv=>?_);have R2:SRO L BW kd lo st2:={k2.1.1,by rw[k2.1.2];exact R.cov.keep λq hq=>k2.2 q hq,R.le};dsimp only
  refine yIP (λm K5=>SRO L BW kd lo K5/\Seg L (A0 K5) lo m/\1<=m/\lo+m<=BW.size) (λK=>by
   refine L9 (λKZ=>?_) (λKZ=>?_)
   case refine_2 =>
    have hP:SRO L BW kd lo st2/\Seg L (A0 st2) lo m/\1<=m/\lo+m<=BW.size:={R2,Jv,UB,by lia}
    revert hP
    generalize m=m';exact λhP=>K m' _ hP
   case refine_1 =>
    refine BI (QK (FC {rfl,?_}));refine BI (zIQ hA O 'l' 'l' 'l' R2.sb Jv λK5 hB3 hp3 sE ho3=>?_)
    exact K _ _ {{hB3,by rw[hp3];exact R2.cov.keep λq hq=>ho3 q hq,R2.le},sE,by lia,by lia}) ?_
  clear Jv k2 R2 UB RI;rintro m K5 ⟨R3,sE,UB,RI⟩;refine BI (NR ?_);split
  .rename_i s1 n1 p1 hb
   refine BI (JV (FU (I:=λ_ c CT=>c=(AL,())/\SRO L BW kd lo CT/\Seg L (A0 CT) lo _) (Q:=λc CT=>c=(AL,())/\SRO L BW kd lo CT/\Seg L (A0 CT) lo _) ?st1 (λ_ _ h=>h) {rfl,R3,sE}) ?po1)
   case po1 =>
    rintro c jK ⟨rfl,R4,vF⟩;refine BI (M1 (BI (M1 (BC {_,rfl,{{R4.sb.perm,R4.sb.kind,R4.sb.failed},?_,RI},EJ gT UB}))));show CovO L (A0 jK) (Array.push _ _).toList 0 _;rw[FG];refine CovO.snoc ?_ (UB) vF;show CovO L (A0 jK) (Array.modify _ _ _).toList 0 lo;rw[Array.toList_modify];exact R4.cov.modify
   case st1 =>
    rintro y c jK _ _ ⟨rfl,R4,vF⟩;refine BI (NR ?_)
    by_cases hz:(DM jK).size>1
    .rw[if_pos hz,getElem?_pos (DM jK) ((DM jK).size-2) 'l']
     refine L9 (λ_=>?_) (λ_=>?_)
     .exact BC {rfl,R4,vF}
     refine BI (Vh hA O R4 'l' λjJ R5 _ ho5=>?_);exact BC {rfl,R5,vF.keep λq hq _=>ho5 q hq}
    .rw[if_neg hz]
     exact BC {rfl,R4,vF}
  .refine BI (M1 (BC {_,rfl,{{R3.sb.perm,R3.sb.kind,R3.sb.failed},?_,RI},EJ gT UB}))
   show CovO L _ (Array.push _ _).toList 0 _;rw[FG];exact R3.cov.snoc (UB) sE
 case post =>
  rintro c CT ⟨lo,rfl,R,hlo⟩;dsimp only;have UZ:=R.le;have elo:lo=BW.size:=by lia
  subst elo;have hpz:=R.cov.len;refine BI (JV (FU (I:=λy c CT=>c=(AL,())/\SRO L BW kd BW.size CT/\(DM CT).size+y<=BW.size+1) (Q:=λc CT=>c=(AL,())/\SRO L BW kd BW.size CT/\(DM CT).size<=1) ?st2 ((λc CT q0=>by obtain⟨e,R,hs⟩:=q0;exact{e,R,by lia})) {rfl,R,by simp at hpz;lia}) ?po2)
  case po2 =>
   rintro c jK ⟨rfl,R4,h4⟩;exact BC (h _ R4.sb (R4.cov.last (by simpa using h4)))
  case st2 =>
   rintro y c jK _ _ ⟨rfl,R4,h4⟩;refine BI (NR ?_);refine L9 (λhz=>?_) (λhz=>?_)
   .exact BC {rfl,R4,hz}
   refine BI (Vh hA O R4 ?_ λjJ R5 hs5 _=>?_)
   .exact AR (Nat.add_le_add_right (yC2 (n:=(DM jK).size-2) (C7 _ _) (AM _)) 1) 'l'
   .exact BC {rfl,R5,by lia}
end
end TS
namespace TS
open PySem PySem.W PyProof.Rows
theorem yC7{vs:List AJ}{LV:AJ->AJ->Bool}{xs:Array BA}(hp:xs.Perm (GW vs))(sg:Seg (λx y=>LV x.1 y.1) xs 0 (GW vs).size):(xs.map (·.2)).toList.Pairwise λx y=>LV y x=AC:=by
 rw[Array.toList_map,DY,EO];intro i j hi hj MH;have hz:=hp.size_eq;have QH:i<xs.size:=by simpa using hi
 have b7:j<xs.size:=by simpa using hj
 have z:=sg i j b7 MH (BP _) 'o'
 have same:∀x∈xs,x.1=x.2:=λx hx=>by
  have h1:x∈GW vs:=hp.mem_iff.mp hx;have h2:x∈vs.zip vs:=by rw[<-M4];exact FR.mpr h1
  exact(mem_zip_self h2).1
 have e1:=same _ (AH QH);have e2:=same _ (AH b7);simp only[e1,e2] at z;simpa using z
section
variable{prog:CU}{w:D8}{A:DU}{E:AJ->AS->Prop}{s:AS}
theorem Sq{a:AT}{vs:List AJ}{n:Nat}{R:fH->AS->Prop}{LV:AJ->AJ->Bool}(O:Ord (λx y=>LV x.1 y.1) (GW vs))(ho:s.heap.get? a=AA (DZ "list" vs.toArray n))(hz:vs.length<=sizeLine)
  (hk:∀h6:D7,(∀b o,b≠a->s.heap.get? b=AA o->h6.get? b=AA o)->2<=vs.length->A1 (A4 prog w) A (keyKind' vs.toArray) (λk s'=>s'={ s with heap:=h6 }/\WH prog w A s' k (GW vs) (λx y=>LV x.1 y.1)) E { s with heap:=h6 })
  (h:∀out:List AJ,out.Perm vs->(out.Pairwise λx y=>LV y x=AC)->R (.done (.ret .none)) { s with heap:=sortedHeap s.heap a vs out.toArray }):A1 (A4 prog w) A (EF.«list.sort» {[.ref a],[]}) R E s:=by
 have la:a<s.heap.objs.size:=A5 ho;have zs:vs.toArray.size<=sizeLine:=by simpa using hz
 rw[list_sort_plain];refine AB (fA ho rfl (AB (N9 ho rfl ?_ zs (BP _))));have g1:=XO ho (λ_=>#[]);generalize Mh:s.heap.update a (C6 λ_=>#[])=h1 at g1;have z1:h1.objs.size=s.heap.objs.size:=by rw[<-Mh,NH]
 have o1:∀b o,b≠a->s.heap.get? b=AA o->h1.get? b=AA o:=λb o hb e=>by rw[<-Mh,PF _ _ _ _ hb];exact e
 refine AB (WU g1 rfl (AB (M3 (AB (N7 (CS ?_))) (by simpa using hz))));generalize hh6:(h1.push (DZ "tuple" vs.toArray 0)).push (DZ "list" #[] 0)=h6;have vU:∀b o,h1.get? b=AA o->h6.get? b=AA o:=λb o e=>by rw[<-hh6];exact AF _ (AF _ e)
 have g6:=vU _ _ g1
 have fin:∀CT:BS,(A0 CT).Perm (GW vs)->Seg (λx y=>LV x.1 y.1) (A0 CT) 0 (GW vs).size->R (.done (.ret .none)) { s with heap:=h6.update a (C6 λ_=>(A0 CT).map (·.2)) }:=λCT hp sg=>by
  have q:=h _ (zL1 hp) (yC7 hp sg);unfold sortedHeap at q;rw[Mh,hh6,Array.toArray_toList] at q;exact q
 have Za:∀CT:BS,(A0 CT).Perm (GW vs)->((A0 CT).map (·.2)).size<=sizeLine+1:=λCT hp=>by
  rw[Array.size_map,hp.size_eq,pairsOf_size];omega
 by_cases h2:vs.toArray.size<2
 .rw[if_pos h2,if_pos h2]
  refine AB (wpAny_pure ?_);dsimp only;rw[StateT.run_pure];refine AB (wpAny_pure (AB (WU g6 rfl ?_)));refine AB (N9 g6 rfl ?_ (BP _) (Za (TZ general' (GW vs) #[] 7 AL) (QA _)));simp only[bne_self_eq_false,EA,if_false];exact wpAny_pure (fin (TZ general' (GW vs) #[] 7 AL) (QA _) (λp q hq N0 hp pB=>by rw[pairsOf_size] at pB;simp at h2;omega))
 .rw[if_neg h2,if_neg h2]
  refine AB (DB (hk h6 (λb o hb e=>vU b o (o1 b o hb e)) (by simpa using h2)) (λk s7 ⟨e7,ask⟩=>?_) λ_ _ e=>e);subst e7;refine AB (DB (zL9 (st:=TZ k (vs.toArray.zip vs.toArray) #[] 7 AL) (Q:=λ_ CT=>SB (GW vs) k CT/\Seg (λx y=>LV x.1 y.1) (A0 CT) 0 (GW vs).size) ask O {QA _,rfl,rfl} rfl λCT b sg=>{b,sg}) ?_ λ_ _ e=>e);rintro⟨⟨⟩,CT⟩ s8 ⟨e8,B,sg⟩;subst e8;dsimp only;refine AB (WU g6 rfl (AB (N9 g6 rfl ?_ (BP _) (Za CT B.perm))));rw[B.failed];simp only[bne_self_eq_false,EA,if_false];exact wpAny_pure (fin CT B.perm sg)
theorem sorted_inO{l:AT}{vs:List AJ}{Q:AJ->AS->Prop}{LV:AJ->AJ->Bool}(O:Ord (λx y=>LV x.1 y.1) (GW vs))(hl:s.heap.IsList l vs.toArray)(hz:vs.length<=sizeLine)
  (hk:∀h6:D7,(∀b o,s.heap.get? b=AA o->h6.get? b=AA o)->2<=vs.length->∀E',A1 (A4 prog w) A.in1.in1 (keyKind' vs.toArray) (λk s'=>s'={ s with heap:=h6 }/\WH prog w A.in1.in1 s' k (GW vs) (λx y=>LV x.1 y.1)) E' { s with heap:=h6 })
  (h:∀out:List AJ,out.Perm vs->(out.Pairwise λx y=>LV y x=AC)->Q (.ref (s.heap.objs.size+1)) { s with heap:=sortedAll s.heap vs out.toArray }):A1 (A4 prog w) A (call (.builtin "sorted") [.ref l]) Q E s:=by
 refine MF j5 eZ fB (args_sorted1 _) ?_;unfold EF.«sorted»;refine AB (m:=checkCount "sorted" 1 1 _) (wpAny_pure (AB (collect_list hl (AB (N7 ?_ hz)) hz)))
 have HM:∀b o,s.heap.get? b=AA o->((s.heap.push (DZ "list" #[] 0)).update s.heap.objs.size (C6 (·++vs.toArray))).get? b=AA o:=λb o e=>by
  rw[PF _ _ _ _ (BM (A5 e))];exact AF _ e
 have z2:((s.heap.push (DZ "list" #[] 0)).update s.heap.objs.size (C6 (·++vs.toArray))).objs.size=s.heap.objs.size+1:=by rw[NH,S8]
 generalize hh2:(s.heap.push (DZ "list" #[] 0)).update s.heap.objs.size (C6 (·++vs.toArray))=h2 at HM z2;have gL:(h2.push (DZ "list" vs.toArray 0)).get? h2.objs.size=AA (DZ "list" vs.toArray 0):=AV _ rfl;show A1 _ _ _ _ _ { s with heap:=h2.push (DZ "list" vs.toArray 0) };refine AB (CS (CY YZ {_,gL,rfl} XQ (Sq O gL hz (λh6 o6 UC=>?_) λout ho eE=>{_,rfl,?_}) (args_list_sort _)))
 .exact hk h6 (λb o e=>o6 b o (by rw[z2];exact BM (G0 (A5 e))) (AF _ (HM b o e))) UC _
 .have q:=h out ho eE
  unfold sortedAll at q;rw[hh2,<-z2] at q;exact wpAny_pure {_,rfl,q}
end
end TS
variable{β:Type}{F F' H₀ F1 F2:L2.Hp}{vs:List L2.V}{τ:AT}{σ':L2.St}{aI YK:AT->Prop}{is:List Nat}{D':L2.Ends}{np:Nat}{xn:C2}{dP:iB}{ps qs:List (Int×Int)}{cv:AJ}
namespace L2
open PySem PySem.Spec PyProof.Rows
theorem zZC(BW:Array BA):TS.Ord (λx y=>decide (cA x.1<cA y.1)) BW where
 asym:=λx y _ _ h=>by
  have:=of_decide_eq_true h;exact decide_eq_false 'o'
 trans:=λx y z _ _ _ h1 h2=>by
  have a:=of_decide_eq_false h1;have b:=of_decide_eq_false h2;exact decide_eq_false 'o'
theorem zZD(h:GC us ns)(p:us.Pairwise λx y=>decide (cA y<cA x)=AC):ns.Pairwise (·<=·):=by
 rw[<-h.nums,DY];exact p.imp λh=>by have:=of_decide_eq_false h;omega
theorem yC8:∀{l:List α},2<=l.length->∃a b r,l=a::b::r
 |a::b::r,_=>{a,b,r,rfl}
 |[],h=>by simp at h
 |[_],h=>by simp at h
theorem T7:CallR X (.builtin "sorted") (λxs H Q=>∃(l:AT) (ns:List Int),xs=[.ref l]/\SqL X.K H l (ns.map V.int)/\∀(ms:List Int) (q:AT),ms.Perm ns->ms.Pairwise (·<=·)->H q=AL->Q (.ref q) (D3 H q (.lst (ms.map V.int)))):=by
 intro AG s σ H xs us Q I r h;obtain⟨l,ns,rfl,hl,q⟩:=h;obtain⟨u,rfl,ru⟩:=YD r;cases ru;obtain⟨CK,rv,pl,z⟩:=I.list hl;have E6:=rv.length;have hi:GC CK ns:=nW rv;refine TS.sorted_inO (LV:=λx y=>decide (cA x<cA y)) (zZC _) pl.isList (by rw[<-E6];exact z) (λh6 o6 h2 E'=>?_) λout ho eE=>?_
 .obtain⟨v1,v2,vr,rfl⟩:=yC8 h2
  rw[keyKind_ints hi];refine wpAny_pure {rfl,λx y hx hy Q' E2 hq=>?_}
  have mem:∀x:BA,x∈GW (v1::v2::vr)->∃n t,x.1=.int n t:=λx hx=>by
   have:x∈(v1::v2::vr).zip (v1::v2::vr):=by rw[<-M4];exact FR.mpr hx
   obtain⟨i,QH,ei⟩:=OR.mp (HW this).1;obtain⟨t,et⟩:=TF hi i x.1 (by rw[BL QH,ei]);exact{_,t,et}
  obtain⟨n1,t1,e1⟩:=mem x hx;obtain⟨n2,t2,e2⟩:=mem y hy;dsimp only at hq;rw[e1,e2] at hq ⊢;exact PySem.W.kat_lt_int hq
 .obtain⟨zs,p,rz⟩:=Vals.perm ho rv
  obtain⟨e',jW⟩:=sortedAll_at s.heap CK out.toArray;have hf:H (s.heap.objs.size+1)=AL:=I.hok.fresh (K3 _);obtain⟨ms,rfl,pm⟩:=zSC p ns rfl;refine{.ref (s.heap.objs.size+1),_,I.laid (t':=s.toks) (o:=.lst (ms.map V.int)) (λb o hb=>sortedAll_old hb) (K3 _) {?_,out,e',rz,jW},rfl,q ms _ pm (zZD (nW rz) eE) hf};rw[p.length_eq];exact z
noncomputable def fZ(h:D7):AJ->Int×Int
 |.ref p=>match h.get? p with
  |some o=>match o.data with
   |.seq xs _=>(cA (xs.getD 0 .none),cA (xs.getD 1 .none))
   |_=>(0,0)
  |none=>(0,0)
 |_=>(0,0)
def RE(a b:Int×Int):Bool:=decide (a.1<b.1\/a.1=b.1/\a.2<b.2)
theorem So(h:D7)(BW:Array BA):TS.Ord (λx y=>RE (fZ h x.1) (fZ h y.1)) BW where
 asym:=λx y _ _ e=>by
  have:=of_decide_eq_true e;exact decide_eq_false 'o'
 trans:=λx y z _ _ _ h1 h2=>by
  have a:=of_decide_eq_false h1;have b:=of_decide_eq_false h2;exact decide_eq_false 'o'
def Prs(H:Hp)(ys:List V)(ps:List (Int×Int)):Prop:=Paired (λ(z:V) (p:Int×Int)=>∃q,z=.ref q/\H q=AA (.tup [.int p.1,.int p.2])) ys ps
theorem Sn{b fin:Bool}{Q:Bool->AS->Prop}{x1 y1 x2 y2:Int}{t1 t2 t3 t4:kB}(hf:fin=AC)(hq:Q (RE (x1,y1) (x2,y2)) s):PySem.W.KatLex prog w A b fin Q [(.int x1 t1,.int x2 t2),(.int y1 t3,.int y2 t4)] 0 s:=by
 have one:∀{i:Nat} {u v:Int} {t t':kB},Q (decide (u<v)) s->A1 (A4 prog w) A (oneLt' (b&&i==0) (.int u t) (.int v t')) Q (λ_ _=>False) s:=λ{i u v t t'} h=>by
  cases hb:(b&&i==0) with
  |true=>exact oneLt_int h
  |false=>exact PySem.W.kat_one _ _ (lt_int h)
 refine aZ (V7 (fG (λh1=>cH (aZ (V7 (fG (λh2=>cH (PySem.W.kat_nil ?_)) λh2=>fE (one ?_))))) λh1=>fE (one ?_)))
 .have e1:x1=x2:=by simpa using h1
  have e2:y1=y2:=by simpa using h2
  subst e1;subst e2;rw[hf];have:RE (x1,y1) (x1,y1)=AC:=decide_eq_false 's';rw[this] at hq;exact hq
 .have e1:x1=x2:=by simpa using h1
  subst e1;have:RE (x1,y1) (x1,y2)=decide (y1<y2):=by unfold RE;simp
  rw[this] at hq;exact hq
 .have e1:¬x1=x2:=by simpa using h1
  have:RE (x1,y1) (x2,y2)=decide (x1<x2):=by unfold RE;simp[e1]
  rw[this] at hq;exact hq
theorem Prs.perm(p:zs.Perm ys):∀{ps:List (Int×Int)},Prs H ys ps->∃qs,qs.Perm ps/\Prs H zs qs:=by
 induction p with
 |nil=>intro ps r;cases r;exact{[],G2 _,.nil}
 |cons a _ ih =>
  intro ps r
  cases r with
  |cons h t =>
   obtain⟨qs,q,r'⟩:=ih t;exact{_::qs,q.cons _,.cons h r'}
 |swap a b l =>
  intro ps r
  cases r with
  |cons h t =>
   cases t with
   |cons h' t'=>exact{_::_::_,H9 _ _ _,.cons h' (.cons h t')}
 |trans _ _ bT ih2 =>
  intro ps r;obtain⟨qs,q,r'⟩:=ih2 r;obtain⟨us,q',vK⟩:=bT r';exact{us,q'.trans q,vK}
theorem yX(I:Inv X AG σ H s):∀{ys:List V} {us:List AJ} {ps:List (Int×Int)},Vals ys us->Prs H ys ps ->
  (∀y∈ys,Oz H y)/\us.map (fZ s.heap)=ps/\∀u∈us,∃(p:AT) (o:IF) (k:Nat) (x y:Int) (t1 t2:kB),u=.ref p/\s.heap.get? p=AA o/\o.data=.seq #[.int x t1,.int y t2] k/\fZ s.heap u=(x,y)
  := by
 intro ys
 induction ys with
 |nil=>intro us ps h1 h2;cases h1;cases h2;exact{(λy hy=>nomatch hy),rfl,(λu hu=>nomatch hu)}
 |cons y0 ys ih =>
  intro us ps h1 h2
  cases h1 with
  |cons r t =>
  cases h2 with
  |@cons _ pp _ _ pr t' =>
  obtain⟨q,e,hq⟩:=pr;obtain⟨i1,i2,i3⟩:=ih t t';subst e;cases r;obtain⟨CK,rv,tp,_⟩:=I.tuple (SqT.of (K:=X.K) hq);have hi:GC CK [pp.1,pp.2]:=nW (ns:=[pp.1,pp.2]) rv;obtain⟨o,ho,hc,k,hd⟩:=tp
  obtain⟨t1,t2,rfl⟩:∃t1 t2,CK=[.int pp.1 t1,.int pp.2 t2]:=by
   cases hi with
   |cons _ t1 h2 =>
    cases h2 with
    |cons _ t2 h3=>cases h3;exact{t1,t2,rfl}
  have e2:fZ s.heap (.ref q)=(pp.1,pp.2):=by
   unfold fZ;simp only[ho,hd]
   rfl
  refine{λy hy=>?_,?_,λv hv=>?_}
  .rcases A7.mp hy with rfl|hy
   .exact{q,pp.1,[pp.2],rfl,hq}
   .exact i1 y hy
  .rw[AU,i2,e2]
  .rcases A7.mp hv with rfl|hv
   .exact{q,o,k,pp.1,pp.2,t1,t2,rfl,ho,hd,e2}
   .exact i3 v hv
theorem zJ6:CallR X (.builtin "sorted") (λxs H Q=>∃(l:AT) (ys:List V) (ps:List (Int×Int)),xs=[.ref l]/\SqL X.K H l ys/\Prs H ys ps/\∀(zs:List V) (qs:List (Int×Int)) (q:AT),zs.Perm ys->Prs H zs qs->qs.Perm ps->(qs.Pairwise λa b=>RE b a=AC)->H q=AL->Q (.ref q) (D3 H q (.lst zs))):=by
 intro AG s σ H xs us Q I r h;obtain⟨l,ys,ps,rfl,hl,lV,q⟩:=h;obtain⟨u,rfl,ru⟩:=YD r;cases ru;obtain⟨CK,rv,pl,z⟩:=I.list hl;have E6:=rv.length;obtain⟨ht,e0,xU⟩:=yX I rv lV;obtain⟨fs,f1,f2,f3,f4⟩:=Em I rv ht;refine TS.sorted_inO (LV:=λx y=>RE (fZ s.heap x) (fZ s.heap y)) (So _ _) pl.isList (by rw[<-E6];exact z) (λh6 o6 h2 E'=>?_) λout ho eE=>?_
 .refine aY (T:=.type "int") (Gd o6 f2) (by rw[f1];omega) (λv hv=>?_) 'd' {rfl,λx y hx hy Q' E2 hq=>?_}
  .obtain⟨n,t,rfl⟩:=f3 v hv
   exact U1
  .have mem:∀x:BA,x∈GW CK->x.1∈CK:=λx hx=>by
    have:x∈CK.zip CK:=by rw[<-M4];exact FR.mpr hx
    exact(HW this).1
   obtain⟨p1,o1,k1,x1,y1,t1,t2,e1,eI,Mx,Nu⟩:=xU _ (mem x hx);obtain⟨p2,o2,k2,x2,y2,t3,t4,e2,V0,b8,Nt⟩:=xU _ (mem y hy);dsimp only at hq;rw[Nu,Nt] at hq;rw[e1,e2];exact fF (o6 _ _ eI) Mx (o6 _ _ V0) b8 (Sn rfl hq)
 .obtain⟨zs,p,rz⟩:=Vals.perm ho rv
  obtain⟨qs,pq,bW⟩:=Prs.perm p lV;obtain⟨_,e3,_⟩:=yX I rz bW;obtain⟨e',jW⟩:=sortedAll_at s.heap CK out.toArray;have hf:H (s.heap.objs.size+1)=AL:=I.hok.fresh (K3 _)
  have pw:qs.Pairwise λa b=>RE b a=AC:=by
   rw[<-e3,DY];exact eE
  refine{.ref (s.heap.objs.size+1),_,I.laid (t':=s.toks) (o:=.lst zs) (λb o hb=>sortedAll_old hb) (K3 _) {?_,out,e',rz,jW},rfl,q zs qs _ p bW pq pw hf};rw[p.length_eq];exact z
inductive D where
 |non|bl (b:Bool)|int (i:Int)|str (x:C2)|tup (xs:List D)|lst (xs:List D)
 |dk (kvs:List (Key×D))|dt (kvs:List (List Int×D))
inductive Out(α:Type) where
 |ok (a:α)|exc (c:Nat)|bad
noncomputable def Out.bind:Out α->(α->Out β)->Out β
 |.ok a,f=>f a
 |.exc c,_=>.exc c
 |.bad,_=>.bad
theorem pA3{x:Out α}{f:α->Out β}{b:β}(h:x.bind f=.ok b):∃a,x=.ok a/\f a=.ok b:=by
 cases x with
 |ok a=>exact{a,rfl,h}
 |exc c=>cases h
 |bad=>cases h
inductive Sl where
 |no|val (d:D)|own (t:Bool) (d:D)
abbrev Ev:=List Sl
def sX:HO->Prop
 |.dK _=>True
 |.dT _=>True
 |_=>False
def Le(F F':Hp):Prop:=∀a u,F a=AA u->F' a=AA u\/(sX u/\∃o,F' a=AA (.frz o u))\/∃t ps bS,u=.tbl t ps/\F' a=AA (.tbl t bS)
theorem Le.refl(F:Hp):Le F F:=λ_ _ h=>.inl h
theorem Le.trans{G:Hp}(x:Le F G)(y:Le G H):Le F H:=λa u e=>by
 rcases x a u e with h|⟨hd,o,h⟩|⟨t,ps,bS,rfl,h⟩
 .exact y a u h
 .rcases y a _ h with h|⟨xF,_⟩|⟨_,_,_,z,_⟩
  .exact .inr (.inl {hd,o,h})
  .exact xF.elim
  .cases z
 .rcases y a _ h with h|⟨xF,_⟩|⟨_,_,_,z,h⟩
  .exact .inr (.inr {_,_,_,rfl,h})
  .exact xF.elim
  .cases z;exact .inr (.inr {_,_,_,rfl,h})
theorem Le.rd(l:Le F F'){u:HO}(h:Rd F a u)(hu:∀t ps,u≠.tbl t ps:=by intro _ _ z;cases z):Rd F' a u:=by
 rcases h with h|⟨o,h⟩
 .rcases l a u h with h|⟨_,o,h⟩|⟨_,_,_,z,_⟩
  .exact .inl h
  .exact .inr {o,h}
  .exact absurd z (hu _ _)
 .rcases l a _ h with h|⟨hd,_⟩|⟨_,_,_,z,_⟩
  .exact .inr {o,h}
  .exact hd.elim
  .cases z
theorem Le.tup{F F':Hp}(l:Le F F'){a:AT}{vs:List V}(h:F a=AA (.tup vs)):F' a=AA (.tup vs):=by
 rcases l a _ h with h|⟨hd,_⟩|⟨_,_,_,z,_⟩
 .exact h
 .exact hd.elim
 .cases z
theorem Le.of_gr(g:Gr F F'):Le F F':=λa u e=>.inl (g a u e)
mutual
inductive Rep(K:AD)(F:Hp):V->D->Prop
 |non:Rep K F .non .non
 |bl (b:Bool):Rep K F (.bl b) (.bl b)
 |int (i:Int):Rep K F (.int i) (.int i)
 |str (x:C2):Rep K F (.str x) (.str x)
 |tup {a:AT} {vs:List V} {ds:List D}:F a=AA (.tup vs)->Reps K F vs ds->Rep K F (.ref a) (.tup ds)
 |tupK {a:AT} {xs:List C2}:SqT K (λ_=>AL) a (xs.map V.str)->xs≠[]->Rep K F (.ref a) (.tup (xs.map D.str))
 |lst {a:AT} {vs:List V} {ds:List D}:SqL K F a vs->Reps K F vs ds->Rep K F (.ref a) (.lst ds)
 |dk {a:AT} {kvs:List (Key×V)} {ds:List (Key×D)}:Rd F a (.dK kvs)->RepK K F kvs ds->Rep K F (.ref a) (.dk ds)
 |dt {a:AT} {kvs:List (List Key×V)} {ds:List (List Int×D)}:Rd F a (.dT kvs)->RepT K F kvs ds->Rep K F (.ref a) (.dt ds)
inductive Reps(K:AD)(F:Hp):List V->List D->Prop
 |nil:Reps K F [] []
 |cons {v:V} {d:D} {vs:List V} {ds:List D}:Rep K F v d->Reps K F vs ds->Reps K F (v::vs) (d::ds)
inductive RepK(K:AD)(F:Hp):List (Key×V)->List (Key×D)->Prop
 |nil:RepK K F [] []
 |cons {k:Key} {v:V} {d:D} {vs:List (Key×V)} {ds:List (Key×D)}:Rep K F v d->RepK K F vs ds->RepK K F ((k,v)::vs) ((k,d)::ds)
inductive RepT(K:AD)(F:Hp):List (List Key×V)->List (List Int×D)->Prop
 |nil:RepT K F [] []
 |cons {k:List Int} {v:V} {d:D} {vs:List (List Key×V)} {ds:List (List Int×D)}:Rep K F v d->RepT K F vs ds->RepT K F ((k.map CZ,v)::vs) ((k,d)::ds)
end
section
variable{K:AD}
theorem Rep.ind{P:V->D->Prop}{Q:List V->List D->Prop}{R:List (Key×V)->List (Key×D)->Prop}{T:List (List Key×V)->List (List Int×D)->Prop}
  (h1:P .non .non) (h2:∀b,P (.bl b) (.bl b)) (h3:∀i,P (.int i) (.int i)) (h4:∀x,P (.str x) (.str x))
  (h5:∀{a vs ds},F a=AA (.tup vs)->Reps K F vs ds->Q vs ds->P (.ref a) (.tup ds)) (h6:∀{a xs},SqT K (λ_=>AL) a (xs.map V.str)->xs≠[]->P (.ref a) (.tup (xs.map D.str)))
  (h7:∀{a vs ds},SqL K F a vs->Reps K F vs ds->Q vs ds->P (.ref a) (.lst ds)) (h8:∀{a kvs ds},Rd F a (.dK kvs)->RepK K F kvs ds->R kvs ds->P (.ref a) (.dk ds)) (h9:∀{a kvs ds},Rd F a (.dT kvs)->RepT K F kvs ds->T kvs ds->P (.ref a) (.dt ds))
  (q1:Q [] []) (q2:∀{v d vs ds},Rep K F v d->Reps K F vs ds->P v d->Q vs ds->Q (v::vs) (d::ds))
  (r1:R [] []) (r2:∀{k v d vs ds},Rep K F v d->RepK K F vs ds->P v d->R vs ds->R ((k,v)::vs) ((k,d)::ds))
  (t1:T [] []) (t2:∀{k:List Int} {v d vs ds},Rep K F v d->RepT K F vs ds->P v d->T vs ds->T ((k.map CZ,v)::vs) ((k,d)::ds)) :
  (∀{v d},Rep K F v d->P v d)/\(∀{vs ds},Reps K F vs ds->Q vs ds)/\(∀{vs ds},RepK K F vs ds->R vs ds)/\∀{vs ds},RepT K F vs ds->T vs ds :=
 {λh=>Rep.rec (motive_1:=λv d _=>P v d) (motive_2:=λv d _=>Q v d) (motive_3:=λv d _=>R v d) (motive_4:=λv d _=>T v d) h1 h2 h3 h4 h5 h6 h7 h8 h9 q1 q2 r1 r2 t1 t2 h,
  λh=>Reps.rec (motive_1:=λv d _=>P v d) (motive_2:=λv d _=>Q v d) (motive_3:=λv d _=>R v d) (motive_4:=λv d _=>T v d) h1 h2 h3 h4 h5 h6 h7 h8 h9 q1 q2 r1 r2 t1 t2 h,
  λh=>RepK.rec (motive_1:=λv d _=>P v d) (motive_2:=λv d _=>Q v d) (motive_3:=λv d _=>R v d) (motive_4:=λv d _=>T v d) h1 h2 h3 h4 h5 h6 h7 h8 h9 q1 q2 r1 r2 t1 t2 h,
  λh=>RepT.rec (motive_1:=λv d _=>P v d) (motive_2:=λv d _=>Q v d) (motive_3:=λv d _=>R v d) (motive_4:=λv d _=>T v d) h1 h2 h3 h4 h5 h6 h7 h8 h9 q1 q2 r1 r2 t1 t2 h}
theorem pA4(l:Le F F'):(∀{v d},Rep K F v d->Rep K F' v d)/\(∀{vs ds},Reps K F vs ds->Reps K F' vs ds)/\(∀{vs ds},RepK K F vs ds->RepK K F' vs ds)/\∀{vs ds},RepT K F vs ds->RepT K F' vs ds :=
 Rep.ind .non .bl .int .str (λh _ r=>.tup (l.tup h) r) (λh n=>.tupK h n) (λh _ r=>.lst (h.imp (λz=>l.rd z) id) r) (λh _ r=>.dk (l.rd h) r) (λh _ r=>.dt (l.rd h) r) .nil (λ_ _ h r=>.cons h r) .nil (λ_ _ h r=>.cons h r) .nil (λ_ _ h r=>.cons h r)
theorem Rep.le(l:Le F F'){d:D}(r:Rep K F v d):Rep K F' v d:=(pA4 l).1 r
theorem Reps.le(l:Le F F'){v:List V}{d:List D}(r:Reps K F v d):Reps K F' v d:=(pA4 l).2.1 r
theorem RepK.le(l:Le F F'){v:List (Key×V)}{d:List (Key×D)}(r:RepK K F v d):RepK K F' v d:=(pA4 l).2.2.1 r
theorem RepT.le(l:Le F F'){v:List (List Key×V)}{d:List (List Int×D)}(r:RepT K F v d):RepT K F' v d:=(pA4 l).2.2.2 r
theorem Rep.vI{i:Int}(r:Rep K F v (.int i)):v=.int i:=by cases r;rfl
theorem Rep.vB{b:Bool}(r:Rep K F v (.bl b)):v=.bl b:=by cases r;rfl
theorem Rep.vS(r:Rep K F v (.str x)):v=.str x:=by cases r;rfl
theorem Rep.vN(r:Rep K F v .non):v=.non:=by cases r;rfl
theorem Reps.rec1{Q:List V->List D->Prop}(q1:Q [] [])(q2:∀{v d vs ds},Rep K F v d->Reps K F vs ds->Q vs ds->Q (v::vs) (d::ds)){ds:List D}(h:Reps K F vs ds):Q vs ds :=
 (Rep.ind (P:=λ_ _=>True) (Q:=Q) (R:=λ_ _=>True) (T:=λ_ _=>True) trivial (λ_=>trivial) (λ_=>trivial) (λ_=>trivial) (λ_ _ _=>trivial) (λ_ _=>trivial) (λ_ _ _=>trivial) (λ_ _ _=>trivial) (λ_ _ _=>trivial) q1 (λh r _ ih=>q2 h r ih) trivial (λ_ _ _ _=>trivial) trivial (λ_ _ _ _=>trivial)).2.1 h
theorem RepK.rec1{R:List (Key×V)->List (Key×D)->Prop}(r1:R [] [])(r2:∀{k v d vs ds},Rep K F v d->RepK K F vs ds->R vs ds->R ((k,v)::vs) ((k,d)::ds)){vs:List (Key×V)}{ds:List (Key×D)}(h:RepK K F vs ds):R vs ds :=
 (Rep.ind (P:=λ_ _=>True) (Q:=λ_ _=>True) (R:=R) (T:=λ_ _=>True) trivial (λ_=>trivial) (λ_=>trivial) (λ_=>trivial) (λ_ _ _=>trivial) (λ_ _=>trivial) (λ_ _ _=>trivial) (λ_ _ _=>trivial) (λ_ _ _=>trivial) trivial (λ_ _ _ _=>trivial) r1 (λh r _ ih=>r2 h r ih) trivial (λ_ _ _ _=>trivial)).2.2.1 h
theorem RepT.rec1{T:List (List Key×V)->List (List Int×D)->Prop}(t1:T [] [])(t2:∀{k:List Int} {v d vs ds},Rep K F v d->RepT K F vs ds->T vs ds->T ((k.map CZ,v)::vs) ((k,d)::ds)){vs:List (List Key×V)}{ds:List (List Int×D)}(h:RepT K F vs ds):T vs ds :=
 (Rep.ind (P:=λ_ _=>True) (Q:=λ_ _=>True) (R:=λ_ _=>True) (T:=T) trivial (λ_=>trivial) (λ_=>trivial) (λ_=>trivial) (λ_ _ _=>trivial) (λ_ _=>trivial) (λ_ _ _=>trivial) (λ_ _ _=>trivial) (λ_ _ _=>trivial) trivial (λ_ _ _ _=>trivial) trivial (λ_ _ _ _=>trivial) t1 (λh r _ ih=>t2 h r ih)).2.2.2 h
theorem Reps.length{vs:List V}{ds:List D}(r:Reps K F vs ds):vs.length=ds.length :=
 r.rec1 (Q:=λvs ds=>vs.length=ds.length) rfl λ_ _ ih=>congrArg (·+1) ih
theorem Reps.append{ws:List V}{ds es:List D}(r:Reps K F vs ds)(s:Reps K F ws es):Reps K F (vs++ws) (ds++es) :=
 r.rec1 (Q:=λvs ds=>Reps K F (vs++ws) (ds++es)) s λh _ ih=>.cons h ih
theorem Reps.get{ds:List D}{d:D}(r:Reps K F vs ds):ds[i]?=AA d->∃v,vs[i]?=AA v/\Rep K F v d :=
 r.rec1 (Q:=λvs ds=>∀i,ds[i]?=AA d->∃v,vs[i]?=AA v/\Rep K F v d) (λ_ e=>by simp at e) (λh _ ih i e=>by
  cases i with
  |zero=>cases e;exact{_,rfl,h}
  |succ i=>exact ih i e) i
theorem Reps.set{vs:List V}{ds:List D}(i:Nat){v:V}{d:D}(r:Reps K F vs ds)(h:Rep K F v d):Reps K F (vs.set i v) (ds.set i d) :=
 r.rec1 (Q:=λvs ds=>∀i,Reps K F (vs.set i v) (ds.set i d)) (λ_=>.nil) (λq r ih i=>by
  cases i with
  |zero=>exact .cons h r
  |succ i=>exact .cons q (ih i)) i
theorem Reps.take{vs:List V}{ds:List D}(n:Nat)(r:Reps K F vs ds):Reps K F (vs.take n) (ds.take n) :=
 r.rec1 (Q:=λvs ds=>∀n,Reps K F (vs.take n) (ds.take n)) (λn=>by rw[List.take_nil,List.take_nil];exact .nil) (λq r ih n=>by
  cases n with
  |zero=>exact .nil
  |succ n=>exact .cons q (ih n)) n
theorem Reps.drop{vs:List V}{ds:List D}(n:Nat)(r:Reps K F vs ds):Reps K F (vs.drop n) (ds.drop n) :=
 r.rec1 (Q:=λvs ds=>∀n,Reps K F (vs.drop n) (ds.drop n)) (λn=>by rw[List.drop_nil,List.drop_nil];exact .nil) (λq r ih n=>by
  cases n with
  |zero=>exact .cons q r
  |succ n=>exact ih n) n
theorem Reps.eraseIdx{vs:List V}{ds:List D}(i:Nat)(r:Reps K F vs ds):Reps K F (vs.eraseIdx i) (ds.eraseIdx i) :=
 r.rec1 (Q:=λvs ds=>∀n,Reps K F (vs.eraseIdx n) (ds.eraseIdx n)) (λn=>.nil) (λq r ih n=>by
  cases n with
  |zero=>exact r
  |succ n=>exact .cons q (ih n)) i
theorem Reps.rep(n:Nat){ds:List D}(r:Reps K F vs ds):Reps K F (BH n vs).flatten (BH n ds).flatten:=by
 induction n with
 |zero=>exact .nil
 |succ n ih=>rw[ES,GZ,ES,GZ];exact r.append ih
theorem Reps.nil_iff{ds:List D}(r:Reps K F vs ds):vs=[]↔ds=[]:=by cases r<;>simp
theorem Reps.ints:∀ns:List Int,Reps K F (ns.map V.int) (ns.map D.int)
 |[]=>.nil
 |n::ns=>.cons (.int n) (Reps.ints ns)
theorem Reps.vint(r:Reps K F vs (ns.map D.int)):vs=ns.map V.int :=
 r.rec1 (Q:=λvs ds=>∀bs:List Int,ds=bs.map D.int->vs=bs.map V.int) (λbs e=>by cases bs with
  |nil=>rfl
  |cons=>cases e) (λh _ ih bs e=>by
  cases bs with
  |nil=>cases e
  |cons b bs=>cases e;rw[h.vI,ih bs rfl];rfl) ns rfl
theorem Reps.vbl{bs:List Bool}(r:Reps K F vs (bs.map D.bl)):vs=bs.map V.bl :=
 r.rec1 (Q:=λvs ds=>∀bs:List Bool,ds=bs.map D.bl->vs=bs.map V.bl) (λbs e=>by cases bs with
  |nil=>rfl
  |cons=>cases e) (λh _ ih bs e=>by
  cases bs with
  |nil=>cases e
  |cons b bs=>cases e;rw[h.vB,ih bs rfl];rfl) bs rfl
theorem pA5{bs:List C2}(r:Reps K F vs (bs.map D.str)):vs=bs.map V.str :=
 r.rec1 (Q:=λvs ds=>∀bs:List C2,ds=bs.map D.str->vs=bs.map V.str) (λbs e=>by cases bs with
  |nil=>rfl
  |cons=>cases e) (λh _ ih bs e=>by
  cases bs with
  |nil=>cases e
  |cons b bs=>cases e;rw[h.vS,ih bs rfl];rfl) bs rfl
end
def Sub(F H:Hp):Prop:=∀a u,F a=AA u->H a=AA u
theorem Sub.rd(s:Sub F H){u:HO}(h:Rd F a u):Rd H a u:=h.imp (s a u) (λq0=>by obtain⟨o,h⟩:=q0;exact{o,s a _ h})
def OwnAt(K:AD)(F H:Hp)(a:AT):D->Prop
 |.lst ds=>∃vs,H a=AA (.lst vs)/\Reps K F vs ds
 |.dk ds=>∃kvs,H a=AA (.dK kvs)/\RepK K F kvs ds
 |.dt ds=>∃kvs,H a=AA (.dT kvs)/\RepT K F kvs ds
 |_=>False
def kX:HO->Prop
 |.lst _=>True
 |.dK _=>True
 |.dT _=>True
 |_=>False
theorem OwnAt.ho{K:AD}{d:D}(h:OwnAt K F H a d):∃o,H a=AA o/\kX o:=by
 cases d with
 |lst ds=>obtain⟨vs,e,_⟩:=h;exact{_,e,trivial}
 |dk ds=>obtain⟨vs,e,_⟩:=h;exact{_,e,trivial}
 |dt ds=>obtain⟨vs,e,_⟩:=h;exact{_,e,trivial}
 |_=>exact h.elim
theorem OwnAt.mono{K:AD}{d:D}(h:OwnAt K F H a d)(l:Le F F')(e:H' a=H a):OwnAt K F' H' a d:=by
 cases d with
 |lst ds=>obtain⟨vs,q,r⟩:=h;exact{vs,e.trans q,r.le l}
 |dk ds=>obtain⟨vs,q,r⟩:=h;exact{vs,e.trans q,r.le l}
 |dt ds=>obtain⟨vs,q,r⟩:=h;exact{vs,e.trans q,r.le l}
 |_=>exact h.elim
theorem OwnAt.rep{K:AD}{d:D}(h:OwnAt K F H a d)(n:F a=AL)(eo:H a=AA o):Rep K (D3 F a o) (.ref a) d:=by
 have l:Le F (D3 F a o):=.of_gr (Gr.new n)
 cases d with
 |lst ds=>obtain⟨vs,q,r⟩:=h;rw[eo] at q;cases q;exact .lst (.inl (.inl HJ)) (r.le l)
 |dk ds=>obtain⟨vs,q,r⟩:=h;rw[eo] at q;cases q;exact .dk (.inl HJ) (r.le l)
 |dt ds=>obtain⟨vs,q,r⟩:=h;rw[eo] at q;cases q;exact .dt (.inl HJ) (r.le l)
 |_=>exact h.elim
def EC(σ:St)(E:Ev)(a:AT):Prop:=∃(i:Nat) (t:Bool) (d:D),E[i]?=AA (Sl.own t d)/\σ[i]?=AA (AA (V.ref a))
structure Sim(K:AD)(H₀:Hp)(τ:AT)(F H:Hp)(σ:St)(E:Ev):Prop where
 sub:Sub F H
 len:E.length=σ.length
 val:∀(i:Nat) d,E[i]?=AA (.val d)->∃v,σ[i]?=AA (AA v)/\Rep K F v d
 own:∀(i:Nat) t d,E[i]?=AA (.own t d)->∃a,σ[i]?=AA (AA (.ref a))/\F a=AL/\OwnAt K F H a d/\(∀o u,H₀ a≠AA (.frz o u))/\(t=AK->τ=a)
 inj:∀(i j:Nat) t u d e a,E[i]?=AA (.own t d)->E[j]?=AA (.own u e)->σ[i]?=AA (AA (.ref a))->σ[j]?=AA (AA (.ref a))->i=j
def Nw(H:Hp)(a:AT):Prop:=∀o,H a=AA o->¬kX o
theorem Nw.none{H:Hp}{a:AT}(h:H a=AL):Nw H a:=λo e=>by rw[h] at e;cases e
structure Stp(ow:AT->Prop)(F H F' H':Hp)(YK:AT->Prop):Prop where
 keep:∀a o,H a=AA o->kX o->F a=AL->¬ow a->H' a=AA o
 dom:∀a,H' a=AL->H a=AL
 le:Le F F'
 new:∀a o,F' a=AA o->F a≠AL\/Nw H a\/ow a
 own:∀a,YK a->ow a\/H a=AL
variable{E':Ev}
section
variable{K:AD}{E:Ev}{ow Bq:AT->Prop}
theorem Stp.refl:Stp ow F H F H ow:={λ_ _ h _ _ _=>h,λ_ h=>h,.refl _,λa o e=>.inl (by rw[e];exact nofun),λ_ h=>.inl h}
theorem Stp.nF(x:Stp ow F H F1 H1 aI)(hf:F a=AL)(e:H a=AA o)(hw:kX o)(ho:¬ow a):F1 a=AL:=by
 cases e1:F1 a with
 |none=>rfl
 |some u =>
  rcases x.new a u e1 with z|z|z
  .exact absurd hf z
  .exact absurd hw (z o e)
  .exact absurd z ho
theorem Stp.nw(x:Stp ow F H F1 H1 aI)(z:Nw H1 a):F a≠AL\/Nw H a\/ow a:=by
 by_cases h1:F a=AL
 .by_cases h2:ow a
  .exact .inr (.inr h2)
  .exact .inr (.inl λo e hw=>z o (x.keep a o e hw h1 h2) hw)
 .exact .inl h1
theorem Stp.trans(x:Stp ow F H F1 H1 aI)(y:Stp aI F1 H1 F2 H2 Bq):Stp ow F H F2 H2 Bq:=by
 have o1:∀a,H a≠AL->¬ow a->¬aI a:=λa hh ho z=>(x.own a z).elim ho hh;refine{λa o e hw hf ho=>?_,λa h=>x.dom a (y.dom a h),x.le.trans y.le,λa o e=>?_,λa h=>?_}
 .have hh:H a≠AL:=by rw[e];exact nofun
  exact y.keep a o (x.keep a o e hw hf ho) hw (x.nF hf e hw ho) (o1 a hh ho)
 .rcases y.new a o e with z|z|z
  .cases e1:F1 a with
   |none=>exact absurd e1 z
   |some u=>exact x.new a u e1
  .exact x.nw z
  .exact(x.own a z).elim (λq=>.inr (.inr q)) λq=>.inr (.inl (.none q))
 .exact(y.own a h).elim (x.own a) λq=>.inr (x.dom a q)
theorem Stp.weak(x:Stp ow F H F1 H1 aI)(h:∀a,Bq a->aI a):Stp ow F H F1 H1 Bq:={x.keep,x.dom,x.le,x.new,λa q=>x.own a (h a q)}
def New(F H F' H':Hp):Prop:=Stp (λ_=>False) F H F' H' (λ_=>False)/\Sub F' H'
theorem New.stp(n:New F H F' H'):Stp ow F H F' H' ow :=
 {λa o e hw hf _=>n.1.keep a o e hw hf id,n.1.dom,n.1.le,λa o e=>(n.1.new a o e).elim .inl λz=>z.elim (λz=>.inr (.inl z)) λz=>z.elim,λ_ h=>.inl h}
theorem New.refl(s:Sub F H):New F H F H:={Stp.refl,s}
theorem New.trans(x:New F H F1 H1)(y:New F1 H1 F2 H2):New F H F2 H2:={x.1.trans y.1,y.2}
theorem New.laid{p:AT}(s:Sub F H)(h:H p=AL):New F H (D3 F p o) (D3 H p o):=by
 have hf:F p=AL:=by
  cases e:F p with
  |none=>rfl
  |some u=>rw[s p u e] at h;cases h
 refine{{λa u e _ _ _=>by rw[FH (W6 e h)];exact e,λa e=>?_,.of_gr (Gr.new hf),λa u e=>?_,λ_ z=>z.elim},λa u e=>?_}
 .by_cases ha:a=p
  .subst ha;rw[HJ] at e;cases e
  .rw[FH ha] at e;exact e
 .by_cases ha:a=p
  .subst ha;exact .inr (.inl (.none h))
  .rw[FH ha] at e;exact .inl (by rw[e];exact nofun)
 .by_cases ha:a=p
  .subst ha;rw[HJ] at e ⊢;exact e
  .rw[FH ha] at e ⊢;exact s a u e
theorem Gr.dom(g:Gr H H')(a:AT)(e:H' a=AL):H a=AL:=by
 cases q:H a with
 |none=>rfl
 |some o=>rw[g a o q] at e;cases e
theorem pA6(s:Sub F H)(g:Gr H H'):New F H F H' :=
 {{λa o e _ _ _=>g a o e,g.dom,.refl _,λa o e=>.inl (by rw[e];exact nofun),λ_ z=>z.elim},λa u e=>g a u (s a u e)}
def gro(F H H':Hp):Hp:=λa=>match H a with|none=>H' a|some _=>F a
theorem zP(h:H a=AL):gro F H H' a=H' a:=by unfold gro;rw[h]
theorem Ei(h:H a=AA o):gro F H H' a=F a:=by unfold gro;rw[h]
theorem New.gro(s:Sub F H)(g:Gr H H'):New F H (gro F H H') H':=by
 refine{{λa o e _ _ _=>g a o e,g.dom,.of_gr λa u e=>by rw[Ei (s a u e)];exact e,λa o e=>?_,λ_ z=>z.elim},λa u e=>?_}
 .cases q:H a with
  |none=>exact .inr (.inl (.none q))
  |some v=>rw[Ei q] at e;exact .inl (by rw[e];exact nofun)
 .cases q:H a with
  |none=>rw[zP q] at e;exact e
  |some v=>rw[Ei q] at e;exact g a u (s a u e)
theorem Sim.new(S:Sim K H₀ τ F H σ E)(n:New F H F' H'):Sim K H₀ τ F' H' σ E where
 sub:=n.2
 len:=S.len
 val:=λi d e=>let ⟨v,h1,h2⟩:=S.val i d e;{v,h1,h2.le n.1.le}
 own:=λi t d e=>by
  obtain⟨a,h1,h2,h3,h4⟩:=S.own i t d e;obtain⟨o,ho,hw⟩:=h3.ho;exact{a,h1,n.1.nF h2 ho hw id,h3.mono n.1.le ((n.1.keep a o ho hw h2 id).trans ho.symm),h4}
 inj:=S.inj
theorem Sim.fresh(S:Sim K H₀ τ F H σ E)(h:H a=AL):¬EC σ E a:=λq0=>by
 obtain⟨i,t,d,e,e'⟩:=q0;obtain⟨b,h1,_,h3,_⟩:=S.own i t d e;rw[e'] at h1;cases h1;obtain⟨o,ho,_⟩:=h3.ho;rw[h] at ho;cases ho
end
abbrev G:=Ev->Out (D×Ev)
def tV(K:AD)(H₀:Hp)(g:G):TE:=λσ H Q=>∃τ F E d E',Sim K H₀ τ F H σ E/\g E=.ok (d,E') /\
 ∀v F' H',Stp (EC σ E) F H F' H' (EC σ E')->Sim K H₀ τ F' H' σ E'->Rep K F' v d->Q v H'
def tF(K:AD)(H₀:Hp)(g:G):TE:=λσ H Q=>∃τ F E d E',Sim K H₀ τ F H σ E/\g E=.ok (d,E') /\
 ∀a F' H',Stp (EC σ E) F H F' H' (EC σ E')->Sim K H₀ τ F' H' σ E'->F' a=AL->H a=AL->OwnAt K F' H' a d->¬EC σ E' a->Q (.ref a) H'
def tT(K:AD)(H₀:Hp)(g:Ev->Out (Bool×Ev)):TT:=λσ H Q=>∃τ F E b E',Sim K H₀ τ F H σ E/\g E=.ok (b,E') /\
 ∀F' H',Stp (EC σ E) F H F' H' (EC σ E')->Sim K H₀ τ F' H' σ E'->Q b H'
theorem PE.imp{t t':TE}(h:PE X e t)(hi:∀σ H Q,t' σ H Q->t σ H Q):PE X e t':=λAG s σ H Q I q=>h AG s σ H Q I (hi σ H Q q)
theorem PT.imp{t t':TT}(h:PT X e t)(hi:∀σ H Q,t' σ H Q->t σ H Q):PT X e t':=λAG s σ H Q I q=>h AG s σ H Q I (hi σ H Q q)
theorem PW.imp{t t':TT}(h:PW X e t)(hi:∀σ H Q,t' σ H Q->t σ H Q):PW X e t':=λw AG s σ H Q I q=>h w AG s σ H Q I (hi σ H Q q)
theorem PS.imp{e:FF}{t t':TS}(h:PS X e t)(hi:∀D σ H,t' D σ H->t D σ H):PS X e t':=λAG s σ H D I q=>h AG s σ H D I (hi D σ H q)
theorem PSs.imp{e:List FF}{t t':TS}(h:PSs X e t)(hi:∀D σ H,t' D σ H->t D σ H):PSs X e t':=λAG s σ H D I q=>h AG s σ H D I (hi D σ H q)
abbrev VE(X:Cx)(e:DA)(g:G):Prop:=PE X e (tV X.K X.H₀ g)
abbrev FE(X:Cx)(e:DA)(g:G):Prop:=PE X e (tF X.K X.H₀ g)
abbrev VT(X:Cx)(e:DA)(g:Ev->Out (Bool×Ev)):Prop:=PT X e (tT X.K X.H₀ g)
section
variable{a b:DA}{g ga gb gc:G}{K:AD}
theorem pA7{Q:VK}(h:tV K H₀ g σ H Q):tF K H₀ g σ H Q:=by
 obtain⟨τ,F,E,d,E',S,hg,k⟩:=h;refine{τ,F,E,d,E',S,hg,λp F' H' st S' n n0 ow no=>?_};obtain⟨o,ho,hown⟩:=ow.ho
 have nw:Stp (EC σ E) F H (D3 F' p o) H' (EC σ E'):={st.keep,st.dom,st.le.trans (.of_gr (Gr.new n)),λa u e=>by
  by_cases ha:a=p
  .subst ha;exact .inr (.inl (.none n0))
  .rw[FH ha] at e;exact st.new a u e,st.own}
 refine k _ _ _ nw {λa u e=>?_,S'.len,λi d e=>?_,λi t d e=>?_,S'.inj} (ow.rep n ho)
 .by_cases ha:a=p
  .subst ha;rw[HJ] at e;rw[ho];exact e
  .rw[FH ha] at e;exact S'.sub a u e
 .obtain⟨v,h1,h2⟩:=S'.val i d e;exact{v,h1,h2.le (.of_gr (Gr.new n))}
 .obtain⟨b,h1,h2,h3,h4⟩:=S'.own i t d e
  refine{b,h1,?_,h3.mono (.of_gr (Gr.new n)) rfl,h4};rw[FH (λz=>no {i,t,d,e,by rw[<-z];exact h1})];exact h2
theorem pA8(h:FE X e g):VE X e g:=PE.imp h λ_ _ _ q=>pA7 q
noncomputable def AW(i:Nat):G:=λE=>match E[i]? with
 |some (.val d)=>.ok (d,E)
 |some (.own AC d)=>.ok (d,E.set i (.val d))
 |_=>.bad
def gC(d:D):G:=λE=>.ok (d,E)
theorem Sim.share{E:Ev}{t:Bool}{d:D}(S:Sim K H₀ τ F H σ E)(e:E[i]?=AA (.own t d)) :
  ∃a F',σ[i]?=AA (AA (.ref a))/\Stp (EC σ E) F H F' H (EC σ (E.set i (.val d)))/\Sim K H₀ τ F' H σ (E.set i (.val d))/\Rep K F' (.ref a) d:=by
 obtain⟨a,h1,h2,h3,h4⟩:=S.own i t d e;obtain⟨o,ho,_⟩:=h3.ho;have hi:i<E.length:=(AQ.mp e).1;have l:Le F (D3 F a o):=.of_gr (Gr.new h2)
 have HM:∀(j:Nat) t d',(E.set i (.val d))[j]?=AA (.own t d')->j≠i/\E[j]?=AA (.own t d'):=λj t d' q=>by
  by_cases hj:i=j
  .subst hj;rw[BE hi] at q;cases q
  .rw[A8 hj] at q;exact{FO hj,q}
 refine{a,D3 F a o,h1,{λ_ _ q _ _ _=>q,λ_ q=>q,l,λb u q=>?_,λb ⟨j,t',d',q1,q2⟩=>.inl {j,t',d',(HM j t' d' q1).2,q2}},{λb u q=>?_,by rw[CC];exact S.len,λj d' q=>?_,λj t' d' q=>?_,λj k t1 t2 d1 d2 b q1 q2=>S.inj j k t1 t2 d1 d2 b (HM _ _ _ q1).2 (HM _ _ _ q2).2},h3.rep h2 ho}
 .by_cases hb:b=a
  .subst hb;exact .inr (.inr {i,t,d,e,h1})
  .rw[FH hb] at q;exact .inl (by rw[q];exact nofun)
 .by_cases hb:b=a
  .subst hb;rw[HJ] at q;rw[ho];exact q
  .rw[FH hb] at q;exact S.sub b u q
 .by_cases hj:i=j
  .subst hj;rw[BE hi] at q;cases q;exact{_,h1,h3.rep h2 ho}
  .rw[A8 hj] at q
   obtain⟨v,z1,z2⟩:=S.val j d' q;exact{v,z1,z2.le l}
 .obtain⟨hj,q⟩:=HM j t' d' q
  obtain⟨b,z1,z2,z3,z4⟩:=S.own j t' d' q;refine{b,z1,?_,z3.mono l rfl,z4};rw[FH (λz=>hj (S.inj j i t' t d' d a q e (by rw[z1,z]) h1))];exact z2
theorem CD(i:Nat)(hN:X.N[i]?=AA x:=by rfl)(hv:ZR X.env.scope x:=by first|exact BN rfl|exact D2 (BN rfl)|exact D2 (D2 rfl))(hd:(x==("__debug__":C2))=AC:=by decide)
  (MM:(x==("__classdict__":C2))=AC:=by decide):VE X (.Name x pos) (AW i):=(gA hN hv hd MM).imp λσ H Q h=>by
 obtain⟨τ,F,E,d,E',S,hg,k⟩:=h;unfold AW at hg;split at hg
 .cases hg
  rename_i e;obtain⟨v,h1,h2⟩:=S.val i _ e;exact{v,h1,k v F H .refl S h2}
 .cases hg
  rename_i e;obtain⟨a,F',h1,h2,h3,h4⟩:=S.share e;exact{_,h1,k _ F' H h2 h3 h4}
 .cases hg
theorem As{d:D}(r:∀F,Rep K F v d){Q:VK}(h:tV K H₀ (gC d) σ H Q):tC v σ H Q:=by
 obtain⟨τ,F,E,d',E',S,hg,k⟩:=h;cases hg;exact k v F H .refl S (r F)
theorem F8{i j pos}:VE X (.Constant (.int i) j pos) (gC (.int i)):=oC.imp λ_ _ _ h=>As (λ_=>.int i) h
theorem Z8{b j pos}:VE X (.Constant (.bool b) j pos) (gC (.bl b)):=uN.imp λ_ _ _ h=>As (λ_=>.bl b) h
theorem nC{j pos}:VE X (.Constant .none j pos) (gC .non):=oB.imp λ_ _ _ h=>As (λ_=>.non) h
theorem yGB{x j pos}:VE X (.Constant (.str x) j pos) (gC (.str x)):=oA.imp λ_ _ _ h=>As (λ_=>.str x) h
def g2(f:D->D->Out D)(ga gb:G):G:=λE=>(ga E).bind λp=>(gb p.2).bind λq=>(f p.1 q.1).bind λd=>.ok (d,q.2)
def g1(f:D->Out D)(ga:G):G:=λE=>(ga E).bind λp=>(f p.1).bind λd=>.ok (d,p.2)
def UX(K:AD)(rd:R2)(f:D->D->Out D):Prop:=∀v u x y F H d Q,Sub F H->Rep K F v x->Rep K F u y->f x y=.ok d->(∀z F' H',New F H F' H'->Rep K F' z d->Q z H')->rd v u H Q
def Iw(K:AD)(rd:V->Hp->VK->Prop)(f:D->Out D):Prop:=∀v x F H d Q,Sub F H->Rep K F v x->f x=.ok d->(∀z F' H',New F H F' H'->Rep K F' z d->Q z H')->rd v H Q
theorem yG{rd:R2}{f:D->D->Out D}(hs:UX K rd f){Q:VK}(h:tV K H₀ (g2 f ga gb) σ H Q):n9 rd (tV K H₀ ga) (tV K H₀ gb) σ H Q:=by
 obtain⟨τ,F,E,d,E',S,hg,k⟩:=h;obtain⟨p,ea,hg⟩:=pA3 hg;obtain⟨q,eb,hg⟩:=pA3 hg;obtain⟨z,ef,hg⟩:=pA3 hg;cases hg;refine{τ,F,E,p.1,p.2,S,ea,λv F1 H1 st1 S1 r1=>?_};refine{τ,F1,p.2,q.1,q.2,S1,eb,λu F2 H2 st2 S2 r2=>?_};exact hs v u p.1 q.1 F2 H2 d Q S2.sub (r1.le st2.le) r2 ef λz F3 H3 n r3=>k z F3 H3 ((st1.trans st2).trans n.stp) (S2.new n) r3
theorem yGC{rd:V->Hp->VK->Prop}{f:D->Out D}(hs:Iw K rd f){Q:VK}(h:tV K H₀ (g1 f ga) σ H Q):Xy rd (tV K H₀ ga) σ H Q:=by
 obtain⟨τ,F,E,d,E',S,hg,k⟩:=h;obtain⟨p,ea,hg⟩:=pA3 hg;obtain⟨z,ef,hg⟩:=pA3 hg;cases hg;refine{τ,F,E,p.1,p.2,S,ea,λv F1 H1 st1 S1 r1=>?_};exact hs v p.1 F1 H1 d Q S1.sub r1 ef λz F3 H3 n r3=>k z F3 H3 (st1.trans n.stp) (S1.new n) r3
theorem rQ{op:Operator}{rd:R2}{f:D->D->Out D}(ho:OpR X (HE op) rd)(hs:UX X.K rd f)(ha:VE X a ga)(hb:VE X b gb):VE X (.BinOp a op b pos) (g2 f ga gb):=(yL ho ha hb).imp λ_ _ _ h=>yG hs h
theorem yIQ{op:UnaryOp}{rd:V->Hp->VK->Prop}{f:D->Out D}(ho:Bk X (unaryOp op) rd)(hs:Iw X.K rd f)(ha:VE X a ga):VE X (.UnaryOp op a pos) (g1 f ga):=(yFY ho ha).imp λ_ _ _ h=>yGC hs h
theorem Xu{rd:R2}{f:D->D->Out D}(ho:OpR X (EZ op) rd)(hs:UX X.K rd f)(ha:VE X a ga)(hb:VE X b gb)(hm:D4 op b=AC):VE X (.Compare a [op] [b] pos) (g2 f ga gb):=(zYL ho ha hb hm).imp λ_ _ _ h=>yG hs h
def gB(g:G):Ev->Out (Bool×Ev):=λE=>(g E).bind λp=>match p.1 with|.bl b=>.ok (b,p.2)|_=>.bad
theorem iX{rd:R2}{f:D->D->Out D}(ho:OpR X (EZ op) rd)(hs:UX X.K rd f)(ha:VE X a ga)(hb:VE X b gb)(hm:D4 op b=AC):VT X (.Compare a [op] [b] pos) (gB (g2 f ga gb)):=(zYM ho ha hb hm).imp λσ H Q h=>by
 obtain⟨τ,F,E,b',E',S,hg,k⟩:=h;obtain⟨p,ea,hg⟩:=pA3 hg;refine yG hs {τ,F,E,p.1,p.2,S,ea,λv F1 H1 st1 S1 r1=>?_};split at hg
 .rename_i b' eb
  cases hg;rw[eb] at r1;cases r1;exact{_,rfl,k F1 H1 st1 S1}
 .cases hg
def WL(t:Ev->Out (Bool×Ev)):Ev->Out (Bool×Ev):=λE=>(t E).bind λp=>.ok (!p.1,p.2)
def WK(t u:Ev->Out (Bool×Ev)):Ev->Out (Bool×Ev):=λE=>(t E).bind λp=>if p.1=AK then u p.2 else .ok (AC,p.2)
def bF(t u:Ev->Out (Bool×Ev)):Ev->Out (Bool×Ev):=λE=>(t E).bind λp=>if p.1=AK then .ok (AK,p.2) else u p.2
theorem nL{t:Ev->Out (Bool×Ev)}(h:VT X a t):VT X (.UnaryOp .Not a pos) (WL t):=(yB5 h).imp λσ H Q q=>by
 obtain⟨τ,F,E,b',E',S,hg,k⟩:=q;obtain⟨p,ea,hg⟩:=pA3 hg;cases hg;exact{τ,F,E,p.1,p.2,S,ea,λF1 H1 st1 S1=>k F1 H1 st1 S1}
abbrev VW(X:Cx)(e:DA)(g:Ev->Out (Bool×Ev)):Prop:=PW X e (tT X.K X.H₀ g)
theorem VW.t{t:Ev->Out (Bool×Ev)}(h:VW X a t):VT X a t:=PW.pt h
theorem qQ{t:Ev->Out (Bool×Ev)}(h:VT X a t):VW X (.BoolOp .And [a] pos) t:=zYH h
theorem yV{t:Ev->Out (Bool×Ev)}(h:VT X a t):VW X (.BoolOp .Or [a] pos) t:=yB3 h
theorem qJ{t u:Ev->Out (Bool×Ev)}{rest:List DA}(h:VT X a t)(h':VW X (.BoolOp .And (b::rest) pos) u):VW X (.BoolOp .And (a::b::rest) pos) (WK t u):=(yB4 h h').imp λσ H Q q=>by
 obtain⟨τ,F,E,b',E',S,hg,k⟩:=q;obtain⟨p,ea,hg⟩:=pA3 hg;refine{τ,F,E,p.1,p.2,S,ea,λF1 H1 st1 S1=>?_}
 by_cases hp:p.1=AK
 .rw[if_pos hp] at hg ⊢
  exact{τ,F1,p.2,b',E',S1,hg,λF2 H2 st2 S2=>k F2 H2 (st1.trans st2) S2}
 .rw[if_neg hp] at hg ⊢
  cases hg;exact k F1 H1 st1 S1
theorem yF{t u:Ev->Out (Bool×Ev)}{rest:List DA}(h:VT X a t)(h':VW X (.BoolOp .Or (b::rest) pos) u):VW X (.BoolOp .Or (a::b::rest) pos) (bF t u):=(yFM h h').imp λσ H Q q=>by
 obtain⟨τ,F,E,b',E',S,hg,k⟩:=q;obtain⟨p,ea,hg⟩:=pA3 hg;refine{τ,F,E,p.1,p.2,S,ea,λF1 H1 st1 S1=>?_}
 by_cases hp:p.1=AK
 .rw[if_pos hp] at hg ⊢
  cases hg;exact k F1 H1 st1 S1
 .rw[if_neg hp] at hg ⊢
  exact{τ,F1,p.2,b',E',S1,hg,λF2 H2 st2 S2=>k F2 H2 (st1.trans st2) S2}
def Hr(ga gb:G):G:=λE=>(ga E).bind λp=>match p.1 with|.bl AK=>gb p.2|.bl AC=>.ok (.bl AC,p.2)|_=>.bad
def Yl(ga gb:G):G:=λE=>(ga E).bind λp=>match p.1 with|.bl AK=>.ok (.bl AK,p.2)|.bl AC=>gb p.2|_=>.bad
def Hq(ga:G):G:=λE=>(ga E).bind λp=>match p.1 with|.bl b=>.ok (.bl (!b),p.2)|_=>.bad
theorem Xn{op}(h:VE X a g):VE X (.BoolOp op [a] pos) g:=yB6 h
theorem yGF{rest:List DA}(ha:VE X a ga)(hb:VE X (.BoolOp .And (b::rest) pos) gb):VE X (.BoolOp .And (a::b::rest) pos) (Hr ga gb):=(yB7 ha hb).imp λσ H Q q=>by
 obtain⟨τ,F,E,d,E',S,hg,k⟩:=q;obtain⟨p,ea,hg⟩:=pA3 hg;refine{τ,F,E,p.1,p.2,S,ea,λv F1 H1 st1 S1 r1=>?_};split at hg
 .rename_i eb
  rw[eb] at r1;cases r1;exact{AK,rfl,Wc {τ,F1,p.2,d,E',S1,hg,λv F2 H2 st2 S2 r2=>k v F2 H2 (st1.trans st2) S2 r2}}
 .rename_i eb
  rw[eb] at r1;cases r1;cases hg;exact{AC,rfl,Wd (k _ F1 H1 st1 S1 (.bl AC))}
 .cases hg
theorem yIR{rest:List DA}(ha:VE X a ga)(hb:VE X (.BoolOp .Or (b::rest) pos) gb):VE X (.BoolOp .Or (a::b::rest) pos) (Yl ga gb):=(yFP ha hb).imp λσ H Q q=>by
 obtain⟨τ,F,E,d,E',S,hg,k⟩:=q;obtain⟨p,ea,hg⟩:=pA3 hg;refine{τ,F,E,p.1,p.2,S,ea,λv F1 H1 st1 S1 r1=>?_};split at hg
 .rename_i eb
  rw[eb] at r1;cases r1;cases hg;exact{AK,rfl,Wc (k _ F1 H1 st1 S1 (.bl AK))}
 .rename_i eb
  rw[eb] at r1;cases r1;exact{AC,rfl,Wd {τ,F1,p.2,d,E',S1,hg,λv F2 H2 st2 S2 r2=>k v F2 H2 (st1.trans st2) S2 r2}}
 .cases hg
theorem yGG(ha:VE X a ga):VE X (.UnaryOp .Not a pos) (Hq ga):=(yB8 ha).imp λσ H Q q=>by
 obtain⟨τ,F,E,d,E',S,hg,k⟩:=q;obtain⟨p,ea,hg⟩:=pA3 hg;refine{τ,F,E,p.1,p.2,S,ea,λv F1 H1 st1 S1 r1=>?_};split at hg
 .rename_i b' eb
  rw[eb] at r1;cases r1;cases hg;exact{_,rfl,k _ F1 H1 st1 S1 (.bl _)}
 .cases hg
def uS(t:Ev->Out (Bool×Ev))(ga gb:G):G:=λE=>(t E).bind λp=>if p.1=AK then ga p.2 else gb p.2
theorem yIS{t:Ev->Out (Bool×Ev)}(hc:VT X c t)(ha:VE X a ga)(hb:VE X b gb):VE X (.IfExp c a b pos) (uS t ga gb):=(Sh hc ha hb).imp λσ H Q q=>by
 obtain⟨τ,F,E,d,E',S,hg,k⟩:=q;obtain⟨p,ea,hg⟩:=pA3 hg;refine{τ,F,E,p.1,p.2,S,ea,λF1 H1 st1 S1=>?_}
 by_cases hp:p.1=AK
 .rw[if_pos hp] at hg ⊢
  exact{τ,F1,p.2,d,E',S1,hg,λv F2 H2 st2 S2 r=>k v F2 H2 (st1.trans st2) S2 r}
 .rw[if_neg hp] at hg ⊢
  exact{τ,F1,p.2,d,E',S1,hg,λv F2 H2 st2 S2 r=>k v F2 H2 (st1.trans st2) S2 r}
end
def Ym(H₀ H H2:Hp):Prop:=∀a,H2 a=H a\/∃o u,H a=AA (.frz o u)/\H2 a=AA u/\sX u/\∀o' u',H₀ a≠AA (.frz o' u')
theorem Inv.thaw(I:Inv X AG σ H s)(t:Ym X.H₀ H H2):Inv X AG σ H2 s:=by
 have tn:∀a,H a=AL->H2 a=AL:=λa e=>by
  rcases t a with h|⟨o,u,h,_⟩
  .rw[h,e]
  .rw[e] at h;cases h
 have tk:∀a v,H a=AA v->(∀o u,v≠.frz o u)->H2 a=AA v:=λa v e n=>by
  rcases t a with h|⟨o,u,h,_⟩
  .rw[h,e]
  .rw[e] at h;cases h;exact absurd rfl (n o u)
 refine{I.ok,I.os,I.bare,{I.base.keep,I.base.slot,λb o e n hx=>tn b (I.base.free b o e n hx),I.base.there,λb xs e=>tk b _ (I.base.tups b xs e) (λ_ _ z=>HO.noConfusion z),λb o u e=>?_,λb t' ps e=>?_},I.loc,I.cell,tn _ I.free,λx c e=>tn c (I.freeC x c e),λp hp=>?_,λb u e=>?_,I.len}
 .rcases t b with h|⟨o',u',_,_,_,h⟩
  .rw[h];exact I.base.frzs b o u e
  .exact absurd e (h o u)
 .obtain⟨m,h⟩:=I.base.tbls b t' ps e
  exact{m,tk b _ h (λ_ _ z=>HO.noConfusion z)}
 .obtain⟨h1,h2,h3⟩:=I.pin p hp
  exact{h1,tn _ h2,h3}
 .have ok:ObjOk X.prog X.w H s.heap b u:=by
   rcases t b with h|⟨o',u',h1,h2,_⟩
   .exact I.hok b u (by rw[<-h];exact e)
   .rw[e] at h2;cases h2
    obtain⟨_,q⟩:=I.hok b _ h1;exact q
  exact ok.stay (λc v _ q=>q) (λc q=>tk c _ q (λ_ _ z=>HO.noConfusion z)) (λc ys q=>tk c _ q (λ_ _ z=>HO.noConfusion z)) λc o x q=>(t c).elim (λh=>h.trans q) (λq0=>by obtain⟨_,_,h,_,d,_⟩:=q0;exact by rw[q] at h;cases h;exact d.elim)
mutual
noncomputable def D.flat:D->Bool
 |.tup xs=>pA9 xs
 |.lst _=>AC
 |.dk _=>AC
 |.dt _=>AC
 |_=>AK
noncomputable def pA9:List D->Bool
 |[]=>AK
 |d::ds=>d.flat&&pA9 ds
end
mutual
noncomputable def D.nod:D->Bool
 |.tup xs=>pAA xs
 |.lst xs=>pAA xs
 |.dk _=>AC
 |.dt _=>AC
 |_=>AK
noncomputable def pAA:List D->Bool
 |[]=>AK
 |d::ds=>d.nod&&pAA ds
end
section
variable{K:AD}
theorem pAB(ht:∀a vs,F a=AA (.tup vs)->F2 a=AA (.tup vs)):(∀{v d},Rep K F v d->d.flat=AK->Rep K F2 v d)/\(∀{vs ds},Reps K F vs ds->pA9 ds=AK->Reps K F2 vs ds) /\
  (∀{vs ds},RepK K F vs ds->pA9 (ds.map (·.2))=AK->RepK K F2 vs ds)/\∀{vs ds},RepT K F vs ds->pA9 (ds.map (·.2))=AK->RepT K F2 vs ds :=
 Rep.ind (P:=λv d=>d.flat=AK->Rep K F2 v d) (Q:=λv d=>pA9 d=AK->Reps K F2 v d) (R:=λv d=>pA9 (d.map (·.2))=AK->RepK K F2 v d) (T:=λv d=>pA9 (d.map (·.2))=AK->RepT K F2 v d)
  (λ_=>.non) (λb _=>.bl b) (λi _=>.int i) (λx _=>.str x) (λh _ ih e=>.tup (ht _ _ h) (ih (by rw[D.flat] at e;exact e))) (λh n _=>.tupK h n) (λ_ _ _ e=>by rw[D.flat] at e;cases e) (λ_ _ _ e=>by rw[D.flat] at e;cases e) (λ_ _ _ e=>by rw[D.flat] at e;cases e)
  (λ_=>.nil) (λ_ _ h r e=>by rw[pA9,EB] at e;exact .cons (h e.1) (r e.2)) (λ_=>.nil) (λ_ _ h r e=>by rw[AU,pA9,EB] at e;exact .cons (h e.1) (r e.2)) (λ_=>.nil) (λ_ _ h r e=>by rw[AU,pA9,EB] at e;exact .cons (h e.1) (r e.2))
theorem Rep.flat2(ht:∀a vs,F a=AA (.tup vs)->F2 a=AA (.tup vs)){d:D}(r:Rep K F v d):d.flat=AK->Rep K F2 v d:=(pAB ht).1 r
theorem Reps.flat2(ht:∀a vs,F a=AA (.tup vs)->F2 a=AA (.tup vs)){v:List V}{d:List D}(r:Reps K F v d):pA9 d=AK->Reps K F2 v d:=(pAB ht).2.1 r
theorem pAC(ht:∀a vs,F a=AA (.tup vs)->F2 a=AA (.tup vs))(hl:∀a vs,SqL K F a vs->SqL K F2 a vs):(∀{v d},Rep K F v d->d.nod=AK->Rep K F2 v d)/\(∀{vs ds},Reps K F vs ds->pAA ds=AK->Reps K F2 vs ds) /\
  (∀{vs ds},RepK K F vs ds->True)/\∀{vs ds},RepT K F vs ds->True :=
 Rep.ind (P:=λv d=>d.nod=AK->Rep K F2 v d) (Q:=λv d=>pAA d=AK->Reps K F2 v d) (R:=λ_ _=>True) (T:=λ_ _=>True)
  (λ_=>.non) (λb _=>.bl b) (λi _=>.int i) (λx _=>.str x) (λh _ ih e=>.tup (ht _ _ h) (ih (by rw[D.nod] at e;exact e))) (λh n _=>.tupK h n) (λh _ ih e=>.lst (hl _ _ h) (ih (by rw[D.nod] at e;exact e))) (λ_ _ _ e=>by rw[D.nod] at e;cases e) (λ_ _ _ e=>by rw[D.nod] at e;cases e)
  (λ_=>.nil) (λ_ _ h r e=>by rw[pAA,EB] at e;exact .cons (h e.1) (r e.2)) trivial (λ_ _ _ _=>trivial) trivial (λ_ _ _ _=>trivial)
theorem pAD(ht:∀a vs,F a=AA (.tup vs)->F2 a=AA (.tup vs))(hl:∀a vs,SqL K F a vs->SqL K F2 a vs){d:D}(r:Rep K F v d):d.nod=AK->Rep K F2 v d:=(pAC ht hl).1 r
end
noncomputable def bI(is:List Nat)(j:Nat):Sl->Sl
 |.own _ d=>if is.contains j then .val d else .no
 |s=>s
def iW(is:List Nat):Nat->Ev->Ev
 |_,[]=>[]
 |j,s::E=>bI is j s::iW is (j+1) E
abbrev O4(is:List Nat)(E:Ev):Ev:=iW is 0 E
theorem Tc(is:List Nat):∀(E:Ev) (k j:Nat),(iW is k E)[j]?=(E[j]?).map (bI is (k+j))
 |[],_,_=>by simp[iW]
 |s::E,k,0=>by simp[iW]
 |s::E,k,j+1=>by
  show(iW is (k+1) E)[j]?=_;rw[Tc is E (k+1) j,FW,show k+1+j=k+(j+1) by lia]
theorem Sk(is:List Nat)(E:Ev)(j:Nat):(O4 is E)[j]?=(E[j]?).map (bI is j):=by rw[Tc];simp
theorem Tb(is:List Nat):∀(E:Ev) (k:Nat),(iW is k E).length=E.length
 |[],_=>rfl
 |s::E,k=>by rw[iW,BD,BD,Tb is E (k+1)]
def rP:Option Sl->Bool
 |some (.own _ (.lst _))=>AK
 |_=>AC
noncomputable def Ar:Option Sl->Bool
 |some (.own _ (.dk _))=>AK
 |some (.own _ (.dt _))=>AK
 |_=>AC
def cV(is:List Nat)(E:Ev)(d:D):Bool:=(!(is.any λi=>rP E[i]?)||d.flat)&&(!(is.any λi=>Ar E[i]?)||d.nod)
def OP(is:List Nat)(g:G):G:=λE=>(g (O4 is E)).bind λp=>if cV is E p.1=AK then .ok (p.1,E) else .bad
def T2(is:List Nat)(g:Ev->Out (Bool×Ev)):Ev->Out (Bool×Ev):=λE=>(g (O4 is E)).bind λp=>.ok (p.1,E)
section
variable{K:AD}{E:Ev}
def Lent(σ:St)(E:Ev)(is:List Nat)(a:AT):Prop:=∃(i:Nat) (t:Bool) (d:D),i∈is/\E[i]?=AA (Sl.own t d)/\σ[i]?=AA (AA (V.ref a))
theorem Lent.ow(h:Lent σ E is a):EC σ E a:=let ⟨i,t,d,_,e,q⟩:=h;{i,t,d,e,q}
theorem Sim.owned(S:Sim K H₀ τ F H σ E)(h:EC σ E a):F a=AL/\(∃o,H a=AA o/\kX o)/\∀o u,H₀ a≠AA (.frz o u):=by
 obtain⟨i,t,d,e,q⟩:=h;obtain⟨b,h1,h2,h3,h4,_⟩:=S.own i t d e;rw[q] at h1;cases h1;exact{h2,h3.ho,h4}
open Classical in
noncomputable def X8(σ:St)(E:Ev)(is:List Nat)(F H:Hp):Hp:=λa=>if Lent σ E is a then H a else F a
open Classical in
noncomputable def W2(σ:St)(E:Ev)(is:List Nat)(F':Hp):Hp:=λa=>if Lent σ E is a then AL else F' a
open Classical in
noncomputable def bE(σ:St)(E:Ev)(is:List Nat)(H H':Hp):Hp:=λa=>if Lent σ E is a then H a else H' a
theorem Sim.lend(S:Sim K H₀ τ F H σ E)(is:List Nat):Sim K H₀ τ (X8 σ E is F H) H σ (O4 is E)/\∀a,¬EC σ (O4 is E) a:=by
 have l:Le F (X8 σ E is F H):=λa u e=>by
  refine .inl ?_;unfold X8;split
  .exact S.sub a u e
  .exact e
 have no:∀(i:Nat) t d,(O4 is E)[i]?≠AA (.own t d):=λi t d e=>by
  rw[Sk] at e
  cases q:E[i]? with
  |none=>rw[q] at e;cases e
  |some s =>
   rw[q] at e;have e:bI is i s=.own t d:=BJ e
   cases s with
   |no=>cases e
   |val _=>cases e
   |own t' d' =>
    by_cases hc:is.contains i=AK
    .rw[show bI is i (.own t' d')=.val d' from if_pos hc] at e;cases e
    .rw[show bI is i (.own t' d')=.no from if_neg hc] at e;cases e
 refine{{λa u e=>?_,by rw[Tb];exact S.len,λi d e=>?_,λi t d e=>absurd e (no i t d),λi j t u d d' a e=>absurd e (no i t d)},(λa q0=>by obtain⟨i,t,d,e,_⟩:=q0;exact no i t d e)}
 .unfold X8 at e
  split at e
  .exact e
  .exact S.sub a u e
 .rw[Sk] at e
  cases q:E[i]? with
  |none=>rw[q] at e;cases e
  |some s =>
   rw[q] at e;have e:bI is i s=.val d:=BJ e
   cases s with
   |no=>cases e
   |val d' =>
    cases e;obtain⟨v,h1,h2⟩:=S.val i d q;exact{v,h1,h2.le l}
   |own t' d' =>
    by_cases hc:is.contains i=AK
    .rw[show bI is i (.own t' d')=.val d' from if_pos hc] at e
     cases e;obtain⟨a,h1,h2,h3,_⟩:=S.own i t' d q;obtain⟨o,ho,_⟩:=h3.ho;refine{.ref a,h1,(h3.rep h2 ho).le λb u e=>.inl ?_};have la:Lent σ E is a:={i,t',d,by simpa using hc,q,h1}
     by_cases hb:b=a
     .subst hb
      rw[HJ] at e;unfold X8;rw[if_pos la,ho];exact e
     .rw[FH hb] at e
      unfold X8;split
      .exact S.sub b u e
      .exact e
    .rw[show bI is i (.own t' d')=.no from if_neg hc] at e;cases e
theorem Sim.back(S:Sim K H₀ τ F H σ E)(is:List Nat)(st:Stp (λ_=>False) (X8 σ E is F H) H F' H' YK)(sb:Sub F' H') :
  Ym H₀ H' (bE σ E is H H')/\Stp (EC σ E) F H (W2 σ E is F') (bE σ E is H H') (EC σ E)/\Sim K H₀ τ (W2 σ E is F') (bE σ E is H H') σ E /\
  (∀a u,F' a=AA u->(∀o w,kX o->u≠o/\u≠.frz w o)->W2 σ E is F' a=AA u) /\
  ((is.any λi=>rP E[i]?)=AC->∀a vs,SqL K F' a vs->SqL K (W2 σ E is F') a vs):=by
 have lh:∀a,Lent σ E is a->∃o,H a=AA o/\kX o/\(F' a=AA o\/(sX o/\∃w,F' a=AA (.frz w o))):=λa h=>by
  obtain⟨_,⟨o,ho,hw⟩,_⟩:=S.owned h.ow;refine{o,ho,hw,(st.le a o ?_).imp_right λz=>z.resolve_right (λq0=>by obtain⟨_,_,_,y,_⟩:=q0;exact by subst y;exact hw)};unfold X8;rw[if_pos h];exact ho
 have l2:Le F (W2 σ E is F'):=λa u e=>by
  have hn:¬Lent σ E is a:=λh=>by rw[(S.owned h.ow).1] at e;cases e
  unfold W2;rw[if_neg hn];exact st.le a u (by unfold X8;rw[if_neg hn];exact e)
 have kp:∀a o,H a=AA o->kX o->F a=AL->bE σ E is H H' a=AA o:=λa o e hw n=>by
  unfold bE
  by_cases h:Lent σ E is a
  .rw[if_pos h];exact e
  .rw[if_neg h];exact st.keep a o e hw (by unfold X8;rw[if_neg h];exact n) id
 have nw:∀a o,W2 σ E is F' a=AA o->F a≠AL\/Nw H a:=λa o e=>by
  unfold W2 at e
  by_cases h:Lent σ E is a
  .rw[if_pos h] at e;cases e
  .rw[if_neg h] at e
   rcases st.new a o e with z|z|z
   .unfold X8 at z;rw[if_neg h] at z;exact .inl z
   .exact .inr z
   .exact z.elim
 refine{λa=>?_,{λa o e hw n _=>kp a o e hw n,λa e=>?_,l2,λa o e=>(nw a o e).imp_right .inl,λ_ h=>.inl h},{λa u e=>?_,S.len,λi d e=>?_,λi t d e=>?_,S.inj},λa u e hn=>?_,λhl a vs h=>?_}
 .by_cases h:Lent σ E is a
  .obtain⟨o,ho,_,z|⟨id,w,z⟩⟩:=lh a h
   .exact .inl (by unfold bE;rw[if_pos h,sb a o z,ho])
   .exact .inr {w,o,sb a _ z,by unfold bE;rw[if_pos h,ho],id,(S.owned h.ow).2.2}
  .exact .inl (by unfold bE;rw[if_neg h])
 .unfold bE at e
  by_cases h:Lent σ E is a
  .rw[if_pos h] at e;exact e
  .rw[if_neg h] at e;exact st.dom a e
 .unfold W2 at e
  by_cases h:Lent σ E is a
  .rw[if_pos h] at e;cases e
  .rw[if_neg h] at e
   unfold bE;rw[if_neg h];exact sb a u e
 .obtain⟨v,h1,h2⟩:=S.val i d e
  exact{v,h1,h2.le l2}
 .obtain⟨a,h1,h2,h3,h4⟩:=S.own i t d e
  obtain⟨o,ho,hw⟩:=h3.ho;refine{a,h1,?_,h3.mono l2 ((kp a o ho hw h2).trans ho.symm),h4}
  cases q:W2 σ E is F' a with
  |none=>rfl
  |some u =>
   rcases nw a u q with z|z
   .exact absurd h2 z
   .exact absurd hw (z o ho)
 .unfold W2
  by_cases h:Lent σ E is a
  .obtain⟨o,ho,hw,z|⟨_,w,z⟩⟩:=lh a h
   .rw[e] at z;cases z;exact absurd rfl (hn u default hw).1
   .rw[e] at z;cases z;exact absurd rfl (hn o w hw).2
  .rw[if_neg h];exact e
 .rcases h with h|h
  case inr=>exact .inr h
  refine .inl ?_
  have hn:¬Lent σ E is a:=λhh=>by
   obtain⟨o,ho,hw,z⟩:=lh a hh;obtain⟨i,t,d,hi,e,q⟩:=id hh
   have hld:rP E[i]?=AC:=by
    have:=MR.mp hl i hi;simpa using this
   obtain⟨b,h1,h2,h3,_⟩:=S.own i t d e;rw[q] at h1;cases h1
   have od:sX o:=by
    cases d with
    |lst ds=>rw[e] at hld;cases hld
    |dk ds=>obtain⟨_,q,_⟩:=h3;rw[ho] at q;cases q;trivial
    |dt ds=>obtain⟨_,q,_⟩:=h3;rw[ho] at q;cases q;trivial
    |_=>exact h3.elim
   rcases h with h|⟨w,h⟩<;>rcases z with z|⟨_,w',z⟩<;>rw[h] at z<;>cases z<;>exact od
  unfold Rd W2;rw[if_neg hn];exact h
theorem zVH(S:Sim K H₀ τ F H σ E)(is:List Nat)(st:Stp (λ_=>False) (X8 σ E is F H) H F' H' YK)(sb:Sub F' H'){d:D}(hl:cV is E d=AK)(r:Rep K F' v d):Rep K (W2 σ E is F') v d:=by
 obtain⟨_,_,_,h1,h2⟩:=S.back is st sb;have ht:∀a vs,F' a=AA (.tup vs)->W2 σ E is F' a=AA (.tup vs):=λa vs e=>h1 a _ e λo w ho=>{λz=>by subst z;exact ho,λz=>HO.noConfusion z};unfold cV at hl;rw[EB,kH,kH] at hl;rcases hl.1 with z|z
 .rcases hl.2 with y|y
  ·-- nothing is lent at all
   have no:∀a,¬Lent σ E is a:=λa q0=>by
    obtain⟨i,t,d,hi,e,q⟩:=q0;have e1:rP E[i]?=AC:=by have:=MR.mp (by simpa using z) i hi;simpa using this
    have e2:Ar E[i]?=AC:=by have:=MR.mp (by simpa using y) i hi;simpa using this
    obtain⟨b,_,_,h3,_⟩:=S.own i t d e;rw[e] at e1 e2
    cases d with
    |lst ds=>cases e1
    |dk ds=>cases e2
    |dt ds=>cases e2
    |_=>exact h3.elim
   exact r.le λa u e=>.inl (by unfold W2;rw[if_neg (no a)];exact e)
  .exact pAD ht (h2 (by simpa using z)) r y
 .exact Rep.flat2 ht r z
theorem Stp.toF{ow:AT->Prop}(h:∀a,¬ow a)(st:Stp ow F H F' H' YK):Stp (λ_=>False) F H F' H' YK :=
 {λa o e hw n _=>st.keep a o e hw n (h a),st.dom,st.le,λa o e=>(st.new a o e).imp_right λz=>z.imp_right (h a),λa z=>(st.own a z).elim (λz=>absurd z (h a)) .inr}
theorem ZJ{g:G}(is:List Nat)(h:VE X e g):VE X e (OP is g):=by
 rintro AG s σ H Q I ⟨τ,F,E,d,E',S,hg,k⟩;obtain⟨p,eg,hg⟩:=pA3 hg;split at hg
 .rename_i hl
  cases hg;obtain⟨S1,no⟩:=S.lend is;refine G4 (h AG s σ H (λv H'=>∃F' YK,Stp (λ_=>False) (X8 σ E is F H) H F' H' YK/\Sub F' H'/\Rep X.K F' v p.1) I {τ,_,_,p.1,p.2,S1,eg,λv F' H' st S' r=>{F',_,st.toF no,S'.sub,r}}) λu s' q0=>?_;obtain⟨v,H',I',rv,F',YK,st,sb,r⟩:=q0;obtain⟨t1,t2,t3,_⟩:=S.back is st sb;exact{v,_,I'.thaw t1,rv,k v _ _ t2 t3 (zVH S is st sb hl r)}
 .cases hg
theorem nK{g:Ev->Out (Bool×Ev)}(is:List Nat)(h:VT X e g):VT X e (T2 is g):=by
 rintro AG s σ H Q I ⟨τ,F,E,d,E',S,hg,k⟩;obtain⟨p,eg,hg⟩:=pA3 hg;cases hg;obtain⟨S1,no⟩:=S.lend is;refine G4 (h AG s σ H (λb H'=>b=p.1/\∃F' YK,Stp (λ_=>False) (X8 σ E is F H) H F' H' YK/\Sub F' H') I {τ,_,_,p.1,p.2,S1,eg,λF' H' st S'=>{rfl,F',_,st.toF no,S'.sub}}) λu s' q0=>?_;obtain⟨H',I',eb,F',YK,st,sb⟩:=q0;obtain⟨t1,t2,t3,_⟩:=S.back is st sb;subst eb;exact{_,I'.thaw t1,k _ _ t2 t3}
end
inductive Fl where
 |nx (E:Ev)|rt (b:Bool) (d:D) (E:Ev)|bk (E:Ev)|ct (E:Ev)
abbrev GS:=Ev->Out Fl
def RetR(K:AD)(ow:AT->Prop)(H:Hp)(F' H':Hp)(σ':St)(E':Ev):Bool->V->D->Prop
 |false,v,d=>Rep K F' v d
 |true,v,d=>∃a,v=.ref a/\F' a=AL/\OwnAt K F' H' a d/\(ow a\/H a=AL)/\∀(i:Nat) d',E'[i]?=AA (.own AK d')->σ'[i]?≠AA (AA (.ref a))
def FlOk(K:AD)(H₀:Hp)(τ:AT)(ow:AT->Prop)(F H:Hp)(D:Ends):Fl->Prop
 |.nx E'=>∀σ' F' H',Stp ow F H F' H' (EC σ' E')->Sim K H₀ τ F' H' σ' E'->D.nx σ' H'
 |.bk E'=>∀σ' F' H',Stp ow F H F' H' (EC σ' E')->Sim K H₀ τ F' H' σ' E'->D.bk σ' H'
 |.ct E'=>∀σ' F' H',Stp ow F H F' H' (EC σ' E')->Sim K H₀ τ F' H' σ' E'->D.ct σ' H'
 |.rt b d E'=>∀σ' v F' H',Stp ow F H F' H' (EC σ' E')->Sim K H₀ τ F' H' σ' E'->RetR K ow H F' H' σ' E' b v d->D.rt v H'
def tS(K:AD)(H₀:Hp)(g:GS):TS:=λD σ H=>∃τ F E r,Sim K H₀ τ F H σ E/\g E=.ok r/\FlOk K H₀ τ (EC σ E) F H D r
abbrev VS(X:Cx)(st:FF)(g:GS):Prop:=PS X st (tS X.K X.H₀ g)
abbrev dH(X:Cx)(st:List FF)(g:GS):Prop:=PSs X st (tS X.K X.H₀ g)
variable{g':GS}
section
variable{K:AD}{ow:AT->Prop}{st:FF}{rest:List FF}{g:GS}{ge:G}
theorem RetR.pre{b:Bool}{d:D}(s:Stp ow F H F1 H1 aI)(h:RetR K aI H1 F' H' σ' E' b v d):RetR K ow H F' H' σ' E' b v d:=by
 cases b with
 |false=>exact h
 |true =>
  obtain⟨a,h1,h2,h3,h4,h5⟩:=h;exact{a,h1,h2,h3,h4.elim (s.own a) λz=>.inr (s.dom a z),h5}
theorem FlOk.pre{r:Fl}(s:Stp ow F H F1 H1 aI)(h:FlOk K H₀ τ ow F H D' r):FlOk K H₀ τ aI F1 H1 D' r:=by
 cases r with
 |nx E'=>exact λσ' F' H' st S=>h σ' F' H' (s.trans st) S
 |bk E'=>exact λσ' F' H' st S=>h σ' F' H' (s.trans st) S
 |ct E'=>exact λσ' F' H' st S=>h σ' F' H' (s.trans st) S
 |rt b d E'=>exact λσ' v F' H' st S q=>h σ' v F' H' (s.trans st) S (q.pre s)
def NC:GS:=λE=>.ok (.nx E)
def FQ(g g':GS):GS:=λE=>(g E).bind λr=>match r with|.nx E1=>g' E1|r=>.ok r
theorem T4:dH X [] NC:=ZO.imp λD' σ H h=>by
 obtain⟨τ,F,E,r,S,hg,k⟩:=h;cases hg;exact k σ F H .refl S
theorem yDB(h:tS K H₀ (FQ g g') D' σ H):Aw (tS K H₀ g) (tS K H₀ g') D' σ H:=by
 obtain⟨τ,F,E,r,S,hg,k⟩:=h;obtain⟨r1,e1,hg⟩:=pA3 hg;refine{τ,F,E,r1,S,e1,?_}
 cases r1 with
 |nx E1=>exact λσ' F' H' st S'=>{τ,F',E1,r,S',hg,k.pre st}
 |bk E1=>cases hg;exact k
 |ct E1=>cases hg;exact k
 |rt b d E1=>cases hg;exact k
theorem HI(h1:VS X st g)(h2:dH X rest g'):dH X (st::rest) (FQ g g'):=(lH h1 h2).imp λ_ _ _ h=>yDB h
theorem JK(h:VS X st g):dH X [st] g:=zO h
def Aq:GS:=λ_=>.bad
theorem Ov:VS X st Aq:=dC.imp λD' σ H h=>by
 obtain⟨τ,F,E,r,S,hg,k⟩:=h;cases hg
def LM(t:Ev->Out (Bool×Ev))(g g':GS):GS:=λE=>(t E).bind λp=>if p.1=AK then g p.2 else g' p.2
theorem TU{a b:List FF}{t:Ev->Out (Bool×Ev)}(hc:VT X c t)(ha:dH X a g)(hb:dH X b g'):VS X (.If c a b pos) (LM t g g'):=(Xv hc ha hb).imp λD' σ H h=>by
 obtain⟨τ,F,E,r,S,hg,k⟩:=h;obtain⟨p,e1,hg⟩:=pA3 hg;refine{τ,F,E,p.1,p.2,S,e1,λF1 H1 s1 S1=>?_}
 by_cases hp:p.1=AK
 .rw[if_pos hp] at hg ⊢
  exact{τ,F1,p.2,r,S1,hg,k.pre s1}
 .rw[if_neg hp] at hg ⊢
  exact{τ,F1,p.2,r,S1,hg,k.pre s1}
def NA(g:G):GS:=λE=>(g E).bind λp=>.ok (.rt AC p.1 p.2)
theorem O6(h:VE X e ge):VS X (.Return (AA e) pos) (NA ge):=(yU h).imp λD' σ H q=>by
 obtain⟨τ,F,E,r,S,hg,k⟩:=q;obtain⟨p,e1,hg⟩:=pA3 hg;cases hg;exact{τ,F,E,p.1,p.2,S,e1,λv F1 H1 s1 S1 r1=>k σ v F1 H1 s1 S1 r1}
def yE(g:G):GS:=λE=>(g E).bind λp=>.ok (.rt AK p.1 p.2)
theorem Qq(h:FE X e ge):VS X (.Return (AA e) pos) (yE ge):=(yU h).imp λD' σ H q=>by
 obtain⟨τ,F,E,r,S,hg,k⟩:=q;obtain⟨p,e1,hg⟩:=pA3 hg;cases hg;exact{τ,F,E,p.1,p.2,S,e1,λa F1 H1 s1 S1 n1 n2 ow no=>k σ _ F1 H1 s1 S1 {a,rfl,n1,ow,.inr n2,λi d' z1 z2=>no {i,AK,d',z1,z2}}}
inductive Tg where
 |nm (i:Nat)|tp (ts:List Tg)
mutual
noncomputable def WQ:Tg->D->Ev->Out Ev
 |.nm i,d,E=>.ok (E.set i (.val d))
 |.tp ts,d,E=>match d with
  |.tup ds=>cO ts ds E
  |_=>.bad
noncomputable def cO:List Tg->List D->Ev->Out Ev
 |[],[],E=>.ok E
 |[],_::_,_=>.bad
 |_::_,[],_=>.bad
 |t::ts,d::ds,E=>(WQ t d E).bind λE1=>cO ts ds E1
end
mutual
noncomputable def Tg.ltn(n:Nat):Tg->Bool
 |.nm i=>decide (i<n)
 |.tp ts=>pAE n ts
noncomputable def pAE(n:Nat):List Tg->Bool
 |[]=>AK
 |t::ts=>t.ltn n&&pAE n ts
end
theorem Sim.put{E:Ev}{d:D}(S:Sim K H₀ τ F H σ E)(r:Rep K F v d):Sim K H₀ τ F H (σ.set i (AA v)) (E.set i (.val d))/\∀a,EC (σ.set i (AA v)) (E.set i (.val d)) a->EC σ E a:=by
 have HM:∀(j:Nat) t d',(E.set i (.val d))[j]?=AA (.own t d')->i≠j/\E[j]?=AA (.own t d'):=λj t d' q=>by
  by_cases hj:i=j
  .subst hj
   by_cases hi:i<E.length
   .rw[BE hi] at q;cases q
   .rw[OG (by rw[CC];lia)] at q;cases q
  .rw[A8 hj] at q;exact{hj,q}
 refine{{S.sub,by rw[CC,CC];exact S.len,λj d' q=>?_,λj t d' q=>?_,λj k t1 t2 d1 d2 b q1 q2 z1 z2=>?_},λa ⟨j,t,d',q1,q2⟩=>?_}
 .by_cases hj:i=j
  .subst hj
   have hi:i<E.length:=by
    have:=(AQ.mp q).1;rw[CC] at this;exact this
   rw[BE hi] at q;cases q;exact{v,by rw[BE (by rw[<-S.len];exact hi)],r}
  .rw[A8 hj] at q ⊢;exact S.val j d' q
 .obtain⟨hj,q⟩:=HM j t d' q
  rw[A8 hj];exact S.own j t d' q
 .obtain⟨hj,q1⟩:=HM j _ _ q1
  obtain⟨hk,q2⟩:=HM k _ _ q2;rw[A8 hj] at z1;rw[A8 hk] at z2;exact S.inj j k t1 t2 d1 d2 b q1 q2 z1 z2
 .obtain⟨hj,q1⟩:=HM j t d' q1
  rw[A8 hj] at q2;exact{j,t,d',q1,q2}
theorem Sim.putO{E:Ev}{d:D}(S:Sim K H₀ τ F H σ E)(h2:F a=AL)(h3:OwnAt K F H a d)(h4:∀o u,H₀ a≠AA (.frz o u))(no:¬EC σ E a) :
  Sim K H₀ τ F H (σ.set i (AA (.ref a))) (E.set i (.own AC d))/\∀b,EC (σ.set i (AA (.ref a))) (E.set i (.own AC d)) b->EC σ E b\/b=a:=by
 have HM:∀(j:Nat) t d',(E.set i (.own AC d))[j]?=AA (.own t d')->(i=j/\t=AC/\d'=d/\(σ.set i (AA (V.ref a)))[j]?=AA (AA (.ref a)))\/(i≠j/\E[j]?=AA (.own t d')/\(σ.set i (AA (V.ref a)))[j]?=σ[j]?):=λj t d' q=>by
  by_cases hj:i=j
  .subst hj
   have hi:i<E.length:=by
    have:=(AQ.mp q).1;rw[CC] at this;exact this
   rw[BE hi] at q;cases q;exact .inl {rfl,rfl,rfl,by rw[BE (by rw[<-S.len];exact hi)]}
  .rw[A8 hj] at q;exact .inr {hj,q,by rw[A8 hj]}
 refine{{S.sub,by rw[CC,CC];exact S.len,λj d' q=>?_,λj t d' q=>?_,λj k t1 t2 d1 d2 b q1 q2 z1 z2=>?_},λb ⟨j,t,d',q1,q2⟩=>?_}
 .by_cases hj:i=j
  .subst hj
   have hi:i<E.length:=by
    have:=(AQ.mp q).1;rw[CC] at this;exact this
   rw[BE hi] at q;cases q
  .rw[A8 hj] at q ⊢;exact S.val j d' q
 .rcases HM j t d' q with⟨rfl,rfl,rfl,z⟩|⟨hj,q,z⟩
  .exact{a,z,h2,h3,h4,nofun}
  .rw[z];exact S.own j t d' q
 .rcases HM j t1 d1 q1 with⟨e1,_,_,y1⟩|⟨hj,p1,y1⟩<;>rcases HM k t2 d2 q2 with⟨e2,_,_,y2⟩|⟨hk,p2,y2⟩
  .rw[<-e1,<-e2]
  .rw[y1] at z1;cases z1
   rw[y2] at z2;exact absurd {k,t2,d2,p2,z2} no
  .rw[y2] at z2;cases z2
   rw[y1] at z1;exact absurd {j,t1,d1,p1,z1} no
  .rw[y1] at z1;rw[y2] at z2
   exact S.inj j k t1 t2 d1 d2 b p1 p2 z1 z2
 .rcases HM j t d' q1 with⟨rfl,rfl,rfl,y1⟩|⟨hj,q1,y1⟩
  .rw[y1] at q2;cases q2;exact .inr rfl
  .rw[y1] at q2;exact .inl {j,t,d',q1,q2}
def tG(K:AD)(H₀:Hp)(t:Tg):TG:=λv σ H Q=>∃τ F E d E',Sim K H₀ τ F H σ E/\Rep K F v d/\WQ t d E=.ok E'/\∀σ',Sim K H₀ τ F H σ' E'->(∀a,EC σ' E' a->EC σ E a)->(∀n,t.ltn n=AK->∀j:Nat,n<=j->σ'[j]?=σ[j]?)->Q σ' H
def tGs(K:AD)(H₀:Hp)(ts:List Tg):jD:=λvs σ H Q=>∃τ F E ds E',Sim K H₀ τ F H σ E/\Reps K F vs ds/\cO ts ds E=.ok E'/\∀σ',Sim K H₀ τ F H σ' E'->(∀a,EC σ' E' a->EC σ E a)->(∀n,pAE n ts=AK->∀j:Nat,n<=j->σ'[j]?=σ[j]?)->Q σ' H
theorem PG.imp{t t':TG}(h:PG X tg t)(hi:∀v σ H Q,t' v σ H Q->t v σ H Q):PG X tg t':=λAG s σ H x u Q I r q=>h AG s σ H x u Q I r (hi _ _ _ _ q)
theorem PGs.imp{tg:List DA}{t t':jD}(h:PGs X tg t)(hi:∀v σ H Q,t' v σ H Q->t v σ H Q):PGs X tg t':=λAG s σ H x u Q I r q=>h AG s σ H x u Q I r (hi _ _ _ _ q)
abbrev VG(X:Cx)(tg:DA)(t:Tg):Prop:=PG X tg (tG X.K X.H₀ t)
abbrev Bj(X:Cx)(tg:List DA)(t:List Tg):Prop:=PGs X tg (tGs X.K X.H₀ t)
theorem XX(hN:X.N.Nodup)(hi:X.N[i]?=AA x)(hx:Loc X.env.scope x)(hf:X.fn x=AK\/X.env.scope.names.lookup x=AA .local:=by first|exact .inl rfl|exact .inr rfl|assumption):VG X (.Name x pos) (.nm i):=(qS hN hi hx hf).imp λv σ H Q h=>by
 obtain⟨τ,F,E,d,E',S,r,hg,k⟩:=h;rw[WQ] at hg;cases hg;obtain⟨S1,h1⟩:=S.put (i:=i) r;refine k _ S1 h1 λn hn j hj=>?_;rw[Tg.ltn] at hn;have:i<n:=of_decide_eq_true hn;rw[A8 (BM (AN this hj))]
theorem Rep.sqT{ds:List D}(s:Sub F H)(r:Rep K F (.ref a) (.tup ds)):∃vs,SqT K H a vs/\Reps K F vs ds:=by
 cases r with
 |tup h r=>exact{_,.inl (.inl (s _ _ h)),r}
 |@tupK _ xs h n =>
  rcases h with h|h
  .rcases h with h|⟨o,h⟩<;>cases h
  .refine{_,.inr h,?_}
   induction xs with
   |nil=>exact .nil
   |cons x xs ih=>exact .cons (.str x) (by
     clear ih n h
     induction xs with
     |nil=>exact .nil
     |cons y ys ih=>exact .cons (.str y) ih)
theorem Rep.isRefT{ds:List D}(r:Rep K F v (.tup ds)):∃a,v=.ref a:=by (cases r)<;>exact{_,rfl}
theorem Rep.isRefL{ds:List D}(r:Rep K F v (.lst ds)):∃a vs,v=.ref a/\SqL K F a vs/\Reps K F vs ds:=by cases r with|lst h r=>exact{_,_,rfl,h,r}
theorem Sj:∀{ts:List Tg} {ds:List D} {E E':Ev},cO ts ds E=.ok E'->ts.length=ds.length
 |[],[],_,_,_=>rfl
 |[],_::_,_,_,h=>by rw[cO] at h;cases h
 |_::_,[],_,_,h=>by rw[cO] at h;cases h
 |t::ts,d::ds,E,E',h=>by
  rw[cO] at h;obtain⟨E1,_,h⟩:=pA3 h;rw[BD,BD,Sj h]
theorem qP:Bj X [] []:=VD.imp λv σ H Q h=>by
 obtain⟨τ,F,E,d,E',S,r,hg,k⟩:=h
 cases r with
 |nil=>rw[cO] at hg;cases hg;exact{rfl,k σ S (λ_ h=>h) λ_ _ _ _=>rfl}
 |cons _ _=>rw[cO] at hg;cases hg
theorem bO{t:Tg}{ts:List Tg}(h1:VG X e t)(h2:Bj X es ts)
  (hs:(HL (e::es) X.env).map (·.2)=LG e X.env::(HL es X.env).map (·.2):=by rfl):Bj X (e::es) (t::ts):=(t9 h1 h2 hs).imp λv σ H Q h=>by
 obtain⟨τ,F,E,ds,E',S,r,hg,k⟩:=h
 cases r with
 |nil=>rw[cO] at hg;cases hg
 |@cons v d vs ds r rs =>
  rw[cO] at hg;obtain⟨E1,e1,hg⟩:=pA3 hg
  exact{v,vs,rfl,τ,F,E,d,E1,S,r,e1,λσ1 S1 h1 b1=>{τ,F,E1,ds,E',S1,rs,hg,λσ2 S2 h2 b2=>k σ2 S2 (λa z=>h1 a (h2 a z)) λn hn j hj=>by
   rw[pAE,EB] at hn
   rw[b2 n hn.2 j hj,b1 n hn.1 j hj]}}
theorem qI{ts:List Tg}(hc:X.calm=AK)(h:Bj X es ts)
  (hn:(HL es X.env).length=ts.length:=by rfl) (gU:(HL es X.env).findIdx? (·.1)=AL:=by rfl):VG X (.Tuple es k pos) (.tp ts):=(Dr hc h hn gU).imp λv σ H Q h=>by
 obtain⟨τ,F,E,d,E',S,r,hg,k⟩:=h
 cases d with
 |tup ds =>
  obtain⟨a,rfl⟩:=r.isRefT;obtain⟨vs,h1,h2⟩:=r.sqT S.sub;rw[WQ] at hg;exact{a,vs,rfl,h1,by rw[h2.length,<-Sj hg],τ,F,E,ds,E',S,h2,hg,λσ' S' h' b'=>k σ' S' h' λn hn=>b' n (by rw[Tg.ltn] at hn;exact hn)}
 |_ =>
  have hg:(Out.bad:Out Ev)=.ok E':=hg;cases hg
def HZ(t:Tg)(g:G):GS:=λE=>(g E).bind λp=>(WQ t p.1 p.2).bind λE1=>.ok (.nx E1)
theorem yDC{t:Tg}(h:tS K H₀ (HZ t ge) D' σ H):mZ (tV K H₀ ge) (tG K H₀ t) D' σ H:=by
 obtain⟨τ,F,E,r,S,hg,k⟩:=h;obtain⟨p,e1,hg⟩:=pA3 hg;obtain⟨E1,e2,hg⟩:=pA3 hg;cases hg;exact{τ,F,E,p.1,p.2,S,e1,λv F1 H1 s1 S1 r1=>{τ,F1,p.2,p.1,E1,S1,r1,e2,λσ2 S2 h2 _=>k σ2 F1 H1 (s1.weak h2) S2}}
theorem yDD{t:Tg}(he:VE X e ge)(hg:VG X tg t)(hs:aS [tg] e pos.line X.env=pure AC:=by rfl)(hw:aT [tg] e X.env=pure AL:=by rfl)
  (h1:(HL [tg] X.env).map (·.2)=[LG tg X.env]:=by rfl):VS X (.Assign [tg] e pos) (HZ t ge):=(Dq he hg hs hw h1).imp λ_ _ _ h=>yDC h
theorem OD(hN:X.N.Nodup)(hi:X.N[i]?=AA x)(hx:Loc X.env.scope x)(he:VE X e ge)(hs:HS e (AA (.Name x NI)) pos.line X.env=pure AC:=by rfl)(hf:X.fn x=AK\/X.env.scope.names.lookup x=AA .local:=by first|exact .inl rfl|exact .inr rfl|assumption) :
  VS X (.Assign [.Name x NI] e pos) (HZ (.nm i) ge):=(yT hN hi hx he hs hf).imp λD' σ H h=>by
 obtain⟨τ,F,E,r,S,hg,k⟩:=h;obtain⟨p,e1,hg⟩:=pA3 hg;obtain⟨E1,e2,hg⟩:=pA3 hg;cases hg;rw[WQ] at e2;cases e2;refine{τ,F,E,p.1,p.2,S,e1,λv F1 H1 s1 S1 r1=>?_};obtain⟨S2,h2⟩:=S1.put (i:=i) r1;exact k _ F1 H1 (s1.weak h2) S2
def SF(i:Nat)(g:G):GS:=λE=>(g E).bind λp=>.ok (.nx (p.2.set i (.own AC p.1)))
theorem zVJ(I:Inv X AG σ H s)(h:H a=AL):∀o u,X.H₀ a≠AA (.frz o u):=λo u e=>by
 rw[I.base.frzs a o u e] at h;cases h
theorem Ou(I:Inv X AG σ H s)(h:tS X.K X.H₀ (SF i ge) D' σ H):mZ (tF X.K X.H₀ ge) (k6 i) D' σ H:=by
 obtain⟨τ,F,E,r,S,hg,k⟩:=h;obtain⟨p,e1,hg⟩:=pA3 hg;cases hg;refine{τ,F,E,p.1,p.2,S,e1,λa F1 H1 s1 S1 n1 n0 ow no=>?_};obtain⟨S2,h2⟩:=S1.putO (i:=i) n1 ow (zVJ I n0) no;refine k _ F1 H1 {s1.keep,s1.dom,s1.le,s1.new,λb z=>?_} S2;rcases h2 b z with z|rfl
 .exact s1.own b z
 .exact .inr n0
theorem bN(hN:X.N.Nodup)(hi:X.N[i]?=AA x)(hx:Loc X.env.scope x)(he:FE X e ge)(hs:HS e (AA (.Name x NI)) pos.line X.env=pure AC:=by rfl)(hf:X.fn x=AK\/X.env.scope.names.lookup x=AA .local:=by first|exact .inl rfl|exact .inr rfl|assumption) :
  VS X (.Assign [.Name x NI] e pos) (SF i ge):=λAG s σ H D' I h=>yT hN hi hx he hs hf AG s σ H D' I (Ou I h)
def bH(g:G):GS:=λE=>(g E).bind λp=>.ok (.nx p.2)
theorem tU(he:VE X e ge)(hs:HS e AL pos.line X.env=pure AC:=by rfl):VS X (.Expr e pos) (bH ge):=(Re he hs).imp λD' σ H h=>by
 obtain⟨τ,F,E,r,S,hg,k⟩:=h;obtain⟨p,e1,hg⟩:=pA3 hg;cases hg;exact{τ,F,E,p.1,p.2,S,e1,λv F1 H1 s1 S1 r1=>k σ F1 H1 s1 S1}
def YG(t:Ev->Out (Bool×Ev))(g:GS):Nat->GS
 |0,_=>.bad
 |n+1,E=>(t E).bind λp=>if p.1=AK then(g p.2).bind λr=>match r with
   |.nx E1=>YG t g n E1
   |.ct E1=>YG t g n E1
   |.bk E1=>.ok (.nx E1)
   |.rt b d E1=>.ok (.rt b d E1)
  else .ok (.nx p.2)
theorem Fs{t:Ev->Out (Bool×Ev)}(n:Nat)(hp:WC (A4 X.prog X.w) X.A X.env X.xe)(hc:VT X c t)(hb:dH X body g):VS X (.While c body [] pos) (YG t g n):=(zUP hp hc hb).imp λD' σ H h=>by
 obtain⟨τ,F,E,r,S,hg,k⟩:=h;refine{λm σ1 H1=>∃F1 E1,Sim X.K X.H₀ τ F1 H1 σ1 E1/\Stp (EC σ E) F H F1 H1 (EC σ1 E1)/\YG t g m E1=.ok r,{n,F,E,S,.refl,hg},?_};rintro m σ1 H1 ⟨F1,E1,S1,s1,h1⟩
 cases m with
 |zero=>rw[YG] at h1;cases h1
 |succ m =>
  rw[YG] at h1;obtain⟨p,e1,h1⟩:=pA3 h1;refine{τ,F1,E1,p.1,p.2,S1,e1,λF2 H2 s2 S2=>?_};have bR:=s1.trans s2;dsimp only
  by_cases hp:p.1=AK
  .rw[if_pos hp] at h1 ⊢
   obtain⟨q,e2,h1⟩:=pA3 h1;refine{λσ3 H3=>∃F3 E3,Sim X.K X.H₀ τ F3 H3 σ3 E3/\Stp (EC σ E) F H F3 H3 (EC σ3 E3)/\YG t g m E3=.ok r,λσ3 H3 ⟨F3,E3,a1,a2,a3⟩=>{m,DW m,F3,E3,a1,a2,a3},τ,F2,p.2,q,S2,e2,?_}
   cases q with
   |nx E3=>exact λσ3 F3 H3 s3 S3=>{F3,E3,S3,bR.trans s3,h1}
   |ct E3=>exact λσ3 F3 H3 s3 S3=>{F3,E3,S3,bR.trans s3,h1}
   |bk E3=>cases h1;exact λσ3 F3 H3 s3 S3=>k σ3 F3 H3 (bR.trans s3) S3
   |rt b d E3=>cases h1;exact λσ3 v F3 H3 s3 S3 q=>k σ3 v F3 H3 (bR.trans s3) S3 (q.pre bR)
  .rw[if_neg hp] at h1 ⊢
   cases h1;exact k σ1 F2 H2 bR S2
end
def Walks(K:AD)(J:It)(F:Hp)(ds:List D):Prop:=∀(i:Nat) F1 H1,Le F F1->Sub F1 H1->(i<ds.length->J.go i H1)/\(i=ds.length->J.stop i H1)/\∀x H' d,ds[i]?=AA d->J.yld i H1 x H'->∃F',New F1 H1 F' H'/\Rep K F' x d
abbrev GI:=Ev->Out (List D×Ev)
def tI(K:AD)(H₀:Hp)(g:GI):TI:=λσ H R=>∃τ F E ds E',Sim K H₀ τ F H σ E/\g E=.ok (ds,E') /\
 ∀J F' H',Stp (EC σ E) F H F' H' (EC σ E')->Sim K H₀ τ F' H' σ E'->Walks K J F' ds->R J H'
theorem PI.imp{t t':TI}(h:PI X tg e t)(hi:∀σ H Q,t' σ H Q->t σ H Q):PI X tg e t':=λAG s σ H Q I q=>h AG s σ H Q I (hi σ H Q q)
abbrev VI(X:Cx)(tg e:DA)(g:GI):Prop:=PI X tg e (tI X.K X.H₀ g)
variable{gi:GI}
section
variable{K:AD}{ow:AT->Prop}{st:FF}{rest:List FF}{g:GS}{ge:G}
def Yk(g:G):GI:=λE=>(g E).bind λp=>match p.1 with|.lst ds=>.ok (ds,p.2)|_=>.bad
def Yj(g:G):GI:=λE=>(g E).bind λp=>match p.1 with|.tup ds=>.ok (ds,p.2)|_=>.bad
theorem Ur{ds:List D}(h:SqL K F a vs)(r:Reps K F vs ds):Walks K (sB K a) F ds:=λi F1 H1 l s=>by
 have sq:SqL K H1 a vs:=h.imp (λh=>s.rd (l.rd h)) id;refine{λhi=>?_,λhi=>{vs,sq,by rw[r.length,hi];exact AM _},λx H' d e ⟨e1,y⟩=>?_}
 .have hv:i<vs.length:=by rw[r.length];exact hi
  exact{vs,vs[i],sq,by simp[hv]}
 .subst e1
  obtain⟨v,h1,h2⟩:=r.get e;rw[y vs sq] at h1;cases h1;exact{F1,.refl s,h2.le l}
theorem Rep.tupSq{ds:List D}(r:Rep K F v (.tup ds)):∃a vs,v=.ref a/\Reps K F vs ds/\∀F1 H1,Le F F1->Sub F1 H1->SqT K H1 a vs:=by
 cases r with
 |tup h r=>exact{_,_,rfl,r,λF1 H1 l s=>.inl (.inl (s _ _ (l.tup h)))}
 |@tupK a xs h n =>
  obtain⟨vs,h1,h2⟩:=Rep.sqT (F:=F) (H:=F) (λ_ _ e=>e) (.tupK h n);refine{a,vs,rfl,h2,λF1 H1 _ _=>?_};rcases h with h|h
  .rcases h with h|⟨o,h⟩<;>cases h
  .have:vs=xs.map V.str:=pA5 h2
   subst this;exact .inr h
theorem zSK{ds:List D}(sq:∀F1 H1,Le F F1->Sub F1 H1->SqT K H1 a vs)(r:Reps K F vs ds):Walks K (rZ K a) F ds:=λi F1 H1 l s=>by
 have sq:=sq F1 H1 l s;refine{λhi=>?_,λhi=>{vs,sq,by rw[r.length,hi];exact AM _},λx H' d e ⟨e1,y⟩=>?_}
 .have hv:i<vs.length:=by rw[r.length];exact hi
  exact{vs,vs[i],sq,by simp[hv]}
 .subst e1
  obtain⟨v,h1,h2⟩:=r.get e;rw[y vs sq] at h1;cases h1;exact{F1,.refl s,h2.le l}
theorem zZE(h:VE X e ge):VI X tg e (Yk ge):=(Rb h).imp λσ H Q h=>by
 obtain⟨τ,F,E,ds,E',S,hg,k⟩:=h;obtain⟨p,e1,hg⟩:=pA3 hg;refine{τ,F,E,p.1,p.2,S,e1,λv F1 H1 s1 S1 r1=>?_};split at hg
 .rename_i TX ed
  cases hg;rw[ed] at r1;obtain⟨a,vs,rfl,h1,h2⟩:=r1.isRefL;exact{a,rfl,{vs,h1.imp S1.sub.rd id},k _ F1 H1 s1 S1 (Ur h1 h2)}
 .cases hg
theorem yDE(h:VE X e ge):VI X tg e (Yj ge):=(Pf h).imp λσ H Q h=>by
 obtain⟨τ,F,E,ds,E',S,hg,k⟩:=h;obtain⟨p,e1,hg⟩:=pA3 hg;refine{τ,F,E,p.1,p.2,S,e1,λv F1 H1 s1 S1 r1=>?_};split at hg
 .rename_i TX ed
  cases hg;rw[ed] at r1;obtain⟨a,vs,rfl,h1,h2⟩:=r1.tupSq;exact{a,rfl,{vs,h2 F1 H1 (.refl _) S1.sub},k _ F1 H1 s1 S1 (zSK h2 h1)}
 .cases hg
def QE:List G->Ev->Out (List D×Ev)
 |[],E=>.ok ([],E)
 |g::gs,E=>(g E).bind λp=>(QE gs p.2).bind λq=>.ok (p.1::q.1,q.2)
def i6(K:AD)(H₀:Hp)(gs:List G):TA:=λσ H Q=>∃τ F E ds E',Sim K H₀ τ F H σ E/\QE gs E=.ok (ds,E') /\
 ∀vs F' H',Stp (EC σ E) F H F' H' (EC σ E')->Sim K H₀ τ F' H' σ E'->Reps K F' vs ds->Q vs H'
theorem PA.imp{t t':TA}(h:PA X es t)(hi:∀σ H Q,t' σ H Q->t σ H Q):PA X es t':=λp AG s σ H Q I q=>h p AG s σ H Q I (hi σ H Q q)
abbrev VA(X:Cx)(es:List DA)(gs:List G):Prop:=PA X es (i6 X.K X.H₀ gs)
theorem EM:VA X [] []:=JB.imp λσ H Q h=>by
 obtain⟨τ,F,E,ds,E',S,hg,k⟩:=h;cases hg;exact k [] F H .refl S .nil
theorem zZF{gs:List G}{Q:List V->Hp->Prop}(h:i6 K H₀ (ge::gs) σ H Q):Cy (tV K H₀ ge) (i6 K H₀ gs) σ H Q:=by
 obtain⟨τ,F,E,ds,E',S,hg,k⟩:=h;rw[QE] at hg;obtain⟨p,e1,hg⟩:=pA3 hg;obtain⟨q,e2,hg⟩:=pA3 hg;cases hg;exact{τ,F,E,p.1,p.2,S,e1,λv F1 H1 s1 S1 r1=>{τ,F1,p.2,q.1,q.2,S1,e2,λvs F2 H2 s2 S2 r2=>k (v::vs) F2 H2 (s1.trans s2) S2 (.cons (r1.le s2.le) r2)}}
theorem DJ{gs:List G}(ha:VE X e ge)(hr:VA X es gs)(hs:AO (e::es) X.env=(AC,eval e X.env)::AO es X.env:=by rfl):VA X (e::es) (ge::gs):=(VC ha hr hs).imp λ_ _ _ h=>zZF h
theorem cU(h:n<10000):n<sizeLine:=AN h 'd'
def few(n:Nat)(x:Out α):Out α:=if n<10000 then x else .bad
theorem W4{x:Out α}{a:α}(h:few n x=.ok a):n<10000/\x=.ok a:=by
 unfold few at h;split at h
 .exact{by assumption,h}
 .cases h
def MG(gs:List G):G:=λE=>(QE gs E).bind λp=>few p.1.length (.ok (.tup p.1,p.2))
def JF(gs:List G):G:=λE=>(QE gs E).bind λp=>few p.1.length (.ok (.lst p.1,p.2))
theorem WJ{gs:List G}{x1}(h:VA X es gs):VE X (.Tuple es x1 pos) (MG gs):=(yCK h).imp λσ H Q h=>by
 obtain⟨τ,F,E,ds,E',S,hg,k⟩:=h;obtain⟨p,e1,hg⟩:=pA3 hg;obtain⟨hl,hg⟩:=W4 hg;cases hg;refine{τ,F,E,p.1,p.2,S,e1,λvs F1 H1 s1 S1 r1=>{by rw[r1.length];exact CV (cU hl),λq hq=>?_}};have n:=New.laid (o:=.tup vs) S1.sub hq;exact k _ _ _ (s1.trans n.stp) (S1.new n) (.tup HJ (r1.le n.1.le))
theorem TR{gs:List G}(h:VA X es gs):FE X (.List es pos) (JF gs):=(qH h).imp λσ H Q h=>by
 obtain⟨τ,F,E,ds,E',S,hg,k⟩:=h;obtain⟨p,e1,hg⟩:=pA3 hg;obtain⟨hl,hg⟩:=W4 hg;cases hg;refine{τ,F,E,p.1,p.2,S,e1,λvs F1 H1 s1 S1 r1=>{by rw[r1.length];exact CV (cU hl),λq hq=>?_}};have n:=pA6 (H':=D3 H1 q (.lst vs)) S1.sub (Gr.new hq)
 have fq:F1 q=AL:=by
  cases z:F1 q with
  |none=>rfl
  |some o=>rw[S1.sub q o z] at hq;cases hq
 exact k q _ _ (s1.trans n.stp) (S1.new n) fq (s1.dom q hq) {vs,HJ,r1} (S1.fresh hq)
def TQ(t:Tg)(g:GS):List D->GS
 |[],E=>.ok (.nx E)
 |d::ds,E=>(WQ t d E).bind λE1=>(g E1).bind λr=>match r with
  |.nx E2=>TQ t g ds E2
  |.ct E2=>TQ t g ds E2
  |.bk E2=>.ok (.nx E2)
  |.rt b d E2=>.ok (.rt b d E2)
def P4(gi:GI)(t:Tg)(g:GS):GS:=λE=>(gi E).bind λp=>TQ t g p.1 p.2
theorem cT{iter:DA}{t:Tg}(hp:WC (A4 X.prog X.w) X.A X.env X.xe)(hc:X.calm=AK)(hi:VI X tg iter gi)(hg:VG X tg t)(hb:dH X body g)
  (hs:∀x,CM iter X.env x=pure x:=by intro _;rfl):VS X (.For tg iter body [] pos) (P4 gi t g):=(Dp hp hc hi hg hb hs).imp λD' σ H h=>by
 obtain⟨τ,F,E,r,S,hg,k⟩:=h;obtain⟨p,e1,hg⟩:=pA3 hg;refine{τ,F,E,p.1,p.2,S,e1,λJ F1 H1 s1 S1 w1=>?_};refine{λi m σ2 H2=>m=p.1.length-i/\i<=p.1.length/\∃F2 E2,Sim X.K X.H₀ τ F2 H2 σ2 E2/\Stp (EC σ E) F H F2 H2 (EC σ2 E2)/\Le F1 F2/\TQ t g (p.1.drop i) E2=.ok r,{_,rfl,BP _,F1,p.2,S1,s1,.refl _,by rw[L8];exact hg},?_};rintro i m σ2 H2 ⟨rfl,Ce,F2,E2,S2,s2,l2,h2⟩;obtain⟨w2,w3,w4⟩:=w1 i F2 H2 l2 S2.sub
 by_cases hi:i<p.1.length
 .obtain⟨d,hd⟩:∃d,p.1[i]?=AA d:={p.1[i],by simp[hi]}
  have xC:p.1.drop i=d::p.1.drop (i+1):=by
   rw[EQ hi];have:p.1[i]=d:=by rw[BL hi] at hd;exact BJ hd
   rw[this]
  rw[xC,TQ] at h2;obtain⟨E3,e3,h2⟩:=pA3 h2;obtain⟨q,e4,h2⟩:=pA3 h2;refine .inr {w2 hi,λσ5 H5=>∃F5 E5,Sim X.K X.H₀ τ F5 H5 σ5 E5/\Stp (EC σ E) F H F5 H5 (EC σ5 E5)/\Le F1 F5/\TQ t g (p.1.drop (i+1)) E5=.ok r,λσ5 H5 ⟨F5,E5,a1,a2,a3,a4⟩=>{_,by omega,rfl,hi,F5,E5,a1,a2,a3,a4},λx H' y=>?_};obtain⟨F3,n3,r3⟩:=w4 x H' d hd y;refine{τ,F3,E2,d,E3,S2.new n3,r3,e3,λσ4 S4 h4 _=>{τ,F3,E3,q,S4,e4,?_}};have s4:Stp (EC σ E) F H F3 H' (EC σ4 E3):=(s2.trans n3.stp).weak h4;have l3:Le F1 F3:=l2.trans n3.1.le
  cases q with
  |nx E5=>exact λσ5 F5 H5 s5 S5=>{F5,E5,S5,s4.trans s5,l3.trans s5.le,h2}
  |ct E5=>exact λσ5 F5 H5 s5 S5=>{F5,E5,S5,s4.trans s5,l3.trans s5.le,h2}
  |bk E5=>cases h2;exact λσ5 F5 H5 s5 S5=>k σ5 F5 H5 (s4.trans s5) S5
  |rt b d E5=>cases h2;exact λσ5 v F5 H5 s5 S5 q=>k σ5 v F5 H5 (s4.trans s5) S5 (q.pre s4)
 .have hi:i=p.1.length:=by omega
  rw[HP 'o',TQ] at h2;cases h2;exact .inl {w3 hi,k σ2 F2 H2 s2 S2}
end
abbrev Mr:=List Sl->Out (Bool×D×D)
noncomputable def iO(sl:Ev)(d:D):Ev:=match sl with
 |.own t _::r=>.own t d::r
 |sl=>sl
noncomputable def fin(sl:Ev)(E':Ev)(b:Bool)(d:D):Out (Bool×D×D):=match sl with
 |.own _ _::_=>match E' with
  |.own AK d'::_=>.ok (b,d,d')
  |_=>.bad
 |_=>.ok (b,d,.non)
def QC(n:Nat)(gb:GS):Mr:=λsl=>(gb (sl++BH (n-sl.length) .no)).bind λr=>match r with
 |.rt b d E'=>fin sl E' b d
 |.nx E'=>fin sl E' AC .non
 |_=>.bad
def Iy(sl:Ev):Prop:=∀(i:Nat) t d,sl[i]?=AA (.own t d)->i=0/\t=AK
def yIT(K:AD)(H F' H':Hp)(ow:AT->Prop):Bool->V->D->Prop
 |false,v,d=>Rep K F' v d
 |true,v,d=>∃a,v=.ref a/\F' a=AL/\OwnAt K F' H' a d/\H a=AL/\¬ow a
def NQ(K:AD)(np:Nat)(m:Mr):Sp:=λvs H Q _=>vs.length=np/\∃τ F sl b d d',Sim K H τ F H (vs.map AA) sl/\Iy sl/\m sl=.ok (b,d,d') /\
 ∀v F' H',Stp (EC (vs.map AA) sl) F H F' H' (EC (vs.map AA) (iO sl d'))->Sim K H τ F' H' (vs.map AA) (iO sl d')->yIT K H F' H' (EC (vs.map AA) (iO sl d')) b v d->Q v H'
theorem yDF{sl:Ev}{b b':Bool}{d d0 d':D}(h:fin sl E' b d=.ok (b',d0,d')):b'=b/\d0=d/\∀t x r,sl=.own t x::r->∃r',E'=.own AK d'::r':=by
 unfold fin at h;split at h
 .split at h
  .cases h
   exact{rfl,rfl,λ_ _ _ _=>{_,rfl}}
  .cases h
 .rename_i hn
  cases h;refine{rfl,rfl,λt x r e=>?_};exact absurd e (by intro z;exact hn t x r z)
section
variable{K:AD}
theorem Fun.okC{st:FF}{ps:List C2}(F:Fun K x qual st f fd)(S:FnScope N ps (J4 st))(len:∀vs H Q E,sp vs H Q E->vs.length=ps.length)
  (LC:∀(G3:AJ) (A:DU) (outer:List XT) (s:AS) (H:Hp) (vs:List V) (Q:VK) (E:XK),G3=fd.code->Room k (A.deeper (G7 qual (J4 st) s.heap.objs.size f G3))->sp vs H Q E ->
   ∃t,PSs (TN LP P w K mg base N qual (J4 st) f G3 A outer s H E).nox (W5 st) t/\t { nx:=λ_ H'=>Q .non H',rt:=Q } (start N vs) H):FnOk P w K mg base LP (k+1) f fd ps sp:=by
 obtain⟨oc,od,kV,SW,pm,an,G3,ct,aJ,rfl,lk,MM⟩:=F.ex;refine Cw lk MM S len λA outer s H vs Q E hr bV=>?_;obtain⟨t,h,q⟩:=LC G3 A outer s H vs Q E rfl hr bV;exact{t,h.nox,q}
theorem Xm{st:FF}{ps:List C2}{gb:GS}(Fn:Fun K x qual st f fd)(S:FnScope N ps (J4 st))
  (LC:∀(G3:AJ) (A:DU) (outer:List XT) (s:AS) (H:Hp) (E:XK),G3=fd.code->Room k (A.deeper (G7 qual (J4 st) s.heap.objs.size f G3)) ->
   dH (TN LP P w K mg base N qual (J4 st) f G3 A outer s H E).nox (W5 st) gb):FnOk P w K mg base LP (k+1) f fd ps (NQ K ps.length (QC N.length gb)):=by
 refine Fn.okC S (λvs H Q E h=>h.1) λG3 A outer s H vs Q E Cg hr h=>{_,LC G3 A outer s H E Cg hr,?_};obtain⟨hl,τ,F,sl,b,d,d',Sm,sh,hm,k⟩:=h;unfold QC at hm;obtain⟨r,e1,hm⟩:=pA3 hm;have lsl:sl.length=vs.length:=by rw[Sm.len,AI]
 have jM:∀(i:Nat) t d,(sl++BH (N.length-sl.length) Sl.no)[i]?=AA (.own t d)->sl[i]?=AA (.own t d):=λi t d q=>by
  by_cases hi:i<sl.length
  .rw[CF hi] at q;exact q
  .rw[B0 (E8 hi),D5] at q
   split at q<;>cases q
 have Jn:∀(i:Nat) d,(sl++BH (N.length-sl.length) Sl.no)[i]?=AA (.val d)->sl[i]?=AA (.val d):=λi d q=>by
  by_cases hi:i<sl.length
  .rw[CF hi] at q;exact q
  .rw[B0 (E8 hi),D5] at q
   split at q<;>cases q
 have sD:∀(i:Nat),i<sl.length->(start N vs)[i]?=(vs.map AA)[i]?:=λi hi=>by
  unfold start;rw[CF (by rw[AI];omega)]
 have Sm0:Sim K H τ F H (start N vs) (sl++BH (N.length-sl.length) .no):=by
  refine{Sm.sub,?_,λi d q=>?_,λi t d q=>?_,λi j t u d d2 a q1 q2 z1 z2=>?_}
  .unfold start
   rw[BO,BO,C5,C5,AI,lsl]
  .have q:=Jn i d q
   rw[sD i (AQ.mp q).1];exact Sm.val i d q
  .have q:=jM i t d q
   rw[sD i (AQ.mp q).1];exact Sm.own i t d q
  .have q1:=jM i _ _ q1
   have q2:=jM j _ _ q2;rw[sD i (AQ.mp q1).1] at z1;rw[sD j (AQ.mp q2).1] at z2;exact Sm.inj i j t u d d2 a q1 q2 z1 z2
 have Kc:∀a,EC (start N vs) (sl++BH (N.length-sl.length) .no) a↔EC (vs.map AA) sl a:=λa=>by
  constructor
  .rintro⟨i,t,d,q1,q2⟩
   have q:=jM i t d q1;rw[sD i (AQ.mp q).1] at q2;exact{i,t,d,q,q2}
  .rintro⟨i,t,d,q1,q2⟩
   have hi:=(AQ.mp q1).1;exact{i,t,d,by rw[CF hi];exact q1,by rw[sD i hi];exact q2}
 -- the end,from what the body ends with
 have dL:∀{E':Ev} {b0:Bool} {d0:D},fin sl E' b0 d0=.ok (b,d,d')->∀σ' v F' H',Stp (EC (start N vs) (sl++BH (N.length-sl.length) .no)) F H F' H' (EC σ' E')->Sim K H τ F' H' σ' E' ->
   RetR K (EC (start N vs) (sl++BH (N.length-sl.length) .no)) H F' H' σ' E' b0 v d0->Q v H':=by
  intro E' b0 d0 hf σ' v F' H' s1 S1 rr;obtain⟨rfl,rfl,h3⟩:=yDF hf
  have p0:∀(i:Nat) t x,(iO sl d')[i]?=AA (.own t x)->i=0/\t=AK/\x=d'/\∃x0 r,sl=.own AK x0::r:=λi t x q=>by
   cases sl with
   |nil=>simp[iO] at q
   |cons y r =>
    have EE:(∀t0 x0,y≠.own t0 x0)->(y::r)[i]?=AA (.own t x)->False:=λhn q=>by
     obtain⟨h0,ht⟩:=sh i t x q;subst h0;simp at q;exact hn _ _ q
    cases y with
    |no=>exact(EE (λ_ _ z=>Sl.noConfusion z) q).elim
    |val _=>exact(EE (λ_ _ z=>Sl.noConfusion z) q).elim
    |own t0 x0 =>
     cases i with
     |zero =>
      obtain⟨_,ht⟩:=sh 0 t0 x0 rfl;subst ht;have q:AA (Sl.own AK d')=AA (.own t x):=q;cases q;exact{rfl,rfl,rfl,x0,r,rfl}
     |succ i =>
      have:=(sh (i+1) t x q).1;omega
  have pv:∀(i:Nat) x,(iO sl d')[i]?=AA (.val x)->sl[i]?=AA (.val x):=λi x q=>by
   unfold iO at q;split at q
   .cases i with
    |zero=>simp at q
    |succ i=>simpa using q
   .exact q
  have vT:∀x0 r,sl=.own AK x0::r->∃a,(vs.map AA)[0]?=AA (AA (.ref a))/\τ=a/\σ'[0]?=AA (AA (.ref a))/\F' a=AL/\OwnAt K F' H' a d'/\(∀o u,H a≠AA (.frz o u))/\E'[0]?=AA (.own AK d'):=λx0 r e=>by
   obtain⟨r',e'⟩:=h3 AK x0 r e;have q0:E'[0]?=AA (.own AK d'):=by rw[e'];rfl
   obtain⟨a,a1,a2,a3,a4,a5⟩:=S1.own 0 AK d' q0;obtain⟨c,c1,c2,c3,c4,c5⟩:=Sm.own 0 AK x0 (by rw[e];rfl);have:a=c:=by rw[<-a5 rfl,<-c5 rfl]
   subst this;exact{a,c1,c5 rfl,a1,a2,a3,a4,q0}
  refine k v F' H' {λa o e hw n ho=>s1.keep a o e hw n λz=>ho ((Kc a).mp z),s1.dom,s1.le,λa o e=>(s1.new a o e).imp_right λz=>z.imp_right (Kc a).mp,λa ⟨i,t,x,q1,q2⟩=>?_}
   {S1.sub,?_,λi x q=>?_,λi t x q=>?_,λi j t u x y a q1 q2 _ _=>by rw[(p0 i t x q1).1,(p0 j u y q2).1]} ?_
  .obtain⟨rfl,rfl,rfl,x0,r,e⟩:=p0 i t x q1
   exact .inl {0,AK,x0,by rw[e];rfl,q2}
  .have:(iO sl d').length=sl.length:=by
    unfold iO;split<;>rfl
   rw[this];exact Sm.len
  .obtain⟨v,h1,h2⟩:=Sm.val i x (pv i x q)
   exact{v,h1,h2.le s1.le}
  .obtain⟨rfl,rfl,rfl,x0,r,e⟩:=p0 i t x q
   obtain⟨a,a1,a2,a3,a4,a5,a6,_⟩:=vT x0 r e;exact{a,a1,a4,a5,a6,λ_=>a2}
  .cases b with
   |false=>exact rr
   |true =>
    obtain⟨a,r1,r2,r3,r4,r5⟩:=rr
    have no:¬EC (vs.map AA) sl a:=by
     rintro⟨i,t,x,q1,q2⟩;obtain⟨rfl,rfl⟩:=sh i t x q1
     cases sl with
     |nil=>simp at q1
     |cons y r =>
      simp at q1;subst q1;obtain⟨c,c1,c2,c3,c4,c5,c6,c7⟩:=vT x r rfl;rw[q2] at c1;cases c1;exact r5 0 d' c7 c3
    refine{a,r1,r2,r3,r4.elim (λz=>absurd ((Kc a).mp z) no) id,?_};rintro⟨i,t,x,q1,q2⟩;obtain⟨rfl,rfl,rfl,x0,r,e⟩:=p0 i t x q1;exact no {0,AK,x0,by rw[e];rfl,q2}
 refine{τ,F,_,r,Sm0,e1,?_}
 cases r with
 |rt b0 d0 E'=>exact dL hm
 |nx E'=>exact λσ' F' H' s1 S1=>dL hm σ' .non F' H' s1 S1 .non
 |bk E'=>cases hm
 |ct E'=>cases hm
theorem T1{st:FF}{ps:List C2}{gb:GS}(Fn:Fun K x qual st f fd)(S:FnScope N ps (J4 st))
  (LC:∀(G3:AJ) (A:DU) (outer:List XT) (s:AS) (H:Hp) (E:XK),Room k (A.deeper (G7 qual (J4 st) s.heap.objs.size f G3)) ->
   dH (TN LP P w K mg base N qual (J4 st) f G3 A outer s H E).nox (W5 st) gb):FnOk P w K mg base LP (k+1) f fd ps (NQ K ps.length (QC N.length gb)) :=
 Xm Fn S λG3 A outer s H E _ hr=>LC G3 A outer s H E hr
end
section
variable{K:AD}{ge:G}{gs:List G}{m:Mr}
def K9(P:CU)(w:D8)(K:AD)(mg:C2->Option AJ)(base:D7)(x:C2)(k np:Nat)(m:Mr):Prop :=
 ∃(f:AT) (fd:JZ) (ps:List C2),FnOk P w K mg base LP k f fd ps (NQ K np m)/\mg x=AA (.ref f)/\FD K (.ref f)=AK/\Binds K fd ps []
theorem yD{ds:List D}(a:AT):¬EC σ (ds.map Sl.val) a:=λq0=>by
 obtain⟨i,t,d,e,_⟩:=q0;rw[AX] at e
 cases q:ds[i]? with
 |none=>rw[q] at e;cases e
 |some d'=>rw[q] at e;cases e
theorem Sim.args{ds:List D}(s:Sub F H)(r:Reps K F vs ds):Sim K H₀ τ F H (vs.map AA) (ds.map Sl.val):=by
 have no:∀(i:Nat) t d,(ds.map Sl.val)[i]?≠AA (.own t d):=λi t d e=>by
  rw[AX] at e
  cases q:ds[i]? with
  |none=>rw[q] at e;cases e
  |some d'=>rw[q] at e;cases e
 refine{s,by rw[AI,AI,r.length],λi d e=>?_,λi t d e=>absurd e (no i t d),λi j t u d d' a e=>absurd e (no i t d)};rw[AX] at e
 cases q:ds[i]? with
 |none=>rw[q] at e;cases e
 |some d' =>
  rw[q] at e;cases e;obtain⟨v,h1,h2⟩:=r.get q;exact{v,by rw[AX,h1];rfl,h2}
theorem Fh(ds:List D):Iy (ds.map Sl.val):=λi t d e=>by
 rw[AX] at e
 cases q:ds[i]? with
 |none=>rw[q] at e;cases e
 |some d'=>rw[q] at e;cases e
theorem New.share(n:New F1 H1 F2 H2)(h:H1 a=AL)(ho:H2 a=AA o)(hf:F2 a=AL):New F1 H1 (D3 F2 a o) H2:=by
 refine{{n.1.keep,n.1.dom,n.1.le.trans (.of_gr (Gr.new hf)),λb u e=>?_,λ_ z=>z.elim},λb u e=>?_}
 .by_cases hb:b=a
  .subst hb;exact .inr (.inl (.none h))
  .rw[FH hb] at e;exact n.1.new b u e
 .by_cases hb:b=a
  .subst hb;rw[HJ] at e;rw[ho];exact e
  .rw[FH hb] at e;exact n.2 b u e
def HB(m:Mr)(gs:List G):G:=λE=>(QE gs E).bind λp=>(m (p.1.map Sl.val)).bind λq=>.ok (q.2.1,p.2)
def qG(m:Mr)(gs:List G):G:=λE=>(QE gs E).bind λp=>(m (p.1.map Sl.val)).bind λq=>if q.1=AK then .ok (q.2.1,p.2) else .bad
theorem qY:∀{gs:List G} {E:Ev} {q:List D×Ev},QE gs E=.ok q->q.1.length=gs.length
 |[],_,_,h=>by rw[QE] at h;cases h;rfl
 |g::gs,E,q,h=>by
  rw[QE] at h;obtain⟨p,_,h⟩:=pA3 h;obtain⟨r,e2,h⟩:=pA3 h;cases h;rw[BD,BD,qY e2]
theorem zZG(hn:gs.length=np){Q:VK}(h:tV K H₀ (HB m gs) σ H Q):yK (NQ K np m) [] E0 (i6 K H₀ gs) σ H Q:=by
 obtain⟨τ,F,E,d,E',S,hg,k⟩:=h;obtain⟨p,e1,hg⟩:=pA3 hg;obtain⟨q,e2,hg⟩:=pA3 hg;cases hg;refine{τ,F,E,p.1,p.2,S,e1,λvs F1 H1 s1 S1 r1=>?_};dsimp only;rw[EL];refine{by rw[r1.length,qY e1,hn],0,F1,_,q.1,q.2.1,q.2.2,Sim.args S1.sub r1,Fh _,e2,λv F2 H2 s2 S2 rr=>?_};have n:New F1 H1 F2 H2:={(s2.toF λa=>yD a).weak λ_ z=>z.elim,S2.sub}
 cases hb:q.1 with
 |false =>
  rw[hb] at rr;exact k v F2 H2 (s1.trans n.stp) (S1.new n) rr
 |true =>
  rw[hb] at rr;obtain⟨a,rfl,h1,h2,h3,h4⟩:=rr;obtain⟨o,ho,_⟩:=h2.ho;have n':=n.share h3 ho h1;exact k _ _ H2 (s1.trans n'.stp) (S1.new n') (h2.rep h1 ho)
theorem zVM(hn:gs.length=np){Q:VK}(h:tF K H₀ (qG m gs) σ H Q):yK (NQ K np m) [] E0 (i6 K H₀ gs) σ H Q:=by
 obtain⟨τ,F,E,d,E',S,hg,k⟩:=h;obtain⟨p,e1,hg⟩:=pA3 hg;obtain⟨q,e2,hg⟩:=pA3 hg;split at hg
 .rename_i hb
  cases hg;refine{τ,F,E,p.1,p.2,S,e1,λvs F1 H1 s1 S1 r1=>?_};dsimp only;rw[EL];refine{by rw[r1.length,qY e1,hn],0,F1,_,q.1,q.2.1,q.2.2,Sim.args S1.sub r1,Fh _,e2,λv F2 H2 s2 S2 rr=>?_};have n:New F1 H1 F2 H2:={(s2.toF λa=>yD a).weak λ_ z=>z.elim,S2.sub};rw[hb] at rr;obtain⟨a,rfl,h1,h2,h3,h4⟩:=rr;exact k a F2 H2 (s1.trans n.stp) (S1.new n) h1 (s1.dom a h3) h2 (S1.fresh h3)
 .cases hg
theorem O5(C:K9 X.prog X.w X.K X.mg X.base x k np m)(hr:Room k X.A)(ha:VA X (e::es) gs)(hn:gs.length=np:=by rfl)(hg:Gl X x:=by rfl)(V1:(x==("__debug__":C2))=AC:=by decide)
  (he:AO (e::es) X.env=(AC,eval e X.env)::AO es X.env:=by rfl) (J5:(DT pos (AO es X.env)).any (·.1)=AC:=by rfl):VE X (.Call (.Name x p) (e::es) [] pos) (HB m gs):=by
 obtain⟨f,fd,ps,Fn,hm,hk,hb⟩:=C;exact(Er Fn hr hg hm hk hb .nil Cz ha V1 he J5).imp λ_ _ _ h=>zZG hn h
theorem yDH(C:K9 X.prog X.w X.K X.mg X.base x k np m)(hr:Room k X.A)(ha:VA X (e::es) gs)(hn:gs.length=np:=by rfl)(hg:Gl X x:=by rfl)(V1:(x==("__debug__":C2))=AC:=by decide)
  (he:AO (e::es) X.env=(AC,eval e X.env)::AO es X.env:=by rfl) (J5:(DT pos (AO es X.env)).any (·.1)=AC:=by rfl):FE X (.Call (.Name x p) (e::es) [] pos) (qG m gs):=by
 obtain⟨f,fd,ps,Fn,hm,hk,hb⟩:=C;exact(Er Fn hr hg hm hk hb .nil Cz ha V1 he J5).imp λ_ _ _ h=>zVM hn h
def HV(m:Mr)(i:Nat)(gs:List G):G:=λE=>match E[i]? with
 |some (.own _ _)=>(QE gs E).bind λp=>match p.2[i]? with
  |some (.own t d)=>(m (.own AK d::p.1.map Sl.val)).bind λq=>.ok (q.2.1,p.2.set i (.own t q.2.2))
  |_=>.bad
 |_=>.bad
theorem pAF{ds:List D}{d:D}(s:Sub F H)(r:Reps K F vs ds)(h1:F a=AL)(h2:OwnAt K F H a d):Sim K H a F H ((V.ref a::vs).map AA) (.own AK d::ds.map Sl.val):=by
 have S:=Sim.args (K:=K) (H₀:=H) (τ:=a) s r
 have no:∀(i:Nat) t d',(Sl.own AK d::ds.map Sl.val)[i]?=AA (.own t d')->i=0/\t=AK/\d'=d:=λi t d' e=>by
  cases i with
  |zero=>cases e;exact{rfl,rfl,rfl}
  |succ i =>
   have e:(ds.map Sl.val)[i]?=AA (.own t d'):=by simpa using e
   rw[AX] at e
   cases q:ds[i]? with
   |none=>rw[q] at e;cases e
   |some d'=>rw[q] at e;cases e
 refine{s,by rw[AI,BD,BD,AI,r.length],λi d' e=>?_,λi t d' e=>?_,λi j t u d1 d2 b e1 e2 _ _=>by rw[(no i _ _ e1).1,(no j _ _ e2).1]}
 .cases i with
  |zero=>cases e
  |succ i=>simpa using S.val i d' (by simpa using e)
 .obtain⟨rfl,rfl,rfl⟩:=no i t d' e
  obtain⟨o,ho,hw⟩:=h2.ho;exact{a,rfl,h1,h2,λob u z=>by rw[ho] at z;cases z;exact hw,λ_=>rfl}
theorem Vs{ds:List D}{d:D}:Iy (.own AK d::ds.map Sl.val):=λi t d' e=>by
 cases i with
 |zero=>cases e;exact{rfl,rfl}
 |succ i =>
  have e:(ds.map Sl.val)[i]?=AA (.own t d'):=by simpa using e
  exact absurd (Fh ds i t d' e) (by
   rw[AX] at e
   cases q:ds[i]? with
   |none=>rw[q] at e;cases e
   |some d'=>rw[q] at e;cases e)
theorem Bc{ds:List D}{b:AT}{d:D}(h:EC ((V.ref a::vs).map AA) (.own AK d::ds.map Sl.val) b):b=a:=by
 obtain⟨i,t,d',e1,e2⟩:=h;obtain⟨rfl,_⟩:=Vs i t d' e1;cases e2
 rfl
theorem zVN(hn:gs.length+1=np){Q:VK}(h:tV K H₀ (HV m i gs) σ H Q):yK (NQ K np m) [] E0 (Cy (uL i) (i6 K H₀ gs)) σ H Q:=by
 obtain⟨τ,F,E,d,E',S,hg,k⟩:=h;unfold HV at hg;split at hg
 .rename_i t0 d0 e0
  obtain⟨p,e1,hg⟩:=pA3 hg;split at hg
  .rename_i t d1 e3
   obtain⟨q,e2,hg⟩:=pA3 hg;cases hg;obtain⟨a,a1,_⟩:=S.own i _ _ e0;refine{_,a1,τ,F,E,p.1,p.2,S,e1,λvs F1 H1 s1 S1 r1=>?_};dsimp only;rw[EL];obtain⟨a',b1,b2,b3,b4,b5⟩:=S1.own i _ _ e3;rw[a1] at b1;cases b1;refine{by rw[BD,r1.length,qY e1,hn],a,F1,_,q.1,q.2.1,q.2.2,pAF S1.sub r1 b2 b3,Vs,e2,λv F2 H2 s2 S2 rr=>?_};have s2:Stp (EC ((V.ref a::vs).map AA) (.own AK d1::p.1.map Sl.val)) F1 H1 F2 H2 (EC ((V.ref a::vs).map AA) (.own AK q.2.2::p.1.map Sl.val)):=s2;have S2:Sim K H1 a F2 H2 ((V.ref a::vs).map AA) (.own AK q.2.2::p.1.map Sl.val):=S2;have hi:i<p.2.length:=(AQ.mp e3).1
   have HM:∀(j:Nat) t' d',(p.2.set i (.own t q.2.2))[j]?=AA (.own t' d')->(j=i/\t'=t/\d'=q.2.2)\/(j≠i/\p.2[j]?=AA (.own t' d')):=λj t' d' z=>by
    by_cases hj:i=j
    .subst hj;rw[BE hi] at z;cases z;exact .inl {rfl,rfl,rfl}
    .rw[A8 hj] at z;exact .inr {FO hj,z}
   have Zi:∀b,EC σ (p.2.set i (.own t q.2.2)) b->EC σ p.2 b:=λb q0=>by
    obtain⟨j,t',d',z1,z2⟩:=q0;rcases HM j t' d' z1 with⟨rfl,_,_⟩|⟨_,z1⟩
    .exact{_,_,_,e3,z2}
    .exact{j,t',d',z1,z2}
   have Zq:EC σ p.2 a:={i,t,d1,e3,a1};have K5:Stp (EC σ p.2) F1 H1 F2 H2 (EC σ (p.2.set i (.own t q.2.2))):={λb o z hw n ho=>s2.keep b o z hw n λy=>ho (by rw[Bc y];exact Zq),s2.dom,s2.le,λb o z=>(s2.new b o z).imp_right λy=>y.imp_right λy=>by rw[Bc y];exact Zq,λb z=>.inl (Zi b z)}
   have Sm:Sim K H₀ τ F2 H2 σ (p.2.set i (.own t q.2.2)):=by
    refine{S2.sub,by rw[CC];exact S1.len,λj d' z=>?_,λj t' d' z=>?_,λj l t1 t2 x y b z1 z2 y1 y2=>?_}
    .by_cases hj:i=j
     .subst hj;rw[BE hi] at z;cases z
     .rw[A8 hj] at z
      obtain⟨v,h1,h2⟩:=S1.val j d' z;exact{v,h1,h2.le s2.le}
    .rcases HM j t' d' z with⟨rfl,rfl,rfl⟩|⟨hj,z⟩
     .obtain⟨c,c1,c2,c3,_⟩:=S2.own 0 AK q.2.2 rfl
      cases c1;exact{a,a1,c2,c3,b4,b5}
     .obtain⟨c,c1,c2,c3,c4⟩:=S1.own j t' d' z
      obtain⟨o,ho,hw⟩:=c3.ho;have hca:c≠a:=λy=>hj (S1.inj j i t' t d' d1 a z e3 (by rw[c1,y]) a1);refine{c,c1,?_,c3.mono s2.le ((s2.keep c o ho hw c2 λy=>hca (Bc y)).trans ho.symm),c4}
      cases y:F2 c with
      |none=>rfl
      |some u =>
       rcases s2.new c u y with y|y|y
       .exact absurd c2 y
       .exact absurd hw (y o ho)
       .exact absurd (Bc y) hca
    .have f:∀(j:Nat) t' d',(p.2.set i (.own t q.2.2))[j]?=AA (.own t' d')->∃oN Ob,p.2[j]?=AA (.own oN Ob):=λj t' d' z=>by
      rcases HM j t' d' z with⟨rfl,_,_⟩|⟨_,z⟩
      .exact{_,_,e3}
      .exact{_,_,z}
     obtain⟨_,_,w1⟩:=f j _ _ z1;obtain⟨_,_,w2⟩:=f l _ _ z2;exact S1.inj j l _ _ _ _ b w1 w2 y1 y2
   cases hb:q.1 with
   |false =>
    rw[hb] at rr;exact k v F2 H2 (s1.trans K5) Sm rr
   |true =>
    rw[hb] at rr;obtain⟨c,rfl,h1,h2,h3,h4⟩:=rr;obtain⟨o,ho,_⟩:=h2.ho
    have nc:∀b,EC σ (p.2.set i (.own t q.2.2)) b->b≠c:=λb z y=>by
     subst y;exact S1.fresh h3 (Zi b z)
    refine k _ (D3 F2 c o) H2 (s1.trans {K5.keep,K5.dom,K5.le.trans (.of_gr (Gr.new h1)),λb u z=>?_,K5.own}) {λb u z=>?_,Sm.len,λj d' z=>?_,λj t' d' z=>?_,Sm.inj} (h2.rep h1 ho)
    .by_cases hb:b=c
     .subst hb;exact .inr (.inl (.none h3))
     .rw[FH hb] at z;exact K5.new b u z
    .by_cases hb:b=c
     .subst hb;rw[HJ] at z;rw[ho];exact z
     .rw[FH hb] at z;exact Sm.sub b u z
    .obtain⟨v,y1,y2⟩:=Sm.val j d' z
     exact{v,y1,y2.le (.of_gr (Gr.new h1))}
    .obtain⟨b,y1,y2,y3,y4⟩:=Sm.own j t' d' z
     exact{b,y1,by rw[FH (nc b {j,t',d',z,y1})];exact y2,y3.mono (.of_gr (Gr.new h1)) rfl,y4}
  .cases hg
 .cases hg
theorem QY{q:iB}(i:Nat)(C:K9 X.prog X.w X.K X.mg X.base x k np m)(hr:Room k X.A)(ha:VA X es gs)(hn:gs.length+1=np:=by rfl)(hg:Gl X x:=by rfl)(V1:(x==("__debug__":C2))=AC:=by decide)
  (he:AO (.Name xn q::es) X.env=(AC,eval (.Name xn q) X.env)::AO es X.env:=by rfl) (J5:(DT pos (AO es X.env)).any (·.1)=AC:=by rfl)
  (hN:X.N[i]?=AA xn:=by rfl) (hv:ZR X.env.scope xn:=by first|exact BN rfl|exact D2 (BN rfl)|exact D2 (D2 rfl)) (hd:(xn==("__debug__":C2))=AC:=by decide)
  (MM:(xn==("__classdict__":C2))=AC:=by decide):VE X (.Call (.Name x p) (.Name xn q::es) [] pos) (HV m i gs):=by
 obtain⟨f,fd,ps,Fn,hm,hk,hb⟩:=C;exact(Er Fn hr hg hm hk hb .nil Cz (VC (gA hN hv hd MM) ha he) V1 he J5).imp λ_ _ _ h=>zVN hn h
end
theorem PTs.imp{t t':TT}(h:PTs X es t)(hi:∀σ H Q,t' σ H Q->t σ H Q):PTs X es t':=λAG s σ H Q I q=>h AG s σ H Q I (hi σ H Q q)
abbrev lM(X:Cx)(es:List DA)(g:Ev->Out (Bool×Ev)):Prop:=PTs X es (tT X.K X.H₀ g)
def K4:Ev->Out (Bool×Ev):=λE=>.ok (AK,E)
theorem ZM:lM X [] K4:=ZN.imp λσ H Q h=>by
 obtain⟨τ,F,E,d,E',S,hg,k⟩:=h;cases hg;exact k F H .refl S
theorem gG{t:Ev->Out (Bool×Ev)}(h:VT X c t):lM X [c] t:=zY4 h
theorem zSL{l:List Nat}(h:l.Nodup){x:Nat}(hi:l[i]?=AA x)(hj:l[j]?=AA x):i=j:=by
 obtain⟨a1,a2⟩:=AQ.mp hi;obtain⟨b1,b2⟩:=AQ.mp hj;have p:=EO.mp h;rcases iD i j with z|z|z
 .exact absurd (a2.trans b2.symm) (p i j a1 b1 z)
 .exact z
 .exact absurd (b2.trans a2.symm) (p j i b1 a1 z)
noncomputable def XW(k:Nat)(js:List Nat)(E:Ev):Ev:=BH k .no++js.map λj=>(E[j]?).getD .no
noncomputable def kW(j:Nat):List Nat->Nat->Option Nat
 |[],_=>AL
 |x::xs,n=>if x=j then AA n else kW j xs (n+1)
theorem Go{j:Nat}:∀{js:List Nat} {n0 n:Nat},kW j js n0=AA n->∃m,n=n0+m/\js[m]?=AA j
 |[],_,_,h=>by cases h
 |x::xs,n0,n,h=>by
  rw[kW] at h;split at h
  .rename_i hx;cases h;exact{0,rfl,by simp[hx]}
  .obtain⟨m,h1,h2⟩:=Go h;exact{m+1,by lia,by simpa using h2}
theorem Uk{j:Nat}:∀{js:List Nat} {n0:Nat},kW j js n0=AL->j∉js
 |[],_,_=>by simp
 |x::xs,n0,h=>by
  rw[kW] at h;split at h
  .cases h
  .rename_i hx
   have:=Uk h;simp only[A7,not_or];exact{λz=>hx z.symm,this}
def iN(Ec:Ev)(k:Nat)(js:List Nat)(j:Nat):Sl->Sl
 |.own t d=>match kW j js 0 with
  |some n=>(Ec[k+n]?).getD .no
  |none=>.own t d
 |s=>s
def cN(Ec:Ev)(k:Nat)(js:List Nat):Nat->Ev->Ev
 |_,[]=>[]
 |j,s::E=>iN Ec k js j s::cN Ec k js (j+1) E
abbrev aH(E Ec:Ev)(k:Nat)(js:List Nat):Ev:=cN Ec k js 0 E
theorem Fg(Ec:Ev)(k:Nat)(js:List Nat):∀(E:Ev) (j0 j:Nat),(cN Ec k js j0 E)[j]?=(E[j]?).map (iN Ec k js (j0+j))
 |[],_,_=>by simp[cN]
 |s::E,j0,0=>by simp[cN]
 |s::E,j0,j+1=>by
  show(cN Ec k js (j0+1) E)[j]?=_;rw[Fg Ec k js E (j0+1) j,FW,show j0+1+j=j0+(j+1) by lia]
theorem Si(Ec:Ev)(k:Nat)(js:List Nat):∀(E:Ev) (j0:Nat),(cN Ec k js j0 E).length=E.length
 |[],_=>rfl
 |s::E,j0=>by rw[cN,BD,BD,Si Ec k js E (j0+1)]
theorem zJ{E Ec:Ev}{s:Sl}(h:(aH E Ec k js)[j]?=AA s):(E[j]?=AA s/\((∃t d,s=.own t d)->j∉js))\/∃t d n,E[j]?=AA (.own t d)/\js[n]?=AA j/\s=(Ec[k+n]?).getD .no:=by
 rw[Fg,EN] at h
 cases q:E[j]? with
 |none=>rw[q] at h;cases h
 |some s0 =>
  rw[q] at h;have h:iN Ec k js j s0=s:=BJ h
  cases s0 with
  |no=>cases h;exact .inl {rfl,(λq0=>by obtain⟨_,_,z⟩:=q0;exact by cases z)}
  |val d=>cases h;exact .inl {rfl,(λq0=>by obtain⟨_,_,z⟩:=q0;exact by cases z)}
  |own t d =>
   cases f:kW j js 0 with
   |none =>
    have:iN Ec k js j (.own t d)=.own t d:=by unfold iN;rw[f]
    rw[this] at h;exact .inl {by rw[h],λ_=>Uk f}
   |some n =>
    obtain⟨m,h1,h2⟩:=Go f;have:iN Ec k js j (.own t d)=(Ec[k+n]?).getD .no:=by unfold iN;rw[f]
    rw[this] at h;exact .inr {t,d,m,rfl,h2,by rw[<-h];congr 2;lia}
theorem tR{E:Ev}{s:Sl}(h:(XW k js E)[i]?=AA s)(hs:s≠.no):∃n j,i=k+n/\js[n]?=AA j/\E[j]?=AA s:=by
 unfold XW at h
 by_cases hi:i<k
 .rw[CF (by rw[C5];exact hi),D5,if_pos hi] at h
  exact absurd (BJ h).symm hs
 .rw[B0 (by rw[C5];lia),C5,AX] at h
  cases q:js[i-k]? with
  |none=>rw[q] at h;cases h
  |some j =>
   rw[q] at h;have h:(E[j]?).getD .no=s:=BJ h;refine{i-k,j,by lia,q,?_}
   cases z:E[j]? with
   |none=>rw[z] at h;exact absurd h.symm hs
   |some s'=>rw[z] at h;rw[<-h];rfl
theorem qX(h:js[n]?=AA j):(WN k js σ)[k+n]?=AA ((σ[j]?).getD AL):=by
 unfold WN;rw[B0 (by rw[C5];lia),C5,AX,show k+n-k=n from NM _ _,h]
 rfl
variable{E1 E2:Ev}
section
variable{K:AD}{σ2:St}{E:Ev}{BR:AT}
theorem Sim.off(S:Sim K H₀ τ F H σ E)(hf:F BR=AL)(no:¬EC σ E BR):Sim K H₀ τ F (D3 H BR o) σ E:=by
 refine{λa u e=>?_,S.len,S.val,λi t d e=>?_,S.inj}
 .have:a≠BR:=λz=>by rw[z,hf] at e;cases e
  rw[FH this];exact S.sub a u e
 .obtain⟨a,h1,h2,h3,h4⟩:=S.own i t d e
  have:a≠BR:=λz=>no {i,t,d,e,by rw[<-z];exact h1};exact{a,h1,h2,h3.mono (.refl _) (FH this),h4}
theorem pAG(S:Sub F H)(h:H BR=AL):F BR=AL:=by
 cases e:F BR with
 |none=>rfl
 |some u=>rw[S BR u e] at h;cases h
theorem Dh(h:EC (WN k js σ) (XW k js E) a):∃(n j:Nat) (t:Bool) (d:D),js[n]?=AA j/\E[j]?=AA (.own t d)/\σ[j]?=AA (AA (.ref a)):=by
 obtain⟨i,t,d,e1,e2⟩:=h;obtain⟨n,j,rfl,h1,h2⟩:=tR e1 (by intro z;cases z);rw[qX h1] at e2;refine{n,j,t,d,h1,h2,?_}
 cases q:σ[j]? with
 |none=>rw[q] at e2;cases e2
 |some z=>rw[q] at e2;cases e2;rfl
theorem Sim.enter(S:Sim K H₀ τ F H σ E)(k:Nat)(hj:js.Nodup)(ha:H BR=AL):Sim K (D3 H BR o) τ F (D3 H BR o) (WN k js σ) (XW k js E):=by
 have hf:=pAG S.sub ha;refine{λa u e=>?_,by unfold XW WN;simp,λi d e=>?_,λi t d e=>?_,λi j t u d d' a e1 e2 z1 z2=>?_}
 .have:a≠BR:=λz=>by rw[z,hf] at e;cases e
  rw[FH this];exact S.sub a u e
 .obtain⟨n,j,rfl,h1,h2⟩:=tR e (by intro z;cases z)
  obtain⟨v,h3,h4⟩:=S.val j d h2;exact{v,by rw[qX h1,h3];rfl,h4}
 .obtain⟨n,j,rfl,h1,h2⟩:=tR e (by intro z;cases z)
  obtain⟨a,h3,h4,h5,h6,h7⟩:=S.own j t d h2;obtain⟨ob,ho,hw⟩:=h5.ho;have:a≠BR:=λz=>by rw[z,ha] at ho;cases ho
  exact{a,by rw[qX h1,h3];rfl,h4,h5.mono (.refl _) (FH this),λw u z=>by rw[FH this,ho] at z;cases z;exact hw,h7}
 .obtain⟨n,l,rfl,h1,h2⟩:=tR e1 (by intro z;cases z)
  obtain⟨n',l',rfl,YV,UC⟩:=tR e2 (by intro z;cases z);rw[qX h1] at z1;rw[qX YV] at z2
  have w1:σ[l]?=AA (AA (.ref a)):=by
   cases q:σ[l]? with
   |none=>rw[q] at z1;cases z1
   |some z=>rw[q] at z1;cases z1;rfl
  have w2:σ[l']?=AA (AA (.ref a)):=by
   cases q:σ[l']? with
   |none=>rw[q] at z2;cases z2
   |some z=>rw[q] at z2;cases z2;rfl
  have:=S.inj l l' t u d d' a h2 UC w1 w2;subst this;rw[zSL hj h1 YV]
theorem Sim.leave(S:Sim K H₀ τ F1 H1 σ E1)(ha:H1 BR=AL)(s:Stp (λa=>EC (WN k js σ) (XW k js E1) a\/a=BR) F1 (D3 H1 BR o) F2 H2 (EC σ2 E2))
  (S2:Sim K (D3 H1 BR o) τ F2 H2 σ2 E2) (hs:∀j:Nat,k<=j->σ2[j]?=(WN k js σ)[j]?) :
  Sim K H₀ τ F2 H2 σ (aH E1 E2 k js)/\Stp (EC σ E1) F1 H1 F2 H2 (EC σ (aH E1 E2 k js)):=by
 have cow:∀a,EC (WN k js σ) (XW k js E1) a->EC σ E1 a:=λa h=>let ⟨n,j,t,d,_,h2,h3⟩:=Dh h;{j,t,d,h2,h3};have ne:∀a u,H1 a=AA u->a≠BR:=λa u e z=>by rw[z,ha] at e;cases e
 have slot:∀(n j:Nat),js[n]?=AA j->σ2[k+n]?=AA ((σ[j]?).getD AL):=λn j h=>by rw[hs (k+n) (A6 _ _),qX h]
 have dS:∀(j:Nat) t d,(aH E1 E2 k js)[j]?=AA (.own t d)->∃t' d',E1[j]?=AA (.own t' d'):=λj t d e=>by
  rcases zJ e with⟨h,_⟩|⟨t',d',n,h,_⟩
  .exact{t,d,h}
  .exact{t',d',h}
 have st:Stp (EC σ E1) F1 H1 F2 H2 (EC σ (aH E1 E2 k js)):=by
  refine{λa u e hw n ho=>s.keep a u (by rw[FH (ne a u e)];exact e) hw n λz=>z.elim (λz=>ho (cow a z)) (ne a u e),λa e=>?_,s.le,λa u e=>?_,λa ⟨j,t,d,e1,e2⟩=>?_}
  .have:=s.dom a e
   by_cases h:a=BR
   .rw[h];exact ha
   .rw[FH h] at this;exact this
  .rcases s.new a u e with z|z|z|z
   .exact .inl z
   .by_cases h:a=BR
    .rw[h];exact .inr (.inl (.none ha))
    .exact .inr (.inl λo' e'=>z o' (by rw[FH h];exact e'))
   .exact .inr (.inr (cow a z))
   .rw[z];exact .inr (.inl (.none ha))
  .obtain⟨t',d',h⟩:=dS j t d e1
   exact .inl {j,t',d',h,e2}
 refine{{S2.sub,by rw[Si];exact S.len,λj d e=>?_,λj t d e=>?_,λi j t u d d' a e1 e2 z1 z2=>?_},st}
 .rcases zJ e with⟨h,_⟩|⟨t',d',n,h,h1,h2⟩
  .obtain⟨v,h1,h2⟩:=S.val j d h
   exact{v,h1,h2.le s.le}
  .have e2:E2[k+n]?=AA (.val d):=by
    cases q:E2[k+n]? with
    |none=>rw[q] at h2;cases h2
    |some z=>rw[q] at h2;rw[h2];rfl
   obtain⟨v,h3,h4⟩:=S2.val _ d e2;rw[slot n j h1] at h3;refine{v,?_,h4}
   cases q:σ[j]? with
   |none=>rw[q] at h3;cases h3
   |some z=>rw[q] at h3;cases h3;rfl
 .rcases zJ e with⟨h,h'⟩|⟨t',d',n,h,h1,h2⟩
  .have hj:=h' {t,d,rfl}
   obtain⟨a,c1,c2,c3,c4⟩:=S.own j t d h;obtain⟨ob,ho,hw⟩:=c3.ho
   have nc:¬(EC (WN k js σ) (XW k js E1) a\/a=BR):=λz=>by
    rcases z with z|z
    .obtain⟨n,l,t2,d2,y1,y2,y3⟩:=Dh z
     have:=S.inj j l t t2 d d2 a h y2 c1 y3;subst this;exact hj (DH y1)
    .exact ne a ob ho z
   refine{a,c1,?_,c3.mono s.le ((s.keep a ob (by rw[FH (ne a ob ho)];exact ho) hw c2 nc).trans ho.symm),c4}
   cases y:F2 a with
   |none=>rfl
   |some u =>
    rcases s.new a u y with y|y|y
    .exact absurd c2 y
    .exact absurd hw (y ob (by rw[FH (ne a ob ho)];exact ho))
    .exact absurd y nc
  .have e2:E2[k+n]?=AA (.own t d):=by
    cases q:E2[k+n]? with
    |none=>rw[q] at h2;cases h2
    |some z=>rw[q] at h2;rw[h2];rfl
   obtain⟨a,h3,h4,h5,h6,h7⟩:=S2.own _ t d e2;rw[slot n j h1] at h3;obtain⟨a',c1,c2,c3,c4,c5⟩:=S.own j t' d' h;rw[c1] at h3;cases h3;exact{a,c1,h4,h5,c4,h7}
 .obtain⟨_,_,h1⟩:=dS i t d e1
  obtain⟨_,_,h2⟩:=dS j u d' e2;exact S.inj i j _ _ _ _ a h1 h2 z1 z2
end
section
variable{K:AD}
end
abbrev GM:=D->Ev->Out (D×Ev)
theorem Stp.more{ow:AT->Prop}{BR:AT}(x:Stp ow F H F1 H1 aI):Stp (λa=>ow a\/a=BR) F H F1 H1 (λa=>aI a\/a=BR) :=
 {λa o e w f n=>x.keep a o e w f λz=>n (.inl z),x.dom,x.le,λa o e=>(x.new a o e).imp id λz=>z.imp id .inl,λa q=>q.elim (λz=>(x.own a z).imp .inl id) λz=>.inl (.inr z)}
def rW(K:AD)(H₀:Hp)(BR:AT)(k:Nat)(g:GM):TM:=λσ H N=>∃τ F E d d' E',Sim K H₀ τ F H σ E/\F BR=AL/\¬EC σ E BR/\OwnAt K F H BR d/\g d E=.ok (d',E') /\
 ∀σ' F' H',Stp (λa=>EC σ E a\/a=BR) F H F' H' (λa=>EC σ' E' a\/a=BR)->Sim K H₀ τ F' H' σ' E'->F' BR=AL->¬EC σ' E' BR->OwnAt K F' H' BR d'->(∀j:Nat,k<=j->σ'[j]?=σ[j]?)->N σ' H'
def ZG(t:Tg)(tt:Ev->Out (Bool×Ev))(gm:GM):List D->GM
 |[],d,E=>.ok (d,E)
 |x::xs,d,E=>(WQ t x E).bind λE1=>(tt E1).bind λb=>if b.1=AK then(gm d b.2).bind λq=>ZG t tt gm xs q.1 q.2 else ZG t tt gm xs d b.2
variable{tt:Ev->Out (Bool×Ev)}{gm:GM}
section
variable{K:AD}{E:Ev}{BR:AT}
theorem sW{Ea Eb:Ev}{Fa Ha Fb Hb:Hp}{d:D}(st:Stp (EC σ' Ea) Fa Ha Fb Hb (EC σ' Eb))(a1:Fa BR=AL)(a2:¬EC σ' Ea BR)(a3:OwnAt K Fa Ha BR d):Fb BR=AL/\¬EC σ' Eb BR/\OwnAt K Fb Hb BR d:=by
 obtain⟨o,ho,hw⟩:=a3.ho;have hb:=st.keep BR o ho hw a1 a2;refine{?_,λz=>(st.own BR z).elim a2 λz=>by (rw[ho] at z;cases z),a3.mono st.le (hb.trans ho.symm)}
 cases z:Fb BR with
 |none=>rfl
 |some u =>
  rcases st.new BR u z with z|z|z
  .exact absurd a1 z
  .exact absurd hw (z _ ho)
  .exact absurd z a2
theorem Xl{t:Tg}{ds:List D}(KZ:t.ltn k=AK){N:St->Hp->Prop}{d d':D}(S:Sim K H₀ τ F H σ E)(hf:F BR=AL)(no:¬EC σ E BR)(ho:OwnAt K F H BR d)(hw:Walks K J F ds)
  (hg:ZG t tt gm ds d E=.ok (d',E'))
  (hN:∀σ' F' H',Stp (λa=>EC σ E a\/a=BR) F H F' H' (λa=>EC σ' E' a\/a=BR)->Sim K H₀ τ F' H' σ' E'->F' BR=AL->¬EC σ' E' BR->OwnAt K F' H' BR d'->(∀j:Nat,k<=j->σ'[j]?=σ[j]?)->N σ' H') :
  tWalkC J (tG K H₀ t) (tT K H₀ tt) (rW K H₀ BR k gm) σ H N:=by
 refine{λi m σ2 H2=>m=ds.length-i/\i<=ds.length/\∃F2 E2 d2,Sim K H₀ τ F2 H2 σ2 E2/\Stp (λa=>EC σ E a\/a=BR) F H F2 H2 (λa=>EC σ2 E2 a\/a=BR) /\
   F2 BR=AL/\¬EC σ2 E2 BR/\OwnAt K F2 H2 BR d2/\(∀j:Nat,k<=j->σ2[j]?=σ[j]?)/\ZG t tt gm (ds.drop i) d2 E2=.ok (d',E'),
  {_,rfl,BP _,F,E,d,S,Stp.refl,hf,no,ho,λ_ _=>rfl,by rw[L8];exact hg},?_}
 rintro i m σ2 H2 ⟨rfl,Ce,F2,E2,d2,S2,s2,f2,n2,o2,MZ,g2⟩;obtain⟨w2,w3,w4⟩:=hw i F2 H2 s2.le S2.sub
 by_cases hi:i<ds.length
 .obtain⟨x,hd⟩:∃d,ds[i]?=AA d:={ds[i],by simp[hi]}
  have xC:ds.drop i=x::ds.drop (i+1):=by
   rw[EQ hi];have:ds[i]=x:=by rw[BL hi] at hd;exact BJ hd
   rw[this]
  rw[xC,ZG] at g2;obtain⟨E3,e3,g2⟩:=pA3 g2;obtain⟨b,e4,g2⟩:=pA3 g2;refine .inr {w2 hi,λy H' yl=>?_};obtain⟨F3,n3,r3⟩:=w4 y H' x hd yl;obtain⟨f3,m3,o3⟩:=sW (n3.stp (ow:=EC σ2 E2)) f2 n2 o2;refine{τ,F3,E2,x,E3,S2.new n3,r3,e3,λσ4 S4 o4 b4=>?_};have m4:¬EC σ4 E3 BR:=λz=>n2 (o4 BR z);have Zv:∀j:Nat,k<=j->σ4[j]?=σ[j]?:=λj hj=>by rw[b4 k KZ j hj,MZ j hj]
  have s4:Stp (λa=>EC σ E a\/a=BR) F H F3 H' (λa=>EC σ4 E3 a\/a=BR):=(s2.trans n3.stp).weak λa z=>z.imp (o4 a) id;refine{τ,F3,E3,b.1,b.2,S4,e4,λF5 H5 s5 S5=>?_};obtain⟨f5,m5,o5⟩:=sW s5 f3 m4 o3;have Ze:=s4.trans (s5.more (BR:=BR));dsimp only
  by_cases hb:b.1=AK
  .rw[if_pos hb] at g2 ⊢
   obtain⟨z,e6,g2⟩:=pA3 g2;refine{τ,F5,b.2,d2,z.1,z.2,S5,f5,m5,o5,e6,λσ6 F6 H6 s6 S6 f6 m6 o6 hs6=>?_};exact{_,by lia,rfl,hi,F6,z.2,z.1,S6,Ze.trans s6,f6,m6,o6,λj hj=>by rw[hs6 j hj,Zv j hj],g2}
  .rw[if_neg hb] at g2 ⊢
   exact{_,by lia,rfl,hi,F5,b.2,d2,S5,Ze,f5,m5,o5,Zv,g2}
 .have hi:i=ds.length:=by lia
  rw[HP 'l',ZG] at g2;cases g2;exact .inl {w3 hi,hN σ2 F2 H2 s2 S2 f2 n2 o2 MZ}
def k8(gi:GI)(t:Tg)(tt:Ev->Out (Bool×Ev))(gm:GM):GM:=λd E=>(gi E).bind λp=>ZG t tt gm p.1 d p.2
theorem zVP{t:Tg}(KZ:t.ltn k=AK){N:St->Hp->Prop}(h:rW K H₀ BR k (k8 gi t tt gm) σ H N):Ds (tI K H₀ gi) (tG K H₀ t) (tT K H₀ tt) (rW K H₀ BR k gm) σ H N:=by
 obtain⟨τ,F,E,d,d',E',S,f,n,o,hg,k⟩:=h;obtain⟨p,e1,hg⟩:=pA3 hg;refine{τ,F,E,p.1,p.2,S,e1,λJ F1 H1 s1 S1 w1=>?_};obtain⟨f1,n1,o1⟩:=sW s1 f n o;exact Xl KZ S1 f1 n1 o1 w1 hg λσ' F' H' s' S' f' m' o' hs=>k σ' F' H' (s1.more.trans s') S' f' m' o' hs
theorem Xk{F6 H6:Hp}(s6:Stp (EC σ E) F H F6 H6 (EC σ' E')):Stp (λa=>EC σ E a\/a=BR) F H F6 (D3 H6 BR o) (λa=>EC σ' E' a\/a=BR):=by
 have st:=s6.more (BR:=BR);refine{λa u e hw n ho=>by rw[FH (λy=>ho (.inr y))];exact st.keep a u e hw n ho,λa e=>?_,st.le,st.new,st.own}
 by_cases hac:a=BR
 .rw[hac,HJ] at e;cases e
 .rw[FH hac] at e;exact st.dom a e
def bG(ge:G):GM:=λd E=>(ge E).bind λp=>match d with|.lst ds=>few ds.length (.ok (.lst (ds++[p.1]),p.2))|_=>.bad
theorem Rz{ge:G}{N:St->Hp->Prop}(h:rW K H₀ BR k (bG ge) σ H N):kY BR (tV K H₀ ge) σ H N:=by
 obtain⟨τ,F,E,d,d',E',S,f,n,o,hg,k⟩:=h;obtain⟨p,e1,hg⟩:=pA3 hg;split at hg
 .rename_i ds
  obtain⟨hz,hg⟩:=W4 hg;cases hg;refine{τ,F,E,p.1,p.2,S,e1,λy F6 H6 s6 S6 r6=>?_};obtain⟨f6,m6,ys,h6,r2⟩:=sW s6 f n o;exact{ys,h6,by rw[r2.length];exact cU hz,k σ F6 _ (Xk s6) (S6.off f6 m6) f6 m6 {_,HJ,r2.append (.cons r6 .nil)} λ_ _=>rfl}
 .cases hg
def bL(gi:GI)(k:Nat)(js:List Nat)(d0:D)(t:Tg)(tt:Ev->Out (Bool×Ev))(gm:GM):G:=λE=>(gi E).bind λp=>(ZG t tt gm p.1 d0 (XW k js p.2)).bind λq=>.ok (q.1,aH p.2 q.2 k js)
theorem Ff{d0:D}{t:Tg}(hd0:∀(F H:Hp) (a:AT),OwnAt K F (D3 H a o) a d0)(KZ:t.ltn k=AK)(hj:js.Nodup){Q:VK}(h:tF K H₀ (bL gi k js d0 t tt gm) σ H Q) :
  qL (tI K H₀ gi) k js o (λH=>tG K H t) (λH=>tT K H tt) (λH BR=>rW K H BR k gm) σ H Q:=by
 obtain⟨τ,F,E,d,E',S,hg,kq⟩:=h;obtain⟨p,e1,hg⟩:=pA3 hg;obtain⟨q,e2,hg⟩:=pA3 hg;cases hg;refine{τ,F,E,p.1,p.2,S,e1,λJ F1 H1 s1 S1 w1 BR ha=>?_};have hf:=pAG S1.sub ha;have S0:=S1.enter (o:=o) k hj ha
 have no:¬EC (WN k js σ) (XW k js p.2) BR:=λz=>by
  obtain⟨n,j,t',d',_,z2,z3⟩:=Dh z;exact S1.fresh ha {j,t',d',z2,z3}
 refine Xl KZ S0 hf no (hd0 _ _ _) w1 e2 λσ2 F2 H2 s2 S2 f2 n2 o2 MZ=>?_;have s2':Stp (λa=>EC (WN k js σ) (XW k js p.2) a\/a=BR) F1 (D3 H1 BR o) F2 H2 (EC σ2 q.2):=s2.weak λa z=>.inl z;obtain⟨S9,s9⟩:=S1.leave ha s2' S2 MZ;refine kq BR F2 H2 (s1.trans s9) S9 f2 (s1.dom BR ha) o2 λz=>?_
 exact(s9.own BR z).elim (λy=>S1.fresh ha y) λy=>S1.fresh ha (by
   obtain⟨j,t',d',z1,z2⟩:=z;rcases zJ z1 with⟨h,_⟩|⟨oN,Ob,n,h,_⟩
   .exact{j,t',d',h,z2}
   .exact{j,oN,Ob,h,z2})
theorem tWalkC.imp{J:It}{g:TG}{tt:TT}{tm Yx:TM}(hi:∀σ H N,tm σ H N->Yx σ H N){N:St->Hp->Prop}(mt:∀(σ:St) (H:Hp) (P P':Bool->Hp->Prop),(∀b H2,P b H2->P' b H2)->tt σ H P->tt σ H P')(mg:∀(x:V) (σ:St) (H:Hp) (P P':St->Hp->Prop),(∀σ2 H2,P σ2 H2->P' σ2 H2)->g x σ H P->g x σ H P')(h:tWalkC J g tt tm σ H N):tWalkC J g tt Yx σ H N:=by
 obtain⟨W,w0,turn⟩:=h;refine{W,w0,λi m σ H w=>(turn i m σ H w).imp id λ⟨go,st⟩=>{go,λx H' y=>mg _ _ _ _ _ (λσ2 H2 q=>mt _ _ _ _ (λb H3 q=>?_) q) (st x H' y)}}
 cases b with
 |true=>rw[if_pos rfl] at q ⊢;exact hi _ _ _ q
 |false=>rw[if_neg B9] at q ⊢;exact q
theorem zI(σ:St)(H:Hp)(P P':Bool->Hp->Prop)(hp:∀b H2,P b H2->P' b H2)(h:tT K H₀ tt σ H P):tT K H₀ tt σ H P' :=
 let ⟨τ,F,E,b,E',S,hg,k⟩:=h;{τ,F,E,b,E',S,hg,λF' H' s S'=>hp _ _ (k F' H' s S')}
theorem zH{t:Tg}(x:V)(σ:St)(H:Hp)(P P':St->Hp->Prop)(hp:∀b H2,P b H2->P' b H2)(h:tG K H₀ t x σ H P):tG K H₀ t x σ H P' :=
 let ⟨τ,F,E,d,E',S,r,hg,k⟩:=h;{τ,F,E,d,E',S,r,hg,λσ' a b c=>hp _ _ (k σ' a b c)}
theorem zG{R R':It->Hp->Prop}(hp:∀J H2,R J H2->R' J H2)(h:tI K H₀ gi σ H R):tI K H₀ gi σ H R' :=
 let ⟨τ,F,E,ds,E',S,hg,k⟩:=h;{τ,F,E,ds,E',S,hg,λJ F' H' a b c=>hp _ _ (k J F' H' a b c)}
theorem Qp{iter bQ J1:DA}{T9:List DA}{Nl:GI}{t t2:Tg}{tt2:Ev->Out (Bool×Ev)}{ge:G}(n:CompNm X scope cl own CG js)(hc:X.calm=AK)(hi:VI X tg iter gi)
  (hg:∀C s H fp,VG (K1 X scope cl (own++CG) C s H fp) tg t) (ht:∀C s H fp,lM (K1 X scope cl (own++CG) C s H fp) ifs tt)
  (Me:∀C s H fp,VI (K1 X scope cl (own++CG) C s H fp) bQ J1 Nl) (Mk:∀C s H fp,VG (K1 X scope cl (own++CG) C s H fp) bQ t2) (Ld:∀C s H fp,lM (K1 X scope cl (own++CG) C s H fp) T9 tt2)
  (he:∀C s H fp,VE (K1 X scope cl (own++CG) C s H fp) ND ge)
  (KZ:t.ltn own.length=AK:=by rfl) (eJ:t2.ltn own.length=AK:=by rfl) (hj:js.Nodup:=by decide) (hs:∀x,CM iter X.env x=pure x:=by intro _;rfl) (MZ:∀C x,CM J1 (Y2 scope cl C X.env) x=pure x:=by intro _ _;rfl) :
  FE X (.ListComp ND [{tg,iter,ifs,0},{bQ,J1,T9,0}] scope pos) (bL gi own.length js (.lst []) t tt (k8 Nl t2 tt2 (bG ge))) :=
 (zU7 (g:=λH=>tG X.K H t) (tt:=λH=>tT X.K H tt) (wi2:=λH=>tI X.K H Nl) (g2:=λH=>tG X.K H t2) (tt2:=λH=>tT X.K H tt2) (te:=λH=>tV X.K H ge) n hc hi hg ht Me Mk Ld he hs MZ).imp λσ H Q h=>by
  refine zG (λJ H2 q BR ha=>tWalkC.imp ?_ (λσ H=>zI σ H) (λx σ H=>zH x σ H) (q BR ha)) (Ff (o:=.lst []) (d0:=.lst []) (λF H a=>{[],HJ,.nil}) KZ hj h);intro σ3 H3 N h3;exact zG (λJ H2 q=>tWalkC.imp (λ_ _ _ z=>Rz z) (λσ H=>zI σ H) (λx σ H=>zH x σ H) q) (zVP eJ h3)
def KY(gi:GI)(k:Nat)(js:List Nat)(t:Tg)(tt:Ev->Out (Bool×Ev))(ge:G):G:=bL gi k js (.lst []) t tt (bG ge)
theorem Eh{t:Tg}{ge:G}(KZ:t.ltn k=AK)(hj:js.Nodup){Q:VK}(h:tF K H₀ (KY gi k js t tt ge) σ H Q) :
  qL (tI K H₀ gi) k js (.lst []) (λH=>tG K H t) (λH=>tT K H tt) (λH BR=>kY BR (tV K H ge)) σ H Q :=
 zG (λJ H2 q BR ha=>tWalkC.imp (λ_ _ _ z=>Rz z) (λσ H=>zI σ H) (λx σ H=>zH x σ H) (q BR ha)) (Ff (o:=.lst []) (d0:=.lst []) (λF H a=>{[],HJ,.nil}) KZ hj h)
theorem ZL{iter:DA}{t:Tg}{ge:G}(n:CompNm X scope cl own CG js)(hc:X.calm=AK)(hi:VI X tg iter gi)
  (hg:∀C s H fp,VG (K1 X scope cl (own++CG) C s H fp) tg t) (ht:∀C s H fp,lM (K1 X scope cl (own++CG) C s H fp) ifs tt) (he:∀C s H fp,VE (K1 X scope cl (own++CG) C s H fp) ND ge)
  (KZ:t.ltn own.length=AK:=by rfl) (hj:js.Nodup:=by decide) (hs:∀x,CM iter X.env x=pure x:=by intro _;rfl):FE X (.ListComp ND [{tg,iter,ifs,0}] scope pos) (KY gi own.length js t tt ge) :=
 (zY6 (g:=λH=>tG X.K H t) (tt:=λH=>tT X.K H tt) (te:=λH=>tV X.K H ge) n hc hi hg ht he hs).imp λ_ _ _ h=>Eh KZ hj h
theorem zQE{iter:DA}{t:Tg}{ge:G}(n:CompNm X scope cl own CG js)(hc:X.calm=AK)(hi:VI X tg iter gi)
  (hg:∀C s H fp,VG (K1 X scope cl (own++CG) C s H fp) tg t) (ht:∀C s H fp,lM (K1 X scope cl (own++CG) C s H fp) ifs tt) (he:∀C s H fp,VE (K1 X scope cl (own++CG) C s H fp) ND ge)
  (hN:X.N.Nodup) (hx:X.N[i]?=AA x) (hl:X.env.scope.names.lookup x=AA .local)
  (jN:HS (.ListComp ND [{tg,iter,ifs,0}] scope pos) (AA (.Name x NI)) T8.line X.env=pure AK)
  (KZ:t.ltn own.length=AK:=by rfl) (hj:js.Nodup:=by decide) (hs:∀x,CM iter X.env x=pure x:=by intro _;rfl):VS X (.Assign [.Name x NI] (.ListComp ND [{tg,iter,ifs,0}] scope pos) T8) (SF i (KY gi own.length js t tt ge)) :=
 λAG s σ H D' I h=>by
  refine Gz (g:=λH=>tG X.K H t) (tt:=λH=>tT X.K H tt) (te:=λH=>tV X.K H ge) n hc hi hg ht he hN hx hl jN hs AG s σ H D' I ?_;exact Eh KZ hj (Ou I h)
end
mutual
noncomputable def D.py:D->Option G9
 |.non=>AA .none
 |.bl b=>AA (.bool b)
 |.int i=>AA (.int i)
 |.str x=>if LN (.str x)=AK then AA (.str x) else AL
 |.tup xs=>(pAH xs).map .tuple
 |.lst xs=>(pAH xs).map .list
 |.dk _=>AL
 |.dt _=>AL
noncomputable def pAH:List D->Option (List G9)
 |[]=>AA []
 |d::ds=>match d.py,pAH ds with
  |some p,AA ps=>AA (p::ps)
  |_,_=>AL
end
section
variable{K:AD}
mutual
theorem Rep.dv(s:Sub F H):∀(d:D) {v:V} {p:G9},Rep K F v d->d.py=AA p->DV K H v p
 |.non,_,_,.non,e=>by rw[D.py] at e;cases e;exact .non
 |.bl b,_,_,.bl _,e=>by rw[D.py] at e;cases e;exact .bl b
 |.int i,_,_,.int _,e=>by rw[D.py] at e;cases e;exact .int i
 |.str x,_,_,.str _,e=>by
  rw[D.py] at e;split at e
  .rename_i h;cases e;exact .str x h
  .cases e
 |.tup xs,_,_,r,e=>by
  rw[D.py] at e;obtain⟨ps,h1,h2⟩:=BY.mp e;subst h2;obtain⟨a,vs,rfl,r,sq⟩:=r.tupSq;exact .tup (sq F H (.refl _) s) (Reps.dv s xs r h1)
 |.lst xs,_,_,.lst h r,e=>by
  rw[D.py] at e;obtain⟨ps,h1,h2⟩:=BY.mp e;subst h2;exact .lst (h.imp s.rd id) (Reps.dv s xs r h1)
 |.dk _,_,_,_,e=>by rw[D.py] at e;cases e
 |.dt _,_,_,_,e=>by rw[D.py] at e;cases e
theorem Reps.dv(s:Sub F H):∀(d:List D) {v:List V} {p:List G9},Reps K F v d->pAH d=AA p->DVs K H v p
 |[],_,_,.nil,e=>by rw[pAH] at e;cases e;exact .nil
 |d::ds,_,_,.cons h r,e=>by
  rw[pAH] at e;split at e
  .rename_i p ps e1 e2
   cases e;exact .cons (Rep.dv s d h e1) (Reps.dv s ds r e2)
  .cases e
end
end
noncomputable def TW(x y:D):Out D:=match x.py,y.py with
 |some p,AA q=>if min p.depth q.depth<=60 then .ok (.bl (D0 p q)) else .bad
 |_,_=>.bad
noncomputable def IL(x y:D):Out D:=match x.py,y.py with
 |some p,AA q=>if min p.depth q.depth<=60 then .ok (.bl (!D0 p q)) else .bad
 |_,_=>.bad
section
variable{K:AD}{a b:DA}{ga gb ge:G}
theorem Ot:UX K (Av K AC) TW:=λv u x y F H d Q s r1 r2 hf k=>by
 unfold TW at hf;split at hf
 .rename_i p q e1 e2
  split at hf
  .rename_i hm
   cases hf;exact{p,q,r1.dv s _ e1,r2.dv s _ e2,hm,k _ F H (.refl s) (.bl _)}
  .cases hf
 .cases hf
theorem yDK:UX K (Av K AK) IL:=λv u x y F H d Q s r1 r2 hf k=>by
 unfold IL at hf;split at hf
 .rename_i p q e1 e2
  split at hf
  .rename_i hm
   cases hf;exact{p,q,r1.dv s _ e1,r2.dv s _ e2,hm,k _ F H (.refl s) (.bl _)}
  .cases hf
 .cases hf
theorem yGH(hu:X.A.units+64<GB)(ha:VE X a ga)(hb:VE X b gb)(hm:D4 .Eq b=AC:=by with_unfolding_all rfl):VT X (.Compare a [.Eq] [b] pos) (gB (g2 TW ga gb)):=iX (Ox hu) Ot ha hb hm
theorem U9(hu:X.A.units+64<GB)(ha:VE X a ga)(hb:VE X b gb)(hm:D4 .NotEq b=AC:=by with_unfolding_all rfl):VT X (.Compare a [.NotEq] [b] pos) (gB (g2 IL ga gb)):=iX (yC6 hu) yDK ha hb hm
theorem uH(hu:X.A.units+64<GB)(ha:VE X a ga)(hb:VE X b gb)(hm:D4 .Eq b=AC:=by with_unfolding_all rfl):VE X (.Compare a [.Eq] [b] pos) (g2 TW ga gb):=Xu (Ox hu) Ot ha hb hm
end
section
variable[DecidableEq κ]
noncomputable def OI(kvs:List (κ×D))(k:κ):Option D:=(kvs.find? λkv=>decide (kv.1=k)).map (·.2)
noncomputable def OT(kvs:List (κ×D))(k:κ)(v:D):List (κ×D) :=
 if(kvs.any λkv=>decide (kv.1=k))=AK then kvs.map (λkv=>if kv.1=k then(kv.1,v) else kv) else kvs++[(k,v)]
end
noncomputable def iU:D->Option Key
 |.int i=>AA (.inl i)
 |.str x=>AA (.inr x)
 |_=>AL
noncomputable def QW:List D->Option (List Int)
 |[]=>AA []
 |.int i::ds=>(QW ds).map (i::·)
 |_::_=>AL
theorem nV:∀{ds:List D} {ns:List Int},QW ds=AA ns->ds=ns.map D.int
 |[],_,h=>by rw[QW] at h;cases h;rfl
 |.int i::ds,_,h=>by
  rw[QW] at h;obtain⟨r,h1,h2⟩:=BY.mp h;subst h2;rw[nV h1];rfl
 |.non::_,_,h=>by simp[QW] at h
 |.bl _::_,_,h=>by simp[QW] at h
 |.str _::_,_,h=>by simp[QW] at h
 |.tup _::_,_,h=>by simp[QW] at h
 |.lst _::_,_,h=>by simp[QW] at h
 |.dk _::_,_,h=>by simp[QW] at h
 |.dt _::_,_,h=>by simp[QW] at h
theorem Uj:∀ns:List Int,QW (ns.map D.int)=AA ns
 |[]=>rfl
 |n::ns=>by rw[AU,QW,Uj ns];rfl
theorem zF:∀{a b:List Int},a.map (CZ:Int->Key)=b.map CZ->a=b
 |[],[],_=>rfl
 |[],_::_,h=>by simp at h
 |_::_,[],h=>by simp at h
 |x::a,y::b,h=>by
  rw[AU,AU] at h;injection h with h1 h2;injection h1 with h1;rw[h1,zF h2]
section
variable{K:AD}
theorem RepK.length{vs:List (Key×V)}{ds:List (Key×D)}(r:RepK K F vs ds):vs.length=ds.length:=r.rec1 (R:=λvs ds=>vs.length=ds.length) rfl λ_ _ ih=>congrArg (·+1) ih
theorem RepT.length{vs:List (List Key×V)}{ds:List (List Int×D)}(r:RepT K F vs ds):vs.length=ds.length:=r.rec1 (T:=λvs ds=>vs.length=ds.length) rfl λ_ _ ih=>congrArg (·+1) ih
def OpR1(K:AD)(F:Hp):Option V->Option D->Prop
 |some v,AA d=>Rep K F v d
 |none,AL=>True
 |_,_=>False
theorem RepK.get(k:Key){vs:List (Key×V)}{ds:List (Key×D)}(r:RepK K F vs ds):OpR1 K F (RS vs k) (OI ds k):=by
 refine r.rec1 (R:=λvs ds=>OpR1 K F (RS vs k) (OI ds k)) trivial ?_
 .intro k' v d vs ds h _ ih
  by_cases e:k'=k
  .have e1:RS ((k',v)::vs) k=AA v:=by simp[RS,e]
   have e2:OI ((k',d)::ds) k=AA d:=by simp[OI,e]
   rw[e1,e2];exact h
  .have e1:RS ((k',v)::vs) k=RS vs k:=by simp[RS,e]
   have e2:OI ((k',d)::ds) k=OI ds k:=by simp[OI,e]
   rw[e1,e2];exact ih
theorem RepT.get(k:List Int){vs:List (List Key×V)}{ds:List (List Int×D)}(r:RepT K F vs ds):OpR1 K F (RS vs (k.map CZ)) (OI ds k):=by
 refine r.rec1 (T:=λvs ds=>OpR1 K F (RS vs (k.map CZ)) (OI ds k)) trivial ?_
 .intro k' v d vs ds h _ ih
  by_cases e:k'=k
  .have e1:RS ((k'.map CZ,v)::vs) (k.map CZ)=AA v:=by simp[RS,e]
   have e2:OI ((k',d)::ds) k=AA d:=by simp[OI,e]
   rw[e1,e2];exact h
  .have e':¬k'.map (CZ:Int->Key)=k.map CZ:=λz=>e (zF z)
   have e1:RS ((k'.map CZ,v)::vs) (k.map CZ)=RS vs (k.map CZ):=by simp[RS,e']
   have e2:OI ((k',d)::ds) k=OI ds k:=by simp[OI,e]
   rw[e1,e2];exact ih
theorem OpR1.isSome{o:Option V}{p:Option D}(h:OpR1 K F o p):o.isSome=p.isSome:=by
 cases o<;>cases p<;>first|rfl|exact h.elim
theorem OpR1.some_of{o:Option V}{d:D}(h:OpR1 K F o (AA d)):∃v,o=AA v/\Rep K F v d:=by
 cases o with
 |none=>exact h.elim
 |some v=>exact{v,rfl,h}
theorem OpR1.none_of{o:Option V}(h:OpR1 K F o AL):o=AL:=by
 cases o with
 |none=>rfl
 |some v=>exact h.elim
def kU:D->D->Option (Option D)
 |.dk kvs,k=>(iU k).map (OI kvs)
 |.dt kvs,.tup ks=>(QW ks).map (OI kvs)
 |_,_=>AL
theorem pAI{u:V}{x y:D}{o:Option D}(s:Sub F H)(r1:Rep K F v x)(r2:Rep K F u y)(h:kU x y=AA o):∃a ov,v=.ref a/\iP H a u ov/\OpR1 K F ov o:=by
 cases x with
 |dk kvs =>
  obtain⟨k,h1,h2⟩:=BY.mp (show(iU y).map (OI kvs)=AA o from h);subst h2
  cases r1 with
  |dk hr r =>
   refine{_,_,rfl,.inl {_,k,s.rd hr,?_,rfl},r.get k};cases y<;>first|cases h1|skip
   .obtain rfl:=r2.vI;rfl
   .obtain rfl:=r2.vS;rfl
 |dt kvs =>
  cases y with
  |tup ks =>
   obtain⟨ns,h1,h2⟩:=BY.mp (show(QW ks).map (OI kvs)=AA o from h);subst h2;have:=nV h1;subst this
   cases r1 with
   |dt hr r =>
    generalize hk:ns.map D.int=kk at r2
    cases r2 with
    |tup hb rb =>
     subst hk;have:=rb.vint;subst this;refine{_,_,rfl,.inr {_,ns.map CZ,_,s.rd hr,rfl,?_,rfl},r.get ns};rw[DR];exact s _ _ hb
    |@tupK a xs hb nb =>
     cases xs with
     |nil=>exact absurd rfl nb
     |cons x xs =>
      cases ns with
      |nil=>cases hk
      |cons n ns=>cases hk
  |_=>cases h
 |_=>cases h
end
def PK(x y:D):Out D:=match y with
 |.lst ds=>match pAH ds,x.py with
  |some ps,AA p=>if p.depth<=60 then .ok (.bl (ps.any λd=>D0 d p)) else .bad
  |_,_=>.bad
 |.tup ds=>match pAH ds,x.py with
  |some ps,AA p=>if p.depth<=60 then .ok (.bl (ps.any λd=>D0 d p)) else .bad
  |_,_=>.bad
 |y=>match kU y x with
  |some o=>.ok (.bl o.isSome)
  |none=>.bad
def T3(x y:D):Out D:=(PK x y).bind λd=>match d with|.bl b=>.ok (.bl (!b))|_=>.bad
section
variable{K:AD}{a b:DA}{ga gb ge:G}
def rO(dO:Bool):R2:=λx y H Q=>∃a o,y=.ref a/\iP H a x o/\Q (.bl (if dO then !o.isSome else o.isSome)) H
theorem Ta(hu:X.A.units+64<GB):OpR X (EZ .In) (rO AC):=λAG s σ H x y v u Q I rx ry h=>by
 obtain⟨a,o,rfl,g,q⟩:=h;cases ry;exact yIM 'l' I g rx λs3 I3=>{.bl _,H,I3,rfl,q}
theorem zMH(hu:X.A.units+64<GB):OpR X (EZ .NotIn) (rO AK):=λAG s σ H x y v u Q I rx ry h=>by
 obtain⟨a,o,rfl,g,q⟩:=h;cases ry;exact zYW 'l' I g rx λs3 I3=>{.bl _,H,I3,rfl,q}
theorem Qo(dO:Bool){f:D->D->Out D}(hf:∀x y d,f x y=.ok d->∃b,PK x y=.ok (.bl b)/\d=.bl (if dO then !b else b)):UX K (λx y H Q=>rT K dO x y H Q\/rO dO x y H Q) f:=λv u x y F H d Q s r1 r2 h k=>by
 obtain⟨b,hi,rfl⟩:=hf x y d h
 have Zd:∀ds p (sq:SqL K H p ds\/SqT K H p ds) (xs:List D),Reps K F ds xs->u=.ref p->(match pAH xs,x.py with
   |some ps,AA p=>if p.depth<=60 then Out.ok (D.bl (ps.any λd=>D0 d p)) else .bad
   |_,_=>.bad)=.ok (.bl b)->rT K dO v u H Q:=λds p sq xs rr eu hh=>by
  split at hh
  .rename_i ps q e1 e2
   split at hh
   .rename_i hd
    cases hh;exact{p,ds,ps,q,eu,sq,rr.dv s _ e1,r1.dv s _ e2,hd,k _ F H (.refl s) (.bl _)}
   .cases hh
  .cases hh
 have Nz:(match kU y x with|some o=>Out.ok (D.bl o.isSome)|none=>.bad)=.ok (.bl b)->rO dO v u H Q:=λhh=>by
  split at hh
  .rename_i o eo
   cases hh;obtain⟨a,ov,rfl,g,ro⟩:=pAI s r2 r1 eo;refine{a,ov,rfl,g,?_};rw[ro.isSome];exact k _ F H (.refl s) (.bl _)
  .cases hh
 cases y with
 |lst ds =>
  obtain⟨p,vs,rfl,hr,rr⟩:=r2.isRefL;exact .inl (Zd vs p (.inl (hr.imp s.rd id)) ds rr rfl hi)
 |tup ds =>
  obtain⟨p,vs,rfl,rr,sq⟩:=r2.tupSq;exact .inl (Zd vs p (.inr (sq F H (.refl _) s)) ds rr rfl hi)
 |_=>exact .inr (Nz hi)
theorem Os{x y d:D}(h:PK x y=.ok d):∃b,d=.bl b:=by
 unfold PK at h;split at h
 .split at h
  .split at h
   .cases h;exact{_,rfl}
   .cases h
  .cases h
 .split at h
  .split at h
   .cases h;exact{_,rfl}
   .cases h
  .cases h
 .split at h
  .cases h;exact{_,rfl}
  .cases h
theorem Oq:UX K (λx y H Q=>rT K AC x y H Q\/rO AC x y H Q) PK:=Qo AC λx y d h=>by
 obtain⟨b,rfl⟩:=Os h;exact{b,h,rfl}
theorem zSR:UX K (λx y H Q=>rT K AK x y H Q\/rO AK x y H Q) T3:=Qo AK λx y d h=>by
 obtain⟨d',h1,h2⟩:=pA3 h;obtain⟨b,rfl⟩:=Os h1;cases h2;exact{b,h1,rfl}
theorem yC(hu:X.A.units+64<GB)(ha:VE X a ga)(hb:VE X b gb)(hm:D4 .In b=AC:=by with_unfolding_all rfl):VT X (.Compare a [.In] [b] pos) (gB (g2 PK ga gb)):=iX ((Ow hu).or (Ta hu)) Oq ha hb hm
theorem yIU(hu:X.A.units+64<GB)(ha:VE X a ga)(hb:VE X b gb)(hm:D4 .In b=AC:=by with_unfolding_all rfl):VE X (.Compare a [.In] [b] pos) (g2 PK ga gb):=Xu ((Ow hu).or (Ta hu)) Oq ha hb hm
theorem t8(hu:X.A.units+64<GB)(ha:VE X a ga)(hb:VE X b gb)(hm:D4 .NotIn b=AC:=by with_unfolding_all rfl):VT X (.Compare a [.NotIn] [b] pos) (gB (g2 T3 ga gb)):=iX ((zR7 hu).or (zMH hu)) zSR ha hb hm
noncomputable def rN(x y:D):Out D:=match y with
 |.non=>match x with
  |.non=>.ok (.bl AK)
  |_=>.ok (.bl AC)
 |_=>.bad
noncomputable def sV(x y:D):Out D:=match y with
 |.non=>match x with
  |.non=>.ok (.bl AC)
  |_=>.ok (.bl AK)
 |_=>.bad
theorem Rep.nonV{x:D}(r:Rep K F v x):v=.non↔x=.non:=by
 constructor
 .intro e;subst e;cases r;rfl
 .intro e;subst e;cases r;rfl
theorem yDM{x y d:D}(h:rN x y=.ok d):y=.non/\d=.bl (open Classical in decide (x=.non)):=by
 cases y with
 |non=>cases x<;>(injection h with h;exact{rfl,by rw[<-h];simp})
 |_=>cases h
theorem zZH{x y d:D}(h:sV x y=.ok d):y=.non/\d=.bl (!(open Classical in decide (x=.non))):=by
 cases y with
 |non=>cases x<;>(injection h with h;exact{rfl,by rw[<-h];simp})
 |_=>cases h
theorem zZI:UX K (λx y H Q=>y=.non/\Q (.bl (decide (x=.non))) H) rN:=λv u x y F H d Q s r1 r2 hf k=>by
 have h:=yDM hf;refine{r2.nonV.mpr h.1,k _ F H (.refl s) ?_};rw[h.2,decide_eq_decide.mpr r1.nonV];exact .bl _
theorem zVR:UX K (λx y H Q=>y=.non/\Q (.bl (!decide (x=.non))) H) sV:=λv u x y F H d Q s r1 r2 hf k=>by
 have h:=zZH hf;refine{r2.nonV.mpr h.1,k _ F H (.refl s) ?_};rw[h.2,decide_eq_decide.mpr r1.nonV];exact .bl _
theorem yDN(ha:VE X a ga)(hb:VE X b gb)(hm:D4 .Is b=AC:=by with_unfolding_all rfl):VT X (.Compare a [.Is] [b] pos) (gB (g2 rN ga gb)):=iX yCH zZI ha hb hm
theorem zZJ(ha:VE X a ga)(hb:VE X b gb)(hm:D4 .IsNot b=AC:=by with_unfolding_all rfl):VT X (.Compare a [.IsNot] [b] pos) (gB (g2 sV ga gb)):=iX zYK zVR ha hb hm
def bP(x y:D):Out D:=match x,y with
 |.int i,.int j=>.ok (.bl (decide (i<j)))
 |.tup xs,.tup ys=>match QW xs,QW ys with
  |some ns,AA ms=>.ok (.bl (HT.lexLt ns ms))
  |_,_=>.bad
 |_,_=>.bad
theorem Rep.intsT{ds:List D}(s:Sub F H)(r:Rep K F v (.tup ds))(h:QW ds=AA ns):∃a,v=.ref a/\SqT K H a (ns.map V.int):=by
 have:=nV h;subst this;obtain⟨a,vs,rfl,rr,sq⟩:=r.tupSq;have:=rr.vint;subst this;exact{a,rfl,sq F H (.refl _) s}
theorem yDO:UX K (λx y H Q=>dB (λi j=>.bl (decide (i<j))) x y H Q\/Wi K x y H Q) bP:=λv u x y F H d Q s r1 r2 hf k=>by
 unfold bP at hf;split at hf
 .cases hf;obtain rfl:=r1.vI;obtain rfl:=r2.vI
  exact .inl {_,_,rfl,rfl,k _ F H (.refl s) (.bl _)}
 .split at hf
  .rename_i e1 e2
   cases hf;obtain⟨a,rfl,h1⟩:=r1.intsT s e1;obtain⟨b,rfl,h2⟩:=r2.intsT s e2;exact .inr {a,b,_,_,rfl,rfl,h1,h2,k _ F H (.refl s) (.bl _)}
  .cases hf
 .cases hf
noncomputable def Ap(p:Int->Int->Bool)(x y:D):Out D:=match x,y with
 |.int i,.int j=>.ok (.bl (p i j))
 |_,_=>.bad
theorem Qn(p:Int->Int->Bool):UX K (dB λi j=>.bl (p i j)) (Ap p):=λv u x y F H d Q s r1 r2 hf k=>by
 unfold Ap at hf;split at hf
 .cases hf;obtain rfl:=r1.vI;obtain rfl:=r2.vI
  exact{_,_,rfl,rfl,k _ F H (.refl s) (.bl _)}
 .cases hf
abbrev jB:=Ap λi j=>decide (j<i)
abbrev Ip:=Ap λi j=>decide (j<=i)
theorem Cu(hu:X.A.units+64<GB)(ha:VE X a ga)(hb:VE X b gb)(hm:D4 .Lt b=AC:=by with_unfolding_all rfl):VT X (.Compare a [.Lt] [b] pos) (gB (g2 bP ga gb)):=iX (uO.or (yCO (AR (A6 _ _) hu))) yDO ha hb hm
theorem Ct(ha:VE X a ga)(hb:VE X b gb)(hm:D4 .Gt b=AC:=by with_unfolding_all rfl):VT X (.Compare a [.Gt] [b] pos) (gB (g2 jB ga gb)):=iX yF0 (Qn _) ha hb hm
theorem yGI(ha:VE X a ga)(hb:VE X b gb)(hm:D4 .GtE b=AC:=by with_unfolding_all rfl):VT X (.Compare a [.GtE] [b] pos) (gB (g2 Ip ga gb)):=iX yF1 (Qn _) ha hb hm
end
theorem zE{t:AT}(x:h.IsListIter it t i)(k:∀o,h.get? it=AA o->h'.get? it=AA o):h'.IsListIter it t i:=let ⟨o,e,r⟩:=x;{o,k o e,r}
theorem zD{t:AT}(k:h.IsListIter t l i)(hs:DS a h h')(ne:t≠a):h'.IsListIter t l i:=zE k λo e=>hs.extBut _ _ ne e
theorem pAJ(I:Inv X AG σ H s)(hf:∀b∈fp,FpOk X AG H b)(h:SqL X.K H a xs):a∉fp:=λz=>by
 obtain⟨f0,f1,f2,f3,f4,f5⟩:=hf a z;rcases h with h|⟨o,CK,n,hk,_⟩
 .rcases h with h|⟨o,h⟩
  .rw[f0] at h;cases h
  .rw[f0] at h;cases h
 .have hb:=I.ok.mod.kin a o hk
  rcases f3 with f3|f3
  .exact I.ok.noex a o hb f3
  .exact absurd (AN (A5 hb) I.ok.bsz) (WD.mpr f3)
structure EnStL(h:D7)(n l:AT)(i:Nat):Prop where
 eo:∃f0 f1 HM,fT h n f0 f1 i HM/\F0 f0
 k1:h.IsListIter n l i
theorem EnStL.keep{n:AT}(z:EnStL h n l i)(k:∀b∈[n,n+1],∀o,h.get? b=AA o->h'.get? b=AA o):EnStL h' n l i:=by
 obtain⟨f0,f1,HM,e,r⟩:=z.eo;exact{{f0,f1,HM,k _ 's' _ e,r},zE z.k1 (k _ 's')}
theorem zVS{n:AT}{xs:Array AJ}{x:AJ}{Q:Option AJ->AS->Prop}(z:EnStL s.heap n l i)(o1:l≠n)(o2:l≠n+1)(hl:s.heap.IsList l xs)(hx:xs[i]?=AA x)
  (hQ:∀h' t,EnStL h' n l (i+1)->KR h' s.heap.objs.size (.int i t) x->h'.objs.size=s.heap.objs.size+1->(∀b o,b≠n->b≠n+1->s.heap.get? b=AA o->h'.get? b=AA o)->Q (AA (.ref s.heap.objs.size)) { s with heap:=h',toks:=s.toks+1 }) :
  A1 (A4 prog w) A (J8 (.ref (n+1))) Q E s:=by
 obtain⟨f0,f1,HM,he,hf⟩:=z.eo;have k1:=z.k1;have hT:s.TypeIs (.ref (n+1)) "enumerate":={_,he,rfl};have aQ:n≠n+1:=gH 'd';unfold J8;refine AB (GQ (C9 (name:=EX "__next__") hT F7 (CY F7 hT RN ?_ (Q7 _))));show A1 _ _ (R1 (.ref (n+1)) 2 >>= _) _ _ _;refine AB (DC he rfl (x:=.ref n) rfl ?_);refine AB (wpAny_nextOf_list_item k1 hl hx λJN Kt E4=>?_);have pU:fT JN n f0 f1 i HM:=E4.extBut _ _ aQ.symm he;show A1 _ _ (R1 (.ref (n+1)) 3 >>= _) _ _ _;refine AB (DC pU rfl (x:=E7 i) rfl ?_);show A1 _ _ (R1 (.ref (n+1)) 4 >>= _) _ _ _;refine AB (DC pU rfl (x:=.none) rfl ?_);show A1 _ _ (mkInt i >>= _) _ _ _;refine AB (j3 ?_);show A1 _ _ (OK (.ref (n+1)) 3 (E7 ((i:Int)+1)) >>= _) _ _ _;refine AB (CW pU 's' λML pT PL=>?_);replace pT:fT ML n f0 f1 ((i:Int)+1) HM:=pT;replace PL:DS (n+1) JN ML:=PL;show A1 _ _ (OK (.ref (n+1)) 4 .none >>= _) _ _ _;refine AB (CW pT 's' λOX pS VQ=>?_);replace pS:fT OX n f0 f1 ((i:Int)+1) HM:=pS;replace VQ:DS (n+1) ML OX:=VQ;refine AB (M3 (items:=[.int i s.toks,x]) ?_);have hsz:OX.objs.size=s.heap.objs.size:=by rw[VQ.1,PL.1,E4.1]
 have xM:fT (OX.push { cls:=.type "tuple",data:=.seq #[.int i s.toks,x] }) n f0 f1 ((i:Int)+1) HM:=AF _ pS;have vP:KR (OX.push { cls:=.type "tuple",data:=.seq #[.int i s.toks,x] }) s.heap.objs.size (.int i s.toks) x:=by rw[<-hsz];exact AV _ rfl
 have oG:(OX.push { cls:=.type "tuple",data:=.seq #[.int i s.toks,x] }).objs.size=s.heap.objs.size+1:=by rw[FI,hsz]
 have vM:∀b o,b≠n->b≠n+1->s.heap.get? b=AA o->(OX.push { cls:=.type "tuple",data:=.seq #[.int i s.toks,x] }).get? b=AA o:=λb o b1 b2 e=>AF _ (VQ.extBut b o b2 (PL.extBut b o b2 (E4.extBut b o b1 e)));have wD:(OX.push { cls:=.type "tuple",data:=.seq #[.int i s.toks,x] }).IsListIter n l (i+1):=zE (zD (zD Kt PL aQ) VQ aQ) λo e=>AF _ e;show A1 _ _ (C1 (.ref (n+1)) >>= _) _ _ { s with heap:=OX.push { cls:=.type "tuple",data:=.seq #[.int i s.toks,x] },toks:=s.toks+1 };have ND:n+1<s.heap.objs.size:=A5 he;rw[show(DP OX.objs.size)=DP s.heap.objs.size by rw[hsz]];generalize OX.push { cls:=.type "tuple",data:=.seq #[.int i s.toks,x] }=NZ at xM vP oG vM wD ⊢;refine AB (zSA (s:={ s with heap:=NZ,toks:=s.toks+1 }) xM hf λb LA g1 pR YJ=>?_);replace YJ:DS (n+1) NZ LA:=YJ;have wC:=zD wD YJ aQ;have vO:KR LA s.heap.objs.size (.int i s.toks) x:=YJ.extBut _ _ (EY ND) vP;have vL:∀b o,b≠n->b≠n+1->s.heap.get? b=AA o->LA.get? b=AA o:=λb o b1 b2 e=>YJ.extBut b o b2 (vM b o b1 b2 e)
 cases b with
 |false =>
  simp only[EA,if_false];exact wpAny_pure {_,rfl,wpAny_pure (hQ LA _ {{_,_,_,pR,hf},wC} vO (YJ.1.trans oG) vL)}
 |true =>
  simp only[if_true];refine AB (FC ?_);refine AB (DC pR rfl (x:=HM) rfl ?_);refine AB (CW pR 's' λoT pQ jI=>?_);replace pQ:fT oT n f0 g1 ((i:Int)+1) x:=pQ;replace jI:DS (n+1) LA oT:=jI;refine AB ?_;unfold HN;refine AB (CW pQ 's' λdU pP jH=>?_);replace pP:fT dU n (E7 s.heap.objs.size) g1 ((i:Int)+1) x:=pP;replace jH:DS (n+1) oT dU:=jH;refine CW pP 's' λSQ pO jG=>?_;replace pO:fT SQ n (E7 s.heap.objs.size) AC ((i:Int)+1) x:=pO;replace jG:DS (n+1) dU SQ:=jG;have up:∀b o,b≠n+1->LA.get? b=AA o->SQ.get? b=AA o:=λb o hb e=>jG.extBut b o hb (jH.extBut b o hb (jI.extBut b o hb e));exact AB (QO (wpAny_pure {_,rfl,wpAny_pure (hQ SQ _ {{_,_,_,pO,.inr {_,rfl}},zE wC λo e=>up _ o aQ e} (up _ _ (EY ND) vO) (jG.1.trans (jH.1.trans (jI.1.trans (YJ.1.trans oG)))) λb o b1 b2 e=>up b o b2 (vL b o b1 b2 e))}))
theorem zZM{n:AT}{xs:Array AJ}{Q:Option AJ->AS->Prop}(hh:A.handled=AL)(z:EnStL s.heap n l i)(hl:s.heap.IsList l xs)(hx:xs[i]?=AL)
  (hQ:∀h',(∀b o,b≠n->s.heap.get? b=AA o->h'.get? b=AA o)->Q AL { s with heap:=h' }):A1 (A4 prog w) A (J8 (.ref (n+1))) Q E s:=by
 obtain⟨f0,f1,HM,he,hf⟩:=z.eo;have hT:s.TypeIs (.ref (n+1)) "enumerate":={_,he,rfl};unfold J8;refine AB (GQ (C9 (name:=EX "__next__") hT F7 (CY F7 hT RN ?_ (Q7 _))));show A1 _ _ (R1 (.ref (n+1)) 2 >>= _) _ _ _;refine AB (DC he rfl (x:=.ref n) rfl ?_);refine AB (wpAny_nextOf_list_end hh z.k1 hl hx λh' e hs Ms=>?_);obtain⟨o,ho,hc⟩:=Ms;exact AB (V6 (T:="StopIteration") (b:=AK) {o,ho,hc} Y0 (wpAny_pure (hQ _ hs)))
theorem yDP{n:AT}{Q:Unit → AS → Prop}(z : EnStL s.heap n l i)(h : ∀ h', EnStL h' n l i → DS (n + 1) s.heap h' → Q () { s with heap := h' }) :
    A1 (A4 prog w) A (FP tg (.ref (n + 1)) u) Q E s := by
  have hz := h s.heap z (lF _ _);obtain ⟨f0, f1, HM, e, hf⟩ := id z.eo;unfold FP
  cases tg <;> first
    | exact wpAny_pure hz
    | (cases u <;> first
        | exact wpAny_pure hz
        | (
          refine AB (YY e ?_);dsimp only;split
          · refine AB (FC ?_)
            show A1 _ _ (OK (.ref (n + 1)) 0 .none) Q E s;exact CW e 's' fun h' oU Q2 => h h' {{.none, f1, HM, oU, .inl rfl}, zD z.k1 Q2 (gH 'd')} Q2
          · exact wpAny_pure hz))
theorem Ry{n:AT}(z:EnStL s.heap n l i)(h:Q (.ref (n+1)) s):A1 (A4 prog w) A (N8 (.ref (n+1))) Q E s:=by
 obtain⟨f0,f1,HM,e,hf⟩:=z.eo;have hT:s.TypeIs (.ref (n+1)) "enumerate":={_,e,rfl};refine NS hT R7 (CY R7 hT PySem.F.entry_enumerate_iter ?_ (PySem.F.args_enumerate_iter_1 _));show A1 _ _ (ret (.ref (n+1))) _ _ s;exact wpAny_pure {_,rfl,"enumerate",_,hT,F7.lookup,h}
noncomputable abbrev Bg(h:D7)(l:AT):D7:=h.push { cls:=.type "list_iterator",data:=.fields #[.ref l,.int 0 0] }
abbrev Iq(h:D7)(l:AT):D7:=(Bg h l).push { cls:=.type "enumerate",data:=.fields #[.none,.bool AC,.ref h.objs.size,E7 0,.none,.none] }
theorem zQF(l:AT)(xs:Array AJ) :
  Meets (EF.«enumerate.__new__» {[.type "enumerate",.ref l],[]}) (λ_ R s=>s.heap.IsList l xs/\R (.ok (.ret (.ref (Bg s.heap l).objs.size))) { s with heap:=Iq s.heap l }) :=
 .of_wp λprog w A R s h=>by
  obtain⟨hp,g,d,tk,os⟩:=s;obtain⟨hl,h⟩:=h;have jO:=sub_enumerate;have hL:Heap.IsList (X3 {hp,g,d,tk,os}) l xs:=hl
  wp_walk
  refine wpAny_stack_any λst=>wpAny_pure ?_;split
  .rename_i c _ _ _ _ _
   cases(c==UJ "enumerate")
   .wp_walk using HD hL
    exact{_,rfl,h}
   .wp_walk using HD hL
    exact{_,rfl,h}
  .wp_walk using HD hL
   exact{_,rfl,h}
theorem zSU{xs:Array AJ}(hl:s.heap.IsList l xs)
  (h:∀h',EnStL h' s.heap.objs.size l 0->(∀b o,s.heap.get? b=AA o->h'.get? b=AA o)->Q (.ref (s.heap.objs.size+1)) { s with heap:=h' }) :
  A1 (A4 prog w) A (call (.type "enumerate") [.ref l]) Q E s:=by
 refine callType_new PySem.F.called_enumerate 'd' (PySem.F.typeCall_enumerate_1 _) (PySem.F.newCall_enumerate_1 _) (λobj=>PySem.F.args_object_init_2 obj _) PySem.F.entry_enumerate_new (zQF l xs) {hl,?_};have z1:(Bg s.heap l).objs.size=s.heap.objs.size+1:=FI ..;have g2:(Iq s.heap l).get? (Bg s.heap l).objs.size=AA _:=AV _ rfl;have g1:(Iq s.heap l).get? s.heap.objs.size=AA _:=AF _ (AV _ rfl);show _/\_;rw[z1] at g2;rw[z1];exact{{_,g2,rfl},h _ {{.none,AC,.none,g2,.inl rfl},{_,g1,rfl,rfl}} λb o e=>AF _ (AF _ e)}
def Vr(K:AD)(a:AT):It :=
 {λi H=>∃xs x,SqL K H a xs/\xs[i]?=AA x,λi H v H'=>∃p x,v=.ref p/\H p=AL/\H'=D3 H p (.tup [.int i,x])/\∀xs,SqL K H a xs->xs[i]?=AA x,λi H=>∃xs,SqL K H a xs/\xs.length<=i}
theorem zQG{K:AD}(a n:AT):Turn P w K tg (Vr K a) [n,n+1] (n+1) (λi h=>EnStL h n a i) where
 mem:=by simp
 obj:=λi h st c hc=>by
  obtain⟨f0,f1,HM,e,_⟩:=st.eo;obtain⟨o0,e0,_,d0⟩:=st.k1;simp only[A7,BZ,or_false] at hc;rcases hc with rfl|rfl
  .exact{_,e0,λv z=>by rw[d0] at z;cases z}
  .exact{_,e,λv z=>by have z':TH _=SD v:=z;cases z'}
 keep:=λi h h' st k=>st.keep k
 item:=by
  intro X hP hw hK hc i AG s σ H E I hf st hg;subst hP hw hK;obtain⟨xs,x,hq,hx⟩:=hg;obtain⟨CK,rv,p,hz⟩:=I.list hq;obtain⟨u,hu,ru⟩:=rv.get hx;have Kh:=pAJ I hf hq;simp only[A7,BZ,or_false,not_or] at Kh;refine zVS st Kh.1 Kh.2 (show s.heap.IsList a CK.toArray from p.isList) (x:=u) (by simpa using hu) λh' t CT hp hsz hk=>?_;refine{_,rfl,yDP (s:={ s with heap:=h',toks:=s.toks+1 }) CT λh2 st2 MZ=>?_};obtain⟨f0,f1,HM,e4,_⟩:=id st.eo;have KZ:∀c∈[n,n+1],c<s.heap.objs.size:=λc hc=>lt2 hc (A5 e4)
  have I1:Inv X AG σ (D3 H s.heap.objs.size (.tup [.int i,x])) { s with heap:=s.heap.push { cls:=.type "tuple",data:=.seq #[.int i t,u] } } :=
   I.laid (t':=s.toks) (λb u e=>AF _ e) (AM _) {by show 2<=sizeLine;decide,[.int i t,u],.cons {t,rfl} (.cons ru .nil),{_,AV _ rfl,rfl,rfl,0,rfl}}
  have xB:∀c∈[n,n+1],FpOk X AG (D3 H s.heap.objs.size (.tup [.int i,x])) c:=λc hc=>{by rw[FH (BM (KZ c hc))];exact(hf c hc).1,(hf c hc).2}
  have I2:Inv X AG σ (D3 H s.heap.objs.size (.tup [.int i,x])) { s with heap:=h2,toks:=s.toks+1 }:=I1.turnedL (t':=s.toks+1) xB λc o hc e=>by
   simp only[A7,BZ,or_false,not_or] at hc;refine MZ.extBut _ _ hc.2 ?_
   by_cases ZX:c=s.heap.objs.size
   .subst ZX
    rw[AV _ rfl] at e;cases e;exact hp
   .have e':s.heap.get? c=AA o:=by
     rw[MT _ _ _ ZX] at e;exact e
    exact hk c o hc.1 hc.2 e'
  exact{.ref s.heap.objs.size,_,I2,rfl,{_,x,rfl,I.fresh,rfl,λzs hz=>by rw[I.list_inj hz hq];exact hx},st2,λc hc=>(xB c hc).1}
 done:=by
  intro X hP hw hK hc i AG s σ H E I hf st hg;subst hP hw hK;obtain⟨xs,hq,hx⟩:=hg;obtain⟨CK,rv,p,hz⟩:=I.list hq;have hl:=rv.length;refine zZM (I.ok.hd hc) st (show s.heap.IsList a CK.toArray from p.isList) (by simp;lia) λh' hk=>{rfl,I.turnedL (t':=s.toks) hf λc o hc e=>?_};simp only[A7,BZ,or_false,not_or] at hc;exact hk c o hc.1 e
 self:=λ_ _ _ _ _ st h=>Ry st h
def yDQ(K:AD)(ta:TA):TI:=λσ H R=>ta σ H λvs H1=>∃a,vs=[.ref a]/\(∃xs,SqL K H1 a xs)/\R (Vr K a) H1
theorem zVT{a:DA}{ta:TA}(hg:Gl X "enumerate")(hm:X.mg "enumerate"=AL)(ha:PA X [a] ta)(hs:AO [a] X.env=[(AC,eval a X.env)]:=by rfl):PI X tg (.Call (.Name "enumerate" p) [a] [] pos) (yDQ X.K ta):=by
 intro AG s σ H R I h;refine Call_ (lA I hg hm (u:=.type "enumerate") (by decide +kernel) (FS (G4 (ha pos AG s σ H _ I h) λus s1 ⟨vs,H1,I1,r1,q1⟩=>?_) hs rfl));obtain⟨c,e,⟨xs,X2⟩,q⟩:=q1;subst e
 cases r1 with
 |cons r rr =>
  cases rr
  (first|obtain rfl:=r.vI|obtain rfl:=r.vB|obtain rfl:=r.vS|obtain rfl:=r.vN|cases r)
  obtain⟨YM,vG,p1,sI⟩:=I1.list X2;refine zSU (show s1.heap.IsList c YM.toArray from p1.isList) λh' st k=>?_;refine Ry (s:={ s1 with heap:=h' }) st ?_;exact{s1.heap.objs.size+1,[s1.heap.objs.size,s1.heap.objs.size+1],_,_,H1,rfl,I1.kept (t':=s1.toks) k,zQG c _,st,λb hb=>I1.fpOk (Yi hb) (I1.hok.fresh (Yi hb)),q}
section
variable{K:AD}{a b:DA}{ga gb gc ge:G}{gs:List G}{id T:String}
def Xj(K:AD):R2:=λx y H Q=>∃l b xs zs,x=.ref l/\y=.ref b/\SqL K H l xs/\SqL K H b zs/\xs.length+zs.length<=sizeLine/\∀p,H p=AL->Q (.ref p) (D3 H p (.lst (xs++zs)))
theorem jA:OpR X (HE .Add) (Xj X.K):=by
 intro AG s σ H x y v u Q I rx ry h;obtain⟨l,b,xs,zs,rfl,rfl,hH,hB,hz,q⟩:=h;cases rx;cases ry;obtain⟨CK,r,pl,z⟩:=I.list hH;obtain⟨LR,r2,pl2,z2⟩:=I.list hB;obtain⟨⟨oc,od,oda,aJ⟩,n,e,e1,e2,e3⟩:=pl;obtain⟨⟨Zk,Zj,oda',Kd⟩,n',e',Ny,Nv,e3'⟩:=pl2;dsimp only at e1 e2 e3 Ny Nv e3';subst e1 e2 e3 Ny Nv e3';have hl:=r.length;have bY:=r2.length;refine UI {_,e,rfl} {_,e',rfl} noFill_list_add seq_list_add F.slot_list_add F.entry_list_add (F.args_list_add_2 _ _) (list_addW l b CK.toArray LR.toArray n n' AL AL aJ Kd (by rw[A3,A3];lia)) {e,e',?_};have ea:CK.toArray++LR.toArray=(CK++LR).toArray:=by simp
 rw[ea];exact{.ref _,_,I.lnew (t':=s.toks) (r.append r2) (by rw[BO];lia),rfl,q _ I.fresh}
def Xi(K:AD):R2:=λx y H Q=>∃a b xs ys,x=.ref a/\y=.ref b/\SqT K H a xs/\SqT K H b ys/\xs.length+ys.length<=sizeLine/\(xs=[]->Q (.ref b) H)/\(ys=[]->Q (.ref a) H)/\∀p,H p=AL->Q (.ref p) (D3 H p (.tup (xs++ys)))
theorem i9:OpR X (HE .Add) (Xi X.K):=by
 intro AG s σ H x y v u Q I rx ry h;obtain⟨a,b,xs,ys,rfl,rfl,ha,hb,hz,q1,q2,q3⟩:=h;cases rx;cases ry;obtain⟨CK,r1,p1,_⟩:=I.tuple ha;obtain⟨LR,r2,p2,_⟩:=I.tuple hb;refine zY9 p1 p2 (λz=>{.ref b,H,I,rfl,q1 (r1.nil_iff.mp z)}) (λ_ z=>{.ref a,H,I,rfl,q2 (r2.nil_iff.mp z)}) (λ_ z=>?_) (by rw[<-r1.length,<-r2.length];exact hz);exact{.ref s.heap.objs.size,_,I.laid (t':=s.toks) (o:=.tup (xs++ys)) (λb ob q=>AF _ q) (AM _) {by rw[BO];exact hz,_,r1.append r2,IsTupP.new _ _},rfl,q3 _ I.fresh}
theorem lL(h:n<10000):n<=sizeLine:=CV (cU h)
def NP(x y:D):Out D:=match x,y with
 |.int i,.int j=>.ok (.int (i+j))
 |.lst xs,.lst ys=>few (xs.length+ys.length) (.ok (.lst (xs++ys)))
 |.tup xs,.tup ys=>few (xs.length+ys.length) (.ok (.tup (xs++ys)))
 |.str s,.str t=>few (s.length+t.length) (.ok (.str (s++t)))
 |_,_=>.bad
abbrev Xh(K:AD):R2:=λx y H Q=>dB (λi j=>.int (i+j)) x y H Q\/Xj K x y H Q\/Xi K x y H Q\/(∃i j,x=.str i/\y=.str j/\i.length+j.length<=sizeLine/\Q (.str (i++j)) H)
theorem zZN:OpR X (HE .Add) (Xh X.K):=oD.or (jA.or (i9.or zP4))
theorem zZO:UX K (Xh K) NP:=λv u x y F H d Q s r1 r2 hf k=>by
 unfold NP at hf;split at hf
 .cases hf;obtain rfl:=r1.vI;obtain rfl:=r2.vI
  exact .inl {_,_,rfl,rfl,k _ F H (.refl s) (.int _)}
 .obtain⟨hl,hf⟩:=W4 hf
  cases hf;obtain⟨a,vs,rfl,h1,h2⟩:=r1.isRefL;obtain⟨b,ws,rfl,h3,h4⟩:=r2.isRefL;refine .inr (.inl {a,b,vs,ws,rfl,rfl,h1.imp s.rd id,h3.imp s.rd id,by rw[h2.length,h4.length];exact lL hl,λq hq=>?_});have n:=New.laid (o:=.lst (vs++ws)) s hq;exact k _ _ _ n (.lst (.inl (.inl HJ)) ((h2.append h4).le n.1.le))
 .obtain⟨hl,hf⟩:=W4 hf
  cases hf;obtain⟨a,vs,rfl,h2,h1⟩:=r1.tupSq;obtain⟨b,ws,rfl,h4,h3⟩:=r2.tupSq;refine .inr (.inr (.inl {a,b,vs,ws,rfl,rfl,h1 F H (.refl _) s,h3 F H (.refl _) s,by rw[h2.length,h4.length];exact lL hl,λz=>?_,λz=>?_,λq hq=>?_}))
  .have:=h2.nil_iff.mp z
   subst this;exact k _ F H (.refl s) r2
  .have:=h4.nil_iff.mp z
   subst this;rw[EL] at k;exact k _ F H (.refl s) r1
  .have n:=New.laid (o:=.tup (vs++ws)) s hq
   exact k _ _ _ n (.tup HJ ((h2.append h4).le n.1.le))
 .obtain⟨hl,hf⟩:=W4 hf
  cases hf;obtain rfl:=r1.vS;obtain rfl:=r2.vS;exact .inr (.inr (.inr {_,_,rfl,rfl,lL hl,k _ F H (.refl s) (.str _)}))
 .cases hf
theorem aA(ha:VE X a ga)(hb:VE X b gb):VE X (.BinOp a .Add b pos) (g2 NP ga gb):=rQ zZN zZO ha hb
noncomputable def fS(x y:D):Out D:=match x,y with
 |.int i,.int j=>.ok (.int (i-j))
 |_,_=>.bad
theorem zZP:UX K (dB λi j=>.int (i-j)) fS:=λv u x y F H d Q s r1 r2 hf k=>by
 unfold fS at hf;split at hf
 .cases hf;obtain rfl:=r1.vI;obtain rfl:=r2.vI
  exact{_,_,rfl,rfl,k _ F H (.refl s) (.int _)}
 .cases hf
theorem yB(ha:VE X a ga)(hb:VE X b gb):VE X (.BinOp a .Sub b pos) (g2 fS ga gb):=rQ yCC zZP ha hb
def guard(c:Prop)[Decidable c](y:Out α):Out α:=if c then y else .bad
theorem i5{c:Prop}[Decidable c]{y:Out α}{z:α}(h:guard c y=.ok z):c/\y=.ok z:=by
 unfold guard at h;split at h
 .exact{by assumption,h}
 .cases h
def qO(i:Int):Prop:=-(2 ^ 64)<i/\i<2 ^ 64
instance (i:Int):Decidable (qO i):=inferInstanceAs (Decidable (_/\_))
def X7(x y:D):Out D:=match x,y with
 |.int i,.int j=>guard (qO i\/qO j) (.ok (.int (i * j)))
 |_,_=>.bad
theorem zZQ:UX K (rI CMul λi j=>.int (i * j)) X7:=λv u x y F H d Q s r1 r2 hf k=>by
 unfold X7 at hf;split at hf
 .obtain⟨hc,hf⟩:=i5 hf
  cases hf;obtain rfl:=r1.vI;obtain rfl:=r2.vI;exact{_,_,rfl,rfl,hc,k _ F H (.refl s) (.int _)}
 .cases hf
theorem yA(ha:VE X a ga)(hb:VE X b gb):VE X (.BinOp a .Mult b pos) (g2 X7 ga gb):=rQ yCD zZQ ha hb
def nI(x y:D):Out D:=match x,y with
 |.int i,.int j=>guard (0<j/\j<2 ^ 200) (.ok (.int (i / j)))
 |_,_=>.bad
def Xg(_ j:Int):Prop:=0<j/\j<2 ^ 200
theorem zVW:OpR X (HE .FloorDiv) (rI Xg λi j=>.int (i / j)):=Bd λi j _ _ _ _ _ hc q=>by
 refine floordiv_int (by have:=hc.1;lia) (by rw[Int.fdiv_eq_ediv_of_nonneg _ (RP hc.1)];exact q) (.inl (PyProof.noPylong_of_log2 ?_));have h1:=hc.1;have h2:=hc.2;refine AN ((Nat.log2_lt 'l').mpr (show j.natAbs<2 ^ 200 by lia)) 'd'
theorem zVX:UX K (rI Xg λi j=>.int (i / j)) nI:=λv u x y F H d Q s r1 r2 hf k=>by
 unfold nI at hf;split at hf
 .obtain⟨hc,hf⟩:=i5 hf
  cases hf;obtain rfl:=r1.vI;obtain rfl:=r2.vI;exact{_,_,rfl,rfl,hc,k _ F H (.refl s) (.int _)}
 .cases hf
theorem Op(ha:VE X a ga)(hb:VE X b gb):VE X (.BinOp a .FloorDiv b pos) (g2 nI ga gb):=rQ zVW zVX ha hb
def UU(x y:D):Out D:=match x,y with
 |.int i,.int j=>guard (0<j) (.ok (.int (i % j)))
 |_,_=>.bad
theorem zZR:UX K (rI (λ_ j=>0<j) λi j=>.int (i % j)) UU:=λv u x y F H d Q s r1 r2 hf k=>by
 unfold UU at hf;split at hf
 .obtain⟨hc,hf⟩:=i5 hf
  cases hf;obtain rfl:=r1.vI;obtain rfl:=r2.vI;exact{_,_,rfl,rfl,hc,k _ F H (.refl s) (.int _)}
 .cases hf
theorem kT(ha:VE X a ga)(hb:VE X b gb):VE X (.BinOp a .Mod b pos) (g2 UU ga gb):=rQ yCE zZR ha hb
def bD(x y:D):Out D:=match x,y with
 |.int i,.int j=>guard (0<=j/\j<=1000000/\i.natAbs<2 ^ 64) (.ok (.int (i ^ j.toNat)))
 |_,_=>.bad
theorem zZS:UX K (rI Wl λi j=>.int (i ^ j.toNat)) bD:=λv u x y F H d Q s r1 r2 hf k=>by
 unfold bD at hf;split at hf
 .obtain⟨hc,hf⟩:=i5 hf
  cases hf;obtain rfl:=r1.vI;obtain rfl:=r2.vI;exact{_,_,rfl,rfl,hc,k _ F H (.refl s) (.int _)}
 .cases hf
theorem xZ(ha:VE X a ga)(hb:VE X b gb):VE X (.BinOp a .Pow b pos) (g2 bD ga gb):=rQ yCF zZS ha hb
noncomputable def uG(x:D):Out D:=match x with
 |.int i=>.ok (.int (-i))
 |_=>.bad
theorem zZT:Iw K (rU λi=>.int (-i)) uG:=λv x F H d Q s r hf k=>by
 unfold uG at hf;split at hf
 .cases hf;obtain rfl:=r.vI
  exact{_,rfl,k _ F H (.refl s) (.int _)}
 .cases hf
theorem yGJ(ha:VE X a ga):VE X (.UnaryOp .USub a pos) (g1 uG ga):=yIQ yCG zZT ha
def iM(x y:D):Out D:=match x,y with
 |.lst xs,.int k=>guard (-(2 ^ 63)<=k/\k<2 ^ 63/\xs.length * k.toNat<10000) (.ok (.lst (BH k.toNat xs).flatten))
 |_,_=>.bad
theorem Xf{gs:List G}(ha:VA X es gs)(hb:VE X b gb):FE X (.BinOp (.List es dP) .Mult b pos) (g2 iM (JF gs) gb):=(yL yCU (qH ha) hb).imp λσ H Q h=>by
 obtain⟨τ,F,E,d,E',S,hg,k⟩:=h;obtain⟨p,ea,hg⟩:=pA3 hg;obtain⟨q,eb,hg⟩:=pA3 hg;obtain⟨z,ef,hg⟩:=pA3 hg;cases hg;obtain⟨p0,ea0,eq⟩:=pA3 ea;obtain⟨hl,eq⟩:=W4 eq;cases eq;refine{τ,F,E,p0.1,p0.2,S,ea0,λvs F1 H1 s1 S1 r1=>{by rw[r1.length];exact lL hl,λl sN=>?_}};have n:=New.laid (o:=.lst vs) S1.sub sN;have S2:=S1.new n;refine{τ,_,p0.2,q.1,q.2,S2,eb,λu F3 H3 s3 S3 r3=>?_};unfold iM at ef;split at ef
 .rename_i xs kk e1 e2
  obtain⟨⟨g1,g2,g3⟩,ef⟩:=i5 ef;cases ef;cases e1;rw[e2] at r3;obtain rfl:=r3.vI;have hv:=r1.length;have rl:Rd F3 l (.lst vs):=s3.le.rd (.inl HJ)
  have hH:H3 l=AA (.lst vs):=by
   rcases rl with z|⟨o,z⟩
   .exact S3.sub _ _ z
   .have:=s3.le l _ (HJ (H:=F1) (o:=.lst vs))
    rcases this with y|⟨y,_⟩|⟨_,_,_,y,_⟩
    .rw[z] at y;cases y
    .exact y.elim
    .cases y
  refine{l,kk,vs,rfl,rfl,hH,g1,g2,by rw[hv];exact lL g3,λq' hq=>?_};have n2:=pA6 (H':=D3 H3 q' (.lst (BH kk.toNat vs).flatten)) S3.sub (Gr.new hq);have st:=((s1.trans (n.stp (ow:=EC σ p0.2))).trans s3).trans (n2.stp (ow:=EC σ q.2));exact k q' _ _ st (S3.new n2) (pAG S3.sub hq) (((s1.trans (n.stp (ow:=EC σ p0.2))).trans s3).dom q' hq) {_,HJ,((r1.le n.1.le).le s3.le).rep kk.toNat} (S3.fresh hq)
 .cases ef
theorem Reps.atI{vs:List V}{ds:List D}{i:Int}{d:D}(r:Reps K F vs ds)(h:L2.atI ds i=AA d):∃v,L2.atI vs i=AA v/\Rep K F v d:=by
 unfold L2.atI at h ⊢;rw[r.length]
 cases q:YF ds.length i with
 |none=>rw[q] at h;cases h
 |some j =>
  rw[q] at h;obtain⟨v,h1,h2⟩:=r.get (show ds[j]?=AA d from h);exact{v,h1,h2}
def EG(x y:D):Out D:=match x,y with
 |.lst ds,.int i=>match L2.atI ds i with
  |some d=>.ok d
  |none=>.bad
 |.tup ds,.int i=>match L2.atI ds i with
  |some d=>.ok d
  |none=>.bad
 |.str z,.int i=>few z.length (match L2.atI z.cps.toList i with
  |some c=>.ok (.str {#[c]})
  |none=>.bad)
 |x,y=>match kU x y with
  |some (AA d)=>.ok d
  |_=>.bad
def Et:R2:=λx y H Q=>∃a v,x=.ref a/\iP H a y (AA v)/\Q v H
theorem zZU(hu:X.A.units+64<GB):IxR X Et:=by
 intro J0 PP AG s σ H x y v u Q I rx ry h hs;obtain⟨a,w,rfl,g,q⟩:=h;cases rx;refine tail_any (zNL I g) PySem.F.slot_dict_getitem.lookup (zRS (A:=X.A) 'l' I g ry λw' s3 I3 LQ=>{w,H,I3,LQ,q}) hs
theorem yDX:UX K (λx y H Q=>Yb K x y H Q\/Et x y H Q) EG:=λv u x y F H d Q s r1 r2 hf k=>by
 have Nz:(match kU x y with|some (AA d)=>Out.ok d|_=>.bad)=.ok d->Et v u H Q:=λhh=>by
  split at hh
  .rename_i d' eo
   cases hh;obtain⟨a,ov,rfl,g,ro⟩:=pAI s r1 r2 eo;obtain⟨w,rfl,LQ⟩:=ro.some_of;exact{a,w,rfl,g,k _ F H (.refl s) LQ}
  .cases hh
 unfold EG at hf;split at hf
 .split at hf
  .rename_i d' e
   cases hf;obtain⟨a,vs,rfl,h1,h2⟩:=r1.isRefL;obtain⟨w,h3,h4⟩:=h2.atI e;obtain rfl:=r2.vI;exact .inl (.inl {a,vs,_,w,rfl,rfl,h1.imp s.rd id,h3,k _ F H (.refl s) h4})
  .cases hf
 .split at hf
  .rename_i d' e
   cases hf;obtain⟨a,vs,rfl,h2,h1⟩:=r1.tupSq;obtain⟨w,h3,h4⟩:=h2.atI e;obtain rfl:=r2.vI;exact .inl (.inr (.inl {a,vs,_,w,rfl,rfl,h1 F H (.refl _) s,h3,k _ F H (.refl s) h4}))
  .cases hf
 .obtain⟨hl,hf⟩:=W4 hf
  split at hf
  .rename_i c e
   cases hf;obtain rfl:=r1.vS;obtain rfl:=r2.vI;exact .inl (.inr (.inr {_,_,c,rfl,rfl,lL hl,e,k _ F H (.refl s) (.str _)}))
  .cases hf
 .exact .inr (Nz hf)
theorem K8(hu:X.A.units+64<GB)(ha:VE X a ga)(hb:VE X b gb)(hs:Qx b:=by intro _ _;rfl):VE X (.Subscript a b pos) (g2 EG ga gb):=(Xt (oF.or (zZU hu)) ha hb hs).imp λ_ _ _ h=>yG yDX h
noncomputable def YA(xs:List α)(lo hi:Option Int):List α:=(xs.drop (HT.sIx xs.length 0 lo)).take (HT.sIx xs.length xs.length hi-HT.sIx xs.length 0 lo)
theorem Reps.cut{ds:List D}(r:Reps K F vs ds)(lo hi:Option Int):Reps K F (ZH vs lo hi) (YA ds lo hi):=by
 unfold ZH YA;rw[r.length];exact(r.drop _).take _
def yIV(K:AD):V->Option Int->Option Int->Hp->VK->Prop:=λx lo hi H Q=>∃a xs,x=.ref a/\SqT K H a xs/\(ZH xs lo hi=xs->Q (.ref a) H)/\∀p,H p=AL->Q (.ref p) (D3 H p (.tup (ZH xs lo hi)))
theorem i7:SlR X (yIV X.K):=by
 intro AG s σ H x v vl vu lo hi sl Q I rx hs pl pu h;obtain⟨a,xs,rfl,hx,q1,q2⟩:=h
 by_cases hw:HT.sIx xs.length 0 lo=0/\HT.sIx xs.length xs.length hi=xs.length
 .cases rx
  obtain⟨CK,r,ht,hz⟩:=I.tuple hx;have E6:CK.toArray.size=xs.length:=by rw[A3];exact r.length.symm
  refine{"tuple",_,ED.lookup,ht.typeIs,?_};exact zE9 ht hs pl pu (by rw[E6];exact hw) {.ref a,H,I,rfl,q1 (zR8 hw)}
 .exact yCN AG s σ H (.ref a) v vl vu lo hi sl Q I rx hs pl pu {a,xs,rfl,hx,hw,q2}
def Cs:Option G->Ev->Out (Option Int×Ev)
 |none,E=>.ok (AL,E)
 |some g,E=>(g E).bind λp=>match p.1 with|.int i=>.ok (AA i,p.2)|_=>.bad
def tPt(K:AD)(H₀:Hp)(g:Option G):TO:=λσ H Q=>∃τ F E o E',Sim K H₀ τ F H σ E/\Cs g E=.ok (o,E')/\∀F' H',Stp (EC σ E) F H F' H' (EC σ E')->Sim K H₀ τ F' H' σ E'->Q o H'
theorem PO.imp{oe:Option DA}{t t':TO}(h:PO X oe t)(hi:∀σ H Q,t' σ H Q->t σ H Q):PO X oe t':=λAG s σ H Q I q=>h AG s σ H Q I (hi σ H Q q)
abbrev VO(X:Cx)(oe:Option DA)(g:Option G):Prop:=PO X oe (tPt X.K X.H₀ g)
theorem zZW:VO X AL AL:=i8.imp λσ H Q h=>by
 obtain⟨τ,F,E,o,E',S,hg,k⟩:=h;cases hg;exact k F H .refl S
theorem Es(h:VE X e ge):VO X (AA e) (AA ge):=(zYR h).imp λσ H Q h=>by
 obtain⟨τ,F,E,o,E',S,hg,k⟩:=h;obtain⟨p,ea,hg⟩:=pA3 hg;refine{τ,F,E,p.1,p.2,S,ea,λv F1 H1 s1 S1 r1=>?_};split at hg
 .rename_i i ei
  cases hg;rw[ei] at r1;obtain rfl:=r1.vI;exact{i,rfl,k F1 H1 s1 S1}
 .cases hg
def Vq(x:D)(lo hi:Option Int):Out D:=match x with
 |.tup ds=>.ok (.tup (YA ds lo hi))
 |.lst ds=>.ok (.lst (YA ds lo hi))
 |_=>.bad
def k7(g:G)(lo hi:Option G):G:=λE=>(g E).bind λp=>(Cs lo p.2).bind λq=>(Cs hi q.2).bind λr=>(Vq p.1 q.1 r.1).bind λd=>.ok (d,r.2)
theorem Qm{lo hi:Option DA}{gl gh:Option G}(he:VE X e ge)(hl:VO X lo gl)(hh:VO X hi gh):VE X (.Subscript e (.Slice lo hi AL p2) pos) (k7 ge gl gh):=(zUW (i7.or zYS) he hl hh).imp λσ H Q h=>by
 obtain⟨τ,F,E,d,E',S,hg,k⟩:=h;obtain⟨p,e1,hg⟩:=pA3 hg;obtain⟨q,e2,hg⟩:=pA3 hg;obtain⟨r,e3,hg⟩:=pA3 hg;obtain⟨z,e4,hg⟩:=pA3 hg;cases hg;refine{τ,F,E,p.1,p.2,S,e1,λv F1 H1 s1 S1 r1=>{τ,F1,p.2,q.1,q.2,S1,e2,λF2 H2 s2 S2=>{τ,F2,q.2,r.1,r.2,S2,e3,λF3 H3 s3 S3=>?_}}};have vJ:=(r1.le s2.le).le s3.le;have st:=(s1.trans s2).trans s3;unfold Vq at e4;split at e4
 .rename_i ds ed
  cases e4;rw[ed] at vJ;obtain⟨a,vs,rfl,h2,h1⟩:=vJ.tupSq;refine .inl {a,vs,rfl,h1 F3 H3 (.refl _) S3.sub,λz=>k _ F3 H3 st S3 ?_,λq' hq=>?_}
  .have:YA ds q.1 r.1=ds:=by
    have h5:=h2.cut q.1 r.1;rw[z] at h5;have h6:=h5.length;have h7:=h2.length;have h8:(YA ds q.1 r.1).Sublist ds:=(fJ _ _).trans (List.drop_sublist _ _);exact h8.eq_of_length 'l'
   rw[this];exact vJ
  .have n:=New.laid (o:=.tup (ZH vs q.1 r.1)) S3.sub hq
   exact k _ _ _ (st.trans n.stp) (S3.new n) (.tup HJ ((h2.cut q.1 r.1).le n.1.le))
 .rename_i ds ed
  cases e4;rw[ed] at vJ;obtain⟨a,vs,rfl,h1,h2⟩:=vJ.isRefL;refine .inr {a,vs,rfl,h1.imp S3.sub.rd id,λq' hq=>?_};have n:=New.laid (o:=.lst (ZH vs q.1 r.1)) S3.sub hq;exact k _ _ _ (st.trans n.stp) (S3.new n) (.lst (.inl (.inl HJ)) ((h2.cut q.1 r.1).le n.1.le))
 .cases e4
def gN(f:List D->Out D)(gs:List G):G:=λE=>(QE gs E).bind λp=>(f p.1).bind λd=>.ok (d,p.2)
def kR(K:AD)(r:List V->Hp->VK->Prop)(f:List D->Out D):Prop:=∀vs xs F H d Q,Sub F H->Reps K F vs xs->f xs=.ok d->(∀z F' H',New F H F' H'->Rep K F' z d->Q z H')->r vs H Q
def nH(K:AD)(r:List V->Hp->VK->Prop)(f:List D->Out D):Prop:=∀vs xs F H d Q,Sub F H->Reps K F vs xs->f xs=.ok d->(∀a F' H',New F H F' H'->F' a=AL->H a=AL->OwnAt K F' H' a d->Q (.ref a) H')->r vs H Q
theorem Xe{f:List D->Out D}(hs:kR K r f){Q:VK}(h:tV K H₀ (gN f gs) σ H Q):Ba r (i6 K H₀ gs) σ H Q:=by
 obtain⟨τ,F,E,d,E',S,hg,k⟩:=h;obtain⟨p,e1,hg⟩:=pA3 hg;obtain⟨z,e2,hg⟩:=pA3 hg;cases hg;exact{τ,F,E,p.1,p.2,S,e1,λvs F1 H1 s1 S1 r1=>hs vs p.1 F1 H1 d Q S1.sub r1 e2 λz F2 H2 n r2=>k z F2 H2 (s1.trans n.stp) (S1.new n) r2}
theorem Xd{f:List D->Out D}(hs:nH K r f){Q:VK}(h:tF K H₀ (gN f gs) σ H Q):Ba r (i6 K H₀ gs) σ H Q:=by
 obtain⟨τ,F,E,d,E',S,hg,k⟩:=h;obtain⟨p,e1,hg⟩:=pA3 hg;obtain⟨z,e2,hg⟩:=pA3 hg;cases hg;exact{τ,F,E,p.1,p.2,S,e1,λvs F1 H1 s1 S1 r1=>hs vs p.1 F1 H1 d Q S1.sub r1 e2 λa F2 H2 n h1 h2 h3=>k a F2 H2 (s1.trans n.stp) (S1.new n) h1 (s1.dom a h2) h3 (S1.fresh h2)}
theorem yI{f:List D->Out D}(hc:CallR X (.builtin id) r)(hs:kR X.K r f)(hm:X.mg x=AL)(hv:GL x=AA (.builtin id))(ha:VA X (e::es) gs)(hg:Gl X x:=by rfl)(hn:x≠"__name__":=by decide)(V1:(x==("__debug__":C2))=AC:=by decide)
  (he:AO (e::es) X.env=(AC,eval e X.env)::AO es X.env:=by rfl) (J5:(DT pos (AO es X.env)).any (·.1)=AC:=by rfl):VE X (.Call (.Name x p) (e::es) [] pos) (gN f gs):=(zZ hc hg hm hv ha hn V1 he J5).imp λ_ _ _ h=>Xe hs h
theorem Xq{f:List D->Out D}(hc:CallR X (.builtin id) r)(hs:nH X.K r f)(hm:X.mg x=AL)(hv:GL x=AA (.builtin id))(ha:VA X (e::es) gs)(hg:Gl X x:=by rfl)(hn:x≠"__name__":=by decide)(V1:(x==("__debug__":C2))=AC:=by decide)
  (he:AO (e::es) X.env=(AC,eval e X.env)::AO es X.env:=by rfl) (J5:(DT pos (AO es X.env)).any (·.1)=AC:=by rfl):FE X (.Call (.Name x p) (e::es) [] pos) (gN f gs):=(zZ hc hg hm hv ha hn V1 he J5).imp λ_ _ _ h=>Xd hs h
theorem yIW{f:List D->Out D}(hc:CallR X (.type T) r)(hs:kR X.K r f)(hm:X.mg x=AL)(hv:GL x=AA (.type T))(ha:VA X (e::es) gs)(hg:Gl X x:=by rfl)(hn:x≠"__name__":=by decide)(V1:(x==("__debug__":C2))=AC:=by decide)
  (he:AO (e::es) X.env=(AC,eval e X.env)::AO es X.env:=by rfl) (J5:(DT pos (AO es X.env)).any (·.1)=AC:=by rfl):VE X (.Call (.Name x p) (e::es) [] pos) (gN f gs):=(z8 hc hg hm hv ha hn V1 he J5).imp λ_ _ _ h=>Xe hs h
theorem Vp{f:List D->Out D}(hc:CallR X (.type T) r)(hs:nH X.K r f)(hm:X.mg x=AL)(hv:GL x=AA (.type T))(ha:VA X (e::es) gs)(hg:Gl X x:=by rfl)(hn:x≠"__name__":=by decide)(V1:(x==("__debug__":C2))=AC:=by decide)
  (he:AO (e::es) X.env=(AC,eval e X.env)::AO es X.env:=by rfl) (J5:(DT pos (AO es X.env)).any (·.1)=AC:=by rfl):FE X (.Call (.Name x p) (e::es) [] pos) (gN f gs):=(z8 hc hg hm hv ha hn V1 he J5).imp λ_ _ _ h=>Xd hs h
end
def Ik(a b:Int):Bool:=decide (a<=b)
def qA(ns:List Int):List Int:=ns.mergeSort Ik
theorem zQI(ns:List Int):(qA ns).Perm ns:=LK _ _
theorem zV1(ns:List Int):(qA ns).Pairwise (·<=·):=by
 have:=JQ (le:=Ik) (λa b c h1 h2=>decide_eq_true (LW (of_decide_eq_true h1) (of_decide_eq_true h2)))
  (λa b=>by unfold Ik;rcases ZE a b with h|h<;>simp[h]) ns
 exact this.imp λh=>of_decide_eq_true h
theorem zV2{ms:List Int}(p:ms.Perm ns)(h:ms.Pairwise (·<=·)):ms=qA ns :=
 LU (le:=λa b:Int=>decide (a<=b)=AK) (λa b _ _ h1 h2=>mR (of_decide_eq_true h1) (of_decide_eq_true h2)) (h.imp λh=>decide_eq_true h) ((zV1 ns).imp λh=>decide_eq_true h) (p.trans (zQI ns).symm)
def ZP(a b:Int×Int):Bool:=!RE b a
def WI(ps:List (Int×Int)):List (Int×Int):=ps.mergeSort ZP
theorem zC{a b:Int×Int}:ZP a b=AK↔a.1<b.1\/(a.1=b.1/\a.2<=b.2):=by
 unfold ZP RE;simp only[MU,decide_eq_false_iff_not];lia
theorem rB(ps:List (Int×Int)):(WI ps).Perm ps:=LK _ _
theorem Rx(ps:List (Int×Int)):(WI ps).Pairwise (λa b=>ZP a b=AK) :=
 JQ (λa b c h1 h2=>by rw[zC] at *;lia) (λa b=>by
  have:ZP a b=AK\/ZP b a=AK:=by rw[zC,zC];lia
  simpa using this) ps
theorem Rw{ms ns:List (Int×Int)}(p:ms.Perm ns)(h:ms.Pairwise (λa b=>ZP a b=AK)):ms=WI ns :=
 LU (le:=λa b=>ZP a b=AK) (λa b _ _ h1 h2=>by
  rw[zC] at h1 h2
  exact mP 'l' 'l') h (Rx ns) (p.trans (rB ns).symm)
def JS(p:Int×Int):D:=.tup [.int p.1,.int p.2]
noncomputable def lD:List D->Option (List (Int×Int))
 |[]=>AA []
 |.tup [.int a,.int b]::ds=>(lD ds).map ((a,b)::·)
 |_::_=>AL
theorem zQJ:∀{ds:List D} {ps:List (Int×Int)},lD ds=AA ps->ds=ps.map JS:=by
 intro ds
 induction ds with
 |nil=>intro ps h;rw[lD] at h;cases h;rfl
 |cons d ds ih =>
  intro ps h;unfold lD at h;split at h
  .rename_i e;cases e
  .rename_i a b r e
   cases e;obtain⟨q,h1,h2⟩:=BY.mp h;subst h2;rw[ih h1];rfl
  .cases h
theorem Af:∀ps:List (Int×Int),lD (ps.map JS)=AA ps
 |[]=>rfl
 |p::ps=>by
  show(lD (ps.map JS)).map (λr=>(p.1,p.2)::r)=_;rw[Af ps];rfl
section
variable{K:AD}{a b:DA}{ga gb gc ge:G}{gs:List G}
theorem Reps.perm(pm:zs.Perm ys):∀{ds:List D},Reps K F ys ds->∃es,es.Perm ds/\Reps K F zs es:=by
 induction pm with
 |nil=>intro ds r;cases r;exact{[],G2 _,.nil}
 |cons a _ ih =>
  intro ds r
  cases r with
  |cons h t =>
   obtain⟨qs,q,r'⟩:=ih t;exact{_::qs,q.cons _,.cons h r'}
 |swap a b l =>
  intro ds r
  cases r with
  |cons h t =>
   cases t with
   |cons h' t'=>exact{_::_::_,H9 _ _ _,.cons h' (.cons h t')}
 |trans _ _ bT ih2 =>
  intro ds r;obtain⟨qs,q,r'⟩:=ih2 r;obtain⟨us,q',vK⟩:=bT r';exact{us,q'.trans q,vK}
theorem zV3{f:α->β}:∀{l1 l2:List β} (p:l1.Perm l2) (ns:List α),l2=ns.map f->∃ms:List α,l1=ms.map f/\ms.Perm ns:=by
 intro l1 l2 p
 induction p with
 |nil=>intro ns e;cases ns with|nil=>exact{[],rfl,G2 _}|cons _ _=>cases e
 |cons a _ ih =>
  intro ns e
  cases ns with
  |nil=>cases e
  |cons n ns =>
   injection e with e1 e2;obtain⟨ms,h1,h2⟩:=ih ns e2;exact{n::ms,by rw[AU,e1,h1],h2.cons n}
 |swap a b l =>
  intro ns e
  match ns,e with
  |c::d::ns,e =>
   injection e with e1 e2;injection e2 with e2 e3;exact{d::c::ns,by rw[AU,AU,e1,e2,e3],H9 _ _ _}
 |trans _ _ bT ih2 =>
  intro ns e;obtain⟨ms,h1,h2⟩:=ih2 ns e;obtain⟨ks,h3,h4⟩:=bT ms h1;exact{ks,h3,h4.trans h2}
theorem Reps.prs(s:Sub F H):∀{ps:List (Int×Int)} {ys:List V},Reps K F ys (ps.map JS)->Prs H ys ps:=by
 intro ps
 induction ps with
 |nil=>intro ys r;cases r;exact .nil
 |cons p ps ih =>
  intro ys r
  cases r with
  |cons h r =>
  refine .cons ?_ (ih r);have h:Rep K F _ (.tup [.int p.1,.int p.2]):=h;generalize hk:[D.int p.1,.int p.2]=kk at h
  cases h with
  |tup hb rb =>
   subst hk
   cases rb with
   |cons h1 rb =>
    cases rb with
    |cons h2 rb =>
     cases rb;cases h1;cases h2;exact{_,rfl,s _ _ hb}
  |@tupK a xs hb nb =>
   cases xs with
   |nil=>cases hk
   |cons x xs=>cases hk
theorem zZX(s:Sub F H)(hp:Prs H ys ps):Prs H ys qs->ps=qs:=by
 induction hp generalizing qs with
 |nil=>intro h;cases h;rfl
 |cons r t1 ih =>
  intro h
  cases h with
  |cons r2 t2 =>
   obtain⟨a,e1,h1⟩:=r;obtain⟨b,e2,h2⟩:=r2;rw[e1] at e2;cases e2;rw[h1] at h2;simp only[WZ,HO.tup.injEq,Z4,V.int.injEq,and_true] at h2;rw[ih t2,mP h2.1 h2.2]
def kQ:List D->Out D
 |[.lst ds]=>match QW ds with
  |some ns=>.ok (.lst ((qA ns).map D.int))
  |none=>match lD ds with
   |some ps=>.ok (.lst ((WI ps).map JS))
   |none=>.bad
 |_=>.bad
abbrev zZY(K:AD):List V->Hp->VK->Prop:=λxs H Q=>(∃(l:AT) (ns:List Int),xs=[.ref l]/\SqL K H l (ns.map V.int)/\∀(ms:List Int) (q:AT),ms.Perm ns->ms.Pairwise (·<=·)->H q=AL->Q (.ref q) (D3 H q (.lst (ms.map V.int)))) \/
 (∃(l:AT) (ys:List V) (ps:List (Int×Int)),xs=[.ref l]/\SqL K H l ys/\Prs H ys ps/\∀(zs:List V) (qs:List (Int×Int)) (q:AT),zs.Perm ys->Prs H zs qs->qs.Perm ps->(qs.Pairwise λa b=>RE b a=AC)->H q=AL->Q (.ref q) (D3 H q (.lst zs)))
theorem zSW:nH K (zZY K) kQ:=λvs xs F H d Q s r hf k=>by
 unfold kQ at hf;split at hf
 .rename_i ds
  cases r with
  |cons r rr =>
   cases rr;obtain⟨l,ys,rfl,h1,h2⟩:=r.isRefL;split at hf
   .rename_i ns en
    cases hf;have:=nV en;subst this;have:=h2.vint;subst this;refine .inl {l,ns,rfl,h1.imp s.rd id,λms q pm pw hq=>?_};rw[zV2 pm pw];have n:=pA6 (H':=D3 H q (.lst ((qA ns).map V.int))) s (Gr.new hq);exact k q F _ n (pAG s hq) hq {_,HJ,Reps.ints _}
   .split at hf
    .rename_i ps ep
     cases hf;have:=zQJ ep;subst this;refine .inr {l,ys,ps,rfl,h1.imp s.rd id,h2.prs s,λzs qs q pz bW pq pw hq=>?_};obtain⟨es,pe,re⟩:=Reps.perm pz h2;obtain⟨gS,rfl,pq'⟩:=zV3 pe ps rfl;have:=zZX s (re.prs s) bW;subst this;have:gS=WI ps:=Rw pq (pw.imp λh=>by unfold ZP;rw[h];rfl);subst this;have n:=pA6 (H':=D3 H q (.lst zs)) s (Gr.new hq);exact k q F _ n (pAG s hq) hq {_,HJ,re}
    .cases hf
 .cases hf
theorem Rv(hm:X.mg "sorted"=AL)(ha:VA X (e::es) gs)(hg:Gl X "sorted":=by rfl)(he:AO (e::es) X.env=(AC,eval e X.env)::AO es X.env:=by rfl)(J5:(DT pos (AO es X.env)).any (·.1)=AC:=by rfl) :
  FE X (.Call (.Name "sorted" p) (e::es) [] pos) (gN kQ gs):=Xq (T7.or zJ6) zSW hm (by decide +kernel) ha hg 'd' 'd' he J5
theorem zQK:CallR X (.builtin "len") (λxs H Q=>∃a kvs,xs=[V.ref a]/\Rd H a (.dT kvs)/\Q (.int kvs.length) H):=by
 intro AG s σ H xs us Q I r h;obtain⟨a,kvs,rfl,ha,q⟩:=h;obtain⟨u,rfl,ru⟩:=YD r;cases ru;obtain⟨es,ep,LQ,e1,e2,_⟩:=nM (ha.ok I.hok);have:=k9;refine zY7 LQ (by rw[FZ] at e2;lia) λt tk=>{.int kvs.length,H,I.tok tk,{t,by rw[e1]},q}
theorem YI:CallR X (.builtin "len") (λxs H Q=>∃a kvs,xs=[V.ref a]/\Rd H a (.dK kvs)/\Q (.int kvs.length) H):=by
 intro AG s σ H xs us Q I r h;obtain⟨a,kvs,rfl,ha,q⟩:=h;obtain⟨u,rfl,ru⟩:=YD r;cases ru;exact yF7 I ha λt s' I'=>{.int kvs.length,H,I',{t,rfl},q}
def NO:List D->Out D
 |[.lst ds]=>.ok (.int ds.length)
 |[.tup ds]=>.ok (.int ds.length)
 |[.str z]=>few z.length (.ok (.int z.length))
 |[.dk kvs]=>.ok (.int kvs.length)
 |[.dt kvs]=>.ok (.int kvs.length)
 |_=>.bad
abbrev yGK(K:AD):List V->Hp->VK->Prop:=λxs H Q=>(∃p ys,xs=[.ref p]/\(SqL K H p ys\/SqT K H p ys)/\Q (.int ys.length) H)\/(∃z,xs=[.str z]/\z.length<=sizeLine/\Q (.int z.length) H) \/
 (∃a kvs,xs=[V.ref a]/\Rd H a (.dK kvs)/\Q (.int kvs.length) H)\/(∃a kvs,xs=[V.ref a]/\Rd H a (.dT kvs)/\Q (.int kvs.length) H)
theorem yD1:kR K (yGK K) NO:=λvs xs F H d Q s r hf k=>by
 unfold NO at hf;split at hf
 .cases hf
  cases r with
  |cons r rr =>
   cases rr;obtain⟨l,ys,rfl,h1,h2⟩:=r.isRefL;exact .inl {l,ys,rfl,.inl (h1.imp s.rd id),by rw[h2.length];exact k _ F H (.refl s) (.int _)}
 .cases hf
  cases r with
  |cons r rr =>
   cases rr;obtain⟨l,ys,rfl,h2,h1⟩:=r.tupSq;exact .inl {l,ys,rfl,.inr (h1 F H (.refl _) s),by rw[h2.length];exact k _ F H (.refl s) (.int _)}
 .obtain⟨hl,hf⟩:=W4 hf
  cases hf
  cases r with
  |cons r rr =>
   cases rr;obtain rfl:=r.vS;exact .inr (.inl {_,rfl,lL hl,k _ F H (.refl s) (.int _)})
 .cases hf
  cases r with
  |cons r rr =>
   cases rr
   cases r with
   |dk h1 h2=>exact .inr (.inr (.inl {_,_,rfl,s.rd h1,by rw[h2.length];exact k _ F H (.refl s) (.int _)}))
 .cases hf
  cases r with
  |cons r rr =>
   cases rr
   cases r with
   |dt h1 h2=>exact .inr (.inr (.inr {_,_,rfl,s.rd h1,by rw[h2.length];exact k _ F H (.refl s) (.int _)}))
 .cases hf
theorem iT(hm:X.mg "len"=AL)(ha:VA X (e::es) gs)(hg:Gl X "len":=by rfl)(he:AO (e::es) X.env=(AC,eval e X.env)::AO es X.env:=by rfl)(J5:(DT pos (AO es X.env)).any (·.1)=AC:=by rfl) :
  VE X (.Call (.Name "len" p) (e::es) [] pos) (gN NO gs):=yI (VJ.or (VH.or (YI.or zQK))) yD1 hm (by decide +kernel) ha hg 'd' 'd' he J5
def Oo:List V->Hp->VK->Prop:=λxs H Q=>∃(d:AT) (kvs:List (Key×V)),xs=[.ref d]/\Rd H d (.dK kvs)/\∀q,H q=AL->Q (.ref q) (D3 H q (.lst (kvs.map λkv=>kV kv.1)))
theorem Sz:∀(ks:List Key) (us:List AJ),us.length=ks.length->(∀(i:Nat) v,us[i]?=AA v->∃k,ks[i]?=AA k/\RelV (kV k) v)->Vals (ks.map kV) us
 |[],[],_,_=>.nil
 |k::ks,u::us,hl,h=>by
  obtain⟨n,e1,e2⟩:=h 0 u rfl;have e3:k=n:=by simpa using e1
  subst e3;exact .cons e2 (Sz ks us (by simpa using hl) λi v hv=>h (i+1) v (by simpa using hv))
 |[],_::_,hl,_=>by simp at hl
 |_::_,[],hl,_=>by simp at hl
theorem zQL(hc:X.calm=AK):CallR X (.type "list") Oo:=by
 intro AG s σ H xs us Q I r h;obtain⟨d,kvs,rfl,hd,q⟩:=h;obtain⟨u,rfl,ru⟩:=YD r;cases ru;obtain⟨z,lo,vs,MY,dd⟩:=iV I.hok hd;obtain⟨ep,da⟩:=dd.dictAt;have sN:kvs.length=vs.length:=MY.length;refine PySem.W.kdl_call (PySem.W.kdl_dict (knd:=T5 X.prog X.w) (kvs:=vs) (ep:=ep) lo) (I.ok.hd hc) da 'l' λh' tk BR c' hk hS hI=>?_;obtain⟨hz,hi⟩:=hI
 have rv:Vals (kvs.map λkv=>kV kv.1) BR.toList:=by
  have:=Sz (kvs.map (·.1)) BR.toList (by simp;lia) λi v hv=>by
   obtain⟨k,xx,e1,e2⟩:=hi i v (by rw[<-C3];exact hv);refine{k,by rw[MY.keys,AX,e1];rfl,?_};rw[Um] at e2;rcases cY e2 with⟨j,t,z1,z2⟩|⟨y,t,z1,z2⟩
   .rw[z1,z2];exact{t,rfl}
   .rw[z1,z2];exact{t,rfl}
  rw[DR] at this;exact this
 refine{.ref s.heap.objs.size,_,I.laid (o:=.lst (kvs.map λkv=>kV kv.1)) hk (AM _) {?_,BR.toList,c',rv,by simpa using hS},rfl,q _ I.fresh};rw[AI];exact z
def kK:Key->D
 |.inl i=>.int i
 |.inr x=>.str x
theorem Ql(k:Key):Rep K F (kV k) (kK k):=by
 cases k with
 |inl i=>exact .int i
 |inr x=>exact .str x
theorem RepK.keys:∀{vs:List (Key×V)} {ds:List (Key×D)},RepK K F vs ds->Reps K F (vs.map λkv=>kV kv.1) (ds.map λkv=>kK kv.1)
 |_,_,.nil=>.nil
 |_,_,.cons (k:=k) _ r=>.cons (Ql k) (RepK.keys r)
def kP:List D->Out D
 |[.lst ds]=>.ok (.lst ds)
 |[.tup ds]=>.ok (.lst ds)
 |[.dk kvs]=>.ok (.lst (kvs.map λkv=>kK kv.1))
 |_=>.bad
abbrev yD2(K:AD):List V->Hp->VK->Prop:=λxs H Q=>(∃p ys,xs=[.ref p]/\(SqL K H p ys\/SqT K H p ys)/\∀l,H l=AL->Q (.ref l) (D3 H l (.lst ys)))\/Oo xs H Q
theorem zZZ:nH K (yD2 K) kP:=λvs xs F H d Q s r hf k=>by
 unfold kP at hf;split at hf
 .cases hf
  cases r with
  |cons r rr =>
   cases rr;obtain⟨l,ys,rfl,h1,h2⟩:=r.isRefL;exact .inl {l,ys,rfl,.inl (h1.imp s.rd id),λq hq=>k q F _ (pA6 s (Gr.new hq)) (pAG s hq) hq {_,HJ,h2}}
 .cases hf
  cases r with
  |cons r rr =>
   cases rr;obtain⟨l,ys,rfl,h2,h1⟩:=r.tupSq;exact .inl {l,ys,rfl,.inr (h1 F H (.refl _) s),λq hq=>k q F _ (pA6 s (Gr.new hq)) (pAG s hq) hq {_,HJ,h2}}
 .cases hf
  cases r with
  |cons r rr =>
   cases rr
   cases r with
   |dk h1 h2=>exact .inr {_,_,rfl,s.rd h1,λq hq=>k q F _ (pA6 s (Gr.new hq)) (pAG s hq) hq {_,HJ,h2.keys}}
 .cases hf
theorem yS(hc:X.calm=AK)(hm:X.mg "list"=AL)(ha:VA X (e::es) gs)(hg:Gl X "list":=by rfl)(he:AO (e::es) X.env=(AC,eval e X.env)::AO es X.env:=by rfl)(J5:(DT pos (AO es X.env)).any (·.1)=AC:=by rfl) :
  FE X (.Call (.Name "list" p) (e::es) [] pos) (gN kP gs):=Vp (VF.or (zQL hc)) zZZ hm (by decide +kernel) ha hg 'd' 'd' he J5
noncomputable def ZF:List D->Out D
 |[.lst ds]=>.ok (.tup ds)
 |[.tup ds]=>.ok (.tup ds)
 |_=>.bad
theorem yD3:kR K (λxs H Q=>∃p ys,xs=[.ref p]/\((SqL K H p ys/\∀l,H l=AL->Q (.ref l) (D3 H l (.tup ys)))\/(SqT K H p ys/\Q (.ref p) H))) ZF:=λvs xs F H d Q s r hf k=>by
 unfold ZF at hf;split at hf
 .cases hf
  cases r with
  |cons r rr =>
   cases rr;obtain⟨l,ys,rfl,h1,h2⟩:=r.isRefL;refine{l,ys,rfl,.inl {h1.imp s.rd id,λq hq=>?_}};have n:=New.laid (o:=.tup ys) s hq;exact k _ _ _ n (.tup HJ (h2.le n.1.le))
 .cases hf
  cases r with
  |cons r rr =>
   cases rr;obtain⟨l,ys,rfl,h2,h1⟩:=r.tupSq;exact{l,ys,rfl,.inr {h1 F H (.refl _) s,k _ F H (.refl s) r}}
 .cases hf
theorem iZ(hm:X.mg "tuple"=AL)(ha:VA X (e::es) gs)(hg:Gl X "tuple":=by rfl)(he:AO (e::es) X.env=(AC,eval e X.env)::AO es X.env:=by rfl)(J5:(DT pos (AO es X.env)).any (·.1)=AC:=by rfl) :
  VE X (.Call (.Name "tuple" p) (e::es) [] pos) (gN ZF gs):=yIW zJU yD3 hm (by decide +kernel) ha hg 'd' 'd' he J5
noncomputable def kO:List D->Option (List Bool)
 |[]=>AA []
 |.bl b::ds=>(kO ds).map (b::·)
 |_::_=>AL
theorem zV4:∀{ds:List D} {bs:List Bool},kO ds=AA bs->ds=bs.map D.bl:=by
 intro ds
 induction ds with
 |nil=>intro bs h;rw[kO] at h;cases h;rfl
 |cons d ds ih =>
  intro bs h
  cases d with
  |bl b =>
   rw[kO] at h;obtain⟨r,h1,h2⟩:=BY.mp h;subst h2;rw[ih h1];rfl
  |_=>simp[kO] at h
def mY:List D->Out D
 |[.lst ds]=>match kO ds with
  |some bs=>.ok (.bl (bs.all id))
  |none=>.bad
 |_=>.bad
theorem yD4:kR K (Wa K) mY:=λvs xs F H d Q s r hf k=>by
 unfold mY at hf;split at hf
 .split at hf
  .rename_i bs eb
   cases hf;have:=zV4 eb;subst this
   cases r with
   |cons r rr =>
    cases rr;obtain⟨l,ys,rfl,h1,h2⟩:=r.isRefL;have:=h2.vbl;subst this;exact{l,bs,rfl,h1.imp s.rd id,k _ F H (.refl s) (.bl _)}
  .cases hf
 .cases hf
theorem Xp(hc:X.calm=AK)(hm:X.mg "all"=AL)(ha:VA X (e::es) gs)(hg:Gl X "all":=by rfl)(he:AO (e::es) X.env=(AC,eval e X.env)::AO es X.env:=by rfl)(J5:(DT pos (AO es X.env)).any (·.1)=AC:=by rfl) :
  VE X (.Call (.Name "all" p) (e::es) [] pos) (gN mY gs):=yI (zVE hc) yD4 hm (by decide +kernel) ha hg 'd' 'd' he J5
noncomputable def iS:List D->Out D
 |[.int i,.int j]=>.ok (.int (if j<i then j else i))
 |_=>.bad
theorem zZ1:kR K (λxs H Q=>∃i j,xs=[.int i,.int j]/\Q (.int (if j<i then j else i)) H) iS:=λvs xs F H d Q s r hf k=>by
 unfold iS at hf;split at hf
 .cases hf
  cases r with
  |cons r rr=>cases rr with
   |cons r' rr=>cases rr;obtain rfl:=r.vI;(first|obtain rfl:=r'.vI|obtain rfl:=r'.vB|obtain rfl:=r'.vS|obtain rfl:=r'.vN|cases r');exact{_,_,rfl,k _ F H (.refl s) (.int _)}
 .cases hf
theorem On(hc:X.calm=AK)(hm:X.mg "min"=AL)(ha:VA X (e::es) gs)(hg:Gl X "min":=by rfl)(he:AO (e::es) X.env=(AC,eval e X.env)::AO es X.env:=by rfl)(J5:(DT pos (AO es X.env)).any (·.1)=AC:=by rfl) :
  VE X (.Call (.Name "min" p) (e::es) [] pos) (gN iS gs):=yI (zRK hc) zZ1 hm (by decide +kernel) ha hg 'd' 'd' he J5
end
section
variable{K:AD}{E:Ev}{a b:DA}{ga gb gc ge:G}{gs:List G}
theorem Sim.setO{t:Bool}{d d':D}{ad:AT}(S:Sim K H₀ τ F H σ E)(e:E[i]?=AA (.own t d))(ea:σ[i]?=AA (AA (.ref ad)))(h:OwnAt K F (D3 H ad o) ad d') :
  Sim K H₀ τ F (D3 H ad o) σ (E.set i (.own t d'))/\Stp (EC σ E) F H F (D3 H ad o) (EC σ (E.set i (.own t d'))):=by
 obtain⟨a',a1,a2,a3,a4,a5⟩:=S.own i t d e;rw[ea] at a1;cases a1;have hi:i<E.length:=(AQ.mp e).1;have ow:EC σ E ad:={i,t,d,e,ea}
 have HM:∀(j:Nat) t' x,(E.set i (.own t d'))[j]?=AA (.own t' x)->(j=i/\t'=t/\x=d')\/(j≠i/\E[j]?=AA (.own t' x)):=λj t' x z=>by
  by_cases hj:i=j
  .subst hj;rw[BE hi] at z;cases z;exact .inl {rfl,rfl,rfl}
  .rw[A8 hj] at z;exact .inr {FO hj,z}
 have Kv:∀(j:Nat) t' x,(E.set i (.own t d'))[j]?=AA (.own t' x)->∃oN x',E[j]?=AA (.own oN x'):=λj t' x z=>by
  rcases HM j t' x z with⟨rfl,_,_⟩|⟨_,z⟩
  .exact{_,_,e}
  .exact{_,_,z}
 refine{{λb u z=>?_,by rw[CC];exact S.len,λj x z=>?_,λj t' x z=>?_,λj l t1 t2 x y b z1 z2=>?_},{λb u z _ n ho=>?_,λb z=>?_,.refl _,λb u z=>.inl (by rw[z];exact nofun),λb ⟨j,t',x,z1,z2⟩=>?_}}
 .have:b≠ad:=λy=>by rw[y,a2] at z;cases z
  rw[FH this];exact S.sub b u z
 .by_cases hj:i=j
  .subst hj;rw[BE hi] at z;cases z
  .rw[A8 hj] at z;exact S.val j x z
 .rcases HM j t' x z with⟨rfl,rfl,rfl⟩|⟨hj,z⟩
  .exact{ad,ea,a2,h,a4,a5}
  .obtain⟨c,c1,c2,c3,c4⟩:=S.own j t' x z
   have hc:c≠ad:=λy=>hj (S.inj j i t' t x d ad z e (by rw[c1,y]) ea);exact{c,c1,c2,c3.mono (.refl _) (FH hc),c4}
 .obtain⟨_,_,w1⟩:=Kv j _ _ z1
  obtain⟨_,_,w2⟩:=Kv l _ _ z2;exact S.inj j l _ _ _ _ b w1 w2
 .rw[FH (λy=>ho (by rw[y];exact ow))];exact z
 .by_cases hb:b=ad
  .rw[hb,HJ] at z;cases z
  .rw[FH hb] at z;exact z
 .obtain⟨oN,x',w⟩:=Kv j t' x z1
  exact .inl {j,oN,x',w,z2}
def uI(K:AD)(r:V->List V->Hp->VK->Prop)(f:List D->List D->Out (D×List D)):Prop:=∀(F H:Hp) (l:AT) vs ds args xs d TX Q,Sub F H->H l=AA (.lst vs)->Reps K F vs ds->Reps K F args xs->f ds xs=.ok (d,TX) ->
 (∀y lN,Rep K F y d->Reps K F lN TX->Q y (D3 H l (.lst lN)))->r (.ref l) args H Q
def P6(i:Nat)(f:List D->List D->Out (D×List D))(gs:List G):G:=λE=>match E[i]? with
 |some (.own _ (.lst _))=>(QE gs E).bind λp=>match p.2[i]? with
  |some (.own t (.lst ds))=>(f ds p.1).bind λq=>.ok (q.1,p.2.set i (.own t (.lst q.2)))
  |_=>.bad
 |_=>.bad
theorem yH{r:V->List V->Hp->VK->Prop}{f:List D->List D->Out (D×List D)}(hs:uI K r f){Q:VK}(h:tV K H₀ (P6 i f gs) σ H Q) :
  ∃v,σ[i]?=AA (AA v)/\Ax K "list" v H/\i6 K H₀ gs σ H λxs H2=>r v xs H2 Q:=by
 obtain⟨τ,F,E,d,E',S,hg,k⟩:=h;unfold P6 at hg;split at hg
 .rename_i t0 mH e0
  obtain⟨p,e1,hg⟩:=pA3 hg;split at hg
  .rename_i t ds e2
   obtain⟨q,e3,hg⟩:=pA3 hg;cases hg;obtain⟨ad,a1,a2,⟨Yv,a3,_⟩,_⟩:=S.own i _ _ e0;refine{_,a1,.inl {rfl,Yv,SqL.of a3},τ,F,E,p.1,p.2,S,e1,λargs F1 H1 s1 S1 r1=>?_};obtain⟨ad',b1,b2,⟨vs,b3,b4⟩,_⟩:=S1.own i _ _ e2;rw[a1] at b1;cases b1;refine hs F1 H1 ad vs ds args p.1 q.1 q.2 Q S1.sub b3 b4 r1 e3 λy lN ry rvs=>?_;obtain⟨S2,s2⟩:=S1.setO (o:=.lst lN) (d':=.lst q.2) e2 a1 {lN,HJ,rvs};exact k y F1 _ (s1.trans s2) S2 ry
  .cases hg
 .cases hg
variable{q:iB}
def X9(ds xs:List D):Out (D×List D):=match xs with
 |[d]=>few ds.length (.ok (.non,ds++[d]))
 |_=>.bad
theorem zSY:uI K Qw X9:=λF H l vs ds args xs d TX Q s h r ra hf k=>by
 unfold X9 at hf;split at hf
 .obtain⟨hl,hf⟩:=W4 hf
  cases hf
  cases ra with
  |cons r1 rr =>
   cases rr;exact{l,vs,_,rfl,rfl,h,by rw[r.length];exact cU hl,k _ _ .non (r.append (.cons r1 .nil))}
 .cases hf
noncomputable def fR(ds xs:List D):Out (D×List D):=match xs with
 |[]=>match ds[ds.length-1]? with
  |some d=>.ok (d,ds.dropLast)
  |none=>.bad
 |_=>.bad
theorem Reps.dropLast{vs:List V}{ds:List D}(r:Reps K F vs ds):Reps K F vs.dropLast ds.dropLast:=by
 rw[ZC,ZC,r.length];exact r.take _
theorem yD7:uI K We fR:=λF H l vs ds args xs d TX Q s h r ra hf k=>by
 unfold fR at hf;split at hf
 .split at hf
  .rename_i d' e
   cases hf;cases ra;obtain⟨v,h1,h2⟩:=r.get e;exact{l,vs,v,rfl,rfl,h,by rw[r.length];exact h1,k _ _ h2 r.dropLast}
  .cases hf
 .cases hf
def aB(ds xs:List D):Out (D×List D):=match xs with
 |[.int i]=>guard (0<=i/\i<ds.length/\ds.length<10000) (match ds[i.toNat]? with
  |some d=>.ok (d,ds.eraseIdx i.toNat)
  |none=>.bad)
 |_=>.bad
theorem zV6:uI K Pc aB:=λF H l vs ds args xs d TX Q s h r ra hf k=>by
 unfold aB at hf;split at hf
 .rename_i i
  obtain⟨⟨g1,g2,g3⟩,hf⟩:=i5 hf;split at hf
  .rename_i d' e
   cases hf
   cases ra with
   |cons r1 rr =>
    cases rr;obtain rfl:=r1.vI;obtain⟨v,h1,h2⟩:=r.get e;exact{l,vs,i,i.toNat,v,rfl,rfl,h,by omega,by omega,by rw[r.length];exact WT g1 g2,h1,k _ _ h2 (r.eraseIdx _)}
  .cases hf
 .cases hf
theorem Fe(i:Nat)(ha:VA X [e] gs)(hN:X.N[i]?=AA xn:=by rfl)(hv:ZR X.env.scope xn:=by first|exact BN rfl|exact D2 (BN rfl)|exact D2 (D2 rfl))(hd:(xn==("__debug__":C2))=AC:=by decide)(MM:(xn==("__classdict__":C2))=AC:=by decide)
  (N2:JY (.Name xn q) "append" X.env (eval (.Name xn q) X.env)=eval (.Name xn q) X.env:=by rfl)
  (YR:((DT GA (AO [e] X.env)).all (λx=>!x.1)&&(Y4 GA (QQ [] X.env)).all (λx=>x.1.isSome)
   && decide ([e].length+([]:List MS).length+(if([]:List MS).isEmpty then 0 else 1)<30))=AK:=by rfl)
  (N1:(MB.endLine==GA.line)=AK:=by rfl) (hs:AO [e] X.env=(AC,eval e X.env)::AO [] X.env:=by rfl) (OY:(DT GA (AO [] X.env)).any (·.1)=AC:=by rfl) :
  VE X (.Call (.Attribute (.Name xn q) "append" MB) [e] [] GA) (P6 i X9 gs) :=
 (yJ G8 UM UL Gf (gA hN hv hd MM) ha N2 YR N1 hs OY).imp λσ H Q h=>yH zSY h
theorem Qk(i:Nat)(ha:VA X [e] gs)(hN:X.N[i]?=AA xn:=by rfl)(hv:ZR X.env.scope xn:=by first|exact BN rfl|exact D2 (BN rfl)|exact D2 (D2 rfl))(hd:(xn==("__debug__":C2))=AC:=by decide)(MM:(xn==("__classdict__":C2))=AC:=by decide)
  (N2:JY (.Name xn q) "pop" X.env (eval (.Name xn q) X.env)=eval (.Name xn q) X.env:=by rfl)
  (YR:((DT GA (AO [e] X.env)).all (λx=>!x.1)&&(Y4 GA (QQ [] X.env)).all (λx=>x.1.isSome)
   && decide ([e].length+([]:List MS).length+(if([]:List MS).isEmpty then 0 else 1)<30))=AK:=by rfl)
  (N1:(MB.endLine==GA.line)=AK:=by rfl) (hs:AO [e] X.env=(AC,eval e X.env)::AO [] X.env:=by rfl) (OY:(DT GA (AO [] X.env)).any (·.1)=AC:=by rfl) :
  VE X (.Call (.Attribute (.Name xn q) "pop" MB) [e] [] GA) (P6 i aB gs) :=
 (yJ G8 WY WX zUZ (gA hN hv hd MM) ha N2 YR N1 hs OY).imp λσ H Q h=>yH zV6 h
theorem yGL(i:Nat)(hN:X.N[i]?=AA xn:=by rfl)(hv:ZR X.env.scope xn:=by first|exact BN rfl|exact D2 (BN rfl)|exact D2 (D2 rfl))(hd:(xn==("__debug__":C2))=AC:=by decide)(MM:(xn==("__classdict__":C2))=AC:=by decide)
  (N2:JY (.Name xn q) "pop" X.env (eval (.Name xn q) X.env)=eval (.Name xn q) X.env:=by rfl) (N1:(MB.endLine==GA.line)=AK:=by rfl) :
  VE X (.Call (.Attribute (.Name xn q) "pop" MB) [] [] GA) (P6 i fR []) :=
 (yCR G8 WY WX yCT (gA hN hv hd MM) N2 N1).imp λσ H Q h=>by
  obtain⟨v,h1,h2,τ,F,E,ds,E',S,hg,k⟩:=yH yD7 h;cases hg;exact{v,h1,h2,k [] F H .refl S .nil}
theorem RepK.put(k:Key){d:D}{vs:List (Key×V)}{ds:List (Key×D)}(r:RepK K F vs ds)(h:Rep K F v d):RepK K F (QD vs k v) (OT ds k d):=by
 have any:∀{vs:List (Key×V)} {ds:List (Key×D)},RepK K F vs ds->(vs.any λkv=>decide (kv.1=k))=(ds.any λkv=>decide (kv.1=k)):=by
  intro vs ds r
  induction vs generalizing ds with
  |nil=>cases r;rfl
  |cons x xs ih=>cases r with|cons h r=>rw[EV,EV,ih r]
 have mp:∀{vs:List (Key×V)} {ds:List (Key×D)},RepK K F vs ds->RepK K F (vs.map λkv=>if kv.1=k then(kv.1,v) else kv) (ds.map λkv=>if kv.1=k then(kv.1,d) else kv):=by
  intro vs ds r
  induction vs generalizing ds with
  |nil=>cases r;exact .nil
  |cons x xs ih =>
   cases r with
   |@cons k' v' d' _ _ h' r =>
    rw[AU,AU]
    by_cases e:k'=k
    .simp only[e,if_true];exact .cons h (ih r)
    .simp only[e,if_false];exact .cons h' (ih r)
 have ap:∀{vs:List (Key×V)} {ds:List (Key×D)},RepK K F vs ds->RepK K F (vs++[(k,v)]) (ds++[(k,d)]):=by
  intro vs ds r
  induction vs generalizing ds with
  |nil=>cases r;exact .cons h .nil
  |cons x xs ih=>cases r with|cons h' r=>exact .cons h' (ih r)
 unfold QD OT;rw[any r];split
 .exact mp r
 .exact ap r
theorem RepT.put(k:List Int){d:D}{vs:List (List Key×V)}{ds:List (List Int×D)}(r:RepT K F vs ds)(h:Rep K F v d):RepT K F (QD vs (k.map CZ) v) (OT ds k d):=by
 have dec:∀k':List Int,decide (k'.map (CZ:Int->Key)=k.map CZ)=decide (k'=k):=λk'=>by
  by_cases e:k'=k
  .simp[e]
  .have e':¬k'.map (CZ:Int->Key)=k.map CZ:=λz=>e (zF z)
   simp[e,e']
 have any:∀{vs:List (List Key×V)} {ds:List (List Int×D)},RepT K F vs ds->(vs.any λkv=>decide (kv.1=k.map CZ))=(ds.any λkv=>decide (kv.1=k)):=by
  intro vs ds r
  induction vs generalizing ds with
  |nil=>cases r;rfl
  |cons x xs ih=>cases r with|@cons k' _ _ _ _ h r=>rw[EV,EV,ih r];show(decide _||_)=(decide _||_);rw[dec k']
 have mp:∀{vs:List (List Key×V)} {ds:List (List Int×D)},RepT K F vs ds->RepT K F (vs.map λkv=>if kv.1=k.map CZ then(kv.1,v) else kv) (ds.map λkv=>if kv.1=k then(kv.1,d) else kv):=by
  intro vs ds r
  induction vs generalizing ds with
  |nil=>cases r;exact .nil
  |cons x xs ih =>
   cases r with
   |@cons k' v' d' _ _ h' r =>
    rw[AU,AU]
    by_cases e:k'=k
    .simp only[e,if_true];exact .cons h (ih r)
    .have e':¬k'.map (CZ:Int->Key)=k.map CZ:=λz=>e (zF z)
     simp only[e,e',if_false];exact .cons h' (ih r)
 have ap:∀{vs:List (List Key×V)} {ds:List (List Int×D)},RepT K F vs ds->RepT K F (vs++[(k.map CZ,v)]) (ds++[(k,d)]):=by
  intro vs ds r
  induction vs generalizing ds with
  |nil=>cases r;exact .cons h .nil
  |cons x xs ih=>cases r with|cons h' r=>exact .cons h' (ih r)
 unfold QD OT;rw[any r];split
 .exact mp r
 .exact ap r
def mX(x k v:D):Out D:=match x,k with
 |.lst ds,.int i=>match YF ds.length i with
  |some j=>.ok (.lst (ds.set j v))
  |none=>.bad
 |.dk kvs,k=>match iU k with
  |some k=>few kvs.length (.ok (.dk (OT kvs k v)))
  |none=>.bad
 |.dt kvs,.tup ks=>match QW ks with
  |some ns=>few kvs.length (.ok (.dt (OT kvs ns v)))
  |none=>.bad
 |_,_=>.bad
def RT(i:Nat)(gk gv:G):GS:=λE=>match E[i]? with
 |some (.own _ _)=>(gv E).bind λv=>(gk v.2).bind λk=>match k.2[i]? with
  |some (.own t d)=>(mX d k.1 v.1).bind λd'=>.ok (.nx (k.2.set i (.own t d')))
  |_=>.bad
 |_=>.bad
theorem cX{gk gv:G}(i:Nat)(hu:X.A.units+64<GB)(hk:VE X kx gk)(Kx:VE X J0 gv)
  (hN:X.N[i]?=AA xn:=by rfl) (hv:ZR X.env.scope xn:=by first|exact BN rfl|exact D2 (BN rfl)|exact D2 (D2 rfl)) (hd:(xn==("__debug__":C2))=AC:=by decide) (MM:(xn==("__classdict__":C2))=AC:=by decide)
  (hs:HS J0 (AA (.Subscript (.Name xn q) kx XA)) T8.line X.env=pure AC:=by rfl)
  (o7:aS [.Subscript (.Name xn q) kx XA] J0 T8.line X.env=pure AC:=by rfl) (hw:aT [.Subscript (.Name xn q) kx XA] J0 X.env=pure AL:=by rfl)
  (h1:(HL [.Subscript (.Name xn q) kx XA] X.env).map (·.2)=[LG (.Subscript (.Name xn q) kx XA) X.env]:=by rfl)
  (ha:∀v,LG (.Subscript (.Name xn q) kx XA) X.env v=(do
   let ov <-IU [v] (eval (.Name xn q) X.env)
   let iv <-IU [v,ov] (eval kx X.env)
   JH XA
   IU [v,ov,iv] (setItem ov iv v)
   release [v,ov,iv] []):=by intro _;rfl):VS X (.Assign [.Subscript (.Name xn q) kx XA] J0 T8) (RT i gk gv):=λAG s σ H D' I h=>by
 obtain⟨τ,F,E,r,S,hg,k⟩:=h;unfold RT at hg;split at hg
 .rename_i t0 d0 e0
  obtain⟨v,e1,hg⟩:=pA3 hg;obtain⟨ky,e2,hg⟩:=pA3 hg;split at hg
  .rename_i t d e3
   obtain⟨d',e4,hg⟩:=pA3 hg;cases hg;obtain⟨ad,a1,_⟩:=S.own i _ _ e0;have pn:=gA (pos:=q) hN hv hd MM
   have fin:∀{F2 H2:Hp} {o:HO},Stp (EC σ E) F H F2 H2 (EC σ ky.2)->Sim X.K X.H₀ τ F2 H2 σ ky.2->OwnAt X.K F2 (D3 H2 ad o) ad d'->D'.nx σ (D3 H2 ad o):=λ{F2 H2 o} s2 S2 ow=>by
    obtain⟨S3,s3⟩:=S2.setO (o:=o) (d':=d') e3 a1 ow;exact k σ F2 _ (s2.trans s3) S3
   have own:∀{F2 H2:Hp},Sim X.K X.H₀ τ F2 H2 σ ky.2->OwnAt X.K F2 H2 ad d:=λ{F2 H2} S2=>by
    obtain⟨ad',b1,_,b3,_⟩:=S2.own i t d e3;rw[a1] at b1;cases b1;exact b3
   cases d with
   |lst ds =>
    refine Dq Kx (yCA pn hk zUX ha) o7 hw h1 AG s σ H D' I ?_;refine{τ,F,E,v.1,v.2,S,e1,λvv F1 H1 s1 S1 r1=>{_,a1,τ,F1,v.2,ky.1,ky.2,S1,e2,λkk F2 H2 s2 S2 r2=>?_}};obtain⟨vs,o1,o2⟩:=own S2;generalize hy:ky.1=y at e4 r2
    cases y with
    |int ii =>
     have e4:(match YF ds.length ii with|some j=>Out.ok (D.lst (ds.set j v.1))|none=>.bad)=.ok d':=e4;obtain rfl:=r2.vI;split at e4
     .rename_i j ej
      cases e4;exact{ad,vs,ii,j,rfl,rfl,o1,by rw[o2.length];exact ej,fin (s1.trans s2) S2 {_,HJ,o2.set j (r1.le s2.le)}}
     .cases e4
    |_=>cases e4
   |dk kvs =>
    refine Qv 'o' pn hk Kx hs AG s σ H D' I ?_;refine{τ,F,E,v.1,v.2,S,e1,λvv F1 H1 s1 S1 r1=>{_,a1,τ,F1,v.2,ky.1,ky.2,S1,e2,λkk F2 H2 s2 S2 r2=>?_}};obtain⟨vs,o1,o2⟩:=own S2;have e4:(match iU ky.1 with|some k=>few kvs.length (Out.ok (D.dk (OT kvs k v.1)))|none=>.bad)=.ok d':=e4;split at e4
    .rename_i k' ek
     obtain⟨hl,e4⟩:=W4 e4;cases e4
     have pV:kk=kV k':=by
      generalize hy:ky.1=y at ek r2;cases y<;>first|cases ek|skip
      .obtain rfl:=r2.vI;rfl
      .obtain rfl:=r2.vS;rfl
     subst pV;exact{ad,_,rfl,DPut.kk o1 (by rw[o2.length];exact cU hl),fin (s1.trans s2) S2 {_,HJ,o2.put k' (r1.le s2.le)}}
    .cases e4
   |dt kvs =>
    refine Qv 'o' pn hk Kx hs AG s σ H D' I ?_;refine{τ,F,E,v.1,v.2,S,e1,λvv F1 H1 s1 S1 r1=>{_,a1,τ,F1,v.2,ky.1,ky.2,S1,e2,λkk F2 H2 s2 S2 r2=>?_}};obtain⟨vs,o1,o2⟩:=own S2;generalize hy:ky.1=y at e4 r2
    cases y with
    |tup ks =>
     have e4:(match QW ks with|some ns=>few kvs.length (Out.ok (D.dt (OT kvs ns v.1)))|none=>.bad)=.ok d':=e4;split at e4
     .rename_i ns ek
      obtain⟨hl,e4⟩:=W4 e4;cases e4;have:=nV ek;subst this;generalize lZ:ns.map D.int=kk2 at r2
      cases r2 with
      |tup hb rb =>
       subst lZ;have:=rb.vint;subst this;refine{ad,_,rfl,DPut.t (k:=ns.map CZ) o1 ?_ (by rw[o2.length];exact cU hl),fin (s1.trans s2) S2 {_,HJ,o2.put ns (r1.le s2.le)}};rw[DR];exact S2.sub _ _ hb
      |@tupK a xs hb nb =>
       cases xs with
       |nil=>exact absurd rfl nb
       |cons x xs =>
        cases ns with
        |nil=>cases lZ
        |cons n ns=>cases lZ
     .cases e4
    |_=>cases e4
   |_=>cases e4
  .cases hg
 .cases hg
end
section
variable{K:AD}{E:Ev}{a b:DA}{ga gb gc ge:G}{gs:List G}
noncomputable def Ay:D->String
 |.non=>"NoneType"
 |.bl _=>"bool"
 |.int _=>"int"
 |.str _=>"str"
 |.tup _=>"tuple"
 |.lst _=>"list"
 |.dk _=>"dict"
 |.dt _=>"dict"
def uQ(t c:String):Bool:=t==c||(t=="bool"&&c=="int")
def kN(c:String)(g:G):G:=λE=>(g E).bind λp=>.ok (.bl (uQ (Ay p.1) c),p.2)
theorem zV7{Ex:AJ->AS->Prop}{bb:Bool}(I:Inv X AG σ H s){ad:AT}(h:SqL X.K H ad vs)
  (e:BU X.K (.type "list") cv=AA bb) (hq:∀tk,Q (.bool bb) { s with toks:=tk }):A1 (A4 X.prog X.w) A (call (.builtin "isinstance") [.ref ad,cv]) Q Ex s:=by
 obtain⟨CK,r,pl,z⟩:=I.list h;obtain⟨o,h1,h2,_⟩:=pl.isList;exact DG PY I.kIn {o,h1,h2} e (λz=>nomatch z) hq
theorem Sy{Ex:AJ->AS->Prop}{bb:Bool}(I:Inv X AG σ H s){ad:AT}(h:(∃kvs,Rd H ad (.dK kvs))\/∃kvs,Rd H ad (.dT kvs))
  (e:BU X.K (.type "dict") cv=AA bb) (hq:∀tk,Q (.bool bb) { s with toks:=tk }):A1 (A4 X.prog X.w) A (call (.builtin "isinstance") [.ref ad,cv]) Q Ex s:=by
 rcases h with⟨kvs,h⟩|⟨kvs,h⟩
 .obtain⟨_,_,vs,_,o,es,ep,h1,h2,_⟩:=(show ObjOk X.prog X.w H s.heap ad (.dK kvs) from h.ok I.hok)
  exact DG L6 I.kIn {o,h1,h2.1} e (λz=>nomatch z) hq
 .obtain⟨_,_,xs,_,o,es,ep,h1,h2,_⟩:=(show ObjOk X.prog X.w H s.heap ad (.dT kvs) from h.ok I.hok)
  exact DG L6 I.kIn {o,h1,h2.1} e (λz=>nomatch z) hq
structure IsC(c:String):Prop where
 k:∀(K:AD) (t:String),t∈["NoneType","bool","int","str","tuple","list","dict"]->BU K (.type t) (.type c)=AA (uQ t c)
theorem yGM:IsC "int":={λK t h=>by simp only[A7,BZ,or_false] at h;rcases h with rfl|rfl|rfl|rfl|rfl|rfl|rfl<;>rfl}
theorem Ru:IsC "bool":={λK t h=>by simp only[A7,BZ,or_false] at h;rcases h with rfl|rfl|rfl|rfl|rfl|rfl|rfl<;>rfl}
theorem Sx:IsC "tuple":={λK t h=>by simp only[A7,BZ,or_false] at h;rcases h with rfl|rfl|rfl|rfl|rfl|rfl|rfl<;>rfl}
def yD8(K:AD)(c:String):List V->Hp->VK->Prop:=λxs H Q=>∃v F d,xs=[v,.ty c]/\Sub F H/\Rep K F v d/\Q (.bl (uQ (Ay d) c)) H
theorem zQM{cn:String}(ic:IsC cn):CallR X (.builtin "isinstance") (yD8 X.K cn):=by
 intro AG s σ H xs us Q I r h;obtain⟨v,F,d,rfl,sb,rd,q⟩:=h
 cases r with
 |cons r1 r2 =>
  cases r2 with
  |cons r2 r3 =>
   cases r3;cases r2;have fin:∀{bb:Bool} (tk:Nat),uQ (Ay d) cn=bb->EP X AG σ Q (.bool bb) { s with toks:=tk }:=λtk e=>by subst e;exact{.bl _,H,I.tok tk,rfl,q}
   cases d with
   |non=>obtain rfl:=rd.vN;exact z9 I r1 .non (ic.k _ _ 's') λtk=>fin tk rfl
   |bl b=>obtain rfl:=rd.vB;exact z9 I r1 (.bl _) (ic.k _ _ 's') λtk=>fin tk rfl
   |int i=>obtain rfl:=rd.vI;exact z9 I r1 (.int _) (ic.k _ _ 's') λtk=>fin tk rfl
   |str i=>obtain rfl:=rd.vS;exact z9 I r1 (.str _) (ic.k _ _ 's') λtk=>fin tk rfl
   |lst ds =>
    obtain⟨l,ys,rfl,h1,h2⟩:=rd.isRefL;cases r1;exact zV7 I (h1.imp sb.rd id) (ic.k _ _ 's') λtk=>fin tk rfl
   |tup ds =>
    obtain⟨l,ys,rfl,h2,h1⟩:=rd.tupSq;cases r1;exact zVC I (h1 F H (.refl _) sb) (ic.k _ _ 's') λtk=>fin tk rfl
   |dk kvs =>
    cases rd with
    |dk h1 _=>cases r1;exact Sy I (.inl {_,sb.rd h1}) (ic.k _ _ 's') λtk=>fin tk rfl
   |dt kvs =>
    cases rd with
    |dt h1 _=>cases r1;exact Sy I (.inr {_,sb.rd h1}) (ic.k _ _ 's') λtk=>fin tk rfl
theorem yR{cn:String}{cx:C2}{cp:iB}(ic:IsC cn)(hm:X.mg "isinstance"=AL)(hmc:X.mg cx=AL)(hvc:GL cx=AA (.type cn))(ha:VE X a ga)(hg:Gl X "isinstance":=by rfl)(hgc:Gl X cx:=by rfl)(hnc:cx≠"__name__":=by decide)(hdc:(cx==("__debug__":C2))=AC:=by decide)
  (o7:AO [.Name cx cp] X.env=(AC,eval (.Name cx cp) X.env)::AO [] X.env:=by rfl)
  (he:AO (a::[.Name cx cp]) X.env=(AC,eval a X.env)::AO [.Name cx cp] X.env:=by rfl) (J5:(DT pos (AO [.Name cx cp] X.env)).any (·.1)=AC:=by rfl) :
  VE X (.Call (.Name "isinstance" p) [a,.Name cx cp] [] pos) (kN cn ga) :=
 (zZ (zQM ic) hg hm (by decide +kernel) (VC ha (VC (Rf (v:=.ty cn) hgc hmc hvc rfl hnc hdc) JB o7) he) 'd' 'd' he J5).imp λσ H Q h=>by
  obtain⟨τ,F,E,d,E',S,hg,k⟩:=h;obtain⟨q,e1,hg⟩:=pA3 hg;cases hg;exact{τ,F,E,q.1,q.2,S,e1,λv F1 H1 s1 S1 r1=>{v,F1,q.1,rfl,S1.sub,r1,k _ F1 H1 s1 S1 (.bl _)}}
theorem Qu:FE X (.Dict [] [] pos) (gC (.dk [])):=dE.imp λσ H Q h q hq=>by
 obtain⟨τ,F,E,d,E',S,hg,k⟩:=h;cases hg;have n:=pA6 (H':=D3 H q (.dK [])) S.sub (Gr.new hq);exact k q F _ n.stp (S.new n) (pAG S.sub hq) hq {_,HJ,.nil} (S.fresh hq)
theorem zZ3:FE X (.Dict [] [] pos) (gC (.dt [])):=dD.imp λσ H Q h q hq=>by
 obtain⟨τ,F,E,d,E',S,hg,k⟩:=h;cases hg;have n:=pA6 (H':=D3 H q (.dT [])) S.sub (Gr.new hq);exact k q F _ n.stp (S.new n) (pAG S.sub hq) hq {_,HJ,.nil} (S.fresh hq)
def Dk(gk gv:G):G:=λE=>(gk E).bind λp=>(gv p.2).bind λq=>match iU p.1 with
 |some k=>.ok (.dk [(k,q.1)],q.2)
 |none=>.bad
theorem Xo{y:D}{kk:V}{k':Key}(ek:iU y=AA k')(r2:Rep K F kk y):kk=kV k':=by
 cases y<;>first|cases ek|skip
 .obtain rfl:=r2.vI;rfl
 .obtain rfl:=r2.vS;rfl
theorem zZ4{gk gv:G}(hk:VE X kx gk)(hv:VE X vx gv):FE X (.Dict [AA kx] [vx] pos) (Dk gk gv):=(zYY (zU1 hk hv zYX) rfl rfl 's' (by show 1<=15;decide)).imp λσ H Q h q hq=>by
 obtain⟨τ,F,E,d,E',S,hg,k⟩:=h;obtain⟨p,e1,hg⟩:=pA3 hg;obtain⟨r,e2,hg⟩:=pA3 hg;split at hg
 .rename_i k' ek
  cases hg;have n:=pA6 (H':=D3 H q (.dK [])) S.sub (Gr.new hq);have S0:=S.new n
  have keep:∀{Ea Eb:Ev} {Fa Ha Fb Hb:Hp},Stp (EC σ Ea) Fa Ha Fb Hb (EC σ Eb)->Fa q=AL->¬EC σ Ea q->Ha q=AA (.dK [])->Fb q=AL/\¬EC σ Eb q/\Hb q=AA (.dK []):=by
   intro Ea Eb Fa Ha Fb Hb st a1 a2 a3;refine{?_,λz=>(st.own q z).elim a2 λz=>by (rw[a3] at z;cases z),st.keep q _ a3 trivial a1 a2}
   cases z:Fb q with
   |none=>rfl
   |some u =>
    rcases st.new q u z with z|z|z
    .exact absurd a1 z
    .exact absurd trivial (z _ a3)
    .exact absurd z a2
  refine{τ,F,E,p.1,p.2,S0,e1,λkk F1 H1 s1 S1 r1=>{τ,F1,p.2,r.1,r.2,S1,e2,λvv F2 H2 s2 S2 r2=>?_}};obtain⟨f1,m1,h1⟩:=keep s1 (pAG S.sub hq) (S.fresh hq) HJ;obtain⟨f2,m2,h2⟩:=keep s2 f1 m1 h1;have:=Xo ek r1;subst this;refine{h2,[(k',vv)],rfl,by show 1<=15;decide,?_}
  have st:Stp (EC σ E) F H F2 (D3 H2 q (.dK [(k',vv)])) (EC σ r.2):=by
   have bR:=((n.stp (ow:=EC σ E)).trans s1).trans s2;refine{λa u e hw nf ho=>?_,λa e=>?_,bR.le,bR.new,bR.own}
   .rw[FH (W6 e hq)];exact bR.keep a u e hw nf ho
   .by_cases ha:a=q
    .rw[ha];exact hq
    .rw[FH ha] at e;exact bR.dom a e
  exact k q F2 _ st (S2.off f2 m2) f2 hq {_,HJ,.cons r2 .nil} m2
 .cases hg
def cQ(gd gk gx:G):G:=λE=>(gd E).bind λp=>(gk p.2).bind λq=>(gx q.2).bind λr=>match kU p.1 q.1 with
 |some o=>.ok (o.getD r.1,r.2)
 |none=>.bad
theorem Xb{gd gk gx:G}{o dx:DA}(hu:X.A.units+64<GB)(ho:VE X o gd)(hk:VE X kx gk)(hx:VE X dx gx)(m:M2 X o "get" MB kx dx GA:=by exact{rfl,rfl,rfl,rfl}):VE X (.Call (.Attribute o "get" MB) [kx,dx] [] GA) (cQ gd gk gx):=(zU2 'l' ho hk hx m).imp λσ H Q h=>by
 obtain⟨τ,F,E,d,E',S,hg,k⟩:=h;obtain⟨p,e1,hg⟩:=pA3 hg;obtain⟨q,e2,hg⟩:=pA3 hg;obtain⟨r,e3,hg⟩:=pA3 hg;split at hg
 .rename_i od eo
  cases hg;refine{τ,F,E,p.1,p.2,S,e1,λv F1 H1 s1 S1 r1=>?_}
  have isd:∃ad,v=.ref ad/\Jb H1 ad:=by
   generalize hy:p.1=y at eo r1
   cases y with
   |dk kvs=>cases r1 with|dk h1 _=>exact{_,rfl,.inl {_,S1.sub.rd h1}}
   |dt kvs=>cases r1 with|dt h1 _=>exact{_,rfl,.inr {_,S1.sub.rd h1}}
   |_=>cases eo
  obtain⟨ad,rfl,hd⟩:=isd;refine{ad,rfl,hd,τ,F1,p.2,q.1,q.2,S1,e2,λkk F2 H2 s2 S2 r2=>{τ,F2,q.2,r.1,r.2,S2,e3,λz F3 H3 s3 S3 r3=>?_}};obtain⟨a',ov,ea,g,ro⟩:=pAI S3.sub ((r1.le s2.le).le s3.le) (r2.le s3.le) eo;cases ea;refine{ov,g,k _ F3 H3 ((s1.trans s2).trans s3) S3 ?_}
  cases od with
  |none=>have:=ro.none_of;subst this;exact r3
  |some d0=>obtain⟨w,rfl,LQ⟩:=ro.some_of;exact LQ
 .cases hg
def Wr:D->Out Bool
 |.non=>.ok AC
 |.bl b=>.ok b
 |.int i=>.ok (i != 0)
 |.lst ds=>.ok (!ds.isEmpty)
 |.tup ds=>.ok (!ds.isEmpty)
 |.str z=>few z.length (.ok ((z.length:Int) != 0))
 |_=>.bad
def RB(g:G):Ev->Out (Bool×Ev):=λE=>(g E).bind λp=>(Wr p.1).bind λb=>.ok (b,p.2)
theorem Reps.isEmpty{vs:List V}{ds:List D}(r:Reps K F vs ds):vs.isEmpty=ds.isEmpty:=by (cases r)<;>rfl
theorem gK(ha:VE X a ga)(he:∀SK,V9 a X.env SK=(do let v <-SK;JH a.pos;IU [v] (truthy v)):=by intro _;rfl):VT X a (RB ga):=(zUR ha he).imp λσ H Q h=>by
 obtain⟨τ,F,E,d,E',S,hg,k⟩:=h;obtain⟨p,e1,hg⟩:=pA3 hg;obtain⟨b,e2,hg⟩:=pA3 hg;cases hg;refine{τ,F,E,p.1,p.2,S,e1,λv F1 H1 s1 S1 r1=>{d,?_,k F1 H1 s1 S1}};generalize hy:p.1=y at e2 r1
 cases y with
 |non=>obtain rfl:=r1.vN;cases e2;rfl
 |bl b=>obtain rfl:=r1.vB;cases e2;rfl
 |int i=>obtain rfl:=r1.vI;cases e2;rfl
 |str z =>
  obtain rfl:=r1.vS;obtain⟨hl,e2⟩:=W4 e2;cases e2;exact{lL hl,rfl}
 |lst ds =>
  cases e2;obtain⟨l,ys,rfl,h1,h2⟩:=r1.isRefL;exact .inl {ys,h1.imp S1.sub.rd id,by rw[h2.isEmpty]}
 |tup ds =>
  cases e2;obtain⟨l,ys,rfl,h2,h1⟩:=r1.tupSq;exact .inr (.inl {ys,h1 F1 H1 (.refl _) S1.sub,by rw[h2.isEmpty]})
 |_=>cases e2
noncomputable def QV(lo:Int)(n:Nat):List D:=(DL n).map λi:Nat=>D.int (lo+(i:Int))
theorem Sw(lo:Int)(n:Nat):Walks K (sA lo n) F (QV lo n):=λi F1 H1 l s=>by
 have hl:(QV lo n).length=n:=by simp[QV]
 refine{λhi=>by rw[hl] at hi;exact hi,λhi=>by rw[hl] at hi;rw[hi];exact AM _,λx H' d e ⟨e1,y⟩=>?_};subst e1 y;unfold QV at e;rw[AX] at e
 cases q:(DL n)[i]? with
 |none=>rw[q] at e;cases e
 |some j =>
  rw[q] at e
  have:j=i:=by
   obtain⟨h1,h2⟩:=AQ.mp q;rw[List.getElem_range] at h2;exact h2.symm
  subst this;cases e;exact{F1,.refl s,.int _}
def nJ(i:Int):Prop:=-1000000<=i/\i<=1000000
instance (i:Int):Decidable (nJ i):=inferInstanceAs (Decidable (_/\_))
def OU(g:G):GI:=λE=>(g E).bind λp=>match p.1 with|.int j=>guard (nJ j) (.ok (QV 0 j.toNat,p.2))|_=>.bad
def nG(g g':G):GI:=λE=>(g E).bind λp=>(g' p.2).bind λq=>match p.1,q.1 with|.int i,.int j=>guard (nJ i/\nJ j) (.ok (QV i (j-i).toNat,q.2))|_,_=>.bad
theorem gO(hm:X.mg "range"=AL)(ha:VE X a ga)(hg:Gl X "range":=by rfl)(hs:AO [a] X.env=[(AC,eval a X.env)]:=by rfl)(ZV:AO [a] X.env=(AC,eval a X.env)::AO [] X.env:=by rfl):VI X tg (.Call (.Name "range" p) [a] [] pos) (OU ga):=(Tu hg hm (VC ha JB ZV) hs).imp λσ H Q h=>by
 obtain⟨τ,F,E,ds,E',S,hg,k⟩:=h;obtain⟨q,e1,hg⟩:=pA3 hg;refine{τ,F,E,q.1,q.2,S,e1,λv F1 H1 s1 S1 r1=>?_};split at hg
 .rename_i j ej
  obtain⟨⟨g1,g2⟩,hg⟩:=i5 hg;cases hg;rw[ej] at r1;obtain rfl:=r1.vI;exact{j,rfl,by lia,by lia,k _ F1 H1 s1 S1 (Sw 0 _)}
 .cases hg
theorem Sv(hm:X.mg "range"=AL)(ha:VE X a ga)(hb:VE X b gb)(hg:Gl X "range":=by rfl)(hs:AO [a,b] X.env=[(AC,eval a X.env),(AC,eval b X.env)]:=by rfl)(MZ:AO [b] X.env=[(AC,eval b X.env)]:=by rfl)
  (ZV:AO [a,b] X.env=(AC,eval a X.env)::AO [b] X.env:=by rfl) (o7:AO [b] X.env=(AC,eval b X.env)::AO [] X.env:=by rfl):VI X tg (.Call (.Name "range" p) [a,b] [] pos) (nG ga gb):=(zRH hg hm (VC ha (VC hb JB o7) ZV) hs MZ).imp λσ H Q h=>by
 obtain⟨τ,F,E,ds,E',S,hg,k⟩:=h;obtain⟨q,e1,hg⟩:=pA3 hg;obtain⟨r,e2,hg⟩:=pA3 hg;refine{τ,F,E,q.1,q.2,S,e1,λv F1 H1 s1 S1 r1=>{τ,F1,q.2,r.1,r.2,S1,e2,λu F2 H2 s2 S2 r2=>?_}};split at hg
 .rename_i i j ei ej
  obtain⟨⟨⟨g1,g2⟩,g3,g4⟩,hg⟩:=i5 hg;cases hg;rw[ei] at r1;rw[ej] at r2;obtain rfl:=r1.vI;obtain rfl:=r2.vI;exact{i,j,rfl,{by lia,by lia,by lia,by lia},k _ F2 H2 (s1.trans s2) S2 (Sw i _)}
 .cases hg
noncomputable def kM(ds:List D):List D:=ds.zipIdx.map λp=>.tup [.int (p.2:Int),p.1]
theorem zV8{ds:List D}{d:D}(e:(kM ds)[i]?=AA d):∃d0,ds[i]?=AA d0/\d=.tup [.int (i:Int),d0]:=by
 unfold kM at e;rw[AX,List.getElem?_zipIdx] at e
 cases q:ds[i]? with
 |none=>rw[q] at e;cases e
 |some d0=>rw[q] at e;cases e;exact{d0,rfl,by simp}
def Dj(g:G):GI:=λE=>(g E).bind λp=>match p.1 with
 |.lst ds=>.ok (kM ds,p.2)
 |_=>.bad
theorem zV9(hm:X.mg "enumerate"=AL)(ha:VE X a ga)(hg:Gl X "enumerate":=by rfl)(hs:AO [a] X.env=[(AC,eval a X.env)]:=by rfl)(ZV:AO [a] X.env=(AC,eval a X.env)::AO [] X.env:=by rfl):VI X tg (.Call (.Name "enumerate" p) [a] [] pos) (Dj ga):=λAG s σ H R I h=>by
 obtain⟨τ,F,E,ds,E',S,xA,k⟩:=h;obtain⟨q,e1,xA⟩:=pA3 xA;have hl:∀mH:List D,(kM mH).length=mH.length:=λmH=>by simp[kM]
 split at xA
 .rename_i mH ed
  cases xA;refine zVT hg hm (VC ha JB ZV) hs AG s σ H R I {τ,F,E,q.1,q.2,S,e1,λv F1 H1 s1 S1 r1=>?_};rw[ed] at r1;obtain⟨l,ys,rfl,h1,h2⟩:=r1.isRefL;refine{l,rfl,{ys,h1.imp S1.sub.rd id},k _ F1 H1 s1 S1 λi F2 H2 l2 s2=>?_};have sq:SqL X.K H2 l ys:=h1.imp (λh=>s2.rd (l2.rd h)) id;refine{λhi=>?_,λhi=>{ys,sq,by rw[h2.length,hi,hl];exact AM _},λx H' d e ⟨pp,xx,ex,hp,eH,y⟩=>?_}
  .have hv:i<ys.length:=by rw[h2.length];rw[hl] at hi;exact hi
   exact{ys,ys[i],sq,by simp[hv]}
  .subst ex eH
   obtain⟨d0,z1,z2⟩:=zV8 e;subst z2;obtain⟨w,w1,w2⟩:=h2.get z1;rw[y ys sq] at w1;cases w1;have n:=New.laid (o:=.tup [.int i,xx]) s2 hp;exact{_,n,.tup HJ (.cons (.int _) (.cons ((w2.le l2).le n.1.le) .nil))}
 .cases xA
def mW(ds es:List D):List D:=(ds.zip es).map λp=>.tup [p.1,p.2]
theorem zZ6{ds es:List D}{d:D}(e:(mW ds es)[i]?=AA d):∃d0 d1,ds[i]?=AA d0/\es[i]?=AA d1/\d=.tup [d0,d1]:=by
 unfold mW at e;rw[AX] at e
 cases q:(ds.zip es)[i]? with
 |none=>rw[q] at e;cases e
 |some z =>
  rw[q] at e;cases e;obtain⟨h1,h2⟩:=WE.mp q;exact{_,_,h1,h2,rfl}
def Ho(g g':G):GI:=λE=>(g E).bind λp=>(g' p.2).bind λq=>match p.1,q.1 with
 |.tup ds,.tup es=>.ok (mW ds es,q.2)
 |_,_=>.bad
theorem yEB(hm:X.mg "zip"=AL)(ha:VE X a ga)(hb:VE X b gb)(hg:Gl X "zip":=by rfl)(hs:AO [a,b] X.env=[(AC,eval a X.env),(AC,eval b X.env)]:=by rfl)(MZ:AO [b] X.env=[(AC,eval b X.env)]:=by rfl)
  (ZV:AO [a,b] X.env=(AC,eval a X.env)::AO [b] X.env:=by rfl) (o7:AO [b] X.env=(AC,eval b X.env)::AO [] X.env:=by rfl):VI X tg (.Call (.Name "zip" p) [a,b] [] pos) (Ho ga gb):=(yC5 hg hm (VC ha (VC hb JB o7) ZV) hs MZ).imp λσ H Q h=>by
 obtain⟨τ,F,E,ds,E',S,hg,k⟩:=h;obtain⟨q,e1,hg⟩:=pA3 hg;obtain⟨r,e2,hg⟩:=pA3 hg;refine{τ,F,E,q.1,q.2,S,e1,λv F1 H1 s1 S1 r1=>{τ,F1,q.2,r.1,r.2,S1,e2,λu F2 H2 s2 S2 r2=>?_}};split at hg
 .rename_i mH es0 ei ej
  cases hg;rw[ei] at r1;rw[ej] at r2;obtain⟨l,ys,rfl,h2,h1⟩:=(r1.le s2.le).tupSq;obtain⟨m,zs,rfl,h4,h3⟩:=r2.tupSq;refine{l,m,rfl,{ys,h1 F2 H2 (.refl _) S2.sub},{zs,h3 F2 H2 (.refl _) S2.sub},k _ F2 H2 (s1.trans s2) S2 λi F3 H3 l3 s3=>?_};have sq:=h1 F3 H3 l3 s3;have Jr:=h3 F3 H3 l3 s3;have hl:(mW mH es0).length=min mH.length es0.length:=by simp[mW]
  refine{λhi=>?_,λhi=>{ys,zs,sq,Jr,?_},λx H' d e ⟨pp,xx,yy,ex,hp,eH,y1,y2⟩=>?_}
  .rw[hl] at hi
   have hv:i<ys.length:=by rw[h2.length];lia
   have hw:i<zs.length:=by rw[h4.length];lia
   exact{ys,zs,ys[i],zs[i],sq,Jr,by simp[hv],by simp[hw]}
  .rw[hl] at hi
   rw[h2.length,h4.length];lia
  .subst ex eH
   obtain⟨d0,d1,z1,z2,z3⟩:=zZ6 e;subst z3;obtain⟨w,w1,w2⟩:=h2.get z1;obtain⟨w',Yt,w2'⟩:=h4.get z2;rw[y1 ys sq] at w1;cases w1;rw[y2 zs Jr] at Yt;cases Yt;have n:=New.laid (o:=.tup [xx,yy]) s3 hp;exact{_,n,.tup HJ (.cons ((w2.le l3).le n.1.le) (.cons ((w2'.le l3).le n.1.le) .nil))}
 .cases hg
def uR(g:G):G:=λE=>(g E).bind λp=>match p.1 with|.int j=>guard (0<=j/\j<=1000) (.ok (.lst (QV 0 j.toNat),p.2))|_=>.bad
theorem Uz{rp jL:iB}(hc:X.calm=AK)(hm:X.mg "range"=AL)(hml:X.mg "list"=AL)(ha:VE X a ga)(hg:Gl X "range":=by rfl)(hgl:Gl X "list":=by rfl)
  (ZV:AO [a] X.env=(AC,eval a X.env)::AO [] X.env:=by rfl) (Lm:(DT jL (AO [] X.env)).any (·.1)=AC:=by rfl)
  (he:AO [.Call (.Name "range" rp) [a] [] jL] X.env=(AC,eval (.Call (.Name "range" rp) [a] [] jL) X.env)::AO [] X.env:=by rfl) (J5:(DT pos (AO [] X.env)).any (·.1)=AC:=by rfl) :
  FE X (.Call (.Name "list" p) [.Call (.Name "range" rp) [a] [] jL] [] pos) (uR ga) :=
 (z8 (zJ1 hc) hgl hml (by decide +kernel) (VC (z8 zU9 hg hm (by decide +kernel) (VC ha JB ZV) 'd' 'd' ZV Lm) JB he) 'd' 'd' he J5).imp λσ H Q h=>by
  obtain⟨τ,F,E,d,E',S,hg,k⟩:=h;obtain⟨q,e1,hg⟩:=pA3 hg;refine{τ,F,E,q.1,q.2,S,e1,λv F1 H1 s1 S1 r1=>?_};split at hg
  .rename_i j ej
   obtain⟨⟨g1,g2⟩,hg⟩:=i5 hg;cases hg;rw[ej] at r1;obtain rfl:=r1.vI;refine{j,rfl,λpp hp=>{pp,j.toNat,rfl,by rw[HJ,Int.toNat_of_nonneg g1],by lia,λl hl=>?_}};have n:=pA6 (H':=D3 (D3 H1 pp (.rng 0 j)) l (.lst ((DL j.toNat).map λi:Nat=>V.int (i:Int)))) S1.sub ((Gr.new hp).trans (Gr.new hl));have eM:H1 l=AL:=(Gr.new hp).dom l hl;refine k l F1 _ (s1.trans n.stp) (S1.new n) (pAG S1.sub eM) (s1.dom l eM) {_,HJ,?_} (S1.fresh eM);have:QV 0 j.toNat=((DL j.toNat).map λi:Nat=>(i:Int)).map D.int:=by unfold QV;rw[DR];congr 1;funext i;simp
   rw[this,show((DL j.toNat).map λi:Nat=>V.int (i:Int))=((DL j.toNat).map λi:Nat=>(i:Int)).map V.int by rw[DR];rfl];exact Reps.ints _
  .cases hg
end
section
variable{K:AD}{E:Ev}{a b:DA}{g ga gb gc ge:G}{gs:List G}{m:Mr}
def D.kids:D->Bool
 |.lst ds=>pA9 ds
 |.dk kvs=>pA9 (kvs.map (·.2))
 |.dt kvs=>pA9 (kvs.map (·.2))
 |_=>AC
def sY(is:List Nat)(g:G):G:=λE=>(g (O4 is E)).bind λp=>if p.1.kids=AK then .ok (p.1,E) else .bad
theorem RepK.flat2(ht:∀a vs,F a=AA (.tup vs)->F2 a=AA (.tup vs)){vs:List (Key×V)}{ds:List (Key×D)}(r:RepK K F vs ds):pA9 (ds.map (·.2))=AK->RepK K F2 vs ds:=(pAB ht).2.2.1 r
theorem RepT.flat2(ht:∀a vs,F a=AA (.tup vs)->F2 a=AA (.tup vs)){vs:List (List Key×V)}{ds:List (List Int×D)}(r:RepT K F vs ds):pA9 (ds.map (·.2))=AK->RepT K F2 vs ds:=(pAB ht).2.2.2 r
theorem Xa(is:List Nat)(h:FE X e g):FE X e (sY is g):=by
 rintro AG s σ H Q I ⟨τ,F,E,d,E',S,hg,k⟩;obtain⟨p,eg,hg⟩:=pA3 hg;split at hg
 .rename_i hl
  cases hg;obtain⟨S1,no⟩:=S.lend is;refine G4 (h AG s σ H (λv H'=>∃ad F' YK,v=.ref ad/\Stp (λ_=>False) (X8 σ E is F H) H F' H' YK/\Sub F' H'/\F' ad=AL/\H ad=AL/\OwnAt X.K F' H' ad p.1) I {τ,_,_,p.1,p.2,S1,eg,λad F' H' st S' n1 n2 ow _=>{ad,F',_,rfl,st.toF no,S'.sub,n1,n2,ow}}) λu s' q0=>?_;obtain⟨v,H',I',rv,ad,F',YK,ev,st,sb,n1,n2,ow⟩:=q0;subst ev;obtain⟨t1,t2,t3,h1,_⟩:=S.back is st sb;have ht:∀a vs,F' a=AA (.tup vs)->W2 σ E is F' a=AA (.tup vs):=λa vs e=>h1 a _ e λo w ho=>{λz=>by subst z;exact ho,λz=>HO.noConfusion z}
  have nl:¬Lent σ E is ad:=λz=>by
   obtain⟨_,⟨o,ho,_⟩,_⟩:=S.owned z.ow;rw[n2] at ho;cases ho
  have hh:bE σ E is H H' ad=H' ad:=by unfold bE;rw[if_neg nl]
  refine{.ref ad,_,I'.thaw t1,rv,k ad _ _ t2 t3 (by unfold W2;rw[if_neg nl];exact n1) n2 ?_ (S.fresh n2)};generalize hy:p.1=y at ow hl
  cases y with
  |lst ds=>obtain⟨vs,q,r⟩:=ow;exact{vs,hh.trans q,Reps.flat2 ht r hl}
  |dk ds=>obtain⟨vs,q,r⟩:=ow;exact{vs,hh.trans q,RepK.flat2 ht r hl}
  |dt ds=>obtain⟨vs,q,r⟩:=ow;exact{vs,hh.trans q,RepT.flat2 ht r hl}
  |_=>exact ow.elim
 .cases hg
theorem Ag{iter:DA}{t:Tg}{ge:G}(n:CompNm X scope cl own CG js)(hc:X.calm=AK)(hi:VI X tg iter gi)
  (hg:∀C s H fp,VG (K1 X scope cl (own++CG) C s H fp) tg t) (ht:∀C s H fp,lM (K1 X scope cl (own++CG) C s H fp) ifs tt) (he:∀C s H fp,VE (K1 X scope cl (own++CG) C s H fp) ND ge)
  (hN:X.N.Nodup) (hx:X.N[i]?=AA x) (hl:X.env.scope.names.lookup x=AA .local)
  (jN:HS (.ListComp ND [{tg,iter,ifs,0}] scope pos) (AA (.Name x NI)) T8.line X.env=pure AK)
  (KZ:t.ltn own.length=AK:=by rfl) (hj:js.Nodup:=by decide) (hs:∀x,CM iter X.env x=pure x:=by intro _;rfl):VS X (.Assign [.Name x NI] (.ListComp ND [{tg,iter,ifs,0}] scope pos) T8) (HZ (.nm i) (KY gi own.length js t tt ge)) :=
 λAG s σ H D' I h=>by
  refine Gz (g:=λH=>tG X.K H t) (tt:=λH=>tT X.K H tt) (te:=λH=>tV X.K H ge) n hc hi hg ht he hN hx hl jN hs AG s σ H D' I ?_;refine Eh KZ hj (pA7 ?_);obtain⟨τ,F,E,r,S,hg,k⟩:=h;obtain⟨p,e1,hg⟩:=pA3 hg;obtain⟨E1,e2,hg⟩:=pA3 hg;cases hg;rw[WQ] at e2;cases e2;refine{τ,F,E,p.1,p.2,S,e1,λv F1 H1 s1 S1 r1=>?_};obtain⟨S2,h2⟩:=S1.put (i:=i) r1;exact k _ F1 H1 (s1.weak h2) S2
theorem Fun.cal{ps:List C2}{st:FF}(Fn:Fun K x x st f fd)(h:FnOk P w K mg base LP k f fd ps (NQ K np m))(hm:mg x=AA (.ref f))(hb:Binds K fd ps []):K9 P w K mg base x k np m:={f,fd,ps,h,hm,Fn.kp,hb}
end
theorem mV{Pr:α->Prop}:∀p∈([]:List α),Pr p:=λp hp=>nomatch hp
theorem dG{Pr:α->Prop}{a:α}(h:Pr a):∀p∈[a],Pr p:=λp hp=>by rw[BB.mp hp];exact h
theorem Iu{Pr:α->Prop}{a:α}{l:List α}(h:Pr a)(t:∀p∈l,Pr p):∀p∈a::l,Pr p:=λp hp=>by
 rcases A7.mp hp with rfl|hp
 .exact h
 .exact t p hp
theorem rY{Pr:α->Prop}{a b:α}(h1:Pr a)(h2:Pr b):∀p∈[a,b],Pr p:=Iu h1 (dG h2)
theorem Bi{Pr:α->Prop}{a b c:α}(h1:Pr a)(h2:Pr b)(h3:Pr c):∀p∈[a,b,c],Pr p:=Iu h1 (rY h2 h3)
theorem Iv{Pr:α->Prop}{a b c d:α}(h1:Pr a)(h2:Pr b)(h3:Pr c)(h4:Pr d):∀p∈[a,b,c,d],Pr p:=Iu h1 (Bi h2 h3 h4)
section
variable{a b:DA}{ga gb:G}
theorem yIX{t:Ev->Out (Bool×Ev)}(hc:VT X c t)(ha:FE X a ga)(hb:FE X b gb):FE X (.IfExp c a b pos) (uS t ga gb):=(Sh hc ha hb).imp λσ H Q q=>by
 obtain⟨τ,F,E,d,E',S,hg,k⟩:=q;obtain⟨p,ea,hg⟩:=pA3 hg;refine{τ,F,E,p.1,p.2,S,ea,λF1 H1 st1 S1=>?_}
 by_cases hp:p.1=AK
 .rw[if_pos hp] at hg ⊢
  exact{τ,F1,p.2,d,E',S1,hg,λad F2 H2 st2 S2 n1 n2 ow no=>k ad F2 H2 (st1.trans st2) S2 n1 (st1.dom ad n2) ow no}
 .rw[if_neg hp] at hg ⊢
  exact{τ,F1,p.2,d,E',S1,hg,λad F2 H2 st2 S2 n1 n2 ow no=>k ad F2 H2 (st1.trans st2) S2 n1 (st1.dom ad n2) ow no}
end
section
variable{K:AD}{ge:G}
theorem pAK{o:IF}{u:HO}(s:Sub F H)(h:F a=AA u)(hd:sX u):New F H (D3 F a (.frz o u)) (D3 H a (.frz o u)):=by
 have hh:=s a u h;refine{{λb v e _ n _=>?_,λb e=>?_,λb v e=>?_,λb v e=>?_,λ_ z=>z.elim},λb v e=>?_}
 .rw[FH (λz=>by rw[z,h] at n;cases n)];exact e
 .by_cases hb:b=a
  .rw[hb,HJ] at e;cases e
  .rw[FH hb] at e;exact e
 .by_cases hb:b=a
  .subst hb;rw[h] at e;cases e;exact .inr (.inl {hd,o,HJ})
  .exact .inl (by rw[FH hb];exact e)
 .by_cases hb:b=a
  .subst hb;exact .inl (by rw[h];exact nofun)
  .rw[FH hb] at e;exact .inl (by rw[e];exact nofun)
 .by_cases hb:b=a
  .subst hb;rw[HJ] at e ⊢;exact e
  .rw[FH hb] at e ⊢;exact s b v e
theorem New.tup{p:AT}{vs:List V}(s:Sub F H)(h:H p=AA (.tup vs)):∃F',New F H F' H/\F' p=AA (.tup vs):=by
 cases hf:F p with
 |some u =>
  have:=s p u hf;rw[h] at this;cases this;exact{F,.refl s,hf}
 |none =>
  refine{D3 F p (.tup vs),{{λ_ _ e _ _ _=>e,λ_ e=>e,.of_gr (Gr.new hf),λb v e=>?_,λ_ z=>z.elim},λb v e=>?_},HJ}
  .by_cases hb:b=p
   .subst hb
    refine .inr (.inl λo e' hw=>?_);rw[h] at e';cases e';exact hw
   .rw[FH hb] at e;exact .inl (by rw[e];exact nofun)
  .by_cases hb:b=p
   .subst hb;rw[HJ] at e;rw[h];exact e
   .rw[FH hb] at e;exact s b v e
def uE(k:List Int):D:=.tup (k.map D.int)
theorem RepT.keysAt{vs:List (List Key×V)}{ds:List (List Int×D)}(r:RepT K F vs ds):vs.map (·.1)=ds.map λkv=>kv.1.map CZ :=
 r.rec1 (T:=λvs ds=>vs.map (·.1)=ds.map λkv=>kv.1.map CZ) rfl λ_ _ ih=>congrArg (_::·) ih
theorem RepK.keysAt{vs:List (Key×V)}{ds:List (Key×D)}(r:RepK K F vs ds):vs.map (·.1)=ds.map (·.1) :=
 r.rec1 (R:=λvs ds=>vs.map (·.1)=ds.map (·.1)) rfl λ_ _ ih=>congrArg (_::·) ih
theorem Uy{o:IF}{kvs:List (Key×V)}{ds:List (Key×D)}(h:F a=AA (.frz o (.dK kvs)))(r:RepK K F kvs ds):Walks K (Yq a o kvs) F (ds.map λkv=>kK kv.1):=λi F1 H1 l s=>by
 have hf:F1 a=AA (.frz o (.dK kvs)):=by
  rcases l a _ h with z|⟨z,_⟩|⟨_,_,_,z,_⟩
  .exact z
  .exact z.elim
  .cases z
 have hh:=s _ _ hf;have hl:(ds.map λkv=>kK kv.1).length=kvs.length:=by rw[AI,r.length]
 refine{λhi=>{AN hi (C0 hl),hh},λhi=>{by lia,hh},λx H' d e ⟨e1,k,ex,ek⟩=>?_};subst e1 ex;rw[r.keysAt,AX] at ek;rw[AX] at e
 cases q:ds[i]? with
 |none=>rw[q] at e;cases e
 |some kv =>
  rw[q] at e ek;cases e;cases ek;exact{F1,.refl s,Ql _}
theorem Ux{o:IF}{ds:List (List Int×D)}(h:F a=AA (.frz o (.dT kvs)))(r:RepT K F kvs ds):Walks K (Yp a o kvs) F (ds.map λkv=>uE kv.1):=λi F1 H1 l s=>by
 have hf:F1 a=AA (.frz o (.dT kvs)):=by
  rcases l a _ h with z|⟨z,_⟩|⟨_,_,_,z,_⟩
  .exact z
  .exact z.elim
  .cases z
 have hh:=s _ _ hf;have hl:(ds.map λkv=>uE kv.1).length=kvs.length:=by rw[AI,r.length]
 refine{λhi=>{AN hi (C0 hl),hh},λhi=>{by lia,hh},λx H' d e ⟨e1,p,k,ex,ek,ep⟩=>?_};subst e1 ex;rw[r.keysAt,AX] at ek;rw[AX] at e
 cases q:ds[i]? with
 |none=>rw[q] at e;cases e
 |some kv =>
  rw[q] at e ek;cases e;cases ek;obtain⟨F',n,hp⟩:=New.tup s ep;refine{F',n,.tup hp ?_};rw[DR];exact Reps.ints kv.1
def IK(g:G):GI:=λE=>(g E).bind λp=>match p.1 with
 |.lst ds=>.ok (ds,p.2)
 |.tup ds=>.ok (ds,p.2)
 |.dk kvs=>.ok (kvs.map λkv=>kK kv.1,p.2)
 |.dt kvs=>.ok (kvs.map λkv=>uE kv.1,p.2)
 |_=>.bad
theorem T6(h:VE X e ge):VI X tg e (IK ge):=λAG s σ H R I q=>by
 obtain⟨τ,F,E,ds,E',S,hg,k⟩:=q;obtain⟨p,e1,hg⟩:=pA3 hg;split at hg
 .rename_i TX ed
  cases hg;exact zZE h AG s σ H R I {τ,F,E,ds,p.2,S,by unfold Yk;rw[e1];show(match p.1 with|.lst ds=>Out.ok (ds,p.2)|_=>.bad)=_;rw[ed],k}
 .rename_i TX ed
  cases hg;exact yDE h AG s σ H R I {τ,F,E,ds,p.2,S,by unfold Yj;rw[e1];show(match p.1 with|.tup ds=>Out.ok (ds,p.2)|_=>.bad)=_;rw[ed],k}
 .rename_i kvs ed
  cases hg
  -- which of both it is shows when the J0 is there
  refine G4 (h AG s σ H (λx H1=>∃F1,Stp (EC σ E) F H F1 H1 (EC σ p.2)/\Sim X.K X.H₀ τ F1 H1 σ p.2/\Rep X.K F1 x (.dk kvs)) I {τ,F,E,p.1,p.2,S,e1,λv F1 H1 s1 S1 r1=>{F1,s1,S1,by rw[<-ed];exact r1}}) λv s1 q0=>?_;obtain⟨x,H1,I1,r1,F1,st,S1,rr⟩:=q0
  cases rr with
  |dk hr r =>
   rename_i a kv;cases r1;rcases hr with hr|⟨o,hr⟩
   .have ha:=S1.sub _ _ hr
    obtain⟨o,ho,I2⟩:=I1.freezeK ha;obtain⟨es,ep,LQ,z1,z2,z3⟩:=tW (I1.hok a _ ha);obtain⟨o',q1,q2,q3⟩:=id LQ.ex;rw[ho] at q1;cases q1;have n:=pAK (o:=o) S1.sub hr trivial;refine zY LQ λh' kk ki=>?_;refine{s1.heap.objs.size,[s1.heap.objs.size],_,_,_,rfl,I2.kept (t':=s1.toks) kk,Ut a _ o kv es ep q3 z1,ki,λb hb=>?_,k _ _ _ (st.trans n.stp) (S1.new n) (Uy HJ (r.le n.1.le))};have e:b=s1.heap.objs.size:=by simpa using hb
    subst e;exact I2.fpOk (AM _) (I2.hok.fresh (AM _))
   .have ha:=S1.sub _ _ hr
    obtain⟨ho,hx⟩:=I1.hok a _ ha;obtain⟨es,ep,LQ,z1,z2,z3⟩:=tW hx;obtain⟨o',q1,q2,q3⟩:=id LQ.ex;rw[ho] at q1;cases q1;refine zY LQ λh' kk ki=>?_;refine{s1.heap.objs.size,[s1.heap.objs.size],_,_,_,rfl,I1.kept (t':=s1.toks) kk,Ut a _ o kv es ep q3 z1,ki,λb hb=>?_,k _ _ _ st S1 (Uy hr r)};have e:b=s1.heap.objs.size:=by simpa using hb
    subst e;exact I1.fpOk (AM _) (I1.hok.fresh (AM _))
 .rename_i kvs ed
  cases hg;refine G4 (h AG s σ H (λx H1=>∃F1,Stp (EC σ E) F H F1 H1 (EC σ p.2)/\Sim X.K X.H₀ τ F1 H1 σ p.2/\Rep X.K F1 x (.dt kvs)) I {τ,F,E,p.1,p.2,S,e1,λv F1 H1 s1 S1 r1=>{F1,s1,S1,by rw[<-ed];exact r1}}) λv s1 q0=>?_;obtain⟨x,H1,I1,r1,F1,st,S1,rr⟩:=q0
  cases rr with
  |dt hr r =>
   rename_i a kv;cases r1;rcases hr with hr|⟨o,hr⟩
   .have ha:=S1.sub _ _ hr
    obtain⟨o,ho,I2⟩:=I1.freeze ha;obtain⟨es,ep,LQ,z1,z2,z3⟩:=nM (I1.hok a _ ha);obtain⟨o',q1,q2,q3⟩:=id LQ.ex;rw[ho] at q1;cases q1;have n:=pAK (o:=o) S1.sub hr trivial;refine zY LQ λh' kk ki=>?_;refine{s1.heap.objs.size,[s1.heap.objs.size],_,_,_,rfl,I2.kept (t':=s1.toks) kk,Ua a _ o kv es ep q3 z1,ki,λb hb=>?_,k _ _ _ (st.trans n.stp) (S1.new n) (Ux HJ (r.le n.1.le))};have e:b=s1.heap.objs.size:=by simpa using hb
    subst e;exact I2.fpOk (AM _) (I2.hok.fresh (AM _))
   .have ha:=S1.sub _ _ hr
    obtain⟨ho,hx⟩:=I1.hok a _ ha;obtain⟨es,ep,LQ,z1,z2,z3⟩:=nM hx;obtain⟨o',q1,q2,q3⟩:=id LQ.ex;rw[ho] at q1;cases q1;refine zY LQ λh' kk ki=>?_;refine{s1.heap.objs.size,[s1.heap.objs.size],_,_,_,rfl,I1.kept (t':=s1.toks) kk,Ua a _ o kv es ep q3 z1,ki,λb hb=>?_,k _ _ _ st S1 (Ux hr r)};have e:b=s1.heap.objs.size:=by simpa using hb
    subst e;exact I1.fpOk (AM _) (I1.hok.fresh (AM _))
 .cases hg
end
theorem walk_v{l:RL}{d:DefRec}{K:Params->AD}{lv:Nat}{m:Mr}(hn:l.most=AA 63)(xD:d.params.defaults=[])(hr:Room lv Q6)
  (hY:∀(w:D8) (h:D7),YP w h->(K w.params).In h) (tK:∀w:D8,Tabs (K w.params) q) (hm:∀ns:List Int,ns.length<=63->∃b d',m [.val (.lst (ns.map D.int))]=.ok (b,.bl AK,d'))
  (F:∀(w:D8) (mg:C2->Option AJ) (fa:AT) (h:D7),(K w.params).In h->h.Ns BK mg->mg d.name=AA (.ref fa) ->
   ∃fd:JZ,(∀(s:AS) (u:AJ),US s fd {[u],[]} [("script",u)])/\∀base:D7,(K w.params).In base->base.Ns BK mg->CB (K w.params) base->FnOk l.prog w (K w.params) mg base LP lv fa fd ["script"] (NQ (K w.params) 1 m)) :
  hZ q ZT XP YP l.row.toRowW d [] (λf vs=>aW f vs) :=
 L2.walk_of (n:=63) (k:=lv) (x:="script") (CX:=λ_=>LP) (sp:=λw=>NQ (K w.params) 1 m) hn 'd' xD hr hY tK F (λw H a ns hl _ hS=>by
  obtain⟨b,d',e⟩:=hm ns hl;refine{rfl,0,H,_,b,_,d',{λ_ _ z=>z,rfl,λi d0 z=>?_,λi t d0 z=>?_,λi j t u d1 d2 a' z=>?_},λi t d0 z=>?_,e,λv F' H' st S r=>?_}
  .cases i with
   |zero=>cases z;exact{_,rfl,.lst hS (Reps.ints ns)}
   |succ i=>simp at z
  .cases i with
   |zero=>cases z
   |succ i=>simp at z
  .cases i with
   |zero=>cases z
   |succ i=>simp at z
  .cases i with
   |zero=>cases z
   |succ i=>simp at z
  .cases b with
   |false=>obtain rfl:=r.vB;rfl
   |true=>obtain⟨_,_,_,ow,_⟩:=r;exact ow.elim) λ_ _ _ _ _ z=>z
end L2
namespace L2
open PySem
theorem yEE{K:AD}{ps:List C2}:FnOk P w K mg base LP k f fd ps (NQ K np λ_=>.bad) :=
 {(λvs H Q E h=>by obtain⟨_,_,_,_,_,_,_,_,_,hm,_⟩:=h;cases hm),(λA outer s H args us vs Q E hr e b v h=>by obtain⟨_,_,_,_,_,_,_,_,_,hm,_⟩:=h;cases hm)}
end L2
variable{gi:L2.GI}{tt:L2.Ev->L2.Out (Bool×L2.Ev)}{c':AT}{q:C2}{RZ:AJ}
namespace L2
open PySem PySem.Spec PyProof.Rows
section
variable{K:AD}{E:Ev}{BR:AT}
def qF(gk gv:G):GM:=λd E=>(gk E).bind λp=>(gv p.2).bind λq=>match d,iU p.1 with|.dk kvs,AA k=>few kvs.length (.ok (.dk (OT kvs k q.1),q.2))|_,_=>.bad
theorem zS5{gk gv:G}{N:St->Hp->Prop}(h:rW K H₀ BR k (qF gk gv) σ H N):Dt BR (tV K H₀ gk) (tV K H₀ gv) σ H N:=by
 obtain⟨τ,F,E,d,d',E',S,f,n,o,hg,k⟩:=h;obtain⟨p,e1,hg⟩:=pA3 hg;obtain⟨q,e2,hg⟩:=pA3 hg;split at hg
 .rename_i k' ek _ _
  obtain⟨hz,hg⟩:=W4 hg;cases hg;refine{τ,F,E,p.1,p.2,S,e1,λx F5 H5 s5 S5 r5=>?_};refine{τ,F5,p.2,q.1,q.2,S5,e2,λy F6 H6 s6 S6 r6=>?_};obtain⟨f6,m6,ys,h6,r2⟩:=sW (s5.trans s6) f n o;exact{ys,k',h6,Xo ek r5,by rw[r2.length];exact cU hz,k σ F6 _ (Xk (s5.trans s6)) (S6.off f6 m6) f6 m6 {_,HJ,r2.put k' r6} λ_ _=>rfl}
 .cases hg
theorem zZ8{iter:DA}{t:Tg}{gk gv:G}(n:CompNm X scope cl own CG js)(hc:X.calm=AK)(hi:VI X tg iter gi)
  (hg:∀C s H fp,VG (K1 X scope cl (own++CG) C s H fp) tg t) (ht:∀C s H fp,lM (K1 X scope cl (own++CG) C s H fp) ifs tt) (hk:∀C s H fp,VE (K1 X scope cl (own++CG) C s H fp) kx gk) (hv:∀C s H fp,VE (K1 X scope cl (own++CG) C s H fp) vx gv)
  (KZ:t.ltn own.length=AK:=by rfl) (hj:js.Nodup:=by decide) (hs:∀x,CM iter X.env x=pure x:=by intro _;rfl):FE X (.DictComp kx vx [{tg,iter,ifs,0}] scope pos) (bL gi own.length js (.dk []) t tt (qF gk gv)) :=
 (zU8 (g:=λH=>tG X.K H t) (tt:=λH=>tT X.K H tt) (tk:=λH=>tV X.K H gk) (tv:=λH=>tV X.K H gv) n hc hi hg ht hk hv hs).imp λσ H Q h =>
  zG (λJ H2 q BR ha=>tWalkC.imp (λ_ _ _ z=>zS5 z) (λσ H=>zI σ H) (λx σ H=>zH x σ H) (q BR ha)) (Ff (o:=.dK []) (d0:=.dk []) (λF H a=>{[],HJ,.nil}) KZ hj h)
end
section
variable{K:AD}{E:Ev}{g:G}{q:iB}
end
theorem zQN{a b:Int}{c:AJ}(l:List AJ)(h:TriplesOk l)(e:Q5 pos (l++[E7 a,E7 b,c])=AA cv):Q5 pos l=AA cv\/cv=c:=by
 fun_induction TriplesOk l with
 |case1 =>
  simp only[FY,Q5,E7] at e;split at e
  .cases e;exact .inr rfl
  .cases e
 |case2 a' t b' u x rest ih =>
  simp only[NG,Q5] at e ⊢;split at e
  .rename_i hc;rw[if_pos hc];exact .inl e
  .rename_i hc;rw[if_neg hc];exact ih h e
 |case3 l h1 h2=>exact h.elim
def LamStp(T:AT)(q:C2)(H H':Hp):Prop:=H'=H\/∃ps bS c' o,H T=AA (.tbl q ps)/\H c'=AL/\c'≠T/\H'=D3 (D3 H T (.tbl q bS)) c' (.frz o (.own c'))
section
variable{σ:List (Option V)}
theorem Inv.pinNew{o:IF}(I:Inv X AG σ H s)(hfr:o.isFreed=AC)(hd:∀v,o.data≠.cell v):Inv X ((s.heap.objs.size,o)::AG) σ H { s with heap:=s.heap.push o,toks:=t' }:=by
 have I1:Inv X AG σ H { s with heap:=s.heap.push o,toks:=t' }:=I.un (t':=t') (Un.kept λb u e=>AF _ e) (I.hok.kept λb u e=>AF _ e);refine{I1.ok,I1.os,I1.bare,I1.base,I1.loc,I1.cell,I1.free,I1.freeC,λp hp=>?_,I1.hok,I1.len};rcases CA.mp hp with hp|hp
 .exact I1.pin p (DI _ hp)
 .rcases A7.mp hp with rfl|hp
  .exact{AV _ hfr,I.hok.fresh (AM _),EY I.lt,I.nofs (AM _),hd}
  .exact I1.pin p (BG _ hp)
theorem Inv.table{T:AT}{ps:Array AJ}(I:Inv X AG σ H s)(hT:H T=AA (.tbl q ps))(hx:Z6 T s.heap h')(l0:s.heap.objs.size<=c')(jR:h'.CodeRec (.ref c') q)(Bw:h'.get? T=AA (LH (ps++#[E7 pos.line,E7 pos.col,.ref c']))) :
  ∃o,Inv X AG σ (D3 (D3 H T (.tbl q (ps++#[E7 pos.line,E7 pos.col,.ref c']))) c' (.frz o (.own c'))) { s with heap:=h',toks:=t' }/\H c'=AL/\c'≠T:=by
 obtain⟨c0,o,vs,t,e0,wS,hd,hv⟩:=jR;cases e0;obtain⟨e1,tr,al⟩:=I.hok T _ hT;have g7:H c'=AL:=I.hok.fresh l0;have pK:c'≠T:=λz=>by rw[z] at g7;rw[g7] at hT;cases hT
 have EE:∀b u,H b=AA u->b≠T->D3 (D3 H T (.tbl q (ps++#[E7 pos.line,E7 pos.col,.ref c']))) c' (.frz o (.own c')) b=AA u:=λb u e hb=>by
  rw[FH (λz=>by rw[z,g7] at e;cases e),FH hb];exact e
 have hTT:D3 (D3 H T (.tbl q (ps++#[E7 pos.line,E7 pos.col,.ref c']))) c' (.frz o (.own c')) T=AA (.tbl q (ps++#[E7 pos.line,E7 pos.col,.ref c'])):=by rw[FH (FO pK),HJ]
 have nT:∀b,H b=AL->b≠T:=λb e z=>by rw[z,hT] at e;cases e
 have vX:∀b u,s.heap.get? b=AA u->H b=AL->D3 (D3 H T (.tbl q (ps++#[E7 pos.line,E7 pos.col,.ref c']))) c' (.frz o (.own c')) b=AL:=λb u e n=>by
  rw[FH (BM (AN (A5 e) l0)),FH (nT b n)];exact n
 have oP:∀b u,H b=AA u->(∀ps,u≠.tbl q ps)->b≠T:=λb u e n z=>by rw[z,hT] at e;cases e;exact n _ rfl
 refine{o,I.un (t':=t') {λb u e n _ _=>hx b u (nT b n) e,λb u e n _ _=>{u.slots,hx b u (nT b n) e},λb u e n _=>vX b u e n,λb u e _=>?_,λb xs e=>EE b _ e (oP b _ e λ_ z=>by cases z),λb ob u e=>EE b _ e (oP b _ e λ_ z=>by cases z),λb t bS e=>?_} (λb u e=>?_),g7,pK}
 .by_cases hb:b=T
  .subst hb;exact{_,Bw}
  .exact{u,hx b u hb e}
 .by_cases hb:b=T
  .subst hb
   rw[hT] at e;cases e;exact{_,hTT}
  .exact{#[],by rw[EE b _ e hb];simp}
 .by_cases hb:b=c'
  .subst hb
   rw[HJ] at e;cases e;exact{wS,{_,wS}}
  .by_cases Nc:b=T
   .subst Nc
    rw[hTT] at e;cases e;refine{Bw,by rw[ER];exact TriplesOk_snoc _ _ _ _ tr,λp cv z=>?_};rw[ER] at z;rcases zQN _ tr z with z|z
    .obtain⟨c2,o2,Yu,t2,r1,r2,r3⟩:=al p cv z
     exact{c2,o2,Yu,t2,r1,EE c2 _ r2 (oP c2 _ r2 λ_ z=>by cases z),r3}
    .exact{c',o,vs,t,z,HJ,hd,hv}
   .rw[FH hb,FH Nc] at e
    refine(I.hok b u e).stay (λd v hc z=>hx d v ?_ z) (λd z=>EE d _ z (oP d _ z λ_ y=>by cases y)) (λd xs z=>EE d _ z (oP d _ z λ_ y=>by cases y)) λd ob x z=>EE d _ z (oP d _ z λ_ y=>by cases y);rcases hc with rfl|hc
    .exact Nc
    .exact oP d _ hc λ_ y=>by cases y
theorem zWA{c T:AT}{clos:List (C2×AT)}{body:DA}
  (I:Inv X AG σ H s) (ZY:X.env.code=.ref c) (C:LJ X.base c T) (tb:TB X.K T q) (hq:X.env.qual++("<lambda>":C2)=q) (hcl:Y3 scope X.env=pure clos) (pI:defaultsOf FJ X.env=([],[]))
  (h:∀(f c':AT) (pm RZ:AJ) (s':AS) (H':Hp) (o:IF),Inv X ((f,NE "<lambda>" q FJ body scope clos pm c' RZ)::AG) σ H' s'->LamStp T q H H'->H' c'=AA (.frz o (.own c'))->s'.heap.CodeRec (.ref c') q->s.heap.objs.size<=f->Q (.ref f) s') :
  A1 (A4 X.prog X.w) A (eval (.Lambda FJ body scope pos) X.env) Q E s:=by
 refine PySem.W.kla_eval pI ?_;rw[hq];obtain⟨ps,hT⟩:=I.tab T q tb;obtain⟨e1,tr,al⟩:=I.hok T _ hT;have hg:=I.mod.glob.keeps I.bk
 have hgT:BK≠T:=λz=>by
  obtain⟨o,es,ep,e,hd,_⟩:=hg;rw[z,e1] at e;cases e;cases hd
 have Ch:s.heap.BuiltinsAt X.mg T:=by
  obtain⟨bm,ob,b1,b2,b3,b4,b5,b6⟩:=I.mod.bmain;have e3:=I.bk _ _ b3;refine{bm,ob,b1,b2,λz=>?_,λz=>?_,e3,b4,b5,b6}
  .obtain⟨o,es,ep,e,hd,_⟩:=hg
   rw[z,e] at e3;cases e3;rw[hd] at b6;cases b6
  .rw[z,e1] at e3;cases e3;cases b4
 cases hf:Q5 pos ps.toList with
 |none =>
  refine PySem.W.kla_makeFunction (mg:=X.mg) hcl I.ok.glob hg ZY (C.keeps I.bk) e1 tr hf hgT Ch λc' RZ h' tk hx l0 KZ jR Bw=>?_;obtain⟨o,I1,g7,pK⟩:=I.table (t':=tk) hT hx l0 jR Bw;have I2:=I1.pinNew (t':=tk) (o:=NE "<lambda>" q FJ body scope clos ((X.mg "__name__").getD .none) c' RZ) rfl λv z=>by cases z
  exact h _ c' _ RZ _ _ o I2 (.inr {_,_,c',o,hT,g7,pK,rfl}) HJ (jR.push _) (AY l0 (CV KZ))
 |some cv =>
  obtain⟨c',o,vs,t,rfl,r2,r3,r4⟩:=al _ _ hf;refine PySem.W.kla_makeFunctionHit (mg:=X.mg) hcl I.ok.glob hg ZY (C.keeps I.bk) e1 tr hf Ch λRZ h' tk hk hsz=>?_;have I1:Inv X AG σ H { s with heap:=h',toks:=tk }:=I.un (t':=tk) (Un.kept hk) (I.hok.kept hk);have I2:=I1.pinNew (t':=tk) (o:=NE "<lambda>" q FJ body scope clos ((X.mg "__name__").getD .none) c' RZ) rfl λv z=>by cases z
  exact h _ c' _ RZ _ _ o I2 (.inl rfl) r2 {c',o,vs,t,rfl,(I2.hok _ _ r2).1,r3,r4} hsz
end
noncomputable def iR(X:Cx)(A:DU)(q:C2)(scope:NT)(cl:List (C2×AT))(nm:List C2)(f:AT)(cd:AJ)(s:AS)(H:Hp):Cx where
 prog:=X.prog
 w:=X.w
 K:=X.K
 mg:=X.mg
 base:=X.base
 A:=A.deeper (PZ q scope s.heap.objs.size f cd cl)
 N:=nm
 s₀:=s
 H₀:=H
 env:=PZ q scope s.heap.objs.size f cd cl
 outer:=X.stack
 stack:=PZ q scope s.heap.objs.size f cd cl::X.stack
 ex:=[]
 fn:=λ_=>AC
 calm:=AK
 pn:=[]
 xe:=λ_ _=>False
structure LamNm(X:Cx)(scope:NT)(cl:List (C2×AT))(p:C2)(CG:List C2)(js:List Nat):Prop where
 clos:Y3 scope X.env=pure cl
 kind:scope.kind=.function
 co:scope.isCoroutine=AC
 gen:scope.isGenerator=AC
 nocell:∀y∈scope.names,y.2≠.cell
 dom:∀y∈scope.names,y.2=.free->y.1∈CG
 nm:cl.map (·.1)=CG
 cells:∀p∈cl,X.env.cells.lookup p.1=AA p.2
 slot:CG.map AA=js.map λj=>X.N[j]?
 vis:∀x∈CG,X.env.kindOf x=AA .cell\/X.env.kindOf x=AA .free
 fr:∀x∈CG,scope.names.lookup x=AA .free
 loc:scope.names.lookup p=AA .local
section
variable{p:C2}
theorem LamNm.cl_of(n:LamNm X scope cl p CG js){c:AT}(h:cl.lookup x=AA c):X.env.cells.lookup x=AA c:=n.cells _ (uB h)
theorem LamNm.has(n:LamNm X scope cl p CG js)(h:x∈CG):∃c,cl.lookup x=AA c:=Hj (by rw[n.nm];exact h)
noncomputable def kL(js:List Nat)(v:V)(σ:St):St:=AA v::js.map λj=>(σ[j]?).getD AL
theorem zS6{tk:Nat}(n:LamNm X scope cl p CG js)(I:Inv X AG σ H s)(hA:A.frames=AA X.stack)(hh:A.handled=AL)
  (jT:JN.Ns s.heap.objs.size (λy=>[(p,u)].reverse.lookup y)) (HM:∀b o,s.heap.get? b=AA o->JN.get? b=AA o) (r:RelV v u) :
  Inv (iR X A q scope cl (p::CG) f cd s H) [] (kL js v σ) H { s with heap:=JN,toks:=tk }:=by
 have hl:js.length=CG.length:=by
  have:=congrArg K0 n.slot;simpa using this.symm
 refine{{I.tab,I.ok.mod,n.kind,rfl,rfl,AM _,λx y c h1 h2=>I.ok.inj x y c (n.cl_of h1) (n.cl_of h2),λx hx=>?_,(λx c h=>nomatch h),λ_=>hh,X5 hA,.inr {rfl,rfl},(λb hb=>nomatch hb),
   I.bs,AY I.ok.bsz I.sz,(λb o e hb=>nomatch hb),(λb hb=>nomatch hb),I.stack,I.stkFree},
  rfl,I.bare,Un.kept HM,{_,jT,λi x v' e1 e2 e3=>?_},λx c e=>?_,I.hok.fresh (AM _),λx c e=>I.freeC x c (n.cl_of e),(λp hp=>nomatch hp),I.hok.kept HM,?_}
 .have hx:scope.names.lookup x=AA .cell\/scope.names.lookup x=AA .free:=hx
  rcases hx with h|h
  .exact absurd rfl (n.nocell _ (uB h))
  .exact n.has (n.dom _ (uB h) rfl)
 .cases i with
  |zero =>
   have e1:AA p=AA x:=e1;have e2:AA (AA v)=AA (AA v'):=e2;cases e1;cases e2;exact{u,r,.inl {n.loc,by show List.lookup p [(p,u)]=AA u;rw[NF,beq_self_eq_true]}}
  |succ i =>
   have e1:CG[i]?=AA x:=e1;have e2:(js.map λj=>(σ[j]?).getD AL)[i]?=AA (AA v'):=e2;rw[AX] at e2
   cases ej:js[i]? with
   |none=>rw[ej] at e2;cases e2
   |some j =>
    rw[ej] at e2;have e2:AA ((σ[j]?).getD AL)=AA (AA v'):=e2
    have hj:X.N[j]?=AA x:=by
     have q:=congrArg (λl=>l[i]?) n.slot;simp only[AX,e1,ej,JD] at q;exact(BJ q).symm
    have hv:σ[j]?=AA (AA v'):=by
     cases es:σ[j]? with
     |none=>rw[es] at e2;cases e2
     |some o=>rw[es] at e2;exact e2
    have bU:x∈CG:=DH e1;obtain⟨m0,hn0,sN⟩:=I.loc
    have vis:ZR X.env.scope x:=by
     rcases n.vis x bU with k|k
     .exact .inr (.inl k)
     .exact .inr (.inr k)
    obtain⟨u,r,lk⟩:=sN j x v' hj hv vis;refine{u,r,.inr {.inr (n.fr x bU),?_}};obtain⟨c,hc⟩:=n.has bU;refine{c,hc,?_};rcases lk with⟨k,_⟩|⟨_,c',ZZ,z⟩
    .rcases n.vis x bU with k'|k'
     .rw[k] at k';cases k'
     .rw[k] at k';cases k'
    .rw[n.cl_of hc] at ZZ
     cases ZZ;obtain⟨o,ho,hd⟩:=z;exact{o,HM _ _ ho,hd}
 .obtain⟨v,o,ho,hd⟩:=I.cell x c (n.cl_of e)
  exact{v,o,HM _ _ ho,hd}
 .show(kL js v σ).length=(p::CG).length
  unfold kL;rw[BD,BD,AI,hl]
theorem zWB{body:DA}{t:TE}{Q:VK}(n:LamNm X scope cl p CG js)(I:Inv X AG σ H s)(hA:A.frames=AA X.stack)(hr:Room 1 A)
  (ho:s.heap.get? f=AA (NE "<lambda>" q FJ body scope cl pm c' RZ)) (MM:s.heap.CodeRec (.ref c') q) (PR:OL (fD "<lambda>" q FJ body scope cl pm (.ref c') RZ) {[u],[]}=pure [(p,u)])
  (hb:PE (iR X A q scope cl (p::CG) f (.ref c') s H) body t) (r:RelV v u) (hq:t (kL js v σ) H Q) :
  GY (A4 X.prog X.w) A (.call (.ref f) {[u],[]}) (λr s'=>∃u',r=.ok (.ret u')/\CE X.stack X.prog X.w H s Q u' s') s:=by
 refine PySem.W.kla_callFunE (by have:=hr.dp;lia) ho rfl n.co n.gen rfl MM ?_;rw[PR];refine wpAny_pure ?_;refine jZ n.nocell (λy hy=>by rw[BB.mp hy];exact n.loc) (λJN jT wP=>{I.nolimit.fresh _ wP,?_}) n.kind;have HM:∀b o,s.heap.get? b=AA o->JN.get? b=AA o:=λb o e=>wP.extBut b o (BM (A5 e)) (AF _ e);have I1:=zS6 (q:=q) (f:=f) (cd:=.ref c') (tk:=s.toks+1) n I hA hr.hd jT HM r;show GY _ _ (.expr body (PZ q scope s.heap.objs.size f (.ref c') cl)) _ _;refine PySem.W.kla_codeExpr (DB (hb [] _ _ _ _ I1 hq) (λu' s' h=>?_) λe s' h=>h.elim);obtain⟨v',H',J,rv,qv⟩:=h;exact{u',rfl,v',H',J.os,J.bare,J.base,J.hok,rv,qv}
end
end L2
variable{tl:L2.TE}{p1:iB}
namespace L2
open PySem PySem.Spec PyProof.Rows PySem.W
theorem Paired.perm{F:α->β->Prop}{us ws:List β}(p:ws.Perm us):∀{xs:List α},Paired F xs us->∃ys,ys.Perm xs/\Paired F ys ws:=by
 induction p with
 |nil=>intro xs r;cases r;exact{[],G2 _,.nil}
 |cons a _ ih =>
  intro xs r
  cases r with
  |cons h t =>
   obtain⟨ys,q,r'⟩:=ih t;exact{_::ys,q.cons _,.cons h r'}
 |swap a b l =>
  intro xs r
  cases r with
  |cons h t =>
   cases t with
   |cons h' t'=>exact{_::_::_,H9 _ _ _,.cons h' (.cons h t')}
 |trans _ _ bT ih2 =>
  intro xs r;obtain⟨ys,q,r'⟩:=ih2 r;obtain⟨zs,q2,r2⟩:=bT r';exact{zs,q2.trans q,r2}
theorem pAL:∀{kz:List Int},Vals ys us->Paired (λ(a:Int×V) (b:Int×AJ)=>a.1=b.1/\RelV a.2 b.2) (kz.zip ys) (kz.zip us):=by
 intro kz r
 induction kz generalizing ys us with
 |nil=>exact .nil
 |cons k kz ih=>cases r with
  |nil=>exact .nil
  |cons h t=>exact .cons {rfl,h} (ih t)
theorem pAM:∀{a:List (Int×V)} {b:List (Int×AJ)},Paired (λ(a:Int×V) (b:Int×AJ)=>a.1=b.1/\RelV a.2 b.2) a b->Vals (a.map HH) (b.map HH)/\a.map Q8=b.map Q8
 |_,_,.nil=>{.nil,rfl}
 |_,_,.cons h t=>by
  obtain⟨h1,h2⟩:=pAM t;exact{.cons h.2 h1,by rw[AU,AU,h.1,h2]}
def bJ(t:Hp->TE)(js:List Nat)(σ:St):List V->List Int->Hp->(List Int->Hp->Prop)->Prop
 |[],BR,H,R=>R BR H
 |y::ys,BR,H,R=>t H (kL js y σ) H λv H'=>∃k,v=.int k/\bJ t js σ ys (BR++[k]) H' R
theorem yEF{L:AT}{m m':C2->Option AJ}(a:h.Ns L m)(b:h.Ns L m'):m=m':=by
 obtain⟨o,es,ep,e,d,_,f⟩:=a;obtain⟨o',mE,mF,e',d',_,f'⟩:=b;rw[e] at e';cases e';rw[d] at d';cases d'
 funext x
 rw[<-f x,f' x]
structure Mine(X:Cx)(AG:List (AT×IF))(b:AT):Prop where
 loc:b≠X.env.locals
 fs:b∉X.fs
 ab:X.s₀.heap.objs.size<=b
 bs:X.base.get? b=AL
 cel:∀x c,X.env.cells.lookup x=AA c->c≠b
 pin:∀p∈X.pn++AG,p.1≠b
theorem Inv.mine(I:Inv X AG σ H s){b:AT}(h:s.heap.objs.size<=b):Mine X AG b where
 loc:=EY (AN I.lt h)
 fs:=I.nofs h
 ab:=AY I.sz h
 bs:=Z5 (AY (AY I.ok.bsz I.sz) h)
 cel:=λx c e z=>by
  obtain⟨v,o,ho,_⟩:=I.cell x c e;subst z;exact GE _ (AN (A5 ho) h)
 pin:=λp hp z=>by
  subst z;exact GE _ (AN (A5 (I.pin p hp).1) h)
theorem Inv.stkNo(I:Inv X AG σ H s){b:AT}(m:Mine X AG b):b∉SJ X.stack:=λhb=>by
 rcases A7.mp (I.stkSub b hb) with z|z
 .exact m.loc z
 .exact m.fs z
theorem Inv.unpin{p:AT×IF}(I:Inv X (p::AG) σ H s):Inv X AG σ H s :=
 {I.ok,I.os,I.bare,I.base,I.loc,I.cell,I.free,I.freeC,λq hq=>I.pin q ((CA.mp hq).elim (DI _) λz=>BG _ (AZ _ z)),I.hok,I.len}
def cP(Q:VK)(ys:List V):List Int->Hp->Prop:=λkz H=>∀ps:List (Int×V),ps.Perm (kz.zip ys)->(ps.Pairwise λa b=>a.1<=b.1)->∀D,H D=AL->Q (.ref D) (D3 H D (.lst (ps.map HH)))
section
variable{p:C2}{body:DA}{t:Hp->TE}{o:IF}
theorem zS8{kS:AT}{kA:Array AJ}{e e1:Nat}{kz:List Int}{Q:VK}{P:fH->AS->Prop}
  (I:Inv X AG σ H s) (ma:Mine X AG a) (mk:Mine X AG kS) (Cd:kS≠a) (ea:s.heap.get? a=AA (DZ "list" #[] e1)) (ek:s.heap.get? kS=AA (DZ "list" kA e)) (na:H a=AL) (nk:H kS=AL)
  (hk:GC kA.toList kz) (E6:kz.length=CK.length) (g9:CK.length<64) (rv:Vals ys CK)
  (hq:cP Q ys kz H)
  (hP:∀s',EP X AG σ Q (.ref a) s'->P (.done (.ret .none)) s') :
  A1 (A4 X.prog X.w) A (ksk_end a AC CK.toArray e1 (.ref kS) kA) P E s:=by
 obtain⟨m,F⟩:=I.fr
 have N:News X.base X.env.locals s.heap ((t6 X.base s.heap X.env.locals).filter (λp=>decide (p.1≠kS/\p.1≠a))++[(kS,DZ "list" kA e),(a,DZ "list" #[] e1)]):=λp hp=>by
  rcases CA.mp hp with hp|hp
  .exact zUO p (CN.mp hp).1
  .rcases A7.mp hp with rfl|hp
   .exact{ek,mk.loc,mk.bs}
   .rw[BB.mp hp];exact{ea,ma.loc,ma.bs}
 refine ksk_end_ (b:=AC) F N Cd (λp hp=>(of_decide_eq_true (CN.mp hp).2).1) (λp hp=>(of_decide_eq_true (CN.mp hp).2).2) hk E6 g9 λh' tk out c F' N' ko=>hP _ ?_;obtain⟨ps,pp,eo,pw⟩:=ko;obtain⟨qs,qp,qr⟩:=Paired.perm pp (pAL (kz:=kz) rv);obtain⟨r1,r2⟩:=pAM qr
 have dQ:∀b ob,b≠X.env.locals->b≠kS->b≠a->s.heap.get? b=AA ob->h'.get? b=AA ob:=λb ob h1 h2 h3 eb=>by
  cases g:X.base.get? b with
  |some u =>
   have:=I.bk b u g;rw[eb] at this;cases this;exact F'.keep b _ g
  |none=>exact(N' (b,ob) (AZ _ (CN.mpr {zNH h1 g eb,decide_eq_true {h2,h3}}))).1
 have hL:∃oL,h'.get? X.env.locals=AA oL:=let ⟨oL,_,_,eL,_⟩:=F'.ns;{oL,eL};have sC:∀b u,H b=AA u->b≠X.env.locals/\b≠kS/\b≠a:=λb u eb=>{λz=>(by rw[z,I.free] at eb;cases eb),λz=>(by rw[z,nk] at eb;cases eb),λz=>(by rw[z,na] at eb;cases eb)};have up:∀b u,H b=AA u->D3 H a (.lst (qs.map HH)) b=AA u:=λb u eb=>by rw[FH (sC b u eb).2.2];exact eb
 have hz:(qs.map HH).length<64:=by
  rw[AI,qp.length_eq,List.length_zip,E6,rv.length];exact AR (UN _ _) g9
 refine{.ref a,D3 H a (.lst (qs.map HH)),I.step (g':=s.gens) (d':=s.drawn) (t':=tk) (ch:=[kS,a]) (λb hb=>?_) (λb ob h1 _ hc eb _=>dQ b ob h1 (λz=>hc (by simp[z])) (λz=>hc (by simp[z])) eb)
  (λb ob h1 _ hc eb _=>{ob.slots,dQ b ob h1 (λz=>hc (by simp[z])) (λz=>hc (by simp[z])) eb}) (λb ob hc eb n=>by rw[FH (λz=>hc (by simp[z]))];exact n) (λb ob hc eb=>?_)
  (λb xs eb=>up b _ eb) (λb ob u eb=>up b _ eb) (λb t ps eb=>{#[],by rw[up b _ eb];simp}) (λm0 hm0=>by rw[yEF hm0 F.ns];exact F'.ns) (λb u eb=>?_) I.bare,rfl,hq qs qp ?_ a na}
 .rcases A7.mp hb with rfl|hb
  .exact{.inr mk.ab,mk.loc,mk.cel,mk.pin}
  .rw[BB.mp hb]
   exact{.inr ma.ab,ma.loc,ma.cel,ma.pin}
 .by_cases h1:b=X.env.locals
  .subst h1;exact hL
  .exact{ob,dQ b ob h1 (λz=>hc (by simp[z])) (λz=>hc (by simp[z])) eb}
 .by_cases hb:b=a
  .subst hb
   rw[HJ] at eb;cases eb;refine{by rw[FZ];lia,out.toList,c,by rw[eo];exact r1,?_};have:=(N' (b,DZ "list" out c) (.head _)).1;simpa using this
  .rw[FH hb] at eb
   refine(I.hok b u eb).stay (λd v hc z=>?_) (λd z=>up d _ z) (λd xs z=>up d _ z) λd ob x z=>up d _ z;rcases hc with rfl|hc
   .obtain⟨h1,h2,h3⟩:=sC d u eb
    exact dQ d v h1 h2 h3 z
   .obtain⟨h1,h2,h3⟩:=sC d _ hc
    exact dQ d v h1 h2 h3 z
 .have:(qs.map Q8).Pairwise (·<=·):=by
   rw[r2,DY];exact pw.imp λh=>by simpa using h
  rw[DY] at this;exact this
end
section
variable{p:C2}{body:DA}{t:Hp->TE}{o:IF}
theorem zQO{kS:AT}{e1:Nat}{Q:VK}{P:fH->AS->Prop}{vs:Array AJ}{tq:kB}(n:LamNm X scope cl p CG js)
  (I:Inv X ((f,kla_obj "<lambda>" q FJ body scope cl pm c' RZ)::AG) σ H s) (ma:Mine X ((f,kla_obj "<lambda>" q FJ body scope cl pm c' RZ)::AG) a) (mk:Mine X ((f,kla_obj "<lambda>" q FJ body scope cl pm c' RZ)::AG) kS) (Cd:kS≠a)
  (ea:s.heap.get? a=AA (DZ "list" #[] e1)) (ek:s.heap.get? kS=AA (DZ "list" #[] 0)) (na:H a=AL) (nk:H kS=AL) (hc:H c'=AA (.frz o (.own c'))) (ho:o.data=.fields vs) (hv:vs[1]?=AA (.str q tq))
  (g9:CK.length<64) (rv:Vals ys CK) (hA:A.frames=AA X.stack) (hr:Room 1 A) (PR:∀u,OL (kla_fn "<lambda>" q FJ body scope cl pm (.ref c') RZ) {[u],[]}=pure [(p,u)])
  (hb:∀s H,PE (iR X A q scope cl (p::CG) f (.ref c') s H) body (t H))
  (U0:bJ t js σ ys [] H (cP Q ys))
  (hP:∀s',EP X AG σ Q (.ref a) s'->P (.done (.ret .none)) s') :
  A1 (A4 X.prog X.w) A (ksk_rest a (.ref f) AC CK.toArray e1 (.ref kS)) P E s:=by
 unfold ksk_rest;refine AB (FC ?_)
 first
  |rw[List.forIn_toArray]
  |(rw[<-LX];simp only[List.toList_toArray])
  |rw[<-LX]
 refine AB (ksk_fold (λi s'=>∃kA e H' BR,Inv X ((f,kla_obj "<lambda>" q FJ body scope cl pm c' RZ)::AG) σ H' s'/\s'.heap.get? a=AA (DZ "list" #[] e1)/\s'.heap.get? kS=AA (DZ "list" kA e)/\H' a=AL/\H' kS=AL /\
  GC kA.toList BR/\BR.length=i/\bJ t js σ (ys.drop i) BR H' (cP Q ys)/\H' c'=AA (.frz o (.own c'))) CK 0 s
  {#[],0,H,[],I,ea,ek,na,nk,by simpa using IntsAre.nil,rfl,U0,hc} ?step ?done)
 case step =>
  rintro j x s' hx ⟨kA,e,H',BR,I',Cm,pV,sG,Bs,hk,E6,gY,ZZ⟩;simp only[EN] at E6 gY ⊢;have hj:j<CK.length:=(AQ.mp hx).1;have hy:j<ys.length:=by rw[rv.length];exact hj
  obtain⟨u,hu,r⟩:=rv.get (BL hy);rw[hx] at hu;cases hu;rw[EQ hy] at gY;have MM:s'.heap.CodeRec (.ref c') q:={c',o,vs,tq,rfl,(I'.hok _ _ ZZ).1,ho,hv};have hfo:=(I'.pin _ (BG _ (.head _))).1
  have xI:A1 (A4 X.prog X.w) A (call (.ref f) [x]) (λu' gR=>CE X.stack X.prog X.w H' s' (λv Cr=>∃k,v=.int k/\bJ t js σ (ys.drop (j+1)) (BR++[k]) Cr (cP Q ys)) u' gR) (λ_ _=>False) s' :=
   S7 (MO (zWB n I' hA hr hfo MM (PR x) (hb s' H') r gY) λr gR h=>by
    obtain⟨u',rfl,ce⟩:=h
    exact ce)
  refine AB (GQ (DB xI (λu' gR he=>?_) λ_ _ hF=>hF.elim));obtain⟨v,Cr,os,bare,un,hok,rv',k,rfl,Ma⟩:=he;obtain⟨t2,rfl⟩:∃t2,u'=.int k t2:=rv';obtain⟨hh,g,d,Yy,Ke⟩:=gR;obtain rfl:Ke=s'.os:=os;have I2:=I'.call (h':=hh) (g':=g) (d':=d) (t':=Yy) (ch:=[]) un hok bare (λb z=>absurd z 's');have ek2:hh.get? kS=AA (DZ "list" kA e):=un.keep kS _ pV Bs (I'.stkNo mk) 's';have ea2:hh.get? a=AA (DZ "list" #[] e1):=un.keep a _ Cm sG (I'.stkNo ma) 's';have Zl:=un.free kS _ pV Bs 's';have na2:=un.free a _ Cm sG 's';have eR:=un.frzs _ _ _ ZZ
  have hz:kA.size<=CK.length:=by
   have h1:=hk.length;rw[HA] at h1;lia
  try dsimp only
  have s1:=GR hh kS (C6 (·.push (.int k t2)));obtain⟨e2,Mq⟩:∃c2,(hh.update kS (C6 (·.push (.int k t2)))).get? kS=AA (DZ "list" (kA.push (.int k t2)) c2):={_,XO ek2 (·.push (.int k t2))};refine AB (N9 ek2 rfl ?_ (by rw[FZ];lia) (AY (C0 (EI ..)) (by rw[FZ];lia)));have I3:=I2.turned (h':=hh.update kS (C6 (·.push (.int k t2)))) (t':=Yy) (it:=kS) (λb ob hb eb=>(s1.2 b hb).trans eb) Zl mk.loc (.inr mk.ab) mk.cel mk.pin;have el:(kA.push (M6 k t2)).toList=kA.toList++[M6 k t2]:=by simp
  exact wpAny_pure {rfl,kA.push (.int k t2),e2,Cr,BR++[k],I3,(s1.2 a Cd.symm).trans ea2,Mq,na2,Zl,by rw[el];exact ksk_snoc hk,by rw[BO,E6];rfl,Ma,eR}
 case done =>
  rintro s' ⟨kA,e,H',BR,I',Cm,pV,sG,Bs,hk,E6,gY,ZZ⟩;rw[EN] at E6 gY;rw[HP (by rw[rv.length];exact AM _)] at gY
  try dsimp only
  refine AB (fA pV rfl ?_);refine zS8 I'.unpin {ma.loc,ma.fs,ma.ab,ma.bs,ma.cel,λp hp=>ma.pin p ?_} {mk.loc,mk.fs,mk.ab,mk.bs,mk.cel,λp hp=>mk.pin p ?_} Cd Cm pV sG Bs hk E6 g9 rv gY hP
  all_goals exact(CA.mp hp).elim (DI _) λz=>BG _ (AZ _ z)
end
section
variable{p:C2}{body:DA}{t:Hp->TE}{o:IF}
theorem zS9{Q:VK}{vs:Array AJ}{tq:kB}(n:LamNm X scope cl p CG js)
  (I:Inv X ((f,kla_obj "<lambda>" q FJ body scope cl pm c' RZ)::AG) σ H s) (hc:H c'=AA (.frz o (.own c'))) (ho:o.data=.fields vs) (hv:vs[1]?=AA (.str q tq))
  (hl:SqL X.K H l ys) (g9:ys.length<64) (hr:Room 3 X.A) (PR:∀u,OL (kla_fn "<lambda>" q FJ body scope cl pm (.ref c') RZ) {[u],[]}=pure [(p,u)])
  (hb:∀s H,PE (iR X X.A.in1.in1 q scope cl (p::CG) f (.ref c') s H) body (t H)) (U0:bJ t js σ ys [] H (cP Q ys)) :
  A1 (A4 X.prog X.w) X.A (call (.builtin "sorted") [.ref l] [(EX "key",.ref f)]) (EP X AG σ Q) X.xe s:=by
 obtain⟨CK,rv,pl,z⟩:=I.list hl;have E6:=rv.length;refine call_function_entry_kw j5 eZ fB (ksk_s1 _ _) ?_;unfold EF.«sorted»;refine AB (m:=checkCount "sorted" 1 1 _) (wpAny_pure ?_);refine AB (collect_list pl.isList ?_ (by rw[FZ];lia));refine AB (N7 ?_ (by rw[FZ];lia))
 have hsz:((s.heap.push (DZ "list" #[] 0)).update s.heap.objs.size (C6 (·++CK.toArray))).objs.size=s.heap.objs.size+1:=by
  rw[NH,S8]
 have lX:(((s.heap.push (DZ "list" #[] 0)).update s.heap.objs.size (C6 (·++CK.toArray))).push (DZ "list" CK.toArray 0)).get? (s.heap.objs.size+1)=AA (DZ "list" CK.toArray 0):=by
  rw[<-hsz];exact AV _ rfl
 have keep:∀b o,s.heap.get? b=AA o->(((s.heap.push (DZ "list" #[] 0)).update s.heap.objs.size (C6 (·++CK.toArray))).push (DZ "list" CK.toArray 0)).get? b=AA o:=λb o q=>by
  have KZ:b<s.heap.objs.size:=A5 q;rw[MT _ _ _ (by rw[hsz];exact BM (G0 KZ)),PF _ _ _ _ (BM KZ),MT _ _ _ (BM KZ)];exact q
 have MZ:(((s.heap.push (DZ "list" #[] 0)).update s.heap.objs.size (C6 (·++CK.toArray))).push (DZ "list" CK.toArray 0)).objs.size=s.heap.objs.size+2:=by rw[S8,hsz]
 show A1 _ _ _ _ _ { s with heap:=((s.heap.push (DZ "list" #[] 0)).update s.heap.objs.size (C6 (·++CK.toArray))).push (DZ "list" CK.toArray 0) };rw[hsz];generalize hg0:((s.heap.push (DZ "list" #[] 0)).update s.heap.objs.size (C6 (·++CK.toArray))).push (DZ "list" CK.toArray 0)=g0 at lX keep MZ;refine AB (CS (wpAny_call_entry_kw YZ {_,lX,rfl} XQ ?body (ksk_l1 _ _)))
 case body =>
  show A1 (A4 X.prog X.w) X.A.in1.in1 (EF.«list.sort» {[.ref (s.heap.objs.size+1)],[(EX "key",.ref f)]}) _ _ _;rw[ksk_t1];have s1:=GR g0 (s.heap.objs.size+1) (C6 λ_=>(#[]:Array AJ));obtain⟨e1,eI⟩:∃e1,(g0.update (s.heap.objs.size+1) (C6 λ_=>(#[]:Array AJ))).get? (s.heap.objs.size+1)=AA (DZ "list" #[] e1):={_,XO lX λ_=>#[]};unfold ksk_tree;refine AB (fA lX rfl ?_);refine AB (N9 lX rfl ?_ (by rw[A3,FZ];lia) (BP _));refine AB (WU eI rfl ?_);refine AB (M3 ?_ (by show CK.length<=_;rw[FZ];lia));refine AB (N7 ?_ (BP _));refine CS ?_;have hg1:(g0.update (s.heap.objs.size+1) (C6 λ_=>(#[]:Array AJ))).objs.size=s.heap.objs.size+2:=by rw[NH,MZ]
  have lQ:∀b o,s.heap.get? b=AA o->(((g0.update (s.heap.objs.size+1) (C6 λ_=>(#[]:Array AJ))).push (DZ "tuple" CK.toArray 0)).push (DZ "list" #[] 0)).get? b=AA o:=λb o e =>
   AF _ (AF _ ((s1.2 b (BM (G0 (A5 e)))).trans (keep b o e)))
  have Mc:((g0.update (s.heap.objs.size+1) (C6 λ_=>(#[]:Array AJ))).push (DZ "tuple" CK.toArray 0)).objs.size=s.heap.objs.size+3:=by rw[S8,hg1]
  have I2:Inv X ((f,kla_obj "<lambda>" q FJ body scope cl pm c' RZ)::AG) σ H { s with heap:=((g0.update (s.heap.objs.size+1) (C6 λ_=>(#[]:Array AJ))).push (DZ "tuple" CK.toArray 0)).push (DZ "list" #[] 0) } :=
   I.un (t':=s.toks) (Un.kept lQ) (I.hok.kept lQ)
  refine zQO (s:={ s with heap:=((g0.update (s.heap.objs.size+1) (C6 λ_=>(#[]:Array AJ))).push (DZ "tuple" CK.toArray 0)).push (DZ "list" #[] 0) }) (a:=s.heap.objs.size+1) (kS:=((g0.update (s.heap.objs.size+1) (C6 λ_=>(#[]:Array AJ))).push (DZ "tuple" CK.toArray 0)).objs.size) n I2 (I.mine (K3 _)) (I.mine (by rw[Mc];exact A6 _ 3)) (by rw[Mc];intro z;have:s.heap.objs.size+3=s.heap.objs.size+1:=z;lia)
   (AF _ (AF _ eI)) (AV _ rfl) (I.hok.fresh (K3 _)) (I.hok.fresh (by rw[Mc];exact A6 _ 3)) hc ho hv (by rw[<-E6];exact g9) rv I.ok.frames hr.in1.in1 PR hb U0 λs' h=>{_,rfl,?_}
  exact wpAny_pure {_,rfl,h}
end
theorem LamStp.rd{T:AT}(st:LamStp T q H H'){u:HO}(h:H a=AA u)(hu:∀ps,u≠.tbl q ps):H' a=AA u:=by
 rcases st with rfl|⟨ps,bS,c',o,hT,hc,pK,rfl⟩
 .exact h
 .rw[FH (λz=>by rw[z,hc] at h;cases h),FH (λz=>by rw[z,hT] at h;cases h;exact hu _ rfl)]
  exact h
theorem LamStp.sq{T:AT}{K:Frag}(st:LamStp T q H H')(h:SqL K H l ys):SqL K H' l ys :=
 h.imp (λz=>z.imp (λz=>st.rd z λ_ y=>by cases y) (λq0=>by obtain⟨o,z⟩:=q0;exact{o,st.rd z λ_ y=>by cases y})) id
def Pq(K:Frag)(T:AT)(q:C2)(tl:TE)(t:Hp->TE)(js:List Nat):TE:=λσ H Q=>tl σ H λx H1=>∃l ys,x=.ref l/\SqL K H1 l ys/\ys.length<64/\∀H2,LamStp T q H1 H2->bJ t js σ ys [] H2 (cP Q ys)
section
variable{p:C2}{body:DA}{t:Hp->TE}{c T:AT}{l:DA}
theorem zWC(hm:X.mg "sorted"=AL)(hl:PE X l tl)(n:LamNm X scope cl p CG js)(hr:Room 3 X.A)(ZY:X.env.code=.ref c)(C:CodeHd X.base c T)(tb:TB X.K T q)(hq:X.env.qual++("<lambda>":C2)=q)(pI:defaultsOf FJ X.env=([],[]))
  (PR:∀pm c' RZ u,OL (kla_fn "<lambda>" q FJ body scope cl pm (.ref c') RZ) {[u],[]}=pure [(p,u)]) (hb:∀f c' s H,PE (iR X X.A.in1.in1 q scope cl (p::CG) f (.ref c') s H) body (t H)) (hg:Gl X "sorted":=by rfl)
  (he:DT pos (AO [l] X.env)=(AC,eval l X.env)::DT pos (AO [] X.env):=by rfl) (J5:(DT pos (AO [l] X.env)).any (·.1)=AC:=by rfl)
  (gU:AO [l] X.env=(AC,eval l X.env)::AO [] X.env:=by rfl) :
  PE X (.Call (.Name "sorted" p1) [l] [{AA "key",.Lambda FJ body scope dP,VY}] pos) (Pq X.K T q tl t js):=by
 intro AG s σ H Q I h;refine ID (lA I hg hm rfl ?_);refine callWith_kw (G4 (VC hl JB gU pos AG s σ H (λvs H1=>∃l ys,vs=[.ref l]/\SqL X.K H1 l ys/\ys.length<64/\∀H2,LamStp T q H1 H2->bJ t js σ ys [] H2 (cP Q ys)) I ?_) λus s1 h1=>?_) he J5 rfl rfl
 .have h':tl σ H λx H1=>∃l ys,x=.ref l/\SqL X.K H1 l ys/\ys.length<64/\∀H2,LamStp T q H1 H2->bJ t js σ ys [] H2 (cP Q ys):=h
  show tl σ H λx H1=>∃l ys,[x]=[.ref l]/\SqL X.K H1 l ys/\ys.length<64/\∀H2,LamStp T q H1 H2->bJ t js σ ys [] H2 (cP Q ys)
  have ee:(λ(x:V) (H1:Hp)=>∃l ys,[x]=[V.ref l]/\SqL X.K H1 l ys/\ys.length<64/\∀H2,LamStp T q H1 H2->bJ t js σ ys [] H2 (cP Q ys))=λx H1=>∃l ys,x=V.ref l/\SqL X.K H1 l ys/\ys.length<64/\∀H2,LamStp T q H1 H2->bJ t js σ ys [] H2 (cP Q ys):=by
   funext x H1
   simp only[Z4,and_true]
  rw[ee];exact h'
 .obtain⟨vs,H1,I1,r,l',ys,rfl,hs,g9,hk⟩:=h1
  obtain⟨u,rfl,ru⟩:=YD r;cases ru;show A1 _ _ (evalAll [(do let v <-eval (.Lambda FJ body scope dP) X.env;JH pos;pure v)]) _ _ s1;refine wpAny_evalAll_cons (AB (zWA I1 ZY C tb hq n.clos pI λf c' pm RZ s2 H2 o I2 st hc MM hsz=>AB (IM (wpAny_pure (wpAny_evalAll_nil ?_)))));obtain⟨c2,o2,Yu,tq,e2,g2,d2,v2⟩:=MM;cases e2;have:=(I2.hok _ _ hc).1;rw[g2] at this;cases this;exact zS9 n I2 hc d2 v2 (st.sq hs) g9 hr (PR pm c' RZ) (hb f c') (hk H2 st)
end
end L2
variable{E1 E2:L2.Ev}
namespace L2
open PySem PySem.Spec PyProof.Rows
def Pp(ge:G)(ds:List D)(y:D):Out Int:=(ge (.val y::ds.map .val)).bind λr=>match r.1 with|.int k=>.ok k|_=>.bad
def fQ(ge:G)(ds:List D):List D->Out (List Int)
 |[]=>.ok []
 |y::ys=>(Pp ge ds y).bind λk=>(fQ ge ds ys).bind λks=>.ok (k::ks)
noncomputable def shareJ:List Nat->Ev->Ev
 |[],E=>E
 |j::js,E=>shareJ js (match E[j]? with|some (.own _ d)=>E.set j (.val d)|_=>E)
noncomputable def valsJ(E:Ev):List Nat->Option (List D)
 |[]=>AA []
 |j::js=>match E[j]? with
  |some (.val d)=>(valsJ E js).map (d::·)
  |_=>AL
def mU(kz:List Int)(ys:List D)(qs:List (Int×D)):Prop:=qs.Perm (kz.zip ys)/\qs.Pairwise λa b=>a.1<=b.1
section
variable{K:AD}{E:Ev}{T:AT}
theorem LamStp.new(s:Sub F H)(st:LamStp T q H H'):∃F',New F H F' H':=by
 rcases st with rfl|⟨ps,bS,c',o,hT,hc,pK,rfl⟩
 .exact{F,.refl s}
 .have hFc:F c'=AL:=by
   cases e:F c' with
   |none=>rfl
   |some u=>rw[s _ _ e] at hc;cases hc
  have ot:∀a,a≠T->a≠c'->D3 (D3 H T (.tbl q bS)) c' (.frz o (.own c')) a=H a:=λa h1 h2=>by rw[FH h2,FH h1]
  have tt:D3 (D3 H T (.tbl q bS)) c' (.frz o (.own c')) T=AA (.tbl q bS):=by rw[FH (FO pK),HJ]
  refine{λa=>if a=T then(F T).map λ_=>.tbl q bS else F a,{λa u e hw _ _=>?_,λa e=>?_,λa u e=>?_,λa u e=>?_,λ_ z=>z.elim},λa u e=>?_}
  .rw[ot a (λz=>by rw[z,hT] at e;cases e;exact hw) (λz=>by rw[z,hc] at e;cases e)];exact e
  .by_cases h1:a=T
   .rw[h1,tt] at e;cases e
   .by_cases h2:a=c'
    .rw[h2];exact hc
    .rw[ot a h1 h2] at e;exact e
  .by_cases h1:a=T
   .subst h1
    have:=s _ _ e;rw[hT] at this;cases this;exact .inr (.inr {q,ps,bS,rfl,by rw[if_pos rfl,e];rfl})
   .exact .inl (by rw[if_neg h1];exact e)
  .by_cases h1:a=T
   .subst h1
    rw[if_pos rfl] at e
    cases e1:F a with
    |none=>rw[e1] at e;cases e
    |some v=>exact .inl nofun
   .rw[if_neg h1] at e;exact .inl (by rw[e];exact nofun)
  .dsimp only at e
   by_cases h1:a=T
   .subst h1
    rw[if_pos rfl] at e
    cases e1:F a with
    |none=>rw[e1] at e;cases e
    |some v=>rw[e1] at e;cases e;exact tt
   .rw[if_neg h1] at e
    rw[ot a h1 (λz=>by rw[z,hFc] at e;cases e)];exact s a u e
theorem Sim.shareJ:∀(js:List Nat) {F:Hp} {E:Ev},Sim K H₀ τ F H σ E->∃F',Stp (EC σ E) F H F' H (EC σ (L2.shareJ js E))/\Sim K H₀ τ F' H σ (L2.shareJ js E)
 |[],F,E,S=>{F,.refl,S}
 |j::js,F,E,S=>by
  unfold L2.shareJ;split
  .rename_i t d e
   obtain⟨a,F1,_,st,S1,_⟩:=S.share e;obtain⟨F2,st2,S2⟩:=Sim.shareJ js S1;exact{F2,st.trans st2,S2}
  .exact Sim.shareJ js S
theorem Sim.valsJ(S:Sim K H₀ τ F H σ E):∀{js:List Nat} {ds:List D},L2.valsJ E js=AA ds->∃ws,(js.map λj=>(σ[j]?).getD AL)=ws.map AA/\Reps K F ws ds
 |[],_,e=>by cases e;exact{[],rfl,.nil}
 |j::js,ds,e=>by
  unfold L2.valsJ at e;split at e
  .rename_i d ej
   cases e2:L2.valsJ E js with
   |none=>rw[e2] at e;cases e
   |some TX =>
    rw[e2] at e;cases e;obtain⟨ws,h1,h2⟩:=S.valsJ e2;obtain⟨v,hv,hr⟩:=S.val j d ej;exact{v::ws,by rw[AU,h1,hv];rfl,.cons hr h2}
  .cases e
theorem yEG{ge:G}{ds:List D}(hv:L2.valsJ E js=AA ds){R:List Int->Hp->Prop}:∀{ys:List D} {vs:List V} {BR kz:List Int} {F H:Hp},Sim K H₀ τ F H σ E->Reps K F vs ys->fQ ge ds ys=.ok kz ->
  (∀F' H',New F H F' H'->R (BR++kz) H')->bJ (λH=>tV K H ge) js σ vs BR H R
  := by
 intro ys
 induction ys with
 |nil =>
  intro vs BR kz F H S r e k;cases r;cases e;have:=k F H (.refl S.sub);rw[EL] at this;exact this
 |cons y ys ih =>
  intro vs BR kz F H S r e k
  cases r with
  |@cons v _ lN _ ry rys =>
  unfold fQ at e;obtain⟨k1,e1,e⟩:=pA3 e;obtain⟨ks,e2,e⟩:=pA3 e;cases e;unfold Pp at e1;obtain⟨rr,e3,e1⟩:=pA3 e1;obtain⟨ws,hws,rws⟩:=S.valsJ hv;have pJ:kL js v σ=(v::ws).map AA:=by unfold kL;rw[hws];rfl
  show tV K H ge (kL js v σ) H _;rw[pJ];refine{0,F,(y::ds).map Sl.val,rr.1,rr.2,Sim.args S.sub (.cons ry rws),e3,λv2 F2 H2 st S2 r2=>?_};split at e1
  .rename_i kk ek
   cases e1;rw[ek] at r2;obtain rfl:=r2.vI;have n:New F H F2 H2:={{λa o q1 q2 q3 _=>st.keep a o q1 q2 q3 (yD a),st.dom,st.le,λa o z=>(st.new a o z).imp_right λz=>z.imp_right λz=>(yD a z).elim,λ_ z=>z.elim},S2.sub}
   exact{_,rfl,ih (S.new n) (rys.le n.1.le) e2 λF' H' n'=>by
    rw[CP]
    exact k F' H' (n.trans n')}
  .cases e1
theorem yIY{ys:List D}:∀{kz:List Int},Reps K F vs ys->Paired (λ(b:Int×D) (a:Int×V)=>a.1=b.1/\Rep K F a.2 b.2) (kz.zip ys) (kz.zip vs):=by
 intro kz r
 induction kz generalizing vs ys with
 |nil=>exact .nil
 |cons k kz ih=>cases r with
  |nil=>exact .nil
  |cons h t=>exact .cons {rfl,h} (ih t)
theorem Wz:∀{a:List (Int×D)} {b:List (Int×V)},Paired (λ(b:Int×D) (a:Int×V)=>a.1=b.1/\Rep K F a.2 b.2) a b->Reps K F (b.map HH) (a.map HH)/\a.map Q8=b.map Q8
 |_,_,.nil=>{.nil,rfl}
 |_,_,.cons h t=>by
  obtain⟨h1,h2⟩:=Wz t;exact{.cons h.2 h1,by rw[AU,AU,h.1,h2]}
theorem zWD{gl ge:G}{Q:VK}(h:∃τ F E ys E1 ds kz,Sim K H₀ τ F H σ E/\gl E=.ok (.lst ys,E1)/\ys.length<64/\L2.valsJ (L2.shareJ js E1) js=AA ds/\fQ ge ds ys=.ok kz /\
   ∀qs,mU kz ys qs->∀a F' H',Stp (EC σ E) F H F' H' (EC σ (L2.shareJ js E1))->Sim K H₀ τ F' H' σ (L2.shareJ js E1)->F' a=AL->H a=AL->OwnAt K F' H' a (.lst (qs.map HH))->¬EC σ (L2.shareJ js E1) a->Q (.ref a) H') :
  Pq K T q (tV K H₀ gl) (λH=>tV K H ge) js σ H Q:=by
 obtain⟨τ,F,E,ys,E1,ds,kz,S,e1,g9,hv,hk,k⟩:=h;refine{τ,F,E,_,_,S,e1,λv F1 H1 st1 S1 r1=>?_}
 cases r1 with
 |@lst l vs _ sq rs =>
 refine{l,vs,rfl,sq.imp S1.sub.rd id,by rw[rs.length];exact g9,λH2 ls=>?_};obtain⟨F2,n2⟩:=ls.new S1.sub;obtain⟨F3,K5,S3⟩:=(S1.new n2).shareJ js;have Zf:Reps K F3 vs ys:=(rs.le n2.1.le).le K5.le;refine yEG hv S3 Zf hk λF4 H4 n4 ps pp pw D hD=>?_;rw[FY] at pp;have rs4:=Zf.le n4.1.le;obtain⟨qs,qp,qr⟩:=Paired.perm pp (yIY (kz:=kz) rs4);obtain⟨r5,r6⟩:=Wz qr
 have hF:F4 D=AL:=by
  cases e:F4 D with
  |none=>rfl
  |some u=>rw[n4.2 _ _ e] at hD;cases hD
 have n5:New F4 H4 F4 (D3 H4 D (.lst (ps.map HH))):=pA6 n4.2 (Gr.new hD);have S4:=S3.new n4;have st:Stp (EC σ E) F H F4 (D3 H4 D (.lst (ps.map HH))) (EC σ (L2.shareJ js E1)):=(((st1.trans n2.stp).trans K5).trans n4.stp).trans n5.stp;refine k qs {qp,?_} D F4 _ st (S4.new n5) hF ?_ {_,HJ,r5} (S4.fresh hD)
 .have:(qs.map Q8).Pairwise (·<=·):=by rw[r6,DY];exact pw
  rw[DY] at this;exact this
 .exact(((st1.trans n2.stp).trans K5).trans n4.stp:Stp (EC σ E) F H F4 H4 _).dom D hD
end
section
variable{K:AD}{g:GS}
theorem yEI{t:Tg}{E:Ev}{ds:List D}{r:Fl}(k:FlOk K H₀ τ (EC σ E) F H D' r)(s1:Stp (EC σ E) F H F1 H1 (EC σ E1))(S1:Sim K H₀ τ F1 H1 σ E1)(w1:Walks K J F1 ds)(hg:TQ t g ds E1=.ok r) :
  ∃W:Nat->Nat->St->Hp->Prop,(∃m,W 0 m σ H1)/\∀i m σ H,W i m σ H ->
   (J.stop i H/\D'.nx σ H)\/(J.go i H/\∃N:St->Hp->Prop,(∀σ' H',N σ' H'->∃m',m'<m/\W (i+1) m' σ' H')/\∀x H',J.yld i H x H'->tG K H₀ t x σ H' λσ2 H2=>tS K H₀ g { D' with nx:=N,ct:=N,bk:=D'.nx } σ2 H2):=by
 refine{λi m σ2 H2=>m=ds.length-i/\i<=ds.length/\∃F2 E2,Sim K H₀ τ F2 H2 σ2 E2/\Stp (EC σ E) F H F2 H2 (EC σ2 E2)/\Le F1 F2/\TQ t g (ds.drop i) E2=.ok r,{_,rfl,BP _,F1,E1,S1,s1,.refl _,by rw[L8];exact hg},?_};rintro i m σ2 H2 ⟨rfl,Ce,F2,E2,S2,s2,l2,h2⟩;obtain⟨w2,w3,w4⟩:=w1 i F2 H2 l2 S2.sub
 by_cases hi:i<ds.length
 .obtain⟨d,hd⟩:∃d,ds[i]?=AA d:={ds[i],by simp[hi]}
  have xC:ds.drop i=d::ds.drop (i+1):=by
   rw[EQ hi];have:ds[i]=d:=by rw[BL hi] at hd;exact BJ hd
   rw[this]
  rw[xC,TQ] at h2;obtain⟨E3,e3,h2⟩:=pA3 h2;obtain⟨q,e4,h2⟩:=pA3 h2;refine .inr {w2 hi,λσ5 H5=>∃F5 E5,Sim K H₀ τ F5 H5 σ5 E5/\Stp (EC σ E) F H F5 H5 (EC σ5 E5)/\Le F1 F5/\TQ t g (ds.drop (i+1)) E5=.ok r,λσ5 H5 ⟨F5,E5,a1,a2,a3,a4⟩=>{_,by omega,rfl,hi,F5,E5,a1,a2,a3,a4},λx H' y=>?_};obtain⟨F3,n3,r3⟩:=w4 x H' d hd y;refine{τ,F3,E2,d,E3,S2.new n3,r3,e3,λσ4 S4 h4 _=>{τ,F3,E3,q,S4,e4,?_}};have s4:Stp (EC σ E) F H F3 H' (EC σ4 E3):=(s2.trans n3.stp).weak h4;have l3:Le F1 F3:=l2.trans n3.1.le
  cases q with
  |nx E5=>exact λσ5 F5 H5 s5 S5=>{F5,E5,S5,s4.trans s5,l3.trans s5.le,h2}
  |ct E5=>exact λσ5 F5 H5 s5 S5=>{F5,E5,S5,s4.trans s5,l3.trans s5.le,h2}
  |bk E5=>cases h2;exact λσ5 F5 H5 s5 S5=>k σ5 F5 H5 (s4.trans s5) S5
  |rt b d E5=>cases h2;exact λσ5 v F5 H5 s5 S5 q=>k σ5 v F5 H5 (s4.trans s5) S5 (q.pre s4)
 .have hi:i=ds.length:=by omega
  rw[HP 'o',TQ] at h2;cases h2;exact .inl {w3 hi,k σ2 F2 H2 s2 S2}
end
def tE(gl:G)(js:List Nat)(ge:G):Ev->Out ((List D×List Int)×Ev):=λE=>(gl E).bind λp=>match p.1,valsJ (shareJ js p.2) js with
 |.lst ys,AA ds=>if ys.length<64 then(fQ ge ds ys).bind λkz=>.ok ((ys,kz),shareJ js p.2) else .bad
 |_,_=>.bad
theorem zTA{gl ge:G}{E:Ev}{ys:List D}{kz:List Int}(h:tE gl js ge E=.ok ((ys,kz),E2)) :
  ∃E1 ds,gl E=.ok (.lst ys,E1)/\ys.length<64/\valsJ (shareJ js E1) js=AA ds/\fQ ge ds ys=.ok kz/\E2=shareJ js E1:=by
 unfold tE at h;obtain⟨p,e,h⟩:=pA3 h;obtain⟨d,E1⟩:=p;dsimp only at h
 cases hv:valsJ (shareJ js E1) js with
 |none=>rw[hv] at h;cases d<;>cases h
 |some ds =>
  rw[hv] at h
  cases d with
  |lst ys' =>
   dsimp only at h
   by_cases hl:ys'.length<64
   .rw[if_pos hl] at h
    obtain⟨kz',e3,h⟩:=pA3 h;cases h;exact{E1,ds,e,hl,hv,e3,rfl}
   .rw[if_neg hl] at h;cases h
  |_=>cases h
noncomputable def hush:List Nat->Ev->Ev
 |[],E=>E
 |k::ks,E=>hush ks (match E[k]? with|some (.val _)=>E.set k .no|_=>E)
theorem Sim.hush{K:AD}{H₀ F H:Hp}{τ:AT}{σ:St}:∀(ks:List Nat) {E:Ev},Sim K H₀ τ F H σ E->Sim K H₀ τ F H σ (L2.hush ks E)/\∀a,EC σ (L2.hush ks E) a->EC σ E a
 |[],_,S=>{S,λ_ h=>h}
 |k::ks,E,S=>by
  rw[L2.hush];split
  .rename_i d e
   have hk:=(AQ.mp e).1
   have HM:∀(j:Nat) s,(E.set k .no)[j]?=AA s->s≠.no->E[j]?=AA s:=λj s q n=>by
    by_cases hj:k=j
    .subst hj;rw[BE hk] at q;exact absurd (BJ q).symm n
    .rw[A8 hj] at q;exact q
   have S1:Sim K H₀ τ F H σ (E.set k .no):={S.sub,by rw[CC];exact S.len,λj d q=>S.val j d (HM j _ q (λz=>by cases z)),λj t d q=>S.own j t d (HM j _ q (λz=>by cases z)),
    λi j t u d d' a q1 q2=>S.inj i j t u d d' a (HM i _ q1 (λz=>by cases z)) (HM j _ q2 (λz=>by cases z))}
   obtain⟨S2,h2⟩:=Sim.hush ks S1;refine{S2,λa h=>?_};obtain⟨j,t,d,q1,q2⟩:=h2 a h;exact{j,t,d,HM j _ q1 (λz=>by cases z),q2}
  .exact Sim.hush ks S
open Classical in
def sU(gl:G)(js:List Nat)(ge:G)(t:Tg)(g:GS)(ks:List Nat):GS:=λE=>(tE gl js ge E).bind λp=>if h:∃E1,∀qs,mU p.1.2 p.1.1 qs->∃E2,TQ t g (qs.map HH) p.2=.ok (.nx E2)/\hush ks E2=E1 then .ok (.nx h.choose) else .bad
section
variable{body:DA}{c T:AT}{l:DA}{gl ge:G}
structure LamOk(X:Cx)(scope:NT)(cl:List (C2×AT))(x:C2)(CG:List C2)(js:List Nat)(q:C2)(FJ:Arguments)(body:DA)(c T:AT):Prop where
 nm:LamNm X scope cl x CG js
 room:Room 3 X.A
 code:X.env.code=.ref c
 hd:LJ X.base c T
 tb:TB X.K T q
 qual:∃n:C2,X.env.qual=n/\n++("<lambda>":C2)=q
 dflt:defaultsOf FJ X.env=([],[])
 bind:∀pm c' RZ u,OL (fD "<lambda>" q FJ body scope cl pm (.ref c') RZ) {[u],[]}=pure [(x,u)]
theorem LamOk.qu(n:LamOk X scope cl x CG js q FJ body c T):X.env.qual++("<lambda>":C2)=q:=by
 obtain⟨m,h1,h2⟩:=n.qual;rw[h1];exact h2
theorem yAA{bd:List FF}{t:Tg}{g:GS}{ks:List Nat}(hp:WC (A4 X.prog X.w) X.A X.env X.xe)(hc:X.calm=AK)(hm:X.mg "sorted"=AL)(hl:VE X l gl)(n:LamOk X scope cl x CG js q FJ body c T)
  (hb:∀f c' s H,VE (iR X X.A.in1.in1 q scope cl (x::CG) f (.ref c') s H) body ge) (hgt:VG X tg t) (hbd:dH X bd g) (hg:Gl X "sorted":=by rfl)
  (he:DT pos (AO [l] X.env)=(AC,eval l X.env)::DT pos (AO [] X.env):=by rfl) (J5:(DT pos (AO [l] X.env)).any (·.1)=AC:=by rfl)
  (gU:AO [l] X.env=(AC,eval l X.env)::AO [] X.env:=by rfl)
  (hs:∀x,CM (.Call (.Name "sorted" p1) [l] [{AA "key",.Lambda FJ body scope dP,VY}] pos) X.env x=pure x:=by intro _;rfl) :
  VS X (.For tg (.Call (.Name "sorted" p1) [l] [{AA "key",.Lambda FJ body scope dP,VY}] pos) bd [] T8) (sU gl js ge t g ks) :=
 (Dp hp hc (Rb (zWC (t:=λH=>tV X.K H ge) hm hl n.nm n.room n.code n.hd n.tb n.qu n.dflt n.bind hb hg he J5 gU)) hgt hbd hs).imp λD' σ H h=>by
  obtain⟨τ,F,E,r,S,hg,k⟩:=h;unfold sU at hg;obtain⟨⟨⟨ys,kz⟩,E2⟩,e1,hg⟩:=pA3 hg;obtain⟨E1,ds,a1,a2,a3,a4,rfl⟩:=zTA e1;split at hg
  .rename_i hr
   cases hg;refine zWD {τ,F,E,ys,E1,ds,kz,S,a1,a2,a3,a4,λqs hq a F' H' st S' n1 n2 ow no=>?_};obtain⟨vs,ha,rv⟩:=ow;have gr:Gr F' (D3 F' a (.lst vs)):=Gr.new n1
   have S2:Sim X.K X.H₀ τ (D3 F' a (.lst vs)) H' σ (shareJ js E1):=by
    refine{λb u e=>?_,S'.len,λi d e=>?_,λi t d e=>?_,S'.inj}
    .by_cases hb:b=a
     .subst hb;rw[HJ] at e;rw[ha];exact e
     .rw[FH hb] at e;exact S'.sub b u e
    .obtain⟨v,h1,h2⟩:=S'.val i d e;exact{v,h1,h2.le (.of_gr gr)}
    .obtain⟨b,h1,h2,h3,h4⟩:=S'.own i t d e
     refine{b,h1,?_,h3.mono (.of_gr gr) rfl,h4};rw[FH (λz=>no {i,t,d,e,by rw[<-z];exact h1})];exact h2
   have st2:Stp (EC σ E) F H (D3 F' a (.lst vs)) H' (EC σ (shareJ js E1)):={st.keep,st.dom,st.le.trans (.of_gr gr),λb u e=>by
    by_cases hb:b=a
    .subst hb;exact .inr (.inl (.none n2))
    .rw[FH hb] at e;exact st.new b u e,st.own}
   obtain⟨E',wW,hh⟩:=hr.choose_spec qs hq;rw[<-hh] at k;have k':FlOk X.K X.H₀ τ (EC σ E) F H D' (.nx E'):=λσ' F' H' st S=>k σ' F' H' (st.weak (S.hush ks).2) (S.hush ks).1;exact{a,rfl,{vs,.inl (.inl ha)},yEI k' st2 S2 (Ur (.inl (.inl HJ)) (rv.le (.of_gr gr))) wW}
  .cases hg
end
section
variable{st:DA}{ts:TE}
end
section
variable{st:DA}{ge gs:G}
end
theorem yGO{nm:List C2}{g:G}(hr:Room 3 X.A)
  (h:(iR X X.A.in1.in1 q scope cl nm f cd s H).A.units+64<GB->VE (iR X X.A.in1.in1 q scope cl nm f cd s H) e g):VE (iR X X.A.in1.in1 q scope cl nm f cd s H) e g :=
 h (hr.in1.in1.deeper _).units
section
variable{K:AD}{c T:AT}{Zk:AJ}{Zj:Option AT}{sl vE:Array (Option AJ)}{vs:Array AJ}
theorem tabIn_of(a:BX K BK x=AA (AA (.ref f)))(l:K.lookup f=AA {oc,od,.func fd,sl})(hc:fd.code=.ref c)(m:K.lookup c=AA {Zk,Zj,.fields vs,vE})(hv:vs[11]?=AA (.ref T)):ET K x=AA (c,T):=by
 unfold ET;rw[a];simp only[l,hc,m,hv]
theorem zWE(a:BX K BK x=AA AL):ET K x=AL:=by
 unfold ET;rw[a]
inductive TabE(K:AD)(q:CU)(x:C2):Option AT->Prop
 |no:BX K BK x=AA AL->TabE K q x AL
 |tab {c T:AT} {d:DefRec}:ET K x=AA (c,T)->K.lookup T=AL->(recsOf q).find? (λe=>e.name==x)=AA d->TabE K q x (AA T)
theorem Tabs.of{q:CU}{t1 t2 t3 t4:Option AT}(h1 : TabE K q "holders" t1)(h2 : TabE K q "_law_table" t2)(h3 : TabE K q "_law_back" t3)(h4 : TabE K q "_law_kept_right" t4)
    (ap : [t1, t2, t3, t4].Pairwise fun a b => a = AL ∨ a ≠ b) : Tabs K q := by
  have g : ∀ {x : C2} {t : Option AT}, TabE K q x t → ∀ c T, ET K x = AA (c, T) → t = AA T ∧ K.lookup T = AL ∧ ∃ d, (recsOf q).find? (fun e => e.name == x) = AA d := fun {x t} h c T e => by
    cases h with
    | no z => rw [zWE z] at e; cases e
    | tab z1 z2 z3 => rw [z1] at e; cases e; exact {rfl, z2, _, z3}
  have all : ∀ x ∈ gM, ∃ t, TabE K q x t := fun x hx => by
    unfold gM at hx;simp only [A7, BZ, or_false] at hx;rcases hx with rfl | rfl | rfl | rfl
    · exact {_, h1}
    · exact {_, h2}
    · exact {_, h3}
    · exact {_, h4}
  simp only [L7, A7, BZ, or_false, forall_eq_or_imp, forall_eq, false_implies, implies_true, and_true] at ap;refine {fun x hx c T e => let ⟨t, h⟩ := all x hx; (g h c T e).2.2, fun x hx c T e => let ⟨t, h⟩ := all x hx; (g h c T e).2.1, fun x hx y hy c c' T e e' => ?_};unfold gM at hx hy;simp only [A7, BZ, or_false] at hx hy;rcases hx with rfl | rfl | rfl | rfl <;> rcases hy with rfl | rfl | rfl | rfl
  all_goals first
    | rfl
    | (exfalso; simp_all [(g h1 _ _ ‹_›).1]; done)
    | (
      exfalso
      first
        | (have a := (g h1 _ _ e).1; have b := (g h2 _ _ e').1; subst a; subst b; simp at ap; done)
        | (have a := (g h1 _ _ e).1; have b := (g h3 _ _ e').1; subst a; subst b; simp at ap; done)
        | (have a := (g h1 _ _ e).1; have b := (g h4 _ _ e').1; subst a; subst b; simp at ap; done)
        | (have a := (g h2 _ _ e).1; have b := (g h1 _ _ e').1; subst a; subst b; simp at ap; done)
        | (have a := (g h2 _ _ e).1; have b := (g h3 _ _ e').1; subst a; subst b; simp at ap; done)
        | (have a := (g h2 _ _ e).1; have b := (g h4 _ _ e').1; subst a; subst b; simp at ap; done)
        | (have a := (g h3 _ _ e).1; have b := (g h1 _ _ e').1; subst a; subst b; simp at ap; done)
        | (have a := (g h3 _ _ e).1; have b := (g h2 _ _ e').1; subst a; subst b; simp at ap; done)
        | (have a := (g h3 _ _ e).1; have b := (g h4 _ _ e').1; subst a; subst b; simp at ap; done)
        | (have a := (g h4 _ _ e).1; have b := (g h1 _ _ e').1; subst a; subst b; simp at ap; done)
        | (have a := (g h4 _ _ e).1; have b := (g h2 _ _ e').1; subst a; subst b; simp at ap; done)
        | (have a := (g h4 _ _ e).1; have b := (g h3 _ _ e').1; subst a; subst b; simp at ap; done))
end
end L2
namespace HT
open PySem PySem.Spec PyProof.Rows
end HT
namespace L2
open PySem PySem.Spec PyProof.Rows
section
variable{st:DA}{ts:TE}
end
end L2
namespace HT
open PySem PySem.Spec PyProof.Rows
section
open PySem.SeqAt
open PySem.AutoSeq1 (wpAny_loadPart')
open PySem.MeetsSeq PySem.MeetsSeq2 PySem.MeetsSeq3
end
end HT
variable{bm:List AJ}{ZS:String}{s₀:AS}{kn:C2}{WA:AT}{ie ik:Nat}
namespace L2
open PySem PySem.Spec PyProof.Rows
theorem Fc:∀(ns:List Int) (n:Int),ns.foldl min n∈n::ns/\∀x∈n::ns,ns.foldl min n<=x
 |[],n=>{A2,λx hx=>by rw[BB.mp hx];exact HQ _}
 |m::ns,n=>by
  obtain⟨h1,h2⟩:=Fc ns (min n m);rw[K7];have h3:=h2 _ A2;refine{?_,λx hx=>?_}
  .rcases A7.mp h1 with e|h
   .rw[e]
    rcases ZE n m with z|z
    .rw[Int.min_eq_left z];exact A2
    .rw[Int.min_eq_right z];exact AZ _ A2
   .exact AZ _ (AZ _ h)
  .rcases A7.mp hx with e|hx
   .rw[e];lia
   .rcases A7.mp hx with e|hx
    .rw[e];lia
    .exact h2 x (AZ _ hx)
section
variable{K:AD}{a b st:DA}{ga gb ge gs:G}{Nk:List G}
theorem Qd{d:D}(r:Reps K F vs [d]):∃v,vs=[v]/\Rep K F v d:=by
 cases r with
 |cons r rr=>cases rr;exact{_,rfl,r}
end
theorem yAB:typeLookup (.type "list") "keys"=pure AL:=by rw[typeLookup_type,builtinLookup_eq_fast];kernel_rfl
theorem Ui:entryFor table "dict.update.loop"=AA EF.«dict.update.loop»:=entryFor_of_tree (by kernel_rfl)
theorem Ac:plainId "dict.update.loop"=AK:=by decide +kernel
theorem yAC{o:IF}{xs:Array AJ}{Q:Option AJ->AS->Prop}(hx:s.heap.get? a=AA o)(hc:o.cls=.type "list")(xE:o.data=.seq xs k)(hd:o.dict=AL)(hA:A.handled=AL)
  (h:∀h' tk,(∀b u,s.heap.get? b=AA u->h'.get? b=AA u)->Q AL { s with heap:=h',toks:=tk }):A1 (A4 prog w) A (j6 (.ref a) "keys") Q E s:=by
 obtain⟨c,dct,dat,sl⟩:=o;simp only at hc xE hd;subst hc xE hd;obtain⟨hp,g,d,tk,os⟩:=s;have hT:∀Yz,({hp,g,d,Yz,os}:AS).TypeIs (.ref a) "list":=λ_=>{_,hx,rfl};have f1:=sub_AttributeError;have f3:=F.slot_list_getattribute.lookup;have f4:=F.slot_list_getattribute.bind (.ref a);have f5:=am_list_getattr_none;unfold j6 getAttrBy? getAttrBy
 repeat (any_goals (first|assumption|exact hT _|((with_reducible show A1 _ _ (call (MP "list.__getattribute__") _ _) _ _ _);refine LF F.slot_list_getattribute (hT _) am_entry_list_getattribute (F.args_list_getattribute_2 _ _) (meets_getattribute_miss_list a xs k sl _ _ yAB 'd') {hx,hA,λh' Yz e Zs=>?_})|wp_step))
 obtain⟨t',u',he⟩:=Zs.there;show A1 _ _ (getattributeRaised _ _ _ _ _ _ _) _ _ _;unfold getattributeRaised
 repeat (any_goals (first|assumption|wp_step))
 exact h _ _ Zs.of.keeps
theorem yEJ{b:AT}{k:List Key}{r:AJ}{Q:Unit->AS->Prop}(hu:A.units<GB)(I:Inv X AG σ H s)(e:H a=AA (.dT kvs))(eb:H b=AA (.tup (k.map kV)))(l:kvs.length<sizeLine)(rv:RelV v r)
  (h:∀s',Inv X AG σ (D3 H a (.dT (QD kvs k v))) s'->Q () s'):A1 (A4 X.prog X.w) A (fC a (.ref b) r) Q E s:=by
 obtain⟨z,hd,xs,MY,dd⟩:=Xr I.hok e;have hz:xs.length<=sizeLine:=by rw[<-Paired.length MY];exact z
 have hl:(QD kvs k v).length<=sizeLine:=by have:=rG kvs k v;lia
 refine wpAny_dictSet_heap (hsz:=hz) hu (nN I.hok eb) dd λh' b9 hs=>h _ ?_;obtain⟨q,es,ep,hq,h2,h3,h4,_,h5⟩:=b9;refine t5 I (by rw[e];exact GJ) hs {q,hq} {hl,hd,_,(MY.put k eb rv).keeps λc ys ec=>?_,q,es,ep,hq,h2,h3,h4,h5};rw[FH (Xw ec e (λz=>nomatch z))];exact ec
theorem yAD{F:α->β->Prop}{x:α}:∀{l:List α} {m:List β},Paired F l m->l[i]?=AA x->∃y,m[i]?=AA y/\F x y:=by
 induction i with
 |zero=>intro l m h e;cases h with
  |nil=>cases e
  |cons h _=>cases e;exact{_,rfl,h}
 |succ i ih=>intro l m h e;cases h with
  |nil=>cases e
  |cons _ h=>exact ih h e
theorem Same.seqT{K:AD}(e:Same H H')(h:SqT K H a xs):SqT K H' a xs:=by
 rcases h with(h|⟨o,h⟩)|h
 .exact .inl (.inl (e _ _ h))
 .exact .inl (.inr {o,e _ _ h})
 .exact .inr h
def Iz(K:AD)(H:Hp)(y:V)(p:AT×List Key×V):Prop:=∃c,y=.ref c/\SqT K H c [.ref p.1,p.2.2]/\H p.1=AA (.tup (p.2.1.map kV))
def Ao(kvs:List (List Key×V))(p:AT×List Key×V):List (List Key×V):=QD kvs p.2.1 p.2.2
theorem zWF{K:AD}(hK:X.K=K){d:AT}{ps:List (AT×List Key×V)}(hA:A.handled=AL)(hu:A.units+1<GB)(hd:H d=AL)(hl:SqL K H l ys)(hp:Paired (Iz K H) ys ps)(fp:FpOk X AG H it)(hit:it≠d) :
  ∀(n i:Nat) (kvs:List (List Key×V)) (s:AS) (t:kB),n+i=ys.length->kvs.length<=i->ys.length<sizeLine->Inv X AG σ (D3 H d (.dT kvs)) s->s.heap.IsListIter it l i ->
   (∀s',Inv X AG σ (D3 H d (.dT ((ps.drop i).foldl Ao kvs))) s'->R (.ok (.ret .none)) s')->GY (A4 X.prog X.w) A (.builtin "dict.update.loop" {[.ref d,.ref it,.int i t,.none],[]}) R s:=by
 subst hK;have up:∀kvs,Same H (D3 H d (.dT kvs)):=λkvs b o e=>by rw[FH (W6 e hd)];exact e
 intro n
 induction n with
 |zero =>
  intro i kvs s t hn hk hz I st hR;obtain⟨CK,rv,p,_⟩:=I.list ((up kvs).seq hl);obtain⟨f0,f1,f2,f3,f4,f5⟩:=fp;have f0:D3 H d (.dT kvs) it=AL:=by rw[FH hit];exact f0
  refine MC Ui ?_;rw[KM Ac _];unfold EF.«dict.update.loop»;refine AB (hU hA st p.isList (by have:=rv.length;simp;lia) λh' eb=>?_);have I1:=I.turned (t':=s.toks) (λb o hb e=>eb b o hb e) f0 f1 f3 f4 f5;refine AB (wpAny_pure (wpAny_pure ?_));refine hR _ ?_;rw[HP (by rw[<-Paired.length hp];lia)];exact I1
 |succ n ih =>
  intro i kvs s t hn hk hz I st hR;have hi:i<ys.length:=by lia
  obtain⟨CK,rv,p,_⟩:=I.list ((up kvs).seq hl);obtain⟨f0,f1,f2,f3,f4,f5⟩:=id fp;have f0':D3 H d (.dT kvs) it=AL:=by rw[FH hit];exact f0
  obtain⟨y,hy⟩:∃y,ys[i]?=AA y:={_,BL hi};obtain⟨u,wN,ru⟩:=rv.get hy;obtain⟨pp,Ca,c,rfl,hc,pF⟩:=yAD hp hy;cases ru;refine MC Ui ?_;rw[KM Ac _];unfold EF.«dict.update.loop»;refine AB (eX st p.isList (x:=.ref c) (by simpa using wN) λh' CT sb=>?_);have I1:=I.turned (t':=s.toks) (λb o hb e=>(sb.2 b hb).trans e) f0' f1 f3 f4 f5;obtain⟨LR,dM,p2,_⟩:=I1.tuple ((up kvs).seqT hc);obtain⟨oi,ei,ci,di⟩:=id CT;obtain⟨ot,eto,cto,nt,dto⟩:=id p2
  cases dM with
  |@cons _ u1 _ us1 r1 dM =>
  cases dM with
  |@cons _ u2 _ us2 r2 dM =>
  cases dM;cases r1;refine AB (CS (AB (wpAny_tryCatch ?_)));unfold Builtin.Dict.pairItems;refine AB (O0 (T:="tuple") {ot,eto,cto} ?_);rw[if_pos 'd'];refine AB (GU eto dto (wpAny_pure ?_));show A1 _ _ (IU _ (fC d (.ref pp.1) u2)) _ _ _
  have I2:Inv X ((it,oi)::AG) σ (D3 H d (.dT kvs)) _:=I1.pins_of λq hq=>by
   rcases A7.mp hq with rfl|hq
   .exact{ei,f0',f1,f2,λv z=>by rw[di] at z;cases z}
   .exact I1.pin q (BG _ hq)
  refine CS (yEJ (k:=pp.2.1) (v:=pp.2.2) hu I2 HJ (up kvs _ _ pF) 'l' r2 λs' I3=>?_);rw[zYF] at I3;have e3:=(I3.pin (it,oi) (BG _ A2)).1;have I4:=I3.pins_of (pins':=AG) λq hq=>I3.pin q (BG _ (AZ _ hq));refine wpAny_pure {aV Ac _,?_};have E6:(QD kvs pp.2.1 pp.2.2).length<=i+1:=by have:=rG kvs pp.2.1 pp.2.2;lia
  refine ih (i+1) _ s' 0 'l' E6 hz I4 {oi,e3,ci,di} λs5 I5=>hR s5 ?_
  have:ps.drop i=pp::ps.drop (i+1):=by
   have hip:i<ps.length:=by rw[<-Paired.length hp];exact hi
   rw[EQ hip];have:ps[i]=pp:=by rw[BL hip] at Ca;exact BJ Ca
   rw[this]
  rw[this];exact I5
def Po(K:AD):List V->Hp->VK->Prop:=λxs H Q=>∃l ys ps,xs=[.ref l]/\SqL K H l ys/\Paired (Iz K H) ys ps/\ys.length<sizeLine/\∀q,H q=AL->Q (.ref q) (D3 H q (.dT (ps.foldl Ao [])))
theorem zQP(hc:X.calm=AK)(hu:X.A.units+64<GB):CallR X (.type "dict") (Po X.K):=by
 intro AG s σ H xs us Q I r h;obtain⟨l,ys,ps,rfl,hl,hp,hz,q⟩:=h
 cases r with
 |cons r r2 =>
 cases r2;cases r;have hd:H s.heap.objs.size=AL:=I.hok.fresh (AM _);refine callType_codes (Q₁:=λobj E4=>obj=.ref s.heap.objs.size/\E4={ s with heap:=s.heap.push { cls:=.type "dict",data:=.dict #[] } }) F.kt_called_dict (F.kt_typeCall_dict_1 _) F.entry_dict_init (kt_code_dict_new _ {rfl,rfl}) ?_;rintro obj E4 ⟨rfl,rfl⟩;have I1:Inv X AG σ (D3 H s.heap.objs.size (.dT [])) { s with heap:=s.heap.push { cls:=.type "dict",data:=.dict #[] } }:=I.laid (a:=s.heap.objs.size) (o:=.dT []) (t':=s.toks) (λ_ _ q=>AF _ q) (AM _) (Sc s.heap I.big);have up:Same H (D3 H s.heap.objs.size (.dT [])):=λb o e=>by rw[FH (W6 e hd)];exact e
 have hT:({ s with heap:=s.heap.push { cls:=.type "dict",data:=.dict #[] } }:AS).TypeIs (.ref s.heap.objs.size) "dict":={_,AV _ rfl,rfl};obtain⟨CK,rv,⟨ol,nl,el,cl,dl,sl⟩,_⟩:=I1.list (up.seq hl);refine{hT,F.args_dict_init_2 _ _,?_};unfold EF.«dict.__init__»;refine AB ?_;unfold Builtin.Dict.selfAndRest;refine AB (PU hT ?_);show A1 _ _ (pure (s.heap.objs.size,[DP l])) _ _ _;refine wpAny_pure ?_;show A1 _ _ (RQ "dict.__init__" s.heap.objs.size (.ref l) [] .none) _ _ _;unfold RQ;refine AB (O0 (T:="list") {ol,el,cl} ?_);rw[if_pos 'd'];refine AB (yAC (A:=X.A.in1.in1) el cl sl dl (I.ok.hd hc) λh2 tk k2=>?_);have I2:=I1.kept (t':=tk) k2;rw[if_pos (show(AL:Option AJ).isNone=AK from rfl)];refine AB (FC ?_);obtain⟨LR,dM,p2,_⟩:=I2.list (up.seq hl);refine AB (HD p2.isList ?_);have I3:=I2.kept (t':=tk) (h':=h2.push { cls:=.type "list_iterator",data:=.fields #[.ref l,.int 0 0] }) λb u e=>AF _ e;have hn:D3 H s.heap.objs.size (.dT []) h2.objs.size=AL:=I2.hok.fresh (AM _);have RX:h2.objs.size≠s.heap.objs.size:=(W6 HJ hn).symm;have hnH:H h2.objs.size=AL:=by rw[FH RX] at hn;exact hn
 refine wpAny_pure {aV Ac _,?_};refine zWF rfl (A:=X.A.in1) (I.ok.hd hc) (show X.A.units+1+1<GB by lia) hd hl hp (I2.fpOk (AM _) hnH) RX ys.length 0 [] _ _ rfl (AM _) hz I3 {_,AV _ rfl,rfl,rfl} λs5 I5=>?_;exact{rfl,.ref s.heap.objs.size,_,I5,rfl,q _ hd}
def toPrs:List D->Option (List (List Int×D))
 |[]=>AA []
 |.tup [.tup ks,d]::r=>match QW ks,toPrs r with
  |some ns,AA m=>AA ((ns,d)::m)
  |_,_=>AL
 |_=>AL
def tD:List D->Out D
 |[.lst ds]=>match toPrs ds with
  |some m=>few ds.length (.ok (.dt (m.foldl (λa p=>OT a p.1 p.2) [])))
  |none=>.bad
 |_=>.bad
section
variable{K:AD}
theorem Rep.keyAt(s:Sub F H)(r:Rep K F v (.tup (ns.map D.int))):∃a,v=.ref a/\H a=AA (.tup ((ns.map CZ).map kV)):=by
 generalize e:ns.map D.int=ds at r
 cases r with
 |@tup a vs _ h r =>
  subst e;refine{a,rfl,?_};have:vs=(ns.map CZ).map kV:=by rw[Reps.vint r,DR];rfl
  rw[s _ _ h,this]
 |@tupK a xs h n =>
  cases xs with
  |nil=>exact absurd rfl n
  |cons x xs =>
   cases ns with
   |nil=>cases e
   |cons n ns=>cases e
theorem Pn(s:Sub F H):∀(ds:List D) {ys:List V} {m:List (List Int×D)},Reps K F ys ds->toPrs ds=AA m->∃ps:List (AT×List Key×V),Paired (Iz K H) ys ps/\∀a b,RepT K F a b->RepT K F (ps.foldl Ao a) (m.foldl (λa p=>OT a p.1 p.2) b)
 |[],ys,m,r,h=>by
  cases h;cases r;exact{[],.nil,λa b h=>h}
 |d::ds,ys,m,r,h=>by
  rw[toPrs.eq_def] at h;split at h
  .rename_i e;cases e
  .rename_i ks d' TX e
   cases e;split at h
   .rename_i ns m' e1 e2
    cases h
    cases r with
    |cons r1 r2 =>
     obtain⟨ps,h1,h2⟩:=Pn s ds r2 e2;obtain⟨c,vs,rfl,rv,hc⟩:=r1.tupSq
     cases rv with
     |cons k1 rv =>
      cases rv with
      |cons k2 rv =>
       cases rv;have:=nV e1;subst this;obtain⟨ka,rfl,hk⟩:=k1.keyAt s;exact{(ka,ns.map CZ,_)::ps,.cons {c,rfl,hc F H (.refl _) s,hk} h1,λa b Nf=>h2 _ _ (Nf.put ns k2)}
   .cases h
  .cases h
theorem zWG:nH K (Po K) tD:=λvs xs F H d Q s r hf k=>by
 unfold tD at hf;split at hf
 .split at hf
  .rename_i ds _ m em
   obtain⟨hl,hf⟩:=W4 hf;cases hf
   cases r with
   |cons r1 r2 =>
    cases r2;obtain⟨a,ys,rfl,h1,h2⟩:=r1.isRefL;obtain⟨ps,h3,h4⟩:=Pn s _ h2 em;refine{a,ys,ps,rfl,h1.imp s.rd id,h3,by rw[h2.length];exact cU hl,λq hq=>?_};have n:=pA6 (H':=D3 H q (.dT (ps.foldl Ao []))) s (Gr.new hq);exact k q F _ n (pAG s hq) hq {_,HJ,h4 [] [] .nil}
  .cases hf
 .cases hf
end
theorem yAE{gs:List G}(hc:X.calm=AK)(hu:X.A.units+64<GB)(hm:X.mg "dict"=AL)(ha:VA X [e] gs)(hg:Gl X "dict":=by rfl)(he:AO [e] X.env=(AC,eval e X.env)::AO [] X.env:=by rfl)(J5:(DT pos (AO [] X.env)).any (·.1)=AC:=by rfl) :
  FE X (.Call (.Name "dict" p) [e] [] pos) (gN tD gs):=Vp (zQP hc hu) zWG hm (by decide +kernel) ha hg 'd' 'd' he J5
structure ExK(K:AD)(C:AT)(bm:List AJ)(ZS:String):Prop where
 ex:KB K C bm ZS=AK
 ga:LI K (.ref C) "__getattribute__"=AA (AA (.builtin "BaseException.__getattribute__"))
 gb:LI K (.ref C) "__getattr__"=AA AL
 ha:LI K (.ref C) "__class__"=AA (AA (.builtin "object.__class__"))
 hn:Z1 K (.builtin "object.__class__") "__get__"=AA (AA (.builtin "getset_descriptor.__get__"))
 ht:cG K (.builtin "object.__class__")=AA AK
 hm:UK K C (.type "object")=AA AK
 hb:UK K C (.type "BaseException")=AA AK
def XAt(x C:AT)(h:D7):Prop:=∃o,h.get? x=AA o/\o.cls=.ref C
section
variable{K:AD}{x:AT}
open PySem.W Builtin Builtin.ObjectAttr Builtin.Getset_descriptor in
theorem XAt.type(I:XAt x C h):Looks M h (typeOf (.ref x)) (.ref C):=by
 obtain⟨o,e,c⟩:=I;exact c▸(Looks.ld e).andThen .now
open PySem.W Builtin Builtin.ObjectAttr Builtin.Getset_descriptor in
theorem ExK.find(Z:ExK K C bm ZS)(X:K.In h):Looks M h (find (.ref x) (.ref C) "__class__") (.bind (.builtin "getset_descriptor.__get__") (.builtin "object.__class__")) :=
 (looks_findIn X Z.ha).andThen ((show Looks M h (getOf (AA (.builtin "object.__class__"))) (AA (.builtin "getset_descriptor.__get__")) from looks_specialIn X Z.hn).andThen
  ((show Looks M h (dataDescriptor? (AA (.builtin "object.__class__")) (AA (.builtin "getset_descriptor.__get__"))) (AA (.builtin "getset_descriptor.__get__",.builtin "object.__class__")) from(looks_takesIn X Z.ht).andThen .now).andThen (Looks.tag .now)))
open PySem.W Builtin Builtin.ObjectAttr Builtin.Getset_descriptor in
theorem ExK.get(Z:ExK K C bm ZS)(X:K.In s.heap)(I:XAt x C s.heap){tp:AJ}(q:R (.ok (.ret (.ref C))) s):GY (A4 prog w) A (.call (.builtin "getset_descriptor.__get__") {[.builtin "object.__class__",.ref x,tp],[]}) R s:=by
 obtain⟨hh,g,dr,t,os⟩:=s;have L0:=I.type (M:=A4 prog w);have L1:=looks_mroIn (M:=A4 prog w) X Z.hm;refine j9 KF.slot_gs.plain KF.entry_gs (KF.slot_gs.check _ _ _ _ _ _ _ _ KF.type_class (KF.args_gs _ _ _) ?_);unfold EF.«getset_descriptor.__get__» descrGet;rw[dga_obj];refine AB (wpAny_pure ?_);unfold descrGetter descrCheckInstance descrNameAndClass isInstance;simp only[KF.owner_class]
 repeat lk
 refine{Code.quiet_builtin _ (by decide +kernel),MC KF.entry_class ?_};unfold EF.«object.__class__» shownTypeOf
 repeat lk
 exact q
open PySem.W Builtin Builtin.ObjectAttr Builtin.Getset_descriptor in
theorem ExK.cls(Z:ExK K C bm ZS)(X:K.In s.heap)(I:XAt x C s.heap){Q:Option AJ->AS->Prop}(q:Q (AA (.ref C)) { s with toks:=s.toks+1 }):A1 (A4 prog w) A (j6 (.ref x) "__class__") Q E s:=by
 obtain⟨hh,g,d,t,os⟩:=s;have L0:=I.type (M:=A4 prog w);have L1:=looks_findIn (M:=A4 prog w) X Z.ga;have L2:=Z.find (M:=A4 prog w) (x:=x) X;have L3:=looks_findIn (M:=A4 prog w) X Z.gb;have L4:=looks_mroIn (M:=A4 prog w) X Z.hb;have hk:builtinKind "BaseException.__getattribute__"=AA .slot:=by decide +kernel
 have oZ:splitId "BaseException.__getattribute__"=AA ("BaseException","__getattribute__"):=by decide +kernel
 have ha:=λn=>F.args_bexc_ga (.ref x) n;have SR:(MP "BaseException.__getattribute__"==MP "object.__getattribute__")=AC:=by decide +kernel
 unfold j6 getAttrBy? getAttrBy;refine AB (wpAny_mkText (AB (GQ (CS (AB (L0.at (AB (L1.at ?_))))))));show A1 _ _ (if(onTheHeap (DP C)&&MP "BaseException.__getattribute__"==MP "object.__getattribute__")=AK then _ else getAttrByItsOwn _ _ _ _ _ _) _ _ _;rw[SR,U6,if_neg B9];unfold getAttrByItsOwn;refine AB (L3.at (AB (GQ (CS ?_))));show A1 _ _ (bindSpecial _ _ >>= _) _ _ _;rw[F.excAttr_ValueError.ga.bind];refine AB (wpAny_pure (S7 (j9 F.excAttr_ValueError.ga.plain F.entry_bexc_ga ?_)));simp only[checkBuiltinCall,hk,oZ];unfold isInstance
 repeat lk
 refine wpAny_run (h:=AL) (Z.get (s:={hh,g,d,t+1,os}) X I ?_);exact wpAny_pure (wpAny_pure (handed_on rfl (wpAny_pure q)))
open PySem.W Builtin Builtin.ObjectAttr Builtin.Getset_descriptor in
theorem ExK.kit(Z:ExK K C bm ZS):KitX K (.ref x) (.ref C) (XAt x C) where
 ty:=λ_ _ _ I=>I.type
 it:=λ_ _ X _=>by
  have z:=Z.ex;unfold excIn at z;split at z
  .rename_i ho
   intro A' Q' E' s' k q;unfold isType loadHead;exact AB (wpAny_loadPart (k _ _ (X _ _ ho)) (wpAny_pure q))
  .cases z
 ne:=λh tp dd CK n sl X htp=>by
  refine RA.mpr λq=>?_;obtain rfl:C=tp:=Value.ref.inj (beq_iff_eq.mp q);have z:=Z.ex;unfold excIn at z;split at z
  .rename_i ho
   have e:=congrArg Obj.cls (BJ ((X _ _ ho).symm.trans htp));exact absurd (Value.type.inj e) 'd'
  .cases z
 ca:=λX I k=>Z.cls X I k
end
structure Fly(P:CU)(w:D8)(C:AT)(outer:List XT)(H:Hp)(s:AS)(a:AT)(H1:Hp)(h1:D7)(fr:List AT)(a0:AJ)(s':AS):Prop where
 os:s'.os=s.os
 bare:NW s'.gens
 un:Un (SJ outer) [] H H1 s.heap h1
 hok:HOk P w H1 h1
 frs_:∀b∈fr,H1 b=AL/\(b∈SJ outer\/s.heap.objs.size<=b)/\∃o,h1.get? b=AA o/\∀vs,o.data≠.fields vs
 new:h1.get? a=AL
 fl:Heap.FlyingW (KQ h1 fr) outer a (.ref C) a0 s'.heap
 up:h1.UpToSlots s'.heap
def X1(P:CU)(w:D8)(C:AT):CXT:=λouter H s E e s'=>∃a H1 h1 fr a0,e=.ref a/\Fly P w C outer H s a H1 h1 fr a0 s'/\E (.ref C) AL H1
section
variable{h2:D7}{fr:List AT}{a0:AJ}
theorem Fly.kept(F:Fly P w C outer H s a H1 h1 fr a0 s')(st:(KQ h1 fr).StaysIn h2)(up:h1.UpToSlots h2):Un (SJ outer) [] H H1 s.heap h2/\HOk P w H1 h2:=by
 have any:∀b o,h1.get? b=AA o->(b∉fr->h2.get? b=AA o)/\∃o',h2.get? b=AA o'/\(b∈fr->∃sl,o'={ o with slots:=sl }):=λb o e=>by
  refine{λn=>st b o (OM _ e n),?_}
  by_cases hb:b∈fr
  .obtain⟨_,_,o',e',d⟩:=F.frs_ b hb
   rw[e] at e';cases e';obtain⟨sl,q⟩:=up b o e d;exact{_,q,λ_=>{sl,rfl}}
  .exact{o,st b o (OM _ e hb),λz=>absurd z hb}
 have HM:∀b o,s.heap.get? b=AA o->b∉SJ outer->b∉fr:=λb o e n z=>by
  rcases(F.frs_ b z).2.1 with q|q
  .exact n q
  .exact absurd (A5 e) (WD.mpr q)
 refine{{λb o e n hb hx=>(any b o (F.un.keep b o e n hb hx)).1 (HM b o e hb),λb o e n hb hx=>?_,F.un.free,λb o e hx=>?_,F.un.tups,F.un.frzs,F.un.tbls},λb u e=>?_}
 .obtain⟨sl,q⟩:=F.un.slot b o e n hb hx
  by_cases hf:b∈fr
  .obtain⟨o',q1,q2⟩:=(any b _ q).2
   obtain⟨vE,rfl⟩:=q2 hf;exact{vE,q1}
  .exact{sl,(any b _ q).1 hf}
 .obtain⟨o',q⟩:=F.un.there b o e hx
  obtain⟨o2,q2,_⟩:=(any b o' q).2;exact{o2,q2}
 .refine(F.hok b u e).stay (λc v hc q=>(any c v q).1 λz=>?_) (λ_ q=>q) (λ_ _ q=>q) λ_ _ _ q=>q
  have n:=(F.frs_ c z).1;rcases hc with rfl|hc
  .rw[n] at e;cases e
  .rw[n] at hc;cases hc
end
section
variable{K:AD}{E:XK}
theorem zQQ{vs:List AJ}(I:Inv (TN (X1 P w C) P w K mg base N qual scope f cd A outer s₀ H₀ E) AG σ H s)(hx:Heap.MadeExcOf s.heap h' a (.ref C) vs)
  (q:E (.ref C) AL H):(TN (X1 P w C) P w K mg base N qual scope f cd A outer s₀ H₀ E).xe (.ref a) { s with heap:=h' }:=by
 have ZW:∀env∈(TN (X1 P w C) P w K mg base N qual scope f cd A outer s₀ H₀ E).stack,∀b,env.frame=AA b->b∈SJ (TN (X1 P w C) P w K mg base N qual scope f cd A outer s₀ H₀ E).stack:=λenv he b hb=>JL.mpr {env,he,hb};refine wpAny_leaves_madeW (base:=KQ s.heap (SJ (TN (X1 P w C) P w K mg base N qual scope f cd A outer s₀ H₀ E).stack)) I.ok.frames rfl (λb o e=>Y7 _ e) (PySem.W.funFrames_hide I.stack ZW) hx λh2 t fl _ _ up=>?_;refine{a,H,s.heap,_,.ref t,rfl,{I.os,I.bare,I.base,I.hok,λb hb=>{I.stkFree b hb,?_,(I.stack.mem hb).2},hx.new,fl,(Heap.UpToSlots.of_keeps hx.keeps).trans up},q};rcases A7.mp (I.stkSub b hb) with e|e
 .exact .inr (C0 e.symm)
 .exact .inl e
theorem yAF(X:K.In h)(Z:KB K C bm ZS=AK):∃tl N nm q bs hd sn sub ab col dd k0 k1 k2 k3 k5 mN,h.get? C=AA (excClassObj nm q C N bs tl hd sn sub ab col dd k0 k1 k2 k3 k5 ZS)/\h.Ns N mN/\mN "__init__"=AL/\OwnTail h bm tl:=by
 unfold KB at Z;split at Z
 .rename_i dd cd sl ho
  split at Z
  .rename_i C' tl k0 k1 k2 k3 n k5 em es
   simp only[EB,beq_iff_eq,MU] at Z;obtain⟨⟨⟨⟨⟨e1,e2⟩,e3⟩,e4⟩,e5⟩,e6⟩:=Z;cases cd;cases sl;dsimp only at em e3 e5 e6 es;subst e1 e2 em e3 es;exact{tl,_,_,_,_,_,_,_,_,_,dd,k0,k1,k2,k3,k5,_,X _ _ ho,.of_isNs (PySem.W.isNs_of_in X e5),PySem.W.nsMap_none_of_in X e5 e6,PySem.W.tail_of_in X e4}
  .cases Z
 .cases Z
theorem zWH{np:iB}{ta:TA}{B ini:String}(FB:ExcBaseFacts B ZS ini bm)(Z:KB K C bm ZS=AK)(hm:mg x=AA (.ref C))(hh:A.handled=AL)
  (ha:PA (TN (X1 P w C) P w K mg base N qual scope f cd A outer s₀ H₀ E) (e::es) ta) (hg:Gl (TN (X1 P w C) P w K mg base N qual scope f cd A outer s₀ H₀ E) x:=by rfl) (hd:(x==("__debug__":C2))=AC:=by decide)
  (he:AO (e::es) (G7 qual scope s₀.heap.objs.size f cd)=(AC,eval e (G7 qual scope s₀.heap.objs.size f cd))::AO es (G7 qual scope s₀.heap.objs.size f cd):=by rfl)
  (J5:(DT GA (AO es (G7 qual scope s₀.heap.objs.size f cd))).any (·.1)=AC:=by rfl) :
  PS (TN (X1 P w C) P w K mg base N qual scope f cd A outer s₀ H₀ E) (.Raise (AA (.Call (.Name x np) (e::es) [] GA)) AL pos) (λD σ H=>ta σ H λvs H1=>vs.length<=sizeLine/\E (.ref C) AL H1):=by
 intro AG s σ H D I h;obtain⟨tl,Nn,nm,q,bs,hdct,sn,sub,ab,col,dd,k0,k1,k2,k3,k5,mN,hC,hN,hni,TL⟩:=yAF (K:=K) (h:=base) I.ok.mod.kin Z;refine wpAny_Raise_call_subT (C:=C) (nm:=nm) (q:=q) (N:=Nn) (bs:=bs) (bm:=tl) (hdct:=hdct) (sn:=sn) (sub:=sub) (ab:=ab) (col:=col) (dd:=dd) (k0:=k0) (k1:=k1) (k2:=k2) (k3:=k3) (k5:=k5) FB (mN:=mN) (TL.hasType FB.hasBase) hh ?_ hni (qT I hg hm {rfl,?_} hd)
 .show(DT GA (AO (e::es) (G7 qual scope s₀.heap.objs.size f cd))).any (·.1)=AC
  rw[he];exact J5
 .have h:=ha GA AG s σ H _ I h
  show A1 _ _ (evalArgs (.ref C) AK (DT GA (AO (e::es) (G7 qual scope s₀.heap.objs.size f cd))) []) _ _ _;have h:A1 (A4 P w) _ (spliced (DT GA (AO (e::es) (G7 qual scope s₀.heap.objs.size f cd)))) _ _ s:=h;rw[he] at h ⊢;refine ON (DB h (λus s2 q=>?_) λ_ _ y=>y);obtain⟨vs,H1,I1,r,z,q⟩:=q;exact{rfl,by rw[<-r.length];exact z,I1.bk _ _ hC,hN.keeps I1.bk,TL.keeps I1.bk,λh' a m=>zQQ I1 m q}
end
theorem Inv.frame{t:Nat}{m':C2->Option AJ}(I:Inv X AG σ H s)(hs:DS X.env.locals s.heap h')(hn:h'.Ns X.env.locals m')(hl:σ'.length=σ.length)
  (hv:∀(i:Nat) (x:C2) (v:V),X.N[i]?=AA x->σ'[i]?=AA (AA v)->ZR X.env.scope x->∃u,RelV v u/\Wu X.env h' m' x u):Inv X AG σ' H { s with heap:=h',toks:=t }:=by
 obtain⟨m,⟨oL,es,ep,lX,r⟩,_⟩:=id I.loc;have ne:∀b o,X.s₀.heap.get? b=AA o->b≠X.env.locals:=λb o e=>BM (AN (A5 e) I.ok.above);refine{I.ok,I.os,I.bare,{λb o e n hb hx=>(hs.2 b (ne b o e)).trans (I.base.keep b o e n hb hx),λb o e n hb hx=>?_,I.base.free,λb o e hx=>?_,I.base.tups,I.base.frzs,I.base.tbls},{m',hn,hv},λy c e=>?_,I.free,I.freeC,λp hp=>?_,λb u e=>?_,hl.trans I.len}
 .obtain⟨sl,e1⟩:=I.base.slot b o e n hb hx
  exact{sl,(hs.2 b (ne b o e)).trans e1}
 .obtain⟨o',e1⟩:=I.base.there b o e hx
  exact{o',(hs.2 b (ne b o e)).trans e1}
 .obtain⟨v,z⟩:=I.cell y c e
  exact{v,z.sameBut hs (I.cne y c e)}
 .obtain⟨e,n,ne,nf,d⟩:=I.pin p hp
  exact{(hs.2 p.1 ne).trans e,n,ne,nf,d}
 .refine(I.hok b u e).stay (λc v hc q=>(hs.2 c ?_).trans q) (λ_ q=>q) (λ_ _ q=>q) λ_ _ _ q=>q
  rintro rfl;rcases hc with rfl|hc
  .rw[I.free] at e;cases e
  .rw[I.free] at hc;cases hc
theorem zTD{Q:Unit->AS->Prop}(I:Inv X AG σ H s)(hN:X.N.Nodup)(hi:X.N[i]?=AA x)(hk:X.env.scope.names.lookup x=AA .local)(hv:σ[i]?=AA (AA v))
  (h:∀s',Inv X AG (σ.set i AL) H s'->Q () s'):A1 M A (unbindName X.env x) Q E s:=by
 obtain⟨m,hn,hl⟩:=id I.loc;obtain⟨u,_,q⟩:=hl i x v hi hv (.inl hk);rcases q with⟨_,hm⟩|⟨q,_⟩
 .refine wpAny_unbindName_local hk hn hm (by rw[I.ok.kind];rfl) λh' z Ls hs=>h _ (I.frame hs Ls (CC ..) λj y w e1 e2 e3=>?_)
  have hj:i≠j:=λe=>by
   subst e;rw[BE (AQ.mp hv).1] at e2;cases e2
  rw[A8 hj] at e2;obtain⟨u',r',q⟩:=hl j y w e1 e2 e3;have hy:y≠x:=λe=>hj (z7 hN hi (e▸e1));refine{u',r',?_};rcases q with⟨k,e⟩|⟨k,c,e,z'⟩
  .exact .inl {k,(if_neg hy).trans e}
  .exact .inr {k,c,e,z'.sameBut hs (I.cne y c e)}
 .have q:X.env.scope.names.lookup x=AA .cell\/X.env.scope.names.lookup x=AA .free:=q
  rw[hk] at q;rcases q with q|q<;>cases q
noncomputable def Cx.hot(X:Cx)(a:AT):Cx:={ X with A:=X.A.mark (AA (.ref a)),calm:=AC,xe:=λ_ _=>False }
theorem Inv.heat(I:Inv X AG σ H s)(a:AT):Inv (X.hot a) AG σ H s :=
 {{I.ok.tab,I.ok.mod,I.ok.kind,I.ok.glob,I.ok.blt,I.ok.above,I.ok.inj,I.ok.has,I.ok.cab,(λz=>by cases z),I.ok.frames,I.ok.stk,I.ok.exf,I.ok.bs,I.ok.bsz,I.ok.noex,I.ok.exfs,I.ok.funs,I.ok.frf},I.os,I.bare,I.base,I.loc,I.cell,I.free,I.freeC,I.pin,I.hok,I.len}
theorem pAN(ok:X.Ok)(I:Inv (X.hot a) AG σ H s):Inv X AG σ H s:={ok,I.os,I.bare,I.base,I.loc,I.cell,I.free,I.freeC,I.pin,I.hok,I.len}
def Ic(A:DU):DU:={ A with handled:=AL }
def Bh(P:CU)(w:D8)(K:AD)(mg:C2->Option AJ)(base:D7)(N:List C2)(qual:C2)(scope:NT)(f:AT)(cd:AJ)(A:DU)(outer:List XT)(s:AS)(H:Hp):Cx :=
 { TN LP P w K mg base N qual scope f cd A outer s H E0 with calm:=AC,xe:=λ_ _=>False }
section
variable{K:AD}
theorem yIZ{st:FF}{ps:List C2}{Q:VK}(F:Fun K x qual st f fd)(S:FnScope N ps (J4 st))
  (hr:Room (k+1) (Ic A)) (e0:Env0 P w K mg base A outer s H) (hb:US s fd {us,[]} (ps.zip us)) (hl:vs.length=ps.length) (r:Vals vs us)
  (LC:∀G3,∃t,PSs (Bh P w K mg base N qual (J4 st) f G3 A outer s H) (W5 st) t/\t { nx:=λ_ H'=>Q .non H',rt:=Q } (start N vs) H) :
  GY (A4 P w) A (.call (.ref f) {us,[]}) (CR LP outer P w H s Q E0) s:=by
 obtain⟨oc,od,kV,SW,pm,an,G3,ct,aJ,rfl,lk,MM⟩:=F.ex;have KX:K.In s.heap:=e0.mod.kin.keeps λb o e=>(e0.bs b o e).1;have Kr:s.heap.NoLimit:=e0.mod.nolimit.keeps λb o e=>(e0.bs b o e).1;refine hV (A:=A) hr.depth (KX _ _ lk) rfl S.co S.gen rfl (Y9 KX MM) (hb _ _ _ _ ?_);refine YX S.kind (λy hy=>?_) λenv he s1 x=>?_
 .rcases S.par y.1 (HW hy).1 with q|q
  .exact .inl q
  .exact .inr {q,M8 _ _ _ (.inl q)}
 subst he;refine{Kr.keeps x.toInCall.keep,codeAny_func ?_};obtain⟨t,ht,hq⟩:=LC G3;have e1:Env0 P w K mg base (Ic A) outer s H:={e0.tab,e0.frames,e0.mod,e0.bs,e0.bsz,e0.funs,e0.frf,e0.hok,e0.bare};have I:=Tp (CX:=LP) (E:=E0) (qual:=qual) (f:=f) (cd:=G3) S hr.hd e1 hl r x
 have I:Inv (Bh P w K mg base N qual (J4 st) f G3 A outer s H) [] (start N vs) H s1 :=
  {{I.ok.tab,I.ok.mod,I.ok.kind,I.ok.glob,I.ok.blt,I.ok.above,I.ok.inj,I.ok.has,I.ok.cab,(λz=>by cases z),I.ok.frames,I.ok.stk,I.ok.exf,I.ok.bs,I.ok.bsz,I.ok.noex,I.ok.exfs,I.ok.funs,I.ok.frf},I.os,I.bare,I.base,I.loc,I.cell,I.free,I.freeC,I.pin,I.hok,I.len}
 refine DB (ht [] s1 (start N vs) H _ I hq) (λfl s' hs=>?_) λe s' hs=>hs.elim
 cases fl with
 |ret u =>
  obtain⟨v,σ',H',J,rv,q⟩:=hs;exact{v,H',J.os,J.bare,J.base,J.hok,rv,q}
 |next =>
  obtain⟨σ',H',J,q⟩:=hs;exact{.non,H',J.os,J.bare,J.base,J.hok,rfl,q}
 |brk=>obtain⟨_,_,_,q⟩:=hs;exact q.elim
 |cont=>obtain⟨_,_,_,q⟩:=hs;exact q.elim
end
def Xz(a:AT)(b:Bool):TE:=λσ H Q=>σ[0]?=AA (AA (.ref a))/\Q (.bl b) H
def rX(a:AT)(bs:List Bool):TA:=λσ H Q=>σ[0]?=AA (AA (.ref a))/\Q (bs.map V.bl) H
theorem cS{n:C2}{ce:DA}{cv:V}{uc:AJ}{b:Bool}(hX:∀AG σ H s,Inv X AG σ H s->XAt a C s.heap)(Z:ExK X.K C bm ZS)(hm:X.mg "isinstance"=AL)(hc:PE X ce (tC cv))(hv:∀u,RelV cv u->u=uc)(he:BU X.K (.ref C) uc=AA b)
  (hN:X.N[0]?=AA n:=by rfl) (hl:ZR X.env.scope n:=by first|exact BN rfl|exact D2 (BN rfl)) (hg:Gl X "isinstance":=by rfl) (hd:(n==("__debug__":C2))=AC:=by decide) (MM:(n==("__classdict__":C2))=AC:=by decide)
  (h1:AO [.Name n p1,ce] X.env=(AC,eval (.Name n p1) X.env)::AO [ce] X.env:=by rfl) (h2:AO [ce] X.env=(AC,eval ce X.env)::AO [] X.env:=by rfl) (J5:(DT pos (AO [ce] X.env)).any (·.1)=AC:=by rfl) :
  PE X (.Call (.Name "isinstance" p) [.Name n p1,ce] [] pos) (Xz a b):=by
 have hc:CallR X (.builtin "isinstance") (λxs H Q=>xs=[.ref a,cv]/\Q (.bl b) H)/\PE X ce (tC cv):={λAG s σ H xs us Q I r h=>by
  obtain⟨rfl,q⟩:=h
  cases r with
  |cons r1 r2 =>
   cases r2 with
   |cons r2 r3 =>
    cases r3;cases r1;obtain rfl:=hv _ r2
    exact DG Z.kit I.kIn (hX _ _ _ _ I) he (λz=>nomatch z) λtk=>{.bl b,H,I.tok tk,rfl,q},hc}
 refine(zZ hc.1 hg hm Boot.isinstance (VC (gA hN hl hd MM) (VC hc.2 JB h2) h1) 'd' 'd' h1 J5).imp λσ H Q h=>?_;exact{_,h.1,rfl,h.2}
theorem Df:PA X [] (rX a []):=λpos AG s σ H Q I h=>JB pos AG s σ H Q I h.2
theorem cR{b:Bool}{bs:List Bool}(h:PE X e (Xz a b))(r:PA X es (rX a bs))(hs:AO (e::es) X.env=(AC,eval e X.env)::AO es X.env:=by rfl):PA X (e::es) (rX a (b::bs)) :=
 λpos AG s σ H Q I q=>VC h r hs pos AG s σ H Q I {q.1,q.1,q.2}
def yEK(a:AT)(l1 l2 l3:List Bool):TS:=Aw (mZ (uJ (rX a l1)) (k6 1)) (Aw (mZ (n9 Hw (uL 1) (uJ (rX a l2))) (k6 1)) (Wt (n9 Hw (uL 1) (uJ (rX a l3)))))
def KU(P:CU)(w:D8)(K:AD)(mg:C2->Option AJ)(base:D7)(f C:AT)(bs:List Bool):Prop :=
 ∀(A:DU) (outer:List XT) (s:AS) (H:Hp) (a:AT) (Q:VK),Room 2 (Ic A)->Env0 P w K mg base A outer s H->XAt a C s.heap->H a=AL->a∉SJ outer ->
  (∀p H',Gr H H'->H p=AL->H' p=AA (.lst (bs.map V.bl))->Q (.ref p) H')->GY (A4 P w) A (.call (.ref f) {[.ref a],[]}) (CR LP outer P w H s Q E0) s
section
variable{K:AD}{st:FF}{l1 l2 l3:List Bool}
theorem zWI{n:C2}(Fn:Fun K x x st f fd)(S:FnScope [n,kn] [n] (J4 st))(hb:Binds K fd [n] [])(hz:l1.length+l2.length+l3.length<=100)
  (LC:∀G3 A outer s H a,(∀AG σ H' s',Inv (Bh P w K mg base [n,kn] x (J4 st) f G3 A outer s H) AG σ H' s'->XAt a C s'.heap)->PSs (Bh P w K mg base [n,kn] x (J4 st) f G3 A outer s H) (W5 st) (yEK a l1 l2 l3)) :
  KU P w K mg base f C (l1++l2++l3):=λA outer s H a Q hr e0 ha hn ho k=>by
 obtain⟨o,eI,V0⟩:=ha;refine yIZ (k:=1) (vs:=[.ref a]) (us:=[.ref a]) Fn S hr e0 ?_ rfl (.cons rfl .nil) λG3=>{_,LC G3 A outer s H a λAG σ H' s' I=>{o,I.base.keep a o eI hn ho (by exact BZ),V0},?_}
 .exact hb s [.ref a] (e0.mod.kin.keeps λb o e=>(e0.bs b o e).1) rfl
 .have z:∀n,n<=100->n<=sizeLine:=λn h=>AY h 'd'
  refine{rfl,by rw[AI];exact z _ 'l',λp1 h1=>{_,rfl,rfl,by rw[AI];exact z _ 'l',λp2 h2=>?_}};have n21:=W6 (HJ (H:=H) (a:=p1) (o:=.lst (l1.map V.bl))) h2;refine{p1,p2,_,_,rfl,rfl,by rw[FH n21];exact HJ,HJ,by rw[AI,AI];exact z _ 'l',λp3 h3=>?_};refine{_,rfl,rfl,by rw[AI];exact z _ 'l',λp4 h4=>?_};have n43:=W6 (HJ (a:=p3)) h4;refine{p3,p4,_,_,rfl,rfl,by rw[FH n43];exact HJ,HJ,by simp only[AI,BO];exact z _ 'l',λp5 h5=>?_};refine k p5 _ ((((Gr.new h1).trans (Gr.new h2)).trans (Gr.new h3)).trans ((Gr.new h4).trans (Gr.new h5))) ?_ ?_
  .exact Gr.dom ((((Gr.new h1).trans (Gr.new h2)).trans (Gr.new h3)).trans (Gr.new h4)) _ h5
  .rw[HJ,HX,HX]
end
theorem ObjOk.there(x:ObjOk P w H h a o):∃ob,h.get? a=AA ob:=by
 cases o with
 |lst xs=>obtain⟨_,_,_,_,e⟩:=x;exact{_,e}
 |tup xs=>obtain⟨_,_,_,o,e,_⟩:=x;exact{_,e}
 |dK kvs=>obtain⟨_,_,_,_,o,es,ep,e,_⟩:=x;exact{_,e}
 |dT kvs=>obtain⟨_,_,_,_,o,es,ep,e,_⟩:=x;exact{_,e}
 |set S n=>obtain⟨ob,es,ep,t,e,c⟩:=x;exact{_,e}
 |ins C dx fs=>obtain⟨_,_,_,e,_⟩:=x;exact{_,e}
 |own y=>exact x
 |xd fs=>obtain⟨mA,⟨od,es,ep,e,c⟩,r⟩:=x;exact{_,e}
 |rng lo hi=>obtain⟨t,u,v,e⟩:=x;exact{_,e}
 |frz ob u=>exact{_,x.1}
 |tbl q ps=>exact{_,x.1}
 |met f y=>exact{_,x}
 |ext φ=>exact x.2.1
theorem zWJ{bs:List Bool}{W n kf:C2}{np VZ p3 p4:iB}{fr:List AT}{a0:AJ}{D:Ends}(I:Inv X AG σ H s)(F:Fly X.prog X.w C X.stack H s a H1 h1 fr a0 s')
  (KK:KU X.prog X.w X.K X.mg X.base f C bs) (hr:Room 2 X.A) (hkf:X.mg kf=AA (.ref f)) (hkk:FD X.K (.ref f)=AK) (hW:X.mg W=AA (.ref WA)) (hx:OA X.K (.ref C) (.ref WA)=AA AK)
  (hN:X.N.Nodup) (hi:X.N[ie]?=AA n) (hj:X.N[ik]?=AA kn) (MH:ie≠ik) (ZW:X.env.scope.names.lookup n=AA .local) (SS:X.env.scope.names.lookup kn=AA .local)
  (stk:X.stack=X.env::X.outer) (hf:X.env.frame=AA X.env.locals)
  (q:∀p H',Gr H1 H'->H1 p=AL->H' p=AA (.lst (bs.map V.bl))->D.nx ((σ.set ik (AA (.ref p))).set ie AL) H')
  (Mj:Gl X W:=by rfl) (Mi:Gl X kf:=by rfl) (Mw:(W==("__debug__":C2))=AC:=by decide) (Mv:(kf==("__debug__":C2))=AC:=by decide) (Mt:(n==("__debug__":C2))=AC:=by decide) (Cf:(n==("__classdict__":C2))=AC:=by decide)
  (he:AO [.Name n p1] X.env=(AC,eval (.Name n p1) X.env)::AO [] X.env:=by rfl) (jN:HS (.Call (.Name kf p2) [.Name n p1] [] VY) (AA (.Name kn p3)) VZ.line X.env=pure AC:=by rfl) :
  A1 (A4 X.prog X.w) X.A (cB (.ref a) X.env) (λ_ PL=>A1 (A4 X.prog X.w) X.A (setFlight (.ref a) AL) (λ_ VQ =>
   A1 (A4 X.prog X.w) X.A (handleBy (.ref a) X.env [.ExceptHandler (AA (.Name W np)) (AA n) [.Assign [.Name kn p3] (.Call (.Name kf p2) [.Name n p1] [] VY) VZ] p4]) (SP X AG D) X.xe VQ) X.xe PL) X.xe s':=by
 have wB:∀h5,(KQ h1 fr).StaysIn h5->h1.UpToSlots h5->Inv X AG σ H1 { s' with heap:=h5 }:=λh5 st up=>by
  obtain⟨un,hok⟩:=F.kept st up;exact I.call' (s':={ s' with heap:=h5 }) (ch:=[]) F.os un hok F.bare λb z=>absurd z 's'
 have na:H1 a=AL:=by
  cases z:H1 a with
  |none=>rfl
  |some u =>
   obtain⟨o,e⟩:=(F.hok a u z).there;rw[F.new] at e;cases e
 have aL:a∉SJ X.stack:=λz=>by
  obtain⟨_,o,e,_⟩:=I.stack.mem z;obtain⟨o',e'⟩:=F.un.there a o e 's';rw[F.new] at e';cases e'
 have aL':a≠X.env.locals:=λz=>aL (by rw[stk,z];unfold SJ;rw[JA,hf];exact A2);refine wpAny_looks_onW (by rw[I.ok.frames,stk]) hf (stk▸F.fl) λh4 Mp up4=>?_;refine wpAny_landsW Mp λh5 No Bm=>?_;have Bm:=(F.up.trans up4).trans Bm;have I5:=wB h5 No.1 Bm;refine wpAny_handleBy_cons (codeAny_handlers_test (qT (I5.heat a) Mj hW ?_ Mw)) (by intro z;cases z);refine(PySem.W.exm_one I5.kIn (XAt.type No.there) hx).here ?_;refine codeAny_handlers_suite_as ?_;refine lands_againW No λh6 fl6 up6=>?_;have I6:=wB h6 fl6.1 (Bm.trans up6);obtain⟨oa,vs,ea,ca,da,_⟩:=fl6.first;refine Gg (v:=.ref a) I6 hN hi (.inl ZW) rfl (λs7 I7 hs7=>?_) (.inr ZW);obtain⟨c,sb,hc⟩:=hs7
 have ea7:s7.heap.get? a=AA oa:=by
  refine(sb.2 a λz=>?_).trans ea;rcases hc with hc|hc
  .exact aL' (z.trans hc)
  .obtain⟨v,o,e,d⟩:=I6.cell n c hc
   have e:h6.get? c=AA o:=e;rw[<-z,ea] at e;cases e;rw[da] at d;cases d
 have I7:Inv (X.hot a) ((a,oa)::AG) _ H1 s7:=(I7.heat a).pins_of λp hp=>by
  rcases A7.mp hp with rfl|hp
  .exact{ea7,na,aL',λz=>aL (by rw[stk];unfold SJ;rw[JA,hf];exact AZ _ z),λv d=>by rw[da] at d;cases d}
  .exact I7.pin p (BG _ hp)
 have Md:ie < σ.length:=by rw[I.len];exact(AQ.mp hi).1
 have RX:n≠kn:=λe=>MH (z7 hN hi (e▸hj))
 have vD:A1 (A4 X.prog X.w) (X.hot a).A (execs [.Assign [.Name kn p3] (.Call (.Name kf p2) [.Name n p1] [] VY) VZ] X.env) (λfl s8=>fl=.next/\∃p H',Gr H1 H'/\H1 p=AL/\H' p=AA (.lst (bs.map V.bl))/\Inv (X.hot a) ((a,oa)::AG) ((σ.set ie (AA (.ref a))).set ik (AA (.ref p))) H' s8) (λ_ _=>False) s7:=by
  refine LD (DB (Q:=λfl s8=>fl=.next/\∃p H',Gr H1 H'/\H1 p=AL/\H' p=AA (.lst (bs.map V.bl))/\Inv (X.hot a) ((a,oa)::AG) ((σ.set ie (AA (.ref a))).set ik (AA (.ref p))) H' s8) ?_ (λfl s8 z=>?_) λ_ _ z=>z)
  .refine UF (ID (qT (X:=X.hot a) I7 Mi hkf ?_ Mv)) jN
   refine O3 (h₀:=X.base) I7.ok.mod.kin hkk (G4 (VC (gA (X:=X.hot a) hi (.inl ZW) Mt Cf) JB he VY _ s7 _ H1 (λvs H2=>vs=[.ref a]/\H2=H1) I7 {_,BE Md,rfl,rfl}) λus s8 z=>?_) he rfl;obtain⟨vs,H2,I8,r8,rfl,rfl⟩:=z
   cases r8 with
   |cons r8 r9 =>
    cases r8;cases r9;refine{I8.kIn,S7 (MO (KK (X.hot a).A X.stack s8 H2 a (λv H'=>∃p,v=.ref p/\Gr H2 H'/\H2 p=AL/\H' p=AA (.lst (bs.map V.bl))) {rfl,hr.dp,hr.un,hr.gd} I8.env0 ?_ na aL λp H' g1 g2 g3=>{p,rfl,g1,g2,g3}) λr s9 hq=>?_)}
    .exact{oa,(I8.pin (a,oa) (BG _ A2)).1,ca}
    .cases r with
     |error e=>exact hq.elim
     |ok fl =>
      cases fl with
      |ret u =>
       obtain⟨v,H3,I9,rv,p,rfl,g1,g2,g3⟩:=I8.after hq;cases rv;exact z6 (X:=X.hot a) (v:=.ref p) I9 hN hj (.inl SS) rfl (λJx xW=>{rfl,p,H3,g1,g2,g3,xW}) (.inr SS)
      |next=>exact hq.elim
      |brk=>exact hq.elim
      |cont=>exact hq.elim
  .obtain⟨rfl,z⟩:=z
   exact II {rfl,z}
 refine DB vD (λfl s8 z=>?_) λ_ _ z=>z.elim;obtain⟨rfl,p,H',g,hp,hl,I8⟩:=z;have I8:=(pAN I.ok I8).pins_of (pins':=AG) λp hp=>I8.pin p (BG _ (AZ _ hp));refine AB (wpAny_bindName (z6 I8 hN hi (.inl ZW) (v:=.non) rfl (λs9 I9=>?_) (.inr ZW)));refine N6 (zTD I9 hN hi ZW (v:=.non) (by rw[BE (by rw[CC,CC];exact Md)]) λJx xW=>?_);refine{(σ.set ik (AA (.ref p))).set ie AL,H',xW.weak (by simp only[CC]) λi v e=>?_,q p H' g hp hl}
 by_cases h1:ie=i
 .subst h1
  rw[BE (by rw[CC];exact Md)] at e;cases e
 .rw[A8 h1] at e
  rw[A8 h1,A8 h1]
  by_cases h2:ik=i
  .subst h2
   have eP:ik < σ.length:=by rw[I.len];exact(AQ.mp hj).1
   rw[BE eP] at e;rw[BE (by rw[CC];exact eP)];exact e
  .rw[A8 h2] at e
   rw[A8 h2,A8 h1];exact e
abbrev GX:=Ev->Out Ev
def tX(K:AD)(H₀:Hp)(W:Hp->Prop)(g:GX):TS:=λ_ σ H=>∃τ F E E',Sim K H₀ τ F H σ E/\g E=.ok E'/\∀F' H',Stp (EC σ E) F H F' H' (λ_=>False)->Sub F' H'->W H'
def Wq(gs:List G):GX:=λE=>(QE gs E).bind λp=>few p.1.length (.ok p.2)
def Wp(t:Ev->Out (Bool×Ev))(g:GX):GX:=λE=>(t E).bind λp=>if p.1=AK then g p.2 else .bad
section
variable{K:AD}{E:XK}
theorem zTF{np:iB}{gs:List G}{rest:List FF}{B ini:String}(FB:ExcBaseFacts B ZS ini bm)(Z:KB K C bm ZS=AK)(hm:mg x=AA (.ref C))(hh:A.handled=AL)
  (ha:VA (TN (X1 P w C) P w K mg base N qual scope f cd A outer s₀ H₀ E) (e::es) gs) (hg:Gl (TN (X1 P w C) P w K mg base N qual scope f cd A outer s₀ H₀ E) x:=by rfl) (hd:(x==("__debug__":C2))=AC:=by decide)
  (he:AO (e::es) (G7 qual scope s₀.heap.objs.size f cd)=(AC,eval e (G7 qual scope s₀.heap.objs.size f cd))::AO es (G7 qual scope s₀.heap.objs.size f cd):=by rfl)
  (J5:(DT GA (AO es (G7 qual scope s₀.heap.objs.size f cd))).any (·.1)=AC:=by rfl) :
  PSs (TN (X1 P w C) P w K mg base N qual scope f cd A outer s₀ H₀ E) (.Raise (AA (.Call (.Name x np) (e::es) [] GA)) AL pos::rest) (tX K H₀ (λH'=>E (.ref C) AL H') (Wq gs)) :=
 (lH (zWH FB Z hm hh ha hg hd he J5) Tv).imp λD σ H h=>by
  obtain⟨τ,F,E1,E2,S,hg,k⟩:=h;obtain⟨p,e1,hg⟩:=pA3 hg;obtain⟨hl,hg⟩:=W4 hg;exact{τ,F,E1,p.1,p.2,S,e1,λvs F1 H1 s1 S1 r1=>{by rw[r1.length];exact CV (cU hl),k F1 H1 (s1.weak λ_ z=>z.elim) S1.sub}}
end
section
variable{W:Hp->Prop}{gx:GX}
theorem yEL{a rest:List FF}{t:Ev->Out (Bool×Ev)}(hc:VT X c t)(ha:PSs X a (tX X.K X.H₀ W gx)):PSs X (.If c a [] pos::rest) (tX X.K X.H₀ W (Wp t gx)) :=
 (lH (Xv hc ha ZO) Tv).imp λD σ H h=>by
  obtain⟨τ,F,E1,E2,S,hg,k⟩:=h;obtain⟨p,e1,hg⟩:=pA3 hg;refine{τ,F,E1,p.1,p.2,S,e1,λF1 H1 s1 S1=>?_}
  by_cases hp:p.1=AK
  .rw[if_pos hp] at hg ⊢
   exact{τ,F1,p.2,E2,S1,hg,λF2 H2 s2 b=>k F2 H2 (s1.trans s2) b}
  .rw[if_neg hp] at hg;cases hg
end
theorem Sim.pad{K:AD}{ds:List D}(N:List C2)(s:Sub F H)(r:Reps K F vs ds):Sim K H₀ τ F H (start N vs) (ds.map Sl.val++BH (N.length-ds.length) .no):=by
 have lv:=r.length;have S:=Sim.args (K:=K) (H₀:=H₀) (τ:=τ) s r
 have Z0:∀(i:Nat) x,(ds.map Sl.val++BH (N.length-ds.length) Sl.no)[i]?=AA x->x≠.no->i<ds.length/\(ds.map Sl.val)[i]?=AA x:=λi x q n=>by
  by_cases hi:i<ds.length
  .rw[CF (by rw[AI];exact hi)] at q;exact{hi,q}
  .rw[B0 (by rw[AI];exact E8 hi),D5] at q
   split at q
   .cases q;exact absurd rfl n
   .cases q
 have no:∀(i:Nat) t d,(ds.map Sl.val++BH (N.length-ds.length) Sl.no)[i]?≠AA (.own t d):=λi t d q=>by
  have:=(Z0 i _ q λz=>by cases z).2;rw[AX] at this
  cases z:ds[i]? with
  |none=>rw[z] at this;cases this
  |some x=>rw[z] at this;cases this
 refine{s,?_,λi d q=>?_,λi t d q=>absurd q (no i t d),λi j t u d e a q=>absurd q (no i t d)}
 .unfold start
  rw[BO,BO,C5,C5,AI,AI,lv]
 .obtain⟨hi,q⟩:=Z0 i _ q λz=>by cases z
  unfold start;rw[CF (by rw[AI,lv];exact hi)];exact S.val i d q
def Bb(K:AD)(C:AT)(np:Nat)(mx:List D->Out Ev):Sp:=λvs H _ E=>vs.length=np/\∃F ds z,Sub F H/\Reps K F vs ds/\mx ds=.ok z/\∀F' H',New F H F' H'->E (.ref C) AL H'
noncomputable def Wo(n:Nat)(g:GX):List D->Out Ev:=λds=>g (ds.map Sl.val++BH (n-ds.length) .no)
def Hn(P:CU)(w:D8)(K:AD)(mg:C2->Option AJ)(base:D7)(C:AT)(x:C2)(k np:Nat)(mx:List D->Out Ev):Prop :=
 ∃(f:AT) (fd:JZ) (ps:List C2),FnOk P w K mg base (X1 P w C) k f fd ps (Bb K C np mx)/\mg x=AA (.ref f)/\FD K (.ref f)=AK/\Binds K fd ps []
section
variable{K:AD}
theorem yI0{st:FF}{ps:List C2}{gx:GX}(Fn:Fun K x qual st f fd)(S:FnScope N ps (J4 st))
  (LC:∀(G3:AJ) (A:DU) (outer:List XT) (s:AS) (H:Hp) (E:XK),Room k (A.deeper (G7 qual (J4 st) s.heap.objs.size f G3))->A.handled=AL ->
   PSs (TN (X1 P w C) P w K mg base N qual (J4 st) f G3 A outer s H E) (W5 st) (tX K H (λH'=>E (.ref C) AL H') gx)):FnOk P w K mg base (X1 P w C) (k+1) f fd ps (Bb K C ps.length (Wo N.length gx)):=by
 obtain⟨oc,od,kV,SW,pm,an,G3,ct,aJ,rfl,lk,MM⟩:=Fn.ex;refine Cw lk MM S (λvs H Q E h=>h.1) λA outer s H vs Q E hr bV=>{_,LC G3 A outer s H E hr hr.hd,?_};obtain⟨hl,F,ds,z,sb,r,hm,q⟩:=bV;have S:=Sim.pad (K:=K) (H₀:=H) (τ:=f) N sb r;refine{f,F,_,z,S,hm,λF' H' st Jw=>q F' H' {{λa o e1 e2 e3 _=>st.keep a o e1 e2 e3 λz=>?_,st.dom,st.le,λa o e=>?_,λ_ z=>z.elim},Jw}}
 .obtain⟨i,t,d,e,_⟩:=z
  by_cases hi:i<ds.length
  .rw[CF (by rw[AI];exact hi),AX,BL hi] at e;cases e
  .rw[B0 (by rw[AI];exact E8 hi),D5] at e
   split at e<;>cases e
 .rcases st.new a o e with z|z|⟨i,t,d,e,_⟩
  .exact .inl z
  .exact .inr (.inl z)
  .by_cases hi:i<ds.length
   .rw[CF (by rw[AI];exact hi),AX,BL hi] at e;cases e
   .rw[B0 (by rw[AI];exact E8 hi),D5] at e
    split at e<;>cases e
theorem pAO{ps:List C2}{st:FF}{mx:List D->Out Ev}(Fn:Fun K x x st f fd)(h:FnOk P w K mg base (X1 P w C) k f fd ps (Bb K C np mx))(hm:mg x=AA (.ref f))(hb:Binds K fd ps []):Hn P w K mg base C x k np mx:={f,fd,ps,h,hm,Fn.kp,hb}
end
def n8(g:GS)(gs:List G)(mx:List D->Out Ev)(ik ie:Nat)(bs:List Bool):GS:=λE=>match g E with
 |.ok r=>.ok r
 |_=>(QE gs E).bind λp=>(mx p.1).bind λ_=>.ok (.nx ((p.2.set ik (.val (.lst (bs.map D.bl)))).set ie .no))
theorem Sim.lose{K:AD}{E:Ev}{u:Option V}(S:Sim K H₀ τ F H σ E):Sim K H₀ τ F H (σ.set i u) (E.set i .no)/\∀a,EC (σ.set i u) (E.set i .no) a->EC σ E a:=by
 have HM:∀(j:Nat) x,(E.set i Sl.no)[j]?=AA x->x≠.no->E[j]?=AA x/\(σ.set i u)[j]?=σ[j]?:=λj x q n=>by
  by_cases hj:i=j
  .subst hj
   by_cases hi:i<E.length
   .rw[BE hi] at q;cases q;exact absurd rfl n
   .rw[OG (by rw[CC];exact E8 hi)] at q;cases q
  .rw[A8 hj] at q;exact{q,A8 hj}
 have ow:∀{j:Nat} {t d},(E.set i Sl.no)[j]?=AA (.own t d)->E[j]?=AA (.own t d)/\(σ.set i u)[j]?=σ[j]?:=λ{j t d} q=>HM j _ q λz=>by cases z
 refine{{S.sub,by rw[CC,CC];exact S.len,λj d q=>?_,λj t d q=>?_,λj k t1 t2 d1 d2 a q1 q2 z1 z2=>?_},λa ⟨j,t,d,q1,q2⟩=>?_}
 .obtain⟨q1,q2⟩:=HM j _ q λz=>by cases z
  rw[q2];exact S.val j d q1
 .rw[(ow q).2];exact S.own j t d (ow q).1
 .rw[(ow q1).2] at z1
  rw[(ow q2).2] at z2;exact S.inj j k _ _ _ _ a (ow q1).1 (ow q2).1 z1 z2
 .rw[(ow q1).2] at q2
  exact{j,t,d,(ow q1).1,q2}
theorem Qc{K:AD}{F:Hp}:∀(bs:List Bool),Reps K F (bs.map V.bl) (bs.map D.bl)
 |[]=>.nil
 |b::bs=>.cons (.bl b) (Qc bs)
theorem yEM{fk:AT}{bs:List Bool}{W n kf tn:C2}{nw VZ p3 p4 p5 p6:iB}{gs:List G}{g:GS}{mx:List D->Out Ev}
  (hb:VS X (.Assign [.Name tn p5] (.Call (.Name x p6) (e::es) [] GA) MB) g) (CL:Hn X.prog X.w X.K X.mg X.base C x k np mx) (hr:Room k X.A) (ha:VA X (e::es) gs)
  (KK:KU X.prog X.w X.K X.mg X.base fk C bs) (o9:Room 2 X.A) (hkf:X.mg kf=AA (.ref fk)) (hkk:FD X.K (.ref fk)=AK) (hW:X.mg W=AA (.ref WA)) (hx:OA X.K (.ref C) (.ref WA)=AA AK)
  (hN:X.N.Nodup) (hi:X.N[ie]?=AA n) (hj:X.N[ik]?=AA kn) (MH:ie≠ik) (ZW:X.env.scope.names.lookup n=AA .local) (SS:X.env.scope.names.lookup kn=AA .local)
  (stk:X.stack=X.env::X.outer:=by rfl) (hf:X.env.frame=AA X.env.locals:=by rfl) (wM:X.xe=λ_ _=>False:=by rfl) (hgs:gs.length=np:=by rfl)
  (Mj:Gl X W:=by rfl) (Mi:Gl X kf:=by rfl) (hgx:Gl X x:=by rfl) (Mw:(W==("__debug__":C2))=AC:=by decide) (Mv:(kf==("__debug__":C2))=AC:=by decide) (hdx:(x==("__debug__":C2))=AC:=by decide) (Mt:(n==("__debug__":C2))=AC:=by decide) (Cf:(n==("__classdict__":C2))=AC:=by decide)
  (he:AO [.Name n p1] X.env=(AC,eval (.Name n p1) X.env)::AO [] X.env:=by rfl) (jN:HS (.Call (.Name kf p2) [.Name n p1] [] VY) (AA (.Name kn p3)) VZ.line X.env=pure AC:=by rfl)
  (Mq:AO (e::es) X.env=(AC,eval e X.env)::AO es X.env:=by rfl) (J5:(DT GA (AO es X.env)).any (·.1)=AC:=by rfl) (hsx:HS (.Call (.Name x p6) (e::es) [] GA) (AA (.Name tn p5)) MB.line X.env=pure AC:=by rfl) :
  VS X (.Try [.Assign [.Name tn p5] (.Call (.Name x p6) (e::es) [] GA) MB] [.ExceptHandler (AA (.Name W nw)) (AA n) [.Assign [.Name kn p3] (.Call (.Name kf p2) [.Name n p1] [] VY) VZ] p4] [] [] pos) (n8 g gs mx ik ie bs):=by
 intro AG s σ H D' I h;obtain⟨τ,F,E,r,S,hg,q⟩:=h;refine wpAny_Try_except ?_;unfold n8 at hg;split at hg
 .rename_i r' eg
  cases hg;refine LD (DB (hb AG s σ H D' I {τ,F,E,r,S,eg,q}) (λfl s1 z=>?_) λe s1 z=>?_)
  .cases fl with
   |next=>exact II (II z)
   |brk=>exact z
   |cont=>exact z
   |ret u=>exact z
  .rw[wM] at z;exact z.elim
 .obtain⟨p,e1,hg⟩:=pA3 hg
  obtain⟨z,e2,hg⟩:=pA3 hg;cases hg;obtain⟨f,fd,ps,Fn,hm,hk,hbn⟩:=CL;refine LD (UF (ID (qT I hgx hm ?_ hdx)) hsx);refine O3 (h₀:=X.base) I.ok.mod.kin hk (DB (ha GA AG s σ H (λvs H1=>∃F1,Stp (EC σ E) F H F1 H1 (EC σ p.2)/\Sim X.K X.H₀ τ F1 H1 σ p.2/\Reps X.K F1 vs p.1) I {τ,F,E,p.1,p.2,S,e1,λvs F1 H1 s1 S1 r1=>{F1,s1,S1,r1}}) (λus s1 z0=>?_) λ_ _ z=>by rw[wM] at z;exact z.elim) Mq J5;obtain⟨vs,H1,I1,r1,F1,s1',S1,rp⟩:=z0;refine{I1.kIn,?_}
  have hl:us.length=ps.length:=by
   rw[<-r1.length];exact Fn.len vs H1 (λ_ _=>False) (λcls _ H2=>cls=.ref C/\∃F2,New F1 H1 F2 H2) {by rw[rp.length,qY e1];exact hgs,F1,p.1,z,S1.sub,rp,e2,λF2 H2 n=>{rfl,F2,n}}
  refine S7 (MO (Fn.run X.A X.stack s1 H1 {us,[]} us vs (λ_ _=>False) (λcls _ H2=>cls=.ref C/\∃F2,New F1 H1 F2 H2) hr I1.env0 ?_ r1 {by rw[rp.length,qY e1];exact hgs,F1,p.1,z,S1.sub,rp,e2,λF2 H2 n=>{rfl,F2,n}}) λrr s2 hq=>?_)
  .have:=hbn s1 us I1.kIn (by rw[EL];exact hl)
   rw[EL] at this;exact this
  .cases rr with
   |ok fl =>
    cases fl with
    |ret u=>obtain⟨_,_,_,_,_,_,_,z⟩:=hq;exact z.elim
    |next=>exact hq.elim
    |brk=>exact hq.elim
    |cont=>exact hq.elim
   |error ee =>
    obtain⟨a,H2,h1,fr,a0,rfl,Fy,_,F2,n2⟩:=hq;refine zWJ (D:=D') I1 Fy KK o9 hkf hkk hW hx hN hi hj MH ZW SS stk hf (λpp H3 gr hp hl3=>?_) Mj Mi Mw Mv Mt Cf he jN;have n3:=n2.trans (New.gro n2.2 gr);have rr:Rep X.K (gro F2 H2 H3) (.ref pp) (.lst (bs.map D.bl)):=.lst (.inl (.inl (by rw[zP hp];exact hl3))) (Qc bs);obtain⟨S4,w4⟩:=(S1.new n3).put (i:=ik) rr;obtain⟨S5,w5⟩:=S4.lose (i:=ie) (u:=AL);exact q _ _ _ (((s1'.trans n3.stp).weak w4).weak w5) S5
section
variable{K:AD}
def Wn:V->List V->Hp->VK->Prop:=λx vs H Q=>∃l xs y,x=.ref l/\vs=[.int 0,y]/\H l=AA (.lst xs)/\xs.length<sizeLine/\Q .non (D3 H l (.lst (y::xs)))
theorem yEN:uU X "list.insert" Wn:=by
 intro AG s σ H x vs v us Q I rx rv h;obtain⟨l,xs,y,rfl,rfl,hH,hz,q⟩:=h;cases rx
 cases rv with
 |cons r1 rv =>
 cases rv with
 |@cons _ u _ _ r2 rv =>
 cases rv;obtain⟨t,rfl⟩:=r1;obtain⟨z,CK,n,r,hl,e⟩:=I.lstM hH;refine LF F.slot_list_insert {_,e,rfl} F.entry_list_insert (F.args_list_insert_3 _ _ _) (AutoSeq1.list_insert_list_int_val_1 l CK.toArray n 0 t u 'd' (by rw[A3];lia)) {e,?_};refine{.non,_,I.lset (NY:=u::CK) hH e 's' (.cons r2 r) ?_,rfl,q};rw[BD];exact J9 hz
def n6(ds xs:List D):Out (D×List D):=match xs with
 |[.int 0,d]=>few ds.length (.ok (.non,d::ds))
 |_=>.bad
theorem yEO:uI K Wn n6:=λF H l vs ds args xs d TX Q s h r ra hf k=>by
 unfold n6 at hf;split at hf
 .obtain⟨hl,hf⟩:=W4 hf
  cases hf
  cases ra with
  |cons r1 rr =>
   cases rr with
   |cons r2 rr =>
    cases rr;obtain rfl:=r1.vI;exact{l,vs,_,rfl,rfl,h,by rw[r.length];exact cU hl,k _ _ .non (.cons r2 r)}
 .cases hf
theorem zWK{q:iB}{f:DA}{gs:List G}(i:Nat)(ha:VA X [e,f] gs)(hN:X.N[i]?=AA xn:=by rfl)(hv:ZR X.env.scope xn:=by first|exact BN rfl|exact D2 (BN rfl)|exact D2 (D2 rfl))(hd:(xn==("__debug__":C2))=AC:=by decide)(MM:(xn==("__classdict__":C2))=AC:=by decide)
  (N2:JY (.Name xn q) "insert" X.env (eval (.Name xn q) X.env)=eval (.Name xn q) X.env:=by rfl)
  (YR:((DT GA (AO [e,f] X.env)).all (λx=>!x.1)&&(Y4 GA (QQ [] X.env)).all (λx=>x.1.isSome)
   && decide ([e,f].length+([]:List MS).length+(if([]:List MS).isEmpty then 0 else 1)<30))=AK:=by rfl)
  (N1:(MB.endLine==GA.line)=AK:=by rfl) (hs:AO [e,f] X.env=(AC,eval e X.env)::AO [f] X.env:=by rfl) (OY:(DT GA (AO [f] X.env)).any (·.1)=AC:=by rfl) :
  VE X (.Call (.Attribute (.Name xn q) "insert" MB) [e,f] [] GA) (P6 i n6 gs) :=
 (yJ G8 PySem.F.slot_list_insert PySem.F.type_list_insert yEN (gA hN hv hd MM) ha N2 YR N1 hs OY).imp λσ H Q h=>yH yEO h
end
end L2
namespace L2
open PySem
structure TryS(P:CU)(w:D8)(K:AD)(mg:C2->Option AJ)(base:D7)(C WA fk:AT)(bs:List Bool):Prop where
 KK:KU P w K mg base fk C bs
 hkf:mg "_law_kinds"=AA (.ref fk)
 hkk:FD K (.ref fk)=AK
 hW:mg "WayError"=AA (.ref WA)
 hx:OA K (.ref C) (.ref WA)=AA AK
def rM:List D->Out D
 |[.lst ds]=>match QW ds with
  |some (n::ns)=>.ok (.int (ns.foldl min n))
  |_=>.bad
 |_=>.bad
theorem yAJ{K:AD}:kR K (λxs H Q=>∃(l:AT) (ns:List Int),xs=[.ref l]/\SqL K H l (ns.map V.int)/\ns≠[]/\∀m,m∈ns->(∀x∈ns,m<=x)->Q (.int m) H) rM:=λvs xs F H d Q s r hf k=>by
 unfold rM at hf;split at hf
 .split at hf
  .rename_i n ns e
   cases hf;obtain⟨v,rfl,r1⟩:=Qd r;obtain⟨a,ys,rfl,h1,h2⟩:=r1.isRefL;have:=nV e;subst this;have:=h2.vint;subst this;refine{a,_,rfl,h1.imp s.rd id,by simp,λm hm hl=>?_};obtain⟨f1,f2⟩:=Fc ns n;rw[mR (hl _ f1) (f2 m hm)];exact k _ F H (.refl s) (.int _)
  .cases hf
 .cases hf
theorem yEP{Nk:List G}(hc:X.calm=AK)(hm:X.mg "min"=AL)(ha:VA X (e::es) Nk)(hg:Gl X "min":=by rfl)(he:AO (e::es) X.env=(AC,eval e X.env)::AO es X.env:=by rfl)(J5:(DT pos (AO es X.env)).any (·.1)=AC:=by rfl) :
  VE X (.Call (.Name "min" p) (e::es) [] pos) (gN rM Nk):=yI (zSB hc) yAJ hm (by decide +kernel) ha hg 'd' 'd' he J5
end L2
variable{LV:AJ->AJ->Bool}
namespace L2
open PySem PySem.Spec PyProof.Rows
section
variable{d:AT}{es:Array IR}
theorem RawD.at'(r:RawD h d es ep)(k:∀o,h.get? d=AA o->h'.get? d=AA o):RawD h' d es ep:=let ⟨o,a,b,c⟩:=r.ex;{{o,k o a,b,c},r.ns}
theorem RawD.lt(r:RawD h d es ep):d<h.objs.size:=let ⟨_,a,_⟩:=r.ex;A5 a
theorem zTH(r:RawD s.heap d es ep)
  (h:Q (.ref s.heap.objs.size) { s with heap:=s.heap.push { cls:=.type "dict_keyiterator",data:=.fields #[.ref d,.int 0 0,.int es.size 0,.int ep 0] } }):A1 (A4 prog w) A (N8 (.ref d)) Q E s:=by
 obtain⟨o,ho,hc,hd⟩:=r.ex;refine NS r.ty F.slot_dict_iter (CY F.slot_dict_iter r.ty F.entry_dict_iter ?_ (F.args_dict_iter_1 _));unfold EF.«dict.__iter__» QU;refine AB (AB (PU r.ty (wpAny_pure ?_)));unfold TJ;show A1 _ _ ((if _ then _ else _) >>= _) _ _ s;rw[if_neg (by rw[r.ns];exact B9)];refine AB (wpAny_pure (AB (KP ho hd (AB (PB ho hd ?_)))));exact AB (C8 (wpAny_pure {_,rfl,"dict_keyiterator",_,{_,AV _ rfl,rfl},F.slot_dict_keyiterator_next.lookup,h}))
theorem zTI(hh:A.handled=AL)(I:AT)(RX:d≠I):PySem.Walks prog w A I [I,d] [I] es.size (λi v=>∃hi:i<es.size,v=es[i].key) (λi h=>h.IsKeyIter I d i es.size ep/\RawD h d es ep) where
 sub:=λb hb=>by simp at hb;simp[hb]
 frame:=λ_ _ _ st hk=>{st.1.at λo e=>hk I 's' o e,st.2.at' λo e=>hk d 's' o e}
 item:=λi s Q E hi st hQ=>Fv st.1 st.2 hi λh' oS Q2=>hQ _ h' s.toks {hi,rfl} {oS,st.2.at' λo e=>Q2.extBut d o RX e} λb o hb e=>Q2.extBut b o (λh=>hb (by simp[h])) e
 done:=λs Q E st hQ=>El hh st.1 st.2 (AM _) λh' Ms=>hQ h' s.toks λb o hb e=>Ms b o (λh=>hb (by simp[h])) e
 self:=λ_ _ _ _ st hQ=>QN st.1 hQ
theorem yAK:PySem.W.KdlSrc prog w "dict" d d es.size (λi v=>∃hi:i<es.size,v=es[i].key) (λh=>RawD h d es ep) where
 type:=λ_ r=>r.ty
 there:=λ_ r=>{r.lt,r.lt}
 keep:=λ_ _ r hk=>r.at' λo e=>hk d (.inl rfl) o e
 notList:=by decide
 notTuple:=by decide
 hint:=λ_ _ _ _ r hq=>PySem.W.kdl_hint_dict r.ty hq
 iter:=λ_ _ hh r=>{_,_,(λ_ _ hq=>zTH r hq),zTI hh _ (BM r.lt),{{_,AV _ rfl,rfl,rfl},r.at' λo e=>AF _ e}}
theorem zG1(hh:A.handled=AL)(r:RawD s.heap d es ep)(hn:es.size<=sizeLine)
  (h:∀h' tk V5 c',(∀b o,b≠s.heap.objs.size->(s.heap.push { cls:=.type "list",data:=.seq ([]:List AJ).toArray }).get? b=AA o->h'.get? b=AA o)->h'.get? s.heap.objs.size=AA { cls:=.type "list",dict:=AL,data:=.seq V5 c',slots:=#[] }->ItemsOf (λi v=>∃hi:i<es.size,v=es[i].key) V5 es.size->R (.ok (.ret (.ref s.heap.objs.size))) { s with heap:=h',toks:=tk }) :
  GY (A4 prog w) A (.builtin "proto.collect" {[.ref d],[]}) R s:=by
 refine MC PySem.F.entry_proto_collect ?_;rw[KM PySem.F.plain_proto_collect _];show A1 _ A.in1 (newList [] >>= λl=>WV (.builtin "list.__iadd__" {[l,.ref d],[]})) _ _ s;refine AB (C8 ?_);refine wpAny_pure {aV U2 _,MC PySem.F.entry_list_iadd ?_};rw[KM U2 _];show A1 _ A.in1 (Builtin.List.listExtendWith (.ref s.heap.objs.size) (.ref d) (.ref s.heap.objs.size)) _ _ _;have lt:=r.lt;exact PySem.W.kdl_extend (s:={ s with heap:=s.heap.push { cls:=.type "list",data:=.seq ([]:List AJ).toArray } }) yAK hh (r.at' λo e=>AF _ e) s.heap.objs.size (EY lt) (EY lt) _ 0 (AV _ rfl) (λh' tk V5 c' hk Ck OZ=>h h' tk V5 c' hk Ck OZ) hn
theorem zN7{Q:List AJ->AS->Prop}(hh:A.handled=AL)(r:RawD s.heap d es ep)(hn:es.size<=sizeLine)
  (h:∀h' tk,s.heap.objs.size<=h'.objs.size->(∀b o,s.heap.get? b=AA o->h'.get? b=AA o)->Q (es.toList.map (·.key)) { s with heap:=h',toks:=tk }):A1 (A4 prog w) A (collect (.ref d)) Q E s:=by
 unfold collect;refine AB (wpAny_runValue (zG1 hh r hn λh' tk V5 c' hk Ck OZ=>?_));show A1 _ A (load s.heap.objs.size >>= _) _ _ _;refine AB (YY Ck ?_)
 have e:V5.toList=es.toList.map (·.key):=Q9 λi=>by
  by_cases hi:i<es.size
  .have QH:i<V5.size:=by rw[OZ.1];exact hi
   obtain⟨_,q⟩:=OZ.2 i V5[i] (by simp[QH]);simp[hi,QH,q]
  .have QH:¬i<V5.size:=by rw[OZ.1];exact hi
   simp[hi,QH]
 have:=h h' tk (CV (A5 Ck)) (λb o e=>hk b o (BM (A5 e)) (AF _ e));rw[<-e] at this;exact wpAny_pure this
open TS in
theorem zQR(hh:A.handled=AL)(r:RawD s.heap d es ep)(hz:es.size<=sizeLine)(O:Ord (λx y=>LV x.1 y.1) (GW (es.toList.map (·.key))))
  (hk:∀(h6:D7) (tk:Nat),(∀b o,s.heap.get? b=AA o->h6.get? b=AA o)->2<=(es.toList.map (·.key)).length->∀E',A1 (A4 prog w) A.in1.in1 (keyKind' (es.toList.map (·.key)).toArray) (λk s'=>s'={ s with heap:=h6,toks:=tk }/\WH prog w A.in1.in1 s' k (GW (es.toList.map (·.key))) (λx y=>LV x.1 y.1)) E' { s with heap:=h6,toks:=tk })
  (h:∀(out:List AJ) h' tk q e,out.Perm (es.toList.map (·.key))->(out.Pairwise λx y=>LV y x=AC)->s.heap.objs.size<=q->h'.get? q=AA (DZ "list" out.toArray e)->(∀b o,s.heap.get? b=AA o->h'.get? b=AA o)->Q (.ref q) { s with heap:=h',toks:=tk }) :
  A1 (A4 prog w) A (call (.builtin "sorted") [.ref d]) Q E s:=by
 refine MF j5 eZ fB (args_sorted1 _) ?_;unfold EF.«sorted»;have hl:(es.toList.map (·.key)).length=es.size:=by simp
 refine AB (m:=checkCount "sorted" 1 1 _) (wpAny_pure (AB (zN7 (A:=A.in1) hh r hz λh2 tk le HM=>AB (N7 ?_ (by rw[hl];exact hz)))));have gL:(h2.push (DZ "list" (es.toList.map (·.key)).toArray 0)).get? h2.objs.size=AA (DZ "list" (es.toList.map (·.key)).toArray 0):=AV _ rfl;show A1 _ _ _ _ _ { s with heap:=h2.push (DZ "list" (es.toList.map (·.key)).toArray 0),toks:=tk };refine AB (CS (CY YZ {_,gL,rfl} XQ (Sq (s:={ s with heap:=h2.push (DZ "list" (es.toList.map (·.key)).toArray 0),toks:=tk }) O gL (by rw[hl];exact hz) (λh6 o6 UC=>?_) λout ho eE=>{_,rfl,?_}) (args_list_sort _)))
 .exact hk h6 tk (λb o e=>o6 b o (BM (A5 (HM b o e))) (AF _ (HM b o e))) UC _
 .obtain⟨e',jW⟩:=sortedHeap_at (out:=out.toArray) gL
  refine wpAny_pure {_,rfl,h out _ tk _ e' ho eE le jW λb o e=>?_};have lb:=A5 (HM b o e);rw[sortedHeap_old (BM lb) (by rw[S8];exact G0 lb)];exact AF _ (HM b o e)
end
def Yd(p:Int×Int):List Key:=[CZ p.1,CZ p.2]
theorem Rt{H:Hp}:∀(l:List IR) (ps:List (Int×Int)),l.length=ps.length->(∀(i:Nat) (e:IR) (q:Int×Int),l[i]?=AA e->ps[i]?=AA q->∃p,e.key=.ref p/\H p=AA (.tup [.int q.1,.int q.2]))->∃ys,Vals ys (l.map (·.key))/\Prs H ys ps
 |[],[],_,_=>{[],.nil,.nil}
 |e::l,q::ps,hl,h=>by
  obtain⟨ys,h1,h2⟩:=Rt l ps (Nat.succ.inj hl) λi e q a b=>h (i+1) e q a b;obtain⟨p,e1,e2⟩:=h 0 e q rfl rfl;exact{.ref p::ys,.cons e1 h1,.cons {p,rfl,e2} h2}
 |[],_::_,hl,_=>by cases hl
 |_::_,[],hl,_=>by cases hl
theorem zKR(hc:X.calm=AK):CallR X (.builtin "sorted") (λxs H Q=>∃(d:AT) (kvs:List (List Key×V)) (ps:List (Int×Int)),xs=[.ref d]/\Rd H d (.dT kvs)/\kvs.map (·.1)=ps.map Yd/\∀(zs:List V) (qs:List (Int×Int)) (q:AT),Prs H zs qs->qs.Perm ps->(qs.Pairwise λa b=>RE b a=AC)->H q=AL->Q (.ref q) (D3 H q (.lst zs))):=by
 intro AG s σ H xs us Q I r h;obtain⟨d,kvs,ps,rfl,hd,gY,q⟩:=h;obtain⟨u,rfl,ru⟩:=YD r;cases ru;obtain⟨es,ep,LQ,hsz,hz,M0⟩:=nM (hd.ok I.hok)
 have hl:es.toList.length=ps.length:=by
  have:=congrArg K0 gY;simp only[AI] at this;rw[HA,hsz,this]
 obtain⟨ys,rv,lV⟩:=Rt (H:=H) es.toList ps hl λi e p e1 e2=>by
  obtain⟨hi,e1⟩:=AQ.mp e1;obtain⟨b,k,h1,h2,h3⟩:=M0 i (by simpa using hi);rw[gY,AX,e2] at h2;cases h2;refine{b,?_,h3};rw[<-e1,<-h1];rfl
 obtain⟨ht,e0,xU⟩:=yX I rv lV;obtain⟨fs,f1,f2,f3,f4⟩:=Em I rv ht;refine zQR (LV:=λx y=>RE (fZ s.heap x) (fZ s.heap y)) (I.ok.hd hc) LQ (by rw[hsz];exact hz) (So _ _) (λh6 tk o6 h2 E'=>?_) λout h' tk qq e ho eE hq jW HM=>?_
 .refine aY (T:=.type "int") (Gd o6 f2) (by rw[f1];lia) (λv hv=>?_) 'd' {rfl,λx y hx hy Q' E2 hq=>?_}
  .obtain⟨n,t,rfl⟩:=f3 v hv
   exact U1
  .have mem:∀x:BA,x∈GW (es.toList.map (·.key))->x.1∈es.toList.map (·.key):=λx hx=>by
    have:x∈(es.toList.map (·.key)).zip (es.toList.map (·.key)):=by rw[<-M4];exact FR.mpr hx
    exact(HW this).1
   obtain⟨p1,o1,k1,x1,y1,t1,t2,e1,eI,Mx,Nu⟩:=xU _ (mem x hx);obtain⟨p2,o2,k2,x2,y2,t3,t4,e2,V0,b8,Nt⟩:=xU _ (mem y hy);dsimp only at hq;rw[Nu,Nt] at hq;rw[e1,e2];exact fF (o6 _ _ eI) Mx (o6 _ _ V0) b8 (Sn rfl hq)
 .obtain⟨zs,p,rz⟩:=Vals.perm ho rv
  obtain⟨qs,pq,bW⟩:=Prs.perm p lV;obtain⟨_,e3,_⟩:=yX I rz bW
  have pw:qs.Pairwise λa b=>RE b a=AC:=by
   rw[<-e3,DY];exact eE
  refine{.ref qq,_,I.laid (o:=.lst zs) HM hq {?_,out,e,rz,jW},rfl,q zs qs _ bW pq pw (I.hok.fresh hq)};rw[p.length_eq,rv.length,AI,HA,hsz];exact hz
noncomputable def toPr2:List (List Int)->Option (List (Int×Int))
 |[]=>AA []
 |[a,b]::r=>(toPr2 r).map ((a,b)::·)
 |_=>AL
theorem Rs:∀{ks:List (List Int)} {ps:List (Int×Int)},toPr2 ks=AA ps->ks=ps.map λp=>[p.1,p.2]
 |[],ps,h=>by cases h;rfl
 |k::ks,ps,h=>by
  rw[toPr2.eq_def] at h;split at h
  .rename_i e;cases e
  .rename_i a b r e
   cases e;obtain⟨qs,h1,rfl⟩:=BY.mp h;rw[Rs h1];rfl
  .cases h
theorem zTJ(ps:List (Int×Int)):toPr2 (ps.map λp=>[p.1,p.2])=AA ps:=by
 induction ps with
 |nil=>rfl
 |cons p ps ih=>rw[AU,toPr2,ih];rfl
def tB:List D->Out D
 |[.dt kvs]=>match toPr2 (kvs.map (·.1)) with
  |some ps=>.ok (.lst ((WI ps).map JS))
  |none=>.bad
 |_=>.bad
theorem RepT.keys{K:AD}{F:Hp}:∀{vs:List (List Key×V)} {ds:List (List Int×D)},RepT K F vs ds->vs.map (·.1)=(ds.map (·.1)).map λk=>k.map CZ
 |_,_,.nil=>rfl
 |_,_,.cons _ r=>by rw[AU,AU,AU,RepT.keys r]
noncomputable def rL(F H:Hp):Hp:=λa=>match H a with
 |some (.tup xs)=>AA (.tup xs)
 |_=>F a
theorem De(h:H a=AA (.tup xs)):rL F H a=AA (.tup xs):=by unfold rL;rw[h]
theorem yQ(h:∀xs,H a≠AA (.tup xs)):rL F H a=F a:=by
 unfold rL;split
 .rename_i xs e;exact absurd e (h xs)
 .rfl
theorem New.tups(s:Sub F H):New F H (rL F H) H:=by
 have tup:∀a,(∃xs,H a=AA (.tup xs))\/∀xs,H a≠AA (.tup xs):=λa=>by
  by_cases h:∃xs,H a=AA (.tup xs)
  .exact .inl h
  .exact .inr λxs e=>h {xs,e}
 refine{{λa o e _ _ _=>e,λa e=>e,.of_gr λa u e=>?_,λa o e=>?_,λ_ z=>z.elim},λa u e=>?_}
 .rcases tup a with⟨xs,h⟩|h
  .rw[De h,<-h];exact s a u e
  .rw[yQ h];exact e
 .rcases tup a with⟨xs,h⟩|h
  .exact .inr (.inl λo' e' z=>by rw[h] at e';cases e';exact z)
  .rw[yQ h] at e;exact .inl (by rw[e];exact nofun)
 .rcases tup a with⟨xs,h⟩|h
  .rw[De h] at e;rw[h];exact e
  .rw[yQ h] at e;exact s a u e
theorem yAL{K:AD}(h:Prs H zs qs):Reps K (rL F H) zs (qs.map JS):=by
 induction h with
 |nil=>exact .nil
 |cons h _ ih =>
  obtain⟨q,rfl,e⟩:=h;exact .cons (.tup (De e) (.cons (.int _) (.cons (.int _) .nil))) ih
theorem zQS{K:AD}:nH K (λxs H Q=>∃(d:AT) (kvs:List (List Key×V)) (ps:List (Int×Int)),xs=[.ref d]/\Rd H d (.dT kvs)/\kvs.map (·.1)=ps.map Yd/\∀(zs:List V) (qs:List (Int×Int)) (q:AT),Prs H zs qs->qs.Perm ps->(qs.Pairwise λa b=>RE b a=AC)->H q=AL->Q (.ref q) (D3 H q (.lst zs))) tB:=λvs xs F H d Q s r hf k=>by
 unfold tB at hf;split at hf
 .split at hf
  .rename_i kvs _ ps e
   cases hf;obtain⟨v,rfl,r1⟩:=Qd r
   cases r1 with
   |dt h1 h2 =>
    refine{_,_,ps,rfl,s.rd h1,?_,λzs qs q hz pm pw hq=>?_}
    .rw[h2.keys,Rs e,DR];rfl
    .have:qs=WI ps:=Rw pm (pw.imp λh=>by unfold ZP;rw[h];rfl)
     subst this;have n1:=New.tups s;have n2:=pA6 (H':=D3 H q (.lst zs)) n1.2 (Gr.new hq);refine k q _ _ (n1.trans n2) ?_ hq {_,HJ,yAL hz};rw[yQ λxs e=>by rw[hq] at e;cases e];exact pAG s hq
  .cases hf
 .cases hf
theorem zTL{gs:List G}(hc:X.calm=AK)(hm:X.mg "sorted"=AL)(ha:VA X (e::es) gs)(hg:Gl X "sorted":=by rfl)(he:AO (e::es) X.env=(AC,eval e X.env)::AO es X.env:=by rfl)(J5:(DT pos (AO es X.env)).any (·.1)=AC:=by rfl) :
  FE X (.Call (.Name "sorted" p) (e::es) [] pos) (gN tB gs):=Xq (zKR hc) zQS hm (by decide +kernel) ha hg 'd' 'd' he J5
end L2
variable{AE:Int}
namespace My
open PySem L2
noncomputable def RU(i:Nat):FF:=PySem.Challenge.pw_waymusts_k21_whole_posts.main.body.getD i (.Pass {0,0,0,0})
structure Bt(mg:C2->Option AJ):Prop where
 b_ValueError:mg "ValueError"=AL
 b_all:mg "all"=AL
 b_bool:mg "bool"=AL
 b_dict:mg "dict"=AL
 b_enumerate:mg "enumerate"=AL
 b_isinstance:mg "isinstance"=AL
 b_len:mg "len"=AL
 b_list:mg "list"=AL
 b_min:mg "min"=AL
 b_range:mg "range"=AL
 b_sorted:mg "sorted"=AL
 b_tuple:mg "tuple"=AL
 b_zip:mg "zip"=AL
abbrev Ez:FF:=RU 13
abbrev Ah:FF:=RU 15
abbrev Gy:FF:=RU 28
abbrev Gx:FF:=RU 29
abbrev Gw:FF:=RU 30
abbrev He:FF:=RU 33
abbrev Hd:FF:=RU 35
abbrev Gv:FF:=RU 36
abbrev Hc:FF:=RU 16
abbrev Hm:FF:=RU 31
abbrev Hi:FF:=RU 38
abbrev Hh:FF:=RU 17
abbrev Gn:FF:=RU 32
abbrev Hg:FF:=RU 37
abbrev Gc:FF:=RU 18
abbrev Gb:FF:=RU 20
abbrev Hl:FF:=RU 23
abbrev Hk:FF:=RU 25
abbrev Gh:FF:=RU 34
abbrev qW:FF:=RU 21
abbrev Gu:FF:=RU 24
abbrev zB:FF:=RU 26
abbrev Gs:FF:=RU 39
abbrev iQ:FF:=RU 40
theorem SI{P:List C2}{sc:NT}(h1:sc.kind=.function:=by rfl)(h2:sc.isCoroutine=AC:=by rfl)(h3:sc.isGenerator=AC:=by rfl)(h4:N.Nodup:=by decide +kernel)(h5:N.take P.length=P:=by rfl)(h6:∀x∈P,sc.names.lookup x=AA .local\/sc.names.lookup x=AA .cell:=by decide +kernel)(h7:∀y∈sc.names,y.2≠.free:=by decide +kernel):FnScope N P sc:={h1,h2,h3,h4,h5,h6,h7}
theorem cn(h1:Y3 scope X.env=pure cl)(h2:scope.kind=.function:=by rfl)(h3:∀y∈scope.names,y.2≠.cell:=by decide +kernel)(h4:∀y∈scope.names,y.2=.local->scope.names.lookup y.1=AA .local:=by decide +kernel)(h5:∀y∈scope.names,y.2=.free->y.1∈CG:=by decide +kernel)(h6:cl.map (·.1)=CG:=by rfl)
  (h7:∀p∈cl,X.env.cells.lookup p.1=AA p.2:=by first|exact mV|exact dG rfl|exact rY rfl rfl|exact Bi rfl rfl rfl|exact Iv rfl rfl rfl rfl) (h8:CG.map AA=js.map λj=>X.N[j]?:=by rfl)
  (h9:∀x∈CG,X.env.kindOf x=AA .cell\/X.env.kindOf x=AA .free:=by first|exact mV|(refine dG ?_<;>first|exact BN rfl|exact D2 rfl)|(refine rY ?_ ?_<;>first|exact BN rfl|exact D2 rfl)|(refine Bi ?_ ?_ ?_<;>first|exact BN rfl|exact D2 rfl)|(refine Iv ?_ ?_ ?_ ?_<;>first|exact BN rfl|exact D2 rfl))
  (h10:∀x∈CG,(UH scope X.env).names.lookup x=AA .cell\/(UH scope X.env).names.lookup x=AA .free:=by first|exact mV|(refine dG ?_<;>first|exact BN rfl|exact D2 rfl)|(refine rY ?_ ?_<;>first|exact BN rfl|exact D2 rfl)|(refine Bi ?_ ?_ ?_<;>first|exact BN rfl|exact D2 rfl)|(refine Iv ?_ ?_ ?_ ?_<;>first|exact BN rfl|exact D2 rfl))
  (h11:∀x∈own,x∉CG:=by decide +kernel) (h12:∀x∈own,scope.names.lookup x=AA .local:=by decide +kernel):CompNm X scope cl own CG js:={h1,h2,h3,h4,h5,h6,h7,h8,h9,h10,h11,h12}
theorem P7(i:Nat)(hN:(own++CG).Nodup:=by decide +kernel)(hi:(own++CG)[i]?=AA x:=by rfl)(hx:L2.Loc (K1 X scope cl (own++CG) C s H fp).env.scope x:=by exact BN rfl)(hf:(K1 X scope cl (own++CG) C s H fp).fn x=AK\/(K1 X scope cl (own++CG) C s H fp).env.scope.names.lookup x=AA .local:=by exact D2 rfl):VG (K1 X scope cl (own++CG) C s H fp) (.Name x pos) (.nm i):=XX hN hi hx hf
theorem yAM{g:TG}{tt:TT}{BR:AT}{σ₀:St}{N:St->Hp->Prop}(Pv:Nat->List V->St->Hp->Prop)(h0:Pv 0 [] σ₀ (D3 H1 BR (.lst [])))(ha:∀i ys σ H,i<=n->Pv i ys σ H->H BR=AA (.lst ys))
  (hs:∀i ys σ H,i<n->Pv i ys σ H->J.go i H/\∀x H',J.yld i H x H'->g x σ H' λσ2 H2=>tt σ2 H2 λb H3 =>
   if b=AK then te σ2 H3 λy H4=>H4 BR=AA (.lst ys)/\ys.length<sizeLine/\∃m',m'<n-i/\m'=n-(i+1)/\i+1<=n/\Pv (i+1) (ys++[y]) σ2 (D3 H4 BR (.lst (ys++[y])))
   else ∃m',m'<n-i/\m'=n-(i+1)/\i+1<=n/\Pv (i+1) ys σ2 H3)
  (hd:∀ys σ H,Pv n ys σ H->J.stop n H/\N σ H) (mg:∀x σ H P P',(∀σ2 H2,P σ2 H2->P' σ2 H2)->g x σ H P->g x σ H P') (mt:∀σ H P P',(∀b H2,P b H2->P' b H2)->tt σ H P->tt σ H P') (me:∀σ H P P',(∀v H2,P v H2->P' v H2)->te σ H P->te σ H P'):tWalkC J g tt (kY BR te) σ₀ (D3 H1 BR (.lst [])) N:=by
 refine{λi m σ H=>m=n-i/\i<=n/\∃ys,Pv i ys σ H,{n,by lia,BP _,[],h0},?_};rintro i m σ H ⟨rfl,hi,ys,p⟩
 by_cases KZ:i<n
 .obtain⟨go,st⟩:=hs i ys σ H KZ p
  refine .inr {go,λx H' y=>mg _ _ _ _ _ (λσ2 H2 q=>mt _ _ _ _ (λb H3 q=>?_) q) (st x H' y)}
  cases b with
  |true =>
   rw[if_pos rfl] at q ⊢;exact me _ _ _ _ (λv H4 ⟨q1,q2,m',a,b,c,q3⟩=>{ys,q1,q2,m',a,b,c,_,q3}) q
  |false =>
   rw[if_neg B9] at q ⊢;obtain⟨m',a,b,c,q3⟩:=q;exact{m',a,b,c,_,q3}
 .have e:i=n:=by lia
  subst e;exact .inl (hd ys σ H p)
theorem Gq(f:α->Bool){l:List α}{x:α}(h:l[i]?=AA x):(l.take (i+1)).filter f=(l.take i).filter f++(if f x=AK then[x] else[]):=by
 obtain⟨hi,e⟩:=AQ.mp h;rw[CH hi,List.filter_append,e]
 by_cases hf:f x=AK
 .simp[hf]
 .simp[hf]
theorem Rr{K:AD}{H:Hp}:∀{zs:List V} {ps:List (Int×Int)} {i:Nat} {z:V},PairsAt K H zs ps->zs[i]?=AA z->∃(q:AT) (x y:Int),z=.ref q/\SqT K H q [.int x,.int y]/\ps[i]?=AA (x,y)
 |_,_,_,_,.nil,h=>by simp at h
 |_,_,0,_,.cons ⟨q,e,s⟩ t,h=>by simp at h;subst h;exact{q,_,_,e,s,rfl}
 |_,_,i+1,_,.cons _ t,h=>by simp at h;simpa using Rr t h
theorem pAP{H1 H':Hp}{BR:AT}{o:HO}(g:Gr H1 H')(h:H1 BR=AL):Gr H1 (D3 H' BR o):=λb u e=>by
 rw[FH (W6 e h)];exact g b u e
def yI1(K:AD)(H:Hp)(q:AT)(AE:Int)(ps:List (Int×Int)):Prop:=∃(t:AT) (zs:List V),SqT K H q [.int AE,.ref t]/\SqT K H t zs/\PairsAt K H zs ps
noncomputable def VB(ps:List (Int×Int))(j:Nat):List Int:=(ps.filter λp=>decide (p.1=(j:Int))).map (·.2)
def yAN(H:Hp)(L:AT)(rs:List AT)(AE:Int)(ps:List (Int×Int)):Prop:=H L=AA (.lst (rs.map V.ref))/\(rs.length:Int)=AE/\∀(j:Nat) (hj:j<rs.length),H rs[j]=AA (.lst ((VB ps j).map V.int))
def yAO(K:AD):Sp:=λvs H Q _=>∃(q:AT) (AE:Int) (ps:List (Int×Int)),vs=[.ref q]/\yI1 K H q AE ps/\ps.length<=1000/\0<=AE/\AE<=100/\(∀p∈ps,0<=p.1/\p.1<AE) /\
 ∀(L:AT) (H':Hp) (rs:List AT),Gr H H'->yAN H' L rs AE ps->H L=AL->(∀r∈rs,H r=AL)->Q (.ref L) H'
section
variable{K:AD}
theorem aF:FnScope ["net","many","lanes","nexts","one","other"] ["net"] (J4 Ah):={rfl,rfl,rfl,by decide +kernel,rfl,by decide +kernel,by decide +kernel}
theorem yI2:((["place"]:List C2)++([]:List C2)).Nodup:=by decide +kernel
theorem zWL(F:Fun K "next_places" "next_places" Ah f fd)(T:Bt mg):FnOk P w K mg base LP 1 f fd ["net"] (yAO K):=by
 refine F.ok aF (λvs H Q E h=>?_) (λG3 A outer s H vs Q E hr h=>?_)
 .obtain⟨q,AE,ps,rfl,_⟩:=h
  rfl
 .obtain⟨q,AE,ps,rfl,⟨t,zs,hq,ht,lV⟩,J5,hm0,UB,By,q0⟩:=h
  refine{_,lH (Dq (pv 0) (Dr rfl (t9 (qS (i:=1) aF.nd rfl (BN rfl)) (t9 (qS (i:=2) aF.nd rfl (BN rfl)) VD))))
   (lH (Gz (i:=3) (own:=["place"]) (CG:=[]) (js:=[]) {rfl,rfl,by decide +kernel,by decide +kernel,by decide +kernel,rfl,mV,rfl,mV,mV,by decide +kernel,by decide +kernel} rfl (Tu rfl T.b_range (VC (pv 1) JB))
     (λC s H fp=>qS (i:=0) yI2 rfl (BN rfl) (D2 rfl)) (λC s H fp=>ZN) (λC s H fp=>qH JB) aF.nd rfl rfl rfl)
   (lH (Dp DE rfl (Pf (pv 2)) (Dr rfl (t9 (qS (i:=4) aF.nd rfl (BN rfl)) (t9 (qS (i:=5) aF.nd rfl (BN rfl)) VD)))
    (zO (Re (yJ G8 UM UL Gf (Xt ZQ (pv 3) (pv 4) (λ_ _=>rfl)) (VC (pv 5) JB)))))
   (zO (yU (pv 3))))),?_}
  have sm:∀n:Nat,n<=1000->n<=sizeLine:=λn h=>CV (Ge h);have hzl:zs.length=ps.length:=Paired.length lV;refine{_,rfl,q,_,rfl,hq,rfl,_,_,rfl,_,_,rfl,rfl,?_};refine{_,rfl,_,rfl,by lia,by lia,λBR OZ=>?_}
  refine yAM (J:=sA 0 AE.toNat) (g:=k6 0) (tt:=Wb) (te:=uJ Wj) (n:=AE.toNat) (λi ys σ H'=>∃(u:Option V) (rs:List AT),σ=[u]/\ys=rs.map V.ref/\rs.length=i/\rs.Nodup/\(∀r∈rs,H' r=AA (.lst [])/\H r=AL/\r≠BR)/\H' BR=AA (.lst ys)/\Gr H H')
   {AL,[],rfl,rfl,rfl,GK,mV,HJ,Gr.new OZ} (λi ys σ H' _ ⟨_,_,_,_,_,_,_,h,_⟩=>h) ?_ ?_ (λx σ H P P' h q=>h _ _ q) (λσ H P P' h q=>h _ _ q) (λσ H P P' h q=>{q.1,λp hp=>h _ _ (q.2 p hp)})
  .rintro i ys σ H' hi ⟨u,rs,rfl,rfl,hl,nd,jP,ha,gr⟩
   refine{hi,?_};rintro x Cr ⟨rfl,rfl⟩;refine{sm 0 'd',λpt sM=>?_};have Zy:pt≠BR:=FO (W6 ha sM)
   have Lm:H pt=AL:=by
    cases e:H pt with
    |none=>rfl
    |some o=>have:=gr _ _ e;rw[sM] at this;cases this
   have hnr:pt∉rs:=λz=>by have:=(jP pt z).1;rw[sM] at this;cases this
   refine{Gr.new sM _ _ ha,Ge (by rw[AI];lia),_,by lia,rfl,by lia,_,rs++[pt],rfl,by simp,by simp[hl],?_,λr XG=>?_,HJ,pAP (gr.trans (Gr.new sM)) OZ}
   .rw[J3]
    exact{nd,FK.mpr {by simp,GK},λa xJ b eS=>by rw[BB.mp eS];exact λz=>hnr (z▸xJ)}
   .rcases CA.mp XG with h|h
    .obtain⟨h1,h2,h3⟩:=jP r h
     exact{by rw[FH h3,FH (W6 h1 sM)];exact h1,h2,h3}
    .rw[BB.mp h]
     exact{by rw[FH Zy,HJ],Lm,Zy}
  .rintro ys σ H2 ⟨u,rs,rfl,rfl,hl,nd,jP,ha,gr⟩
   refine{AM _,?_}
   refine{_,rfl,t,rfl,{_,ht.gr gr},zYJ (K:=K) (a:=t) (xs:=zs) (λi σ H3=>∃u4 u5:Option V,σ=[AA (.ref q),AA (.int AE),AA (.ref t),AA (.ref BR),u4,u5]/\H3 BR=AA (.lst (rs.map V.ref))/\(∀(j:Nat) (hj:j<rs.length),H3 rs[j]=AA (.lst ((VB (ps.take i) j).map V.int)))/\Gr H H3)
    {AL,AL,rfl,ha,λj hj=>(jP _ (IV hj)).1,gr} (λi σ H3 _ ⟨_,_,_,_,_,g⟩=>ht.gr g) ?_ ?_}
   .rintro i z σ H3 hi ⟨u4,u5,rfl,Cj,sL,g3⟩
    obtain⟨pq,x,y,rfl,N0,Ll⟩:=Rr (lV.gr g3) hi;obtain⟨x0,x9⟩:=By _ (DH Ll);have gT:x.toNat<rs.length:=by rw[hl];have:=x9;have:=x0;simp only at *;lia
    have bU:((x.toNat:Nat):Int)=x:=by simp only at x0;lia
    have jW:atI (rs.map V.ref) x=AA (.ref rs[x.toNat]):=by
     have z:=Qy (xs:=rs.map V.ref) (j:=x.toNat) (v:=.ref rs[x.toNat]) (by rw[AX,BL gT];rfl);rw[bU] at z;exact z
    have Ce:=(AQ.mp Ll).1
    have Lf:(VB (ps.take i) x.toNat).length<=1000:=by
     unfold VB;rw[AI];have h1:=GO (λp:Int×Int=>decide (p.1=((x.toNat:Nat):Int))) (ps.take i);rw[GG] at h1;lia
    refine{pq,_,rfl,N0,rfl,_,_,rfl,_,_,rfl,rfl,?_};refine{_,rfl,_,rfl,BR,_,_,_,rfl,rfl,SqL.of Cj,jW,.inl {rfl,_,SqL.of (sL _ gT)},_,rfl,rs[x.toNat],_,_,rfl,rfl,sL _ gT,Ge (by rw[AI];exact Lf),_,_,rfl,?_,λj hj=>?_,?_}
    .rw[FH (FO (jP _ (IV gT)).2.2)]
     exact Cj
    .have hf:=Gq (λp:Int×Int=>decide (p.1=(j:Int))) Ll
     by_cases hjx:j=x.toNat
     .subst hjx
      rw[HJ];unfold VB;rw[hf,if_pos (decide_eq_true (show x=((x.toNat:Nat):Int) from bU.symm))];simp
     .have RX:rs[j]≠rs[x.toNat]:=λz=>by
       rcases Nat.lt_or_gt_of_ne hjx with h|h
       .exact EO.mp nd _ _ hj gT h z
       .exact EO.mp nd _ _ gT hj h z.symm
      rw[FH RX,sL j hj];unfold VB;rw[hf,if_neg (by simp only[decide_eq_true_eq];lia),EL]
    .exact pAP g3 (jP _ (IV gT)).2.1
   .rintro σ H3 ⟨u4,u5,rfl,Cj,sL,g3⟩
    rw[hzl,GF] at sL;exact{_,rfl,q0 BR H3 rs g3 {Cj,by rw[hl];lia,sL} OZ λr XG=>(jP r XG).2.1}
end
def fW(AE:Int)(ps:List (Int×Int)):D:=.lst ((DL AE.toNat).map λj=>.lst ((VB ps j).map D.int))
def An(AE:Int)(ps:List (Int×Int)):D:=.tup [.int AE,.tup (ps.map JS)]
def uP(sl:Ev)(q:Int×List (Int×Int)):Prop:=sl=[.val (An q.1 q.2)]/\0<=q.1/\q.1<=100/\q.2.length<=1000/\∀p∈q.2,0<=p.1/\p.1<q.1
open Classical in
def lI:Mr:=λsl=>if h:∃q,uP sl q then .ok (AC,fW h.choose.1 h.choose.2,.non) else .bad
theorem yGQ{sl:Ev}{r:Bool×D×D}(h:lI sl=.ok r):∃AE ps,uP sl (AE,ps)/\r=(AC,fW AE ps,.non):=by
 unfold lI at h
 by_cases e:∃q,uP sl q
 .rw[dif_pos e] at h;cases h;exact{_,_,e.choose_spec,rfl}
 .rw[dif_neg e] at h;cases h
theorem yGR(h:uP [.val (An AE ps)] (AE,ps)):lI [.val (An AE ps)]=.ok (AC,fW AE ps,.non):=by
 have e:∃q,uP [.val (An AE ps)] q:={_,h};unfold lI;rw[dif_pos e];have z:=e.choose_spec.1;generalize e.choose=q at z;injection z with z _;injection z with z;injection z with z;injection z with z1 z2;injection z1 with z1;injection z2 with z2 _;injection z2 with z2;have:=congrArg lD z2;rw[Af,Af] at this;injection this with this;rw[<-z1,<-this]
theorem pAQ{K:AD}(s:Sub F H):∀{ps:List (Int×Int)} {ys:List V},Reps K F ys (ps.map JS)->PairsAt K H ys ps:=λr=>pA0 (r.prs s) λ_ _ ⟨q,e,h⟩=>{q,e,SqT.of h}
theorem zIT{K:AD}(Fn:Fun K "next_places" "next_places" Ah f fd)(T:Bt mg):FnOk P w K mg base LP 1 f fd ["net"] (NQ K 1 lI) :=
 FnOk.imp (zWL Fn T) λvs H Q E h=>by
  obtain⟨hl,τ,F,sl,b,d,d',S,sh,hm,k⟩:=h;obtain⟨AE,ps,⟨rfl,g1,g2,g3,g4⟩,er⟩:=yGQ hm;cases er;obtain⟨v,e1,r⟩:=S.val 0 _ rfl;obtain⟨v',rfl⟩:=List.length_eq_one_iff.mp hl;cases e1;obtain⟨q,ws,rfl,r2,sq⟩:=r.tupSq
  cases r2 with
  |cons ra r2 =>
   cases r2 with
   |cons rb r2 =>
    cases r2;cases ra;obtain⟨t,zs,rfl,r3,sq3⟩:=rb.tupSq;refine{q,AE,ps,rfl,{t,zs,sq F H (.refl _) S.sub,sq3 F H (.refl _) S.sub,pAQ S.sub r3},g3,g1,g2,g4,λL H' rs gr na hL jP=>?_};have n:=New.gro (F:=F) S.sub gr;refine k _ _ _ n.stp (S.new n) ?_;obtain⟨n1,n2,n3⟩:=na;have hL':gro F H H' L=AA (.lst (rs.map V.ref)):=by rw[zP hL];exact n1
    refine .lst (.inl (.inl hL')) ?_
    have KA:∀(l:List AT) (o:Nat),(∀r∈l,H r=AL)->(∀(j:Nat) (hj:j<l.length),H' l[j]=AA (.lst ((VB ps (o+j)).map V.int))) ->
      Reps K (gro F H H') (l.map V.ref) ((List.range' o l.length).map λj=>D.lst ((VB ps j).map D.int)):=by
     intro l
     induction l with
     |nil=>intro o _ _;exact .nil
     |cons a l ih =>
      intro o h1 h2;rw[AU,BD,List.range'_succ,AU];refine .cons ?_ (ih (o+1) (λr hr=>h1 r (AZ _ hr)) λj hj=>?_)
      .have:=h2 0 's'
       have hA':gro F H H' a=AA (.lst ((VB ps o).map V.int)):=by rw[zP (h1 a A2)];simpa using this
       exact .lst (.inl (.inl hA')) (Reps.ints _)
      .have:=h2 (j+1) (by simp;lia)
       rw[show o+1+j=o+(j+1) by lia];simpa using this
    have:=KA rs 0 jP (by simpa using n3);rw[show rs.length=AE.toNat by lia] at this;rw[List.range_eq_range'];exact this
def Rq:GS :=
 (FQ (HZ (.tp [(.nm 1),(.nm 2)]) (AW 0))
 (NA (MG [(AW 1),(gN ZF [(gN kQ [(KY (IK (AW 2)) 2 [] (.tp [(.nm 0),(.nm 1)]) K4 (MG [(AW 1),(AW 0)]))])])])))
def XY:Mr:=QC 3 Rq
theorem SH:FnScope ["net","many","lanes"] ["net"] (J4 Ez):=SI
theorem zTM{K:AD}(Fn:Fun K "turned" "turned" Ez f fd)(T:Bt mg) :FnOk P w K mg base LP 1 f fd ["net"] (NQ K 1 XY) :=
 T1 Fn SH λG3 A outer s H E hr=>by
  have hu:=hr.units;unfold Rq
  exact(HI (yDD (CD 0) (qI rfl (bO (XX (i:=1) SH.nd rfl (BN rfl)) (bO (XX (i:=2) SH.nd rfl (BN rfl)) qP))))
   (JK (O6 (WJ (DJ (CD 1) (DJ (iZ T.b_tuple (DJ (pA8 (Rv T.b_sorted (DJ (pA8 (ZL (own:=["one","other"]) (CG:=[]) (js:=[]) (cn rfl) rfl (T6 (CD 2)) (λC s H fp=>(qI rfl (bO (P7 0) (bO (P7 1) qP)))) (λC s H fp=>ZM) (λC s H fp=>(WJ (DJ (CD 1) (DJ (CD 0) EM)))))) EM))) EM)) EM))))))
def Ve:GS :=
 (FQ (LM (gB (g2 bP (AW 1) (gN NO [(AW 0)])))
 (NA (g2 EG (AW 0) (AW 1)))
 NC)
 (NA (gC (.int 0))))
def rF:Mr:=QC 2 Ve
theorem zN8:FnScope ["script","k"] ["script","k"] (J4 Gy):=SI
theorem zMX{K:AD}(Fn:Fun K "_law_cell" "_law_cell" Gy f fd)(T:Bt mg) :FnOk P w K mg base LP 1 f fd ["script","k"] (NQ K 2 rF) :=
 T1 Fn zN8 λG3 A outer s H E hr=>by
  have hu:=hr.units;unfold Ve
  exact(HI (TU (Cu hu (CD 1) (iT T.b_len (DJ (CD 0) EM)))
   (JK (O6 (K8 hu (CD 0) (CD 1))))
   T4)
   (JK (O6 F8)))
def Vd:GS :=
 (FQ (LM (gB (g2 Ip (AW 0) (g2 bD (gC (.int 10)) (gC (.int 18)))))
 (yE (JF [(g2 fS (AW 0) (g2 bD (gC (.int 10)) (gC (.int 18)))),(g2 UU (AW 0) (gC (.int 2305843009213693951))),(AW 1)]))
 NC)
 (yE (JF [(gC (.int 0)),(g2 UU (AW 0) (gC (.int 2305843009213693951))),(AW 1)])))
def rD:Mr:=QC 2 Vd
theorem zN9:FnScope ["cell","turn"] ["cell","turn"] (J4 Gx):=SI
theorem zMY{K:AD}(Fn:Fun K "_law_well" "_law_well" Gx f fd)(T:Bt mg) :FnOk P w K mg base LP 1 f fd ["cell","turn"] (NQ K 2 rD) :=
 T1 Fn zN9 λG3 A outer s H E hr=>by
  have hu:=hr.units;unfold Vd
  exact(HI (TU (yGI (CD 0) (xZ F8 F8))
   (JK (Qq (TR (DJ (yB (CD 0) (xZ F8 F8)) (DJ (kT (CD 0) F8) (DJ (CD 1) EM))))))
   T4)
   (JK (Qq (TR (DJ F8 (DJ (kT (CD 0) F8) (DJ (CD 1) EM)))))))
def Vc:GS :=
 (FQ (LM (T2 [0] (gB (g2 jB (g2 EG (AW 0) (gC (.int 0))) (gC (.int 0)))))
 (FQ (HZ (.nm 2) (OP [0] (g2 UU (g2 EG (AW 0) (gC (.int 0))) (AW 1))))
 (FQ (RT 0 (gC (.int 0)) (OP [0] (g2 nI (g2 EG (AW 0) (gC (.int 0))) (AW 1))))
 (NA (AW 2))))
 NC)
 (FQ (RT 0 (gC (.int 2)) (OP [0] (g2 NP (g2 EG (AW 0) (gC (.int 2))) (gC (.int 1)))))
 (FQ (HZ (.nm 3) (gC (.int 2305843009213693951)))
 (FQ (HZ (.nm 4) (OP [0] (g2 UU (g2 NP (g2 EG (AW 0) (gC (.int 1))) (g2 X7 (gC (.int 1000003)) (g2 EG (AW 0) (gC (.int 2))))) (AW 3))))
 (FQ (HZ (.nm 4) (OP [0] (g2 UU (g2 NP (g2 NP (g2 X7 (AW 4) (AW 4)) (g2 X7 (gC (.int 7919)) (g2 bD (g2 EG (AW 0) (gC (.int 2))) (gC (.int 2))))) (gC (.int 5))) (AW 3))))
 (NA (g2 UU (g2 nI (g2 UU (g2 bD (AW 4) (gC (.int 3))) (AW 3)) (gC (.int 13))) (AW 1))))))))
def IS:Mr:=QC 5 Vc
theorem KD:FnScope ["bag","many","found","p","n"] ["bag","many"] (J4 Gw):=SI
theorem zMZ{K:AD}(Fn:Fun K "_law_take" "_law_take" Gw f fd)(T:Bt mg) :FnOk P w K mg base LP 1 f fd ["bag","many"] (NQ K 2 IS) :=
 T1 Fn KD λG3 A outer s H E hr=>by
  have hu:=hr.units;unfold Vc
  exact(HI (TU (nK [0] (Ct (K8 hu (CD 0) F8) F8))
   (HI (OD (i:=2) KD.nd rfl (BN rfl) (ZJ [0] (kT (K8 hu (CD 0) F8) (CD 1))))
   (HI (cX 0 hu F8 (ZJ [0] (Op (K8 hu (CD 0) F8) (CD 1))))
   (JK (O6 (CD 2)))))
   T4)
   (HI (cX 0 hu F8 (ZJ [0] (aA (K8 hu (CD 0) F8) F8)))
   (HI (OD (i:=3) KD.nd rfl (BN rfl) F8)
   (HI (OD (i:=4) KD.nd rfl (BN rfl) (ZJ [0] (kT (aA (K8 hu (CD 0) F8) (yA F8 (K8 hu (CD 0) F8))) (CD 3))))
   (HI (OD (i:=4) KD.nd rfl (BN rfl) (ZJ [0] (kT (aA (aA (yA (CD 4) (CD 4)) (yA F8 (xZ (K8 hu (CD 0) F8) F8))) F8) (CD 3))))
   (JK (O6 (kT (Op (kT (xZ (CD 4) F8) (CD 3)) F8) (CD 1)))))))))
def Vg:GS :=
 (FQ (SF 3 (gC (.dk [])))
 (FQ (P4 (IK (g2 EG (AW 0) (gC (.int 1)))) (.tp [(.nm 4),(.nm 5)])
 (RT 3 (AW 4) (OP [3] (g2 NP (cQ (AW 3) (AW 4) (JF [])) (JF [(AW 5)])))))
 (FQ (SF 6 (uS (gB (g2 IL (AW 1) (AW 2))) (Dk (AW 1) (gC (.bl AK))) (gC (.dk []))))
 (FQ (SF 7 (sY [6] (gN kP [(AW 6)])))
 (FQ (YG (T2 [7] (gB (g2 IL (AW 7) (JF []))))
 (P4 (IK (cQ (AW 3) (P6 7 fR []) (JF []))) (.nm 5)
 (LM (T2 [6] (WK (gB (g2 IL (AW 5) (AW 2))) (gB (g2 T3 (AW 5) (AW 6)))))
 (FQ (RT 6 (AW 5) (gC (.bl AK)))
 (bH (P6 7 X9 [(AW 5)])))
 NC)) 100000)
 (NA (OP [6] (gN kP [(AW 6)]))))))))
def XZ:Mr:=QC 8 Vg
theorem HK:FnScope ["net","gate","closed","ahead","one","other","found","row"] ["net","gate","closed"] (J4 He):=SI
theorem zKV{K:AD}(Fn:Fun K "_law_reach" "_law_reach" He f fd)(T:Bt mg) :FnOk P w K mg base LP 1 f fd ["net","gate","closed"] (NQ K 3 XZ) :=
 T1 Fn HK λG3 A outer s H E hr=>by
  have hu:=hr.units;unfold Vg
  exact(HI (bN (i:=3) HK.nd rfl (BN rfl) Qu)
   (HI (cT DE rfl (T6 (K8 hu (CD 0) F8)) (qI rfl (bO (XX (i:=4) HK.nd rfl (BN rfl)) (bO (XX (i:=5) HK.nd rfl (BN rfl)) qP)))
   (JK (cX 3 hu (CD 4) (ZJ [3] (aA (Xb hu (CD 3) (CD 4) (pA8 (TR EM))) (pA8 (TR (DJ (CD 5) EM))))))))
   (HI (bN (i:=6) HK.nd rfl (BN rfl) (yIX (U9 hu (CD 1) (CD 2)) (zZ4 (CD 1) Z8) Qu))
   (HI (bN (i:=7) HK.nd rfl (BN rfl) (Xa [6] (yS rfl T.b_list (DJ (CD 6) EM))))
   (HI (Fs 100000 DE (nK [7] (U9 hu (CD 7) (pA8 (TR EM))))
   (JK (cT DE rfl (T6 (Xb hu (CD 3) (yGL 7) (pA8 (TR EM)))) (XX (i:=5) HK.nd rfl (BN rfl))
   (JK (TU (nK [6] (VW.t (qJ (U9 hu (CD 5) (CD 2)) (qQ (t8 hu (CD 5) (CD 6))))))
   (HI (cX 6 hu (CD 5) Z8)
   (JK (tU (Fe 7 (DJ (CD 5) EM)))))
   T4)))))
   (JK (O6 (ZJ [6] (pA8 (yS rfl T.b_list (DJ (CD 6) EM)))))))))))
theorem MX:FnScope ["e","kinds"] ["e"] (J4 Hd):=SI
theorem ku{K:AD}{c0 c1 c2 c3 c4 c5 c6 c7 c8 c9:AT}(Fn:Fun K "_law_kinds" "_law_kinds" Hd f fd)(T:Bt mg)(hb:Binds K fd ["e"] [])(Z:ExK K C bm ZS)(m0:mg "NotReached"=AA (.ref c0))(e0:BU K (.ref C) (.ref c0)=AA AC)(m1:mg "NoPaper"=AA (.ref c1))(e1:BU K (.ref C) (.ref c1)=AA AC)(m2:mg "TooMany"=AA (.ref c2))(e2:BU K (.ref C) (.ref c2)=AA AC)(m3:mg "NoSuch"=AA (.ref c3))(e3:BU K (.ref C) (.ref c3)=AA AC)(m4:mg "NoLane"=AA (.ref c4))(e4:BU K (.ref C) (.ref c4)=AA AC)(m5:mg "NoRound"=AA (.ref c5))(e5:BU K (.ref C) (.ref c5)=AA AK)(m6:mg "NoText"=AA (.ref c6))(e6:BU K (.ref C) (.ref c6)=AA AC)(m7:mg "NoRow"=AA (.ref c7))(e7:BU K (.ref C) (.ref c7)=AA AC)(m8:mg "NoPlace"=AA (.ref c8))(e8:BU K (.ref C) (.ref c8)=AA AC)(m9:mg "NothingLeft"=AA (.ref c9))(e9:BU K (.ref C) (.ref c9)=AA AC)(Nx:BU K (.ref C) (.type "ValueError")=AA AK):KU P w K mg base f C [AC,AC,AC,AC,AC,AK,AC,AC,AC,AC,AK] :=
 zWI (l1:=[AC,AC,AC,AC]) (l2:=[AC,AK,AC,AC]) (l3:=[AC,AC,AK]) Fn MX hb 'd' λG3 A outer s H a hX=>by
  exact(lH (yT (i:=1) MX.nd rfl (BN rfl) (qH (cR (cS hX Z T.b_isinstance (gJ (v:=.ref c0) rfl m0 rfl) (λ_ h=>h) e0) (cR (cS hX Z T.b_isinstance (gJ (v:=.ref c1) rfl m1 rfl) (λ_ h=>h) e1) (cR (cS hX Z T.b_isinstance (gJ (v:=.ref c2) rfl m2 rfl) (λ_ h=>h) e2) (cR (cS hX Z T.b_isinstance (gJ (v:=.ref c3) rfl m3 rfl) (λ_ h=>h) e3) Df)))))) (lH (yT (i:=1) MX.nd rfl (BN rfl) (yL Pb (pv 1) (qH (cR (cS hX Z T.b_isinstance (gJ (v:=.ref c4) rfl m4 rfl) (λ_ h=>h) e4) (cR (cS hX Z T.b_isinstance (gJ (v:=.ref c5) rfl m5 rfl) (λ_ h=>h) e5) (cR (cS hX Z T.b_isinstance (gJ (v:=.ref c6) rfl m6 rfl) (λ_ h=>h) e6) (cR (cS hX Z T.b_isinstance (gJ (v:=.ref c7) rfl m7 rfl) (λ_ h=>h) e7) Df))))))) (zO (yU (yL Pb (pv 1) (qH (cR (cS hX Z T.b_isinstance (gJ (v:=.ref c8) rfl m8 rfl) (λ_ h=>h) e8) (cR (cS hX Z T.b_isinstance (gJ (v:=.ref c9) rfl m9 rfl) (λ_ h=>h) e9) (cR (cS hX Z T.b_isinstance (Rf (v:=.ty "ValueError") rfl T.b_ValueError (by decide +kernel) rfl) (λ_ h=>h) Nx) Df)))))))))
def Vb:GS :=
 (NA (KY (OU (gC (.int 11))) 1 [0] (.nm 0) K4 (Yl (g2 TW (AW 0) (AW 1)) (g2 TW (AW 0) (gC (.int 10))))))
def rC:Mr:=QC 1 Vb
theorem zOA:FnScope ["which"] ["which"] (J4 Gv):=SI
theorem zM0{K:AD}(Fn:Fun K "_law_only" "_law_only" Gv f fd)(T:Bt mg) :FnOk P w K mg base LP 1 f fd ["which"] (NQ K 1 rC) :=
 T1 Fn zOA λG3 A outer s H E hr=>by
  have hu:=hr.units;unfold Vb;exact(JK (O6 (pA8 (ZL (own:=["k"]) (CG:=["which"]) (js:=[0]) (cn rfl) rfl (gO T.b_range F8) (λC s H fp=>(P7 0)) (λC s H fp=>ZM) (λC s H fp=>(yIR (uH hu (CD 0) (CD 1)) (Xn (uH hu (CD 0) F8))))))))
def Vf:GS :=
 (FQ (HZ (.nm 3) (g2 EG (AW 0) (gC (.int 0))))
 (FQ (SF 4 (g2 iM (JF [(gC .non)]) (AW 3)))
 (FQ (LM (gB (g2 PK (AW 1) (AW 2)))
 (NA (AW 4))
 NC)
 (FQ (HZ (.nm 5) (HB lI [(AW 0)]))
 (FQ (HZ (.nm 6) (KY (OU (AW 3)) 1 [2] (.nm 0) K4 (g2 PK (AW 0) (AW 1))))
 (FQ (RT 4 (AW 1) (gC (.int 0)))
 (FQ (HZ (.nm 7) (JF [(AW 1)]))
 (FQ (YG (RB (AW 7))
 (FQ (SF 8 (JF []))
 (FQ (P4 (IK (AW 7)) (.nm 9)
 (P4 (IK (g2 EG (AW 5) (AW 9))) (.nm 10)
 (LM (T2 [4] (WK (gB (g2 rN (g2 EG (AW 4) (AW 10)) (gC .non))) (WL (RB (g2 EG (AW 6) (AW 10))))))
 (FQ (RT 4 (AW 10) (OP [4] (g2 NP (g2 EG (AW 4) (AW 9)) (gC (.int 1)))))
 (bH (P6 8 X9 [(AW 10)])))
 NC)))
 (HZ (.nm 7) (AW 8)))) 100000)
 (NA (AW 4))))))))))
def Ai:Mr:=QC 11 Vf
theorem FM:FnScope ["net","start","closed","many","away","nexts","shut","layer","further","place","head"] ["net","start","closed"] (J4 Hc):=SI
theorem zKW{K:AD}(Fn:Fun K "lanes_away" "lanes_away" Hc f fd)(T:Bt mg)(UE:K9 P w K mg base "next_places" 1 1 lI):FnOk P w K mg base LP 2 f fd ["net","start","closed"] (NQ K 3 Ai) :=
 T1 Fn FM λG3 A outer s H E hr=>by
  have hu:=hr.units;unfold Vf
  exact(HI (OD (i:=3) FM.nd rfl (BN rfl) (K8 hu (CD 0) F8))
   (HI (bN (i:=4) FM.nd rfl (BN rfl) (Xf (DJ nC EM) (CD 3)))
   (HI (TU (yC hu (CD 1) (CD 2))
   (JK (O6 (CD 4)))
   T4)
   (HI (OD (i:=5) FM.nd rfl (BN rfl) (O5 UE (hr.mono 'd') (DJ (CD 0) EM)))
   (HI (Ag (i:=6) (own:=["place"]) (CG:=["closed"]) (js:=[2]) (cn rfl) rfl (gO T.b_range (CD 3)) (λC s H fp=>(P7 0)) (λC s H fp=>ZM) (λC s H fp=>(yIU hu (CD 0) (CD 1))) FM.nd rfl rfl rfl)
   (HI (cX 4 hu (CD 1) F8)
   (HI (OD (i:=7) FM.nd rfl (BN rfl) (pA8 (TR (DJ (CD 1) EM))))
   (HI (Fs 100000 DE (gK (CD 7))
   (HI (bN (i:=8) FM.nd rfl (BN rfl) (TR EM))
   (HI (cT DE rfl (T6 (CD 7)) (XX (i:=9) FM.nd rfl (BN rfl))
   (JK (cT DE rfl (T6 (K8 hu (CD 5) (CD 9))) (XX (i:=10) FM.nd rfl (BN rfl))
   (JK (TU (nK [4] (VW.t (qJ (yDN (K8 hu (CD 4) (CD 10)) nC) (qQ (nL (gK (K8 hu (CD 6) (CD 10))))))))
   (HI (cX 4 hu (CD 10) (ZJ [4] (aA (K8 hu (CD 4) (CD 9)) F8)))
   (JK (tU (Fe 8 (DJ (CD 10) EM)))))
   T4)))))
   (JK (OD (i:=7) FM.nd rfl (BN rfl) (CD 8))))))
   (JK (O6 (CD 4)))))))))))
def Vl:GS :=
 (FQ (SF 2 (gN kP [(AW 1)]))
 (FQ (SF 3 (JF []))
 (FQ (YG (T2 [2] (gB (g2 IL (AW 2) (JF []))))
 (bH (P6 3 X9 [(P6 2 aB [(HV IS 0 [(OP [2] (gN NO [(AW 2)]))])])])) 100000)
 (NA (AW 3)))))
def lK:Mr:=QC 4 Vl
theorem KN:FnScope ["bag","some","left","found"] ["bag","some"] (J4 Hm):=SI
theorem zG2{K:AD}(Fn:Fun K "_law_shuffled" "_law_shuffled" Hm f fd)(T:Bt mg)(CQ:K9 P w K mg base "_law_take" 1 2 IS):FnOk P w K mg base LP 2 f fd ["bag","some"] (NQ K 2 lK) :=
 T1 Fn KN λG3 A outer s H E hr=>by
  have hu:=hr.units;unfold Vl
  exact(HI (bN (i:=2) KN.nd rfl (BN rfl) (yS rfl T.b_list (DJ (CD 1) EM)))
   (HI (bN (i:=3) KN.nd rfl (BN rfl) (TR EM))
   (HI (Fs 100000 DE (nK [2] (U9 hu (CD 2) (pA8 (TR EM))))
   (JK (tU (Fe 3 (DJ (Qk 2 (DJ (QY 0 CQ (hr.mono 'd') (DJ (ZJ [2] (iT T.b_len (DJ (CD 2) EM))) EM)) EM)) EM)))))
   (JK (O6 (CD 3))))))
def Vo:GS :=
 (FQ (HZ (.nm 2) (KY (OU (g2 EG (AW 0) (gC (.int 0)))) 1 [1] (.nm 0) (gB (g2 IL (AW 0) (AW 1))) (AW 0)))
 (FQ (P4 (IK (AW 2)) (.nm 3)
 (FQ (HZ (.nm 4) (HB XZ [(AW 0),(AW 3),(AW 1)]))
 (LM (gB (g2 IL (KY (IK (HB XZ [(AW 0),(AW 3),(gC .non)])) 1 [1,4] (.nm 0) (WK (gB (g2 IL (AW 0) (AW 1))) (gB (g2 T3 (AW 0) (AW 2)))) (AW 0)) (JF [])))
 (NA (gC (.bl AK)))
 NC)))
 (NA (gC (.bl AC)))))
def rK:Mr:=QC 5 Vo
theorem JM:FnScope ["net","place","others","one","left"] ["net","place"] (J4 Hi):=SI
theorem zIA{K:AD}(Fn:Fun K "_law_is_post" "_law_is_post" Hi f fd)(T:Bt mg)(K2:K9 P w K mg base "_law_reach" 1 3 XZ):FnOk P w K mg base LP 2 f fd ["net","place"] (NQ K 2 rK) :=
 T1 Fn JM λG3 A outer s H E hr=>by
  have hu:=hr.units;unfold Vo
  exact(HI (Ag (i:=2) (own:=["one"]) (CG:=["place"]) (js:=[1]) (cn rfl) rfl (gO T.b_range (K8 hu (CD 0) F8)) (λC s H fp=>(P7 0)) (λC s H fp=>(gG (U9 hu (CD 0) (CD 1)))) (λC s H fp=>(CD 0)) JM.nd rfl rfl rfl)
   (HI (cT DE rfl (T6 (CD 2)) (XX (i:=3) JM.nd rfl (BN rfl))
   (HI (OD (i:=4) JM.nd rfl (D2 rfl) (O5 K2 (hr.mono 'd') (DJ (CD 0) (DJ (CD 3) (DJ (CD 1) EM)))))
   (JK (TU (U9 hu (pA8 (ZL (own:=["other"]) (CG:=["place","left"]) (js:=[1,4]) (cn rfl) rfl (T6 (O5 K2 (hr.mono 'd') (DJ (CD 0) (DJ (CD 3) (DJ nC EM))))) (λC s H fp=>(P7 0)) (λC s H fp=>(gG (VW.t (qJ (U9 hu (CD 0) (CD 1)) (qQ (t8 hu (CD 0) (CD 2))))))) (λC s H fp=>(CD 0)))) (pA8 (TR EM)))
   (JK (O6 Z8))
   T4))))
   (JK (O6 Z8))))
def Vn:GS :=
 (FQ (HZ (.nm 3) (HB Ai [(AW 0),(AW 1),(AW 2)]))
 (NA (gN ZF [(KY (Dj (AW 3)) 2 [] (.tp [(.nm 0),(.nm 1)]) (gB (g2 sV (AW 1) (gC .non))) (AW 0))])))
def lJ:Mr:=QC 4 Vn
theorem NX:FnScope ["net","gate","closed","away"] ["net","gate","closed"] (J4 Hh):=SI
theorem zIB{K:AD}(Fn:Fun K "reached_past" "reached_past" Hh f fd)(T:Bt mg)(V4:K9 P w K mg base "lanes_away" 2 3 Ai):FnOk P w K mg base LP 3 f fd ["net","gate","closed"] (NQ K 3 lJ) :=
 T1 Fn NX λG3 A outer s H E hr=>by
  have hu:=hr.units;unfold Vn
  exact(HI (OD (i:=3) NX.nd rfl (BN rfl) (O5 V4 (hr.mono 'd') (DJ (CD 0) (DJ (CD 1) (DJ (CD 2) EM)))))
   (JK (O6 (iZ T.b_tuple (DJ (pA8 (ZL (own:=["place","steps"]) (CG:=[]) (js:=[]) (cn rfl) rfl (zV9 T.b_enumerate (CD 3)) (λC s H fp=>(qI rfl (bO (P7 0) (bO (P7 1) qP)))) (λC s H fp=>(gG (zZJ (CD 1) nC))) (λC s H fp=>(CD 0)))) EM)))))
def Uh:GS :=
 (FQ (HZ (.nm 2) (g2 EG (JF [(AW 1),(g2 NP (gC (.int 1)) (HV IS 0 [(AW 1)])),(g2 NP (gC (.int 1)) (HV IS 0 [(gN iS [(gC (.int 7)),(AW 1)])]))]) (HV IS 0 [(gC (.int 3))])))
 (FQ (HZ (.nm 3) (HV IS 0 [(gC (.int 4))]))
 (FQ (HZ (.nm 4) (g2 EG (JF [(gC (.int 0)),(gC (.int 1)),(HV IS 0 [(g2 NP (AW 2) (gC (.int 1)))]),(g2 NP (AW 2) (HV IS 0 [(g2 X7 (gC (.int 5)) (AW 2))])),(gC (.int 120))]) (HV IS 0 [(gC (.int 5))])))
 (FQ (SF 5 (gC (.dt [])))
 (FQ (P4 (nG (gC (.int 1)) (AW 2)) (.nm 6)
 (LM (gB (g2 bP (AW 3) (gC (.int 3))))
 (RT 5 (MG [(g2 EG (JF [(HV IS 0 [(AW 6)]),(g2 fS (g2 fS (AW 6) (gC (.int 1))) (HV IS 0 [(gN iS [(AW 6),(gC (.int 2))])])),(gC (.int 0))]) (AW 3)),(AW 6)]) (gC (.bl AK)))
 NC))
 (FQ (P4 (OU (AW 4)) (.nm 7)
 (FQ (HZ (.nm 8) (HV IS 0 [(AW 2)]))
 (FQ (HZ (.nm 9) (g2 EG (JF [(HV IS 0 [(AW 2)]),(g2 UU (g2 NP (g2 NP (AW 8) (gC (.int 1))) (HV IS 0 [(gC (.int 2))])) (AW 2))]) (HV IS 0 [(gC (.int 2))])))
 (LM (T2 [5] (WK (gB (g2 IL (AW 8) (AW 9))) (gB (g2 bP (gN NO [(AW 5)]) (gC (.int 120))))))
 (RT 5 (MG [(AW 8),(AW 9)]) (gC (.bl AK)))
 NC))))
 (FQ (HZ (.nm 10) (HV lK 0 [(uR (AW 2))]))
 (FQ (HZ (.nm 11) (g2 EG (JF [(g2 EG (AW 10) (gC (.int 0))),(g2 EG (AW 10) (gC (.int 0))),(HV IS 0 [(AW 2)])]) (HV IS 0 [(gC (.int 3))])))
 (NA (OP [5] (MG [(MG [(AW 2),(gN ZF [(gN kQ [(KY (IK (AW 5)) 2 [10] (.tp [(.nm 0),(.nm 1)]) K4 (MG [(g2 EG (AW 2) (AW 0)),(g2 EG (AW 2) (AW 1))]))])])]),(AW 11)])))))))))))
def rA:Mr:=QC 12 Uh
theorem GD:FnScope ["bag","most","many","way","more","lanes","k","turn","one","other","names","gate"] ["bag","most"] (J4 Gn):=SI
theorem zOB{K:AD}(Fn:Fun K "_law_net" "_law_net" Gn f fd)(T:Bt mg)(CQ:K9 P w K mg base "_law_take" 1 2 IS)(KO:K9 P w K mg base "_law_shuffled" 2 2 lK):FnOk P w K mg base LP 3 f fd ["bag","most"] (NQ K 2 rA) :=
 T1 Fn GD λG3 A outer s H E hr=>by
  have hu:=hr.units;unfold Uh
  exact(HI (OD (i:=2) GD.nd rfl (BN rfl) (K8 hu (pA8 (TR (DJ (CD 1) (DJ (aA F8 (QY 0 CQ (hr.mono 'd') (DJ (CD 1) EM))) (DJ (aA F8 (QY 0 CQ (hr.mono 'd') (DJ (On rfl T.b_min (DJ F8 (DJ (CD 1) EM))) EM))) EM))))) (QY 0 CQ (hr.mono 'd') (DJ F8 EM))))
   (HI (OD (i:=3) GD.nd rfl (BN rfl) (QY 0 CQ (hr.mono 'd') (DJ F8 EM)))
   (HI (OD (i:=4) GD.nd rfl (BN rfl) (K8 hu (pA8 (TR (DJ F8 (DJ F8 (DJ (QY 0 CQ (hr.mono 'd') (DJ (aA (CD 2) F8) EM)) (DJ (aA (CD 2) (QY 0 CQ (hr.mono 'd') (DJ (yA F8 (CD 2)) EM))) (DJ F8 EM))))))) (QY 0 CQ (hr.mono 'd') (DJ F8 EM))))
   (HI (bN (i:=5) GD.nd rfl (BN rfl) zZ3)
   (HI (cT DE rfl (Sv T.b_range F8 (CD 2)) (XX (i:=6) GD.nd rfl (BN rfl))
   (JK (TU (Cu hu (CD 3) F8)
   (JK (cX 5 hu (WJ (DJ (K8 hu (pA8 (TR (DJ (QY 0 CQ (hr.mono 'd') (DJ (CD 6) EM)) (DJ (yB (yB (CD 6) F8) (QY 0 CQ (hr.mono 'd') (DJ (On rfl T.b_min (DJ (CD 6) (DJ F8 EM))) EM))) (DJ F8 EM))))) (CD 3)) (DJ (CD 6) EM))) Z8))
   T4)))
   (HI (cT DE rfl (gO T.b_range (CD 4)) (XX (i:=7) GD.nd rfl (BN rfl))
   (HI (OD (i:=8) GD.nd rfl (BN rfl) (QY 0 CQ (hr.mono 'd') (DJ (CD 2) EM)))
   (HI (OD (i:=9) GD.nd rfl (BN rfl) (K8 hu (pA8 (TR (DJ (QY 0 CQ (hr.mono 'd') (DJ (CD 2) EM)) (DJ (kT (aA (aA (CD 8) F8) (QY 0 CQ (hr.mono 'd') (DJ F8 EM))) (CD 2)) EM)))) (QY 0 CQ (hr.mono 'd') (DJ F8 EM))))
   (JK (TU (nK [5] (VW.t (qJ (U9 hu (CD 8) (CD 9)) (qQ (Cu hu (iT T.b_len (DJ (CD 5) EM)) F8)))))
   (JK (cX 5 hu (WJ (DJ (CD 8) (DJ (CD 9) EM))) Z8))
   T4)))))
   (HI (OD (i:=10) GD.nd rfl (D2 rfl) (QY 0 KO (hr.mono 'd') (DJ (pA8 (Uz rfl T.b_range T.b_list (CD 2))) EM)))
   (HI (OD (i:=11) GD.nd rfl (BN rfl) (K8 hu (pA8 (TR (DJ (K8 hu (CD 10) F8) (DJ (K8 hu (CD 10) F8) (DJ (QY 0 CQ (hr.mono 'd') (DJ (CD 2) EM)) EM))))) (QY 0 CQ (hr.mono 'd') (DJ F8 EM))))
   (JK (O6 (ZJ [5] (WJ (DJ (WJ (DJ (CD 2) (DJ (iZ T.b_tuple (DJ (pA8 (Rv T.b_sorted (DJ (pA8 (ZL (own:=["one","other"]) (CG:=["names"]) (js:=[10]) (cn rfl) rfl (T6 (CD 5)) (λC s H fp=>(qI rfl (bO (P7 0) (bO (P7 1) qP)))) (λC s H fp=>ZM) (λC s H fp=>(WJ (DJ (K8 hu (CD 2) (CD 0)) (DJ (K8 hu (CD 2) (CD 1)) EM)))))) EM))) EM)) EM))) (DJ (CD 11) EM))))))))))))))
def Vm:GS :=
 (FQ (HZ (.nm 2) (HV lK 0 [(uR (g2 EG (AW 1) (gC (.int 0))))]))
 (FQ (SF 3 (gN tD [(KY (IK (k7 (g2 EG (AW 1) (gC (.int 1))) AL (AA (HV IS 0 [(gC (.int 97))])))) 1 [] (.nm 0) K4 (MG [(AW 0),(gC (.bl AK))]))]))
 (FQ (P4 (OU (g2 EG (AW 1) (gC (.int 0)))) (.nm 4)
 (LM (gB (g2 jB (g2 EG (AW 1) (gC (.int 0))) (gC (.int 1))))
 (RT 3 (MG [(g2 EG (AW 2) (g2 fS (AW 4) (gC (.int 1)))),(g2 EG (AW 2) (AW 4))]) (gC (.bl AK)))
 NC))
 (FQ (SF 5 (sY [3] (gN tB [(AW 3)])))
 (FQ (P4 (OU (g2 EG (JF [(gC (.int 0)),(gC (.int 0)),(gC (.int 0)),(gC (.int 1)),(gC (.int 2))]) (HV IS 0 [(gC (.int 5))]))) (.nm 6)
 (LM (T2 [5] (gB (g2 IL (AW 5) (JF []))))
 (bH (P6 5 aB [(HV IS 0 [(OP [5] (gN NO [(AW 5)]))])]))
 NC))
 (NA (OP [5] (MG [(g2 EG (AW 1) (gC (.int 0))),(gN ZF [(AW 5)])]))))))))
def rJ:Mr:=QC 7 Vm
theorem G5:FnScope ["bag","net","names","lanes","k","row","turn"] ["bag","net"] (J4 Hg):=SI
theorem zIC{K:AD}(Fn:Fun K "_law_rounded" "_law_rounded" Hg f fd)(T:Bt mg)(KO:K9 P w K mg base "_law_shuffled" 2 2 lK)(CQ:K9 P w K mg base "_law_take" 1 2 IS):FnOk P w K mg base LP 3 f fd ["bag","net"] (NQ K 2 rJ) :=
 T1 Fn G5 λG3 A outer s H E hr=>by
  have hu:=hr.units;unfold Vm
  exact(HI (OD (i:=2) G5.nd rfl (BN rfl) (QY 0 KO (hr.mono 'd') (DJ (pA8 (Uz rfl T.b_range T.b_list (K8 hu (CD 1) F8))) EM)))
   (HI (bN (i:=3) G5.nd rfl (BN rfl) (yAE rfl hu T.b_dict (DJ (pA8 (ZL (own:=["lane"]) (CG:=[]) (js:=[]) (cn rfl) rfl (T6 (Qm (K8 hu (CD 1) F8) zZW (Es (QY 0 CQ (hr.mono 'd') (DJ F8 EM))))) (λC s H fp=>(P7 0)) (λC s H fp=>ZM) (λC s H fp=>(WJ (DJ (CD 0) (DJ Z8 EM)))))) EM)))
   (HI (cT DE rfl (gO T.b_range (K8 hu (CD 1) F8)) (XX (i:=4) G5.nd rfl (BN rfl))
   (JK (TU (Ct (K8 hu (CD 1) F8) F8)
   (JK (cX 3 hu (WJ (DJ (K8 hu (CD 2) (yB (CD 4) F8)) (DJ (K8 hu (CD 2) (CD 4)) EM))) Z8))
   T4)))
   (HI (bN (i:=5) G5.nd rfl (BN rfl) (Xa [3] (zTL rfl T.b_sorted (DJ (CD 3) EM))))
   (HI (cT DE rfl (gO T.b_range (K8 hu (pA8 (TR (DJ F8 (DJ F8 (DJ F8 (DJ F8 (DJ F8 EM))))))) (QY 0 CQ (hr.mono 'd') (DJ F8 EM)))) (XX (i:=6) G5.nd rfl (BN rfl))
   (JK (TU (nK [5] (U9 hu (CD 5) (pA8 (TR EM))))
   (JK (tU (Qk 5 (DJ (QY 0 CQ (hr.mono 'd') (DJ (ZJ [5] (iT T.b_len (DJ (CD 5) EM))) EM)) EM))))
   T4)))
   (JK (O6 (ZJ [5] (WJ (DJ (K8 hu (CD 1) F8) (DJ (iZ T.b_tuple (DJ (CD 5) EM)) EM)))))))))))
def Ti:GS :=
 (NA (HB lJ [(AW 0),(AW 1),(MG [])]))
def W7:Mr:=QC 2 Ti
theorem zTN:FnScope ["net","gate"] ["net","gate"] (J4 Gc):=SI
theorem zQT{K:AD}(Fn:Fun K "reached" "reached" Gc f fd)(T:Bt mg)(IC:K9 P w K mg base "reached_past" 3 3 lJ):FnOk P w K mg base LP 4 f fd ["net","gate"] (NQ K 2 W7) :=
 T1 Fn zTN λG3 A outer s H E hr=>by
  have hu:=hr.units;unfold Ti;exact(JK (O6 (O5 IC (hr.mono 'd') (DJ (CD 0) (DJ (CD 1) (DJ (WJ EM) EM))))))
def Th:GS :=
 (FQ (HZ (.nm 3) (HB W7 [(AW 0),(AW 1)]))
 (FQ (LM (gB (g2 T3 (AW 2) (AW 3)))
 Aq
 NC)
 (FQ (HZ (.nm 4) (HB lJ [(AW 0),(AW 1),(MG [(AW 2)])]))
 (NA (gN ZF [(KY (IK (AW 3)) 1 [4] (.nm 0) (gB (g2 T3 (AW 0) (AW 1))) (AW 0))])))))
def nU:Mr:=QC 5 Th
theorem QF:FnScope ["net","gate","place","all_reached","still"] ["net","gate","place"] (J4 Gb):=SI
theorem zQU{K:AD}(Fn:Fun K "cut_off" "cut_off" Gb f fd)(T:Bt mg)(J6:K9 P w K mg base "reached" 4 2 W7)(IC:K9 P w K mg base "reached_past" 3 3 lJ):FnOk P w K mg base LP 5 f fd ["net","gate","place"] (NQ K 3 nU) :=
 T1 Fn QF λG3 A outer s H E hr=>by
  have hu:=hr.units;unfold Th
  exact(HI (OD (i:=3) QF.nd rfl (BN rfl) (O5 J6 (hr.mono 'd') (DJ (CD 0) (DJ (CD 1) EM))))
   (HI (TU (t8 hu (CD 2) (CD 3))
   (JK Ov)
   T4)
   (HI (OD (i:=4) QF.nd rfl (D2 rfl) (O5 IC (hr.mono 'd') (DJ (CD 0) (DJ (CD 1) (DJ (WJ (DJ (CD 2) EM)) EM)))))
   (JK (O6 (iZ T.b_tuple (DJ (pA8 (ZL (own:=["other"]) (CG:=["still"]) (js:=[4]) (cn rfl) rfl (T6 (CD 3)) (λC s H fp=>(P7 0)) (λC s H fp=>(gG (t8 hu (CD 0) (CD 1)))) (λC s H fp=>(CD 0)))) EM)))))))
def Vj:GS :=
 (FQ (HZ (.nm 3) (HB lJ [(AW 0),(AW 2),(MG [(AW 1)])]))
 (NA (KY (IK (HB W7 [(AW 0),(AW 2)])) 1 [3,1] (.nm 0) (WK (gB (g2 T3 (AW 0) (AW 1))) (gB (g2 IL (AW 0) (AW 2)))) (AW 0))))
def rH:Mr:=QC 4 Vj
theorem OQ:FnScope ["net","place","one","still"] ["net","place","one"] (J4 Hl):=SI
theorem zIU{K:AD}(Fn:Fun K "parted_from" "parted_from" Hl f fd)(T:Bt mg)(IC:K9 P w K mg base "reached_past" 3 3 lJ)(J6:K9 P w K mg base "reached" 4 2 W7):FnOk P w K mg base LP 5 f fd ["net","place","one"] (NQ K 3 rH) :=
 T1 Fn OQ λG3 A outer s H E hr=>by
  have hu:=hr.units;unfold Vj
  exact(HI (OD (i:=3) OQ.nd rfl (D2 rfl) (O5 IC (hr.mono 'd') (DJ (CD 0) (DJ (CD 2) (DJ (WJ (DJ (CD 1) EM)) EM)))))
   (JK (O6 (pA8 (ZL (own:=["other"]) (CG:=["still","place"]) (js:=[3,1]) (cn rfl) rfl (T6 (O5 J6 (hr.mono 'd') (DJ (CD 0) (DJ (CD 2) EM)))) (λC s H fp=>(P7 0)) (λC s H fp=>(gG (VW.t (qJ (t8 hu (CD 0) (CD 1)) (qQ (U9 hu (CD 0) (CD 2))))))) (λC s H fp=>(CD 0)))))))
def Vi:GS :=
 (NA (gN mY [(KY (IK (MG [(AW 0),(HB XY [(AW 0)])])) 1 [0] (.nm 0) K4 (g2 TW (gN NO [(HB W7 [(AW 0),(gC (.int 0))])]) (g2 EG (AW 1) (gC (.int 0)))))]))
def cZ:Mr:=QC 1 Vi
theorem zKX:FnScope ["net"] ["net"] (J4 Hk):=SI
theorem zIV{K:AD}(Fn:Fun K "leads_round" "leads_round" Hk f fd)(T:Bt mg)(J6:K9 P w K mg base "reached" 4 2 W7)(MN:K9 P w K mg base "turned" 1 1 XY):FnOk P w K mg base LP 5 f fd ["net"] (NQ K 1 cZ) :=
 T1 Fn zKX λG3 A outer s H E hr=>by
  have hu:=hr.units;unfold Vi;exact(JK (O6 (Xp rfl T.b_all (DJ (pA8 (ZL (own:=["side"]) (CG:=["net"]) (js:=[0]) (cn rfl) rfl (T6 (WJ (DJ (CD 0) (DJ (O5 MN (hr.mono 'd') (DJ (CD 0) EM)) EM)))) (λC s H fp=>(P7 0)) (λC s H fp=>ZM) (λC s H fp=>(uH hu (iT T.b_len (DJ (O5 J6 (hr.mono 'd') (DJ (CD 0) (DJ F8 EM))) EM)) (K8 hu (CD 1) F8))))) EM))))
def Ga(zBA:Mr):GS :=
 (FQ (LM (RB (kN "tuple" (AW 1)))
 (FQ (LM (bF (WL (RB (kN "tuple" (AW 0)))) (gB (g2 IL (gN NO [(AW 0)]) (gN NO [(AW 1)]))))
 (NA (gC (.bl AC)))
 NC)
 (NA (gN mY [(KY (Ho (AW 0) (AW 1)) 2 [] (.tp [(.nm 0),(.nm 1)]) K4 (HB zBA [(AW 0),(AW 1)]))])))
 NC)
 (NA (Hr (Hq (kN "bool" (AW 0))) (g2 TW (AW 0) (AW 1)))))
def zBA:Nat->Mr
 |0=>λ_=>.bad
 |n+1=>QC 2 (Ga (zBA n))
theorem zTO:FnScope ["found","due"] ["found","due"] (J4 Gh):=SI
theorem Ug{P:CU}{w:D8}{K:AD}{mg:C2->Option AJ}{base:D7}{f:AT}{fd:JZ}(Fn:Fun K "_law_is" "_law_is" Gh f fd)(T:Bt mg)(hm:mg "_law_is"=AA (.ref f))(hb:Binds K fd ["found","due"] []) :∀n:Nat,FnOk P w K mg base LP (n+0) f fd ["found","due"] (NQ K 2 (zBA n))
 |0=>yEE
 |n+1=>by
  have QJ:K9 P w K mg base "_law_is" (n+0) 2 (zBA n):=Fun.cal Fn (Ug Fn T hm hb  n) hm hb;have hl:n+1+0=(n+0)+1:=by lia
  rw[hl];show FnOk P w K mg base LP ((n+0)+1) f fd ["found","due"] (NQ K 2 (QC 2 (Ga (zBA n))))
  exact T1 Fn zTO λG3 A outer s H E hr=>by
   have hu:=hr.units;unfold Ga
   exact(HI (TU (gK (yR Sx T.b_isinstance T.b_tuple (by decide +kernel) (CD 1)))
   (HI (TU (VW.t (yF (nL (gK (yR Sx T.b_isinstance T.b_tuple (by decide +kernel) (CD 0)))) (yV (U9 hu (iT T.b_len (DJ (CD 0) EM)) (iT T.b_len (DJ (CD 1) EM))))))
   (JK (O6 Z8))
   T4)
   (JK (O6 (Xp rfl T.b_all (DJ (pA8 (ZL (own:=["one","other"]) (CG:=[]) (js:=[]) (cn rfl) rfl (yEB T.b_zip (CD 0) (CD 1)) (λC s H fp=>(qI rfl (bO (P7 0) (bO (P7 1) qP)))) (λC s H fp=>ZM) (λC s H fp=>(O5 QJ (hr.mono 'l') (DJ (CD 0) (DJ (CD 1) EM)))))) EM)))))
   T4)
   (JK (O6 (yGF (yGG (yR Ru T.b_isinstance T.b_bool (by decide +kernel) (CD 0))) (Xn (uH hu (CD 0) (CD 1)))))))
def Tf:GS :=
 (FQ (HZ (.nm 2) (bL (IK (HB W7 [(AW 0),(AW 1)])) 1 [0,1] (.dk []) (.nm 0) K4 (qF (AW 0) (HB nU [(AW 1),(AW 2),(AW 0)]))))
 (FQ (SF 3 (g2 iM (JF [(gC .non)]) (g2 EG (AW 0) (gC (.int 0)))))
 (FQ (sU (gN kP [(AW 2)]) [2] (g1 uG (gN NO [(g2 EG (AW 1) (AW 0))])) (.nm 4)
 (P4 (IK (g2 EG (AW 2) (AW 4))) (.nm 5)
 (LM (gB (g2 IL (AW 5) (AW 4)))
 (RT 3 (AW 5) (AW 4))
 NC)) [4,5])
 (FQ (RT 3 (AW 1) (AW 1))
 (NA (OP [3] (gN ZF [(AW 3)])))))))
def WO:Mr:=QC 6 Tf
theorem MK:FnScope ["net","gate","cuts","held","place","below"] ["net","gate"] (J4 qW):=SI
theorem zQV{K:AD}(Fn:Fun K "holders" "holders" qW f fd)(T:Bt mg){cc TT:AT}(MM:fd.code=.ref cc)(hC:LJ base cc TT)(hT:TB K TT ("holders"++".<locals>.<lambda>"))(aR:K9 P w K mg base "cut_off" 5 3 nU)(J6:K9 P w K mg base "reached" 4 2 W7):FnOk P w K mg base LP 6 f fd ["net","gate"] (NQ K 2 WO) :=
 Xm Fn MK λG3 A outer s H E Mz hr=>by
  have hu:=hr.units;have Mz:=Mz.trans MM;unfold Tf
  exact(HI (OD (i:=2) MK.nd rfl (D2 rfl) (pA8 (zZ8 (own:=["place"]) (CG:=["net","gate"]) (js:=[0,1]) (cn rfl) rfl (T6 (O5 J6 (hr.mono 'd') (DJ (CD 0) (DJ (CD 1) EM)))) (λC s H fp=>(P7 0)) (λC s H fp=>ZM) (λC s H fp=>(CD 0)) (λC s H fp=>(O5 aR (hr.mono 'd') (DJ (CD 1) (DJ (CD 2) (DJ (CD 0) EM))))))))
   (HI (bN (i:=3) MK.nd rfl (BN rfl) (Xf (DJ nC EM) (K8 hu (CD 0) F8)))
   (HI (yAA DE rfl T.b_sorted (pA8 (yS rfl T.b_list (DJ (CD 2) EM))) ({{rfl,rfl,rfl,rfl,by decide +kernel,by decide +kernel,rfl,(dG rfl),rfl,(dG (by first|exact BN rfl|exact D2 rfl)),(dG rfl),rfl},hr.mono 'd',Mz,hC,hT,{"holders"++".<locals>.",rfl,(by decide +kernel:("holders"++".<locals>.":C2)++("<lambda>":C2)=("holders"++".<locals>.<lambda>":C2))},rfl,λ_ _ _ _=>rfl}:LamOk _ _ _ "must" ["cuts"] [2] _ _ _ _ _) (λf c s H=>yGO (hr.mono 'd') λhu=>(yGJ (iT T.b_len (DJ (K8 hu (CD 1) (CD 0)) EM)))) (XX (i:=4) MK.nd rfl (BN rfl))
   (JK (cT DE rfl (T6 (K8 hu (CD 2) (CD 4))) (XX (i:=5) MK.nd rfl (BN rfl))
   (JK (TU (U9 hu (CD 5) (CD 4))
   (JK (cX 3 hu (CD 5) (CD 4)))
   T4)))))
   (HI (cX 3 hu (CD 1) (CD 1))
   (JK (O6 (ZJ [3] (iZ T.b_tuple (DJ (CD 3) EM)))))))))
def Uq:GS :=
 (FQ (HZ (.nm 2) (KY (OU (g2 EG (AW 0) (gC (.int 0)))) 1 [1] (.nm 0) (gB (g2 IL (AW 0) (AW 1))) (AW 0)))
 (NA (gN ZF [(bL (IK (AW 2)) 2 [1,0] (.lst []) (.nm 0) K4 (k8 (IK (HB rH [(AW 3),(AW 2),(AW 0)])) (.nm 1) K4 (bG (MG [(AW 0),(AW 1)]))))])))
def nY:Mr:=QC 3 Uq
theorem QZ:FnScope ["net","place","ones"] ["net","place"] (J4 Gu):=SI
theorem zM4{K:AD}(Fn:Fun K "parted_by" "parted_by" Gu f fd)(T:Bt mg)(UD:K9 P w K mg base "parted_from" 5 3 rH):FnOk P w K mg base LP 6 f fd ["net","place"] (NQ K 2 nY) :=
 T1 Fn QZ λG3 A outer s H E hr=>by
  have hu:=hr.units;unfold Uq
  exact(HI (Ag (i:=2) (own:=["one"]) (CG:=["place"]) (js:=[1]) (cn rfl) rfl (gO T.b_range (K8 hu (CD 0) F8)) (λC s H fp=>(P7 0)) (λC s H fp=>(gG (U9 hu (CD 0) (CD 1)))) (λC s H fp=>(CD 0)) QZ.nd rfl rfl rfl)
   (JK (O6 (iZ T.b_tuple (DJ (pA8 (Qp (own:=["one","other"]) (CG:=["place","net"]) (js:=[1,0]) (cn rfl) rfl (T6 (CD 2)) (λC s H fp=>(P7 0)) (λC s H fp=>ZM) (λC s H fp=>(T6 (O5 UD (hr.mono 'd') (DJ (CD 3) (DJ (CD 2) (DJ (CD 0) EM)))))) (λC s H fp=>(P7 1)) (λC s H fp=>ZM) (λC s H fp=>(WJ (DJ (CD 0) (DJ (CD 1) EM)))))) EM)))))
def Qb:GS :=
 (FQ (LM (WL (RB (HB cZ [(AW 0)])))
 Aq
 NC)
 (FQ (HZ (.nm 1) (bL (IK (MG [(AW 0),(HB XY [(AW 0)])])) 2 [] (.lst []) (.nm 0) K4 (k8 (IK (HB WO [(AW 0),(gC (.int 0))])) (.nm 1) K4 (bG (AW 1)))))
 (FQ (SF 2 (KY (nG (gC (.int 1)) (g2 EG (AW 0) (gC (.int 0)))) 1 [1] (.nm 0) (gB (g2 PK (AW 0) (AW 1))) (AW 0)))
 (FQ (LM (gB (g2 IL (HB nY [(AW 0),(gC (.int 0))]) (MG [])))
 (bH (P6 2 n6 [(gC (.int 0)),(gC (.int 0))]))
 NC)
 (NA (OP [2] (gN ZF [(AW 2)])))))))
def gF:Mr:=QC 3 Qb
theorem RV:FnScope ["net","holding","found"] ["net"] (J4 zB):=SI
theorem zWM{K:AD}(Fn:Fun K "posts" "posts" zB f fd)(T:Bt mg)(IX:K9 P w K mg base "leads_round" 5 1 cZ)(Q3:K9 P w K mg base "parted_by" 6 2 nY)(OF:K9 P w K mg base "holders" 6 2 WO)(MN:K9 P w K mg base "turned" 1 1 XY):FnOk P w K mg base LP 7 f fd ["net"] (NQ K 1 gF) :=
 T1 Fn RV λG3 A outer s H E hr=>by
  have hu:=hr.units;unfold Qb
  exact(HI (TU (nL (gK (O5 IX (hr.mono 'd') (DJ (CD 0) EM))))
   (JK Ov)
   T4)
   (HI (OD (i:=1) RV.nd rfl (D2 rfl) (pA8 (Qp (own:=["side","holder"]) (CG:=[]) (js:=[]) (cn rfl) rfl (T6 (WJ (DJ (CD 0) (DJ (O5 MN (hr.mono 'd') (DJ (CD 0) EM)) EM)))) (λC s H fp=>(P7 0)) (λC s H fp=>ZM) (λC s H fp=>(T6 (O5 OF (hr.mono 'd') (DJ (CD 0) (DJ F8 EM))))) (λC s H fp=>(P7 1)) (λC s H fp=>ZM) (λC s H fp=>(CD 1)))))
   (HI (zQE (i:=2) (own:=["place"]) (CG:=["holding"]) (js:=[1]) (cn rfl) rfl (Sv T.b_range F8 (K8 hu (CD 0) F8)) (λC s H fp=>(P7 0)) (λC s H fp=>(gG (yC hu (CD 0) (CD 1)))) (λC s H fp=>(CD 0)) RV.nd rfl rfl rfl)
   (HI (TU (U9 hu (O5 Q3 (hr.mono 'd') (DJ (CD 0) (DJ F8 EM))) (WJ EM))
   (JK (tU (zWK 2 (DJ F8 (DJ F8 EM)))))
   T4)
   (JK (O6 (ZJ [2] (iZ T.b_tuple (DJ (CD 2) EM)))))))))
def Rp:GX :=
 (Wp (WL (RB (HB cZ [(AW 0)]))) (Wq [(gC (.str "the net does not lead round"))]))
def zX:List D->Out Ev:=Wo 3 Rp
theorem zWN{K:AD}(Fn:Fun K "posts" "posts" zB f fd)(T:Bt mg)(hmC:mg "NoRound"=AA (.ref C))(Z:KB K C [.type "ValueError",.type "Exception",.type "BaseException",.type "object"] "ValueError.__new__"=AK)(IX:K9 P w K mg base "leads_round" 5 1 cZ)(Q3:K9 P w K mg base "parted_by" 6 2 nY)(OF:K9 P w K mg base "holders" 6 2 WO)(MN:K9 P w K mg base "turned" 1 1 XY):FnOk P w K mg base (X1 P w C) 7 f fd ["net"] (Bb K C 1 zX) :=
 yI0 Fn RV λG3 A outer s H E hr hh=>by
  have hu:=hr.units;unfold Rp;exact(yEL (nL (gK (O5 IX (hr.mono 'd') (DJ (CD 0) EM)))) (zTF PySem.F.excBase_ValueError Z hmC hh (DJ yGB EM)))
def Up:GS :=
 (FQ (HZ (.nm 1) (gC .non))
 (FQ (HZ (.nm 2) (JF []))
 (FQ (n8 (HZ (.nm 1) (HB gF [(AW 0)])) [(AW 0)] zX 2 3 [AC,AC,AC,AC,AC,AK,AC,AC,AC,AC,AK])
 (NA (uS (gB (g2 TW (AW 2) (JF []))) (AW 1) (AW 2))))))
def nX:Mr:=QC 4 Up
theorem KC:FnScope ["net","told","kinds","e"] ["net"] (J4 Gs):=SI
theorem zM5{K:AD}(Fn:Fun K "_law_told" "_law_told" Gs f fd)(T:Bt mg){fk:AT}(ts:TryS P w K mg base C WA fk [AC,AC,AC,AC,AC,AK,AC,AC,AC,AC,AK])(VN:Hn P w K mg base C "posts" 7 1 zX)(jX:K9 P w K mg base "posts" 7 1 gF):FnOk P w K mg base LP 8 f fd ["net"] (NQ K 1 nX) :=
 T1 Fn KC λG3 A outer s H E hr=>by
  have hu:=hr.units;unfold Up
  exact(HI (OD (i:=1) KC.nd rfl (BN rfl) nC)
   (HI (OD (i:=2) KC.nd rfl (BN rfl) (pA8 (TR EM)))
   (HI (yEM (ik:=2) (ie:=3) (OD (i:=1) KC.nd rfl (BN rfl) (O5 jX (hr.mono 'd') (DJ (CD 0) EM))) VN (hr.mono 'd') (DJ (CD 0) EM) ts.KK (hr.mono 'd') ts.hkf ts.hkk ts.hW ts.hx KC.nd rfl rfl 'd' rfl rfl)
   (JK (O6 (yIS (yGH hu (CD 2) (pA8 (TR EM))) (CD 1) (CD 2)))))))
def Wy:GS :=
 (FQ (P4 (IK (g2 NP (JF [(HB rF [(AW 0),(gC (.int 0))])]) (k7 (AW 0) (AA (gC (.int 1))) (AA (gC (.int 8)))))) (.nm 1)
 (FQ (SF 2 (qG rD [(AW 1),(gC (.int 0))]))
 (FQ (HZ (.nm 3) (g2 EG (HV rA 2 [(g2 EG (JF [(gC (.int 24)),(gC (.int 9))]) (HV IS 2 [(gC (.int 2))]))]) (gC (.int 0))))
 (FQ (LM (gB (g2 jB (HV IS 2 [(gC (.int 3))]) (gC (.int 0))))
 (HZ (.nm 3) (HV rJ 2 [(AW 3)]))
 NC)
 (FQ (HZ (.nm 4) (g2 TW (gN rM [(KY (OU (g2 EG (AW 3) (gC (.int 0)))) 1 [3] (.nm 0) K4 (gN NO [(HB XZ [(AW 1),(AW 0),(gC .non)])]))]) (g2 EG (AW 3) (gC (.int 0)))))
 (FQ (HZ (.nm 5) (HB cZ [(AW 3)]))
 (FQ (HZ (.nm 6) (HB nX [(AW 3)]))
 (FQ (LM (bF (WL (RB (kN "bool" (AW 5)))) (gB (g2 IL (AW 5) (AW 4))))
 (NA (gC (.bl AC)))
 NC)
 (LM (WL (RB (AW 4)))
 (LM (gB (g2 IL (AW 6) (HB rC [(gC (.int 5))])))
 (NA (gC (.bl AC)))
 NC)
 (FQ (HZ (.nm 7) (gN ZF [(KY (OU (g2 EG (AW 3) (gC (.int 0)))) 1 [3] (.nm 0) (RB (HB rK [(AW 1),(AW 0)])) (AW 0))]))
 (FQ (HZ (.nm 8) (HV IS 2 [(g2 EG (AW 3) (gC (.int 0)))]))
 (FQ (HZ (.nm 9) (KY (IK (MG [(AW 3),(HB XY [(AW 3)])])) 1 [8] (.nm 0) K4 (HB WO [(AW 0),(AW 1)])))
 (FQ (HZ (.nm 10) (KY (OU (g2 EG (AW 3) (gC (.int 0)))) 1 [8,9] (.nm 0) (WK (gB (g2 IL (AW 0) (AW 1))) (bF (gB (g2 PK (AW 0) (g2 EG (AW 2) (gC (.int 0))))) (gB (g2 PK (AW 0) (g2 EG (AW 2) (gC (.int 1))))))) (AW 0)))
 (LM (bF (WL (RB (HB (zBA 5) [(AW 6),(AW 7)]))) (gB (g2 IL (KY (IK (AW 7)) 1 [8] (.nm 0) (gB (g2 IL (AW 0) (AW 1))) (AW 0)) (AW 10))))
 (NA (gC (.bl AC)))
 NC))))))))))))))
 (NA (gC (.bl AK))))
def m_law:Mr:=QC 11 Wy
theorem NB:FnScope ["script","cell","bag","net","goes","found","told","due","gate","both","held"] ["script"] (J4 iQ):=SI
theorem yER{K:AD}(Fn:Fun K "law" "law" iQ f fd)(T:Bt mg)(XH:K9 P w K mg base "_law_well" 1 2 rD)(IX:K9 P w K mg base "leads_round" 5 1 cZ)(XI:K9 P w K mg base "_law_told" 8 1 nX)(XM:K9 P w K mg base "_law_cell" 1 2 rF)(YW:K9 P w K mg base "_law_net" 3 2 rA)(CQ:K9 P w K mg base "_law_take" 1 2 IS)(SX:K9 P w K mg base "_law_rounded" 3 2 rJ)(XJ:K9 P w K mg base "_law_only" 1 1 rC)(OF:K9 P w K mg base "holders" 6 2 WO)(QJ:K9 P w K mg base "_law_is" 5 2 (zBA 5))(K2:K9 P w K mg base "_law_reach" 1 3 XZ)(SY:K9 P w K mg base "_law_is_post" 2 2 rK)(MN:K9 P w K mg base "turned" 1 1 XY):FnOk P w K mg base LP 9 f fd ["script"] (NQ K 1 m_law) :=
 T1 Fn NB λG3 A outer s H E hr=>by
  have hu:=hr.units;unfold Wy
  exact(HI (cT DE rfl (T6 (aA (pA8 (TR (DJ (O5 XM (hr.mono 'd') (DJ (CD 0) (DJ F8 EM))) EM))) (Qm (CD 0) (Es F8) (Es F8)))) (XX (i:=1) NB.nd rfl (BN rfl))
   (HI (bN (i:=2) NB.nd rfl (BN rfl) (yDH XH (hr.mono 'd') (DJ (CD 1) (DJ F8 EM))))
   (HI (OD (i:=3) NB.nd rfl (D2 rfl) (K8 hu (QY 2 YW (hr.mono 'd') (DJ (K8 hu (pA8 (TR (DJ F8 (DJ F8 EM)))) (QY 2 CQ (hr.mono 'd') (DJ F8 EM))) EM)) F8))
   (HI (TU (Ct (QY 2 CQ (hr.mono 'd') (DJ F8 EM)) F8)
   (JK (OD (i:=3) NB.nd rfl (D2 rfl) (QY 2 SX (hr.mono 'd') (DJ (CD 3) EM))))
   T4)
   (HI (OD (i:=4) NB.nd rfl (BN rfl) (uH hu (yEP rfl T.b_min (DJ (pA8 (ZL (own:=["place"]) (CG:=["net"]) (js:=[3]) (cn rfl) rfl (gO T.b_range (K8 hu (CD 3) F8)) (λC s H fp=>(P7 0)) (λC s H fp=>ZM) (λC s H fp=>(iT T.b_len (DJ (O5 K2 (hr.mono 'd') (DJ (CD 1) (DJ (CD 0) (DJ nC EM)))) EM))))) EM)) (K8 hu (CD 3) F8)))
   (HI (OD (i:=5) NB.nd rfl (BN rfl) (O5 IX (hr.mono 'd') (DJ (CD 3) EM)))
   (HI (OD (i:=6) NB.nd rfl (BN rfl) (O5 XI (hr.mono 'd') (DJ (CD 3) EM)))
   (HI (TU (VW.t (yF (nL (gK (yR Ru T.b_isinstance T.b_bool (by decide +kernel) (CD 5)))) (yV (U9 hu (CD 5) (CD 4)))))
   (JK (O6 Z8))
   T4)
   (JK (TU (nL (gK (CD 4)))
   (JK (TU (U9 hu (CD 6) (O5 XJ (hr.mono 'd') (DJ F8 EM)))
   (JK (O6 Z8))
   T4))
   (HI (OD (i:=7) NB.nd rfl (BN rfl) (iZ T.b_tuple (DJ (pA8 (ZL (own:=["place"]) (CG:=["net"]) (js:=[3]) (cn rfl) rfl (gO T.b_range (K8 hu (CD 3) F8)) (λC s H fp=>(P7 0)) (λC s H fp=>(gG (gK (O5 SY (hr.mono 'd') (DJ (CD 1) (DJ (CD 0) EM)))))) (λC s H fp=>(CD 0)))) EM)))
   (HI (OD (i:=8) NB.nd rfl (D2 rfl) (QY 2 CQ (hr.mono 'd') (DJ (K8 hu (CD 3) F8) EM)))
   (HI (OD (i:=9) NB.nd rfl (D2 rfl) (pA8 (ZL (own:=["some"]) (CG:=["gate"]) (js:=[8]) (cn rfl) rfl (T6 (WJ (DJ (CD 3) (DJ (O5 MN (hr.mono 'd') (DJ (CD 3) EM)) EM)))) (λC s H fp=>(P7 0)) (λC s H fp=>ZM) (λC s H fp=>(O5 OF (hr.mono 'd') (DJ (CD 0) (DJ (CD 1) EM)))))))
   (HI (Ag (i:=10) (own:=["place"]) (CG:=["gate","both"]) (js:=[8,9]) (cn rfl) rfl (gO T.b_range (K8 hu (CD 3) F8)) (λC s H fp=>(P7 0)) (λC s H fp=>(gG (VW.t (qJ (U9 hu (CD 0) (CD 1)) (qQ (VW.t (yF (yC hu (CD 0) (K8 hu (CD 2) F8)) (yV (yC hu (CD 0) (K8 hu (CD 2) F8)))))))))) (λC s H fp=>(CD 0)) NB.nd rfl rfl rfl)
   (JK (TU (VW.t (yF (nL (gK (O5 QJ (hr.mono 'd') (DJ (CD 6) (DJ (CD 7) EM))))) (yV (U9 hu (pA8 (ZL (own:=["place"]) (CG:=["gate"]) (js:=[8]) (cn rfl) rfl (T6 (CD 7)) (λC s H fp=>(P7 0)) (λC s H fp=>(gG (U9 hu (CD 0) (CD 1)))) (λC s H fp=>(CD 0)))) (CD 10)))))
   (JK (O6 Z8))
   T4))))))))))))))))
   (JK (O6 Z8)))
end My
variable{g':L2.GS}{gm:L2.GM}{E':L2.Ev}{t2:Bool}
namespace L2
open PySem
theorem HG{x:Out α}{a:α}{f:α->Out β}{r:Out β}(h:x=.ok a)(h2:f a=r):x.bind f=r:=by rw[h];exact h2
theorem GT{g:GS}{E:Ev}{r:Out Fl}(h:g E=.ok (.nx E1))(h2:g' E1=r):FQ g g' E=r:=by
 unfold FQ;rw[h];exact h2
theorem qE{g:GS}{E:Ev}{b:Bool}{d:D}(h:g E=.ok (.rt b d E1)):FQ g g' E=.ok (.rt b d E1):=by
 unfold FQ;rw[h];rfl
theorem W3{t:Ev->Out (Bool×Ev)}{g:GS}{E:Ev}{r:Out Fl}(h:t E=.ok (AK,E1))(h2:g E1=r):LM t g g' E=r:=by
 unfold LM;rw[h];exact h2
theorem RC{t:Ev->Out (Bool×Ev)}{g:GS}{E:Ev}{r:Out Fl}(h:t E=.ok (AC,E1))(h2:g' E1=r):LM t g g' E=r:=by
 unfold LM;rw[h];exact h2
theorem zS{t:Tg}{g:GS}(P:Nat->Ev->Prop):∀{ds:List D} {E:Ev} (o:Nat),P o E ->
  (∀i d E,ds[i]?=AA d->P (o+i) E->∃E1,WQ t d E=.ok E1/\∃E2,g E1=.ok (.nx E2)/\P (o+(i+1)) E2)->∃E',TQ t g ds E=.ok (.nx E')/\P (o+ds.length) E'
 |[],E,o,h0,_=>{E,rfl,h0}
 |d::ds,E,o,h0,hs=>by
  obtain⟨E1,e1,E2,e2,p2⟩:=hs 0 d E rfl h0
  obtain⟨E',e',p'⟩:=zS P (ds:=ds) (E:=E2) (o+1) p2 λi d' E3 hd hp=>by
   have:=hs (i+1) d' E3 (by simpa using hd) (by rw[show o+(i+1)=o+1+i by lia];exact hp);rw[show o+(i+1+1)=o+1+(i+1) by lia] at this;exact this
  refine{E',?_,?_}
  .unfold TQ;rw[e1];simp only[Out.bind];rw[e2];exact e'
  .rw[BD,show o+(ds.length+1)=o+1+ds.length by lia];exact p'
theorem i4{t:Tg}{g:GS}{E:Ev}{ds:List D}(P:Nat->Ev->Prop)(hi:gi E=.ok (ds,E1))(h0:P 0 E1)
  (hs:∀i d E,ds[i]?=AA d->P i E->∃E1,WQ t d E=.ok E1/\∃E2,g E1=.ok (.nx E2)/\P (i+1) E2):∃E',P4 gi t g E=.ok (.nx E')/\P ds.length E':=by
 obtain⟨E',e,p⟩:=zS (t:=t) (g:=g) P (ds:=ds) (E:=E1) 0 h0 (λi d E hd hp=>by
  rw[EN] at hp ⊢;exact hs i d E hd hp)
 refine{E',?_,by simpa using p};unfold P4;rw[hi];exact e
theorem yP{t:Ev->Out (Bool×Ev)}{g:GS}(P:Nat->Ev->Prop)(Q:Ev->Prop)
  (hs:∀n E,P n E->(∃E1,t E=.ok (AC,E1)/\Q E1)\/(∃E1 E2 m,t E=.ok (AK,E1)/\g E1=.ok (.nx E2)/\m<n/\P m E2)) :
  ∀(fuel n:Nat) (E:Ev),n<fuel->P n E->∃E',YG t g fuel E=.ok (.nx E')/\Q E'
 |0,n,E,hn,_=>by lia
 |fuel+1,n,E,hn,h=>by
  rcases hs n E h with⟨E1,e1,q⟩|⟨E1,E2,m,e1,e2,hm,p⟩
  .refine{E1,?_,q}
   unfold YG;rw[e1];rfl
  .obtain⟨E',e',q⟩:=yP P Q hs fuel m E2 (AN hm (G1 hn)) p
   refine{E',?_,q};unfold YG;rw[e1];simp only[Out.bind,if_true];rw[e2];exact e'
theorem ZI{x:Out α}(h:n<10000):few n x=x:=if_pos h
theorem Dd{t:Tg}(f:D->List D)(M:Nat)(P:Ev->Prop):∀{ds BR:List D} {E:Ev},P E->BR.length+ds.length * M<10000->(∀d∈ds,(f d).length<=M) ->
  (∀d∈ds,∀(BR:List D) (E:Ev),BR.length+M<10000->P E->∃E1,WQ t d E=.ok E1/\∃b E2,tt E1=.ok (b,E2)/\((b=AK/\∃E3,gm (.lst BR) E2=.ok (.lst (BR++f d),E3)/\P E3)\/(b=AC/\f d=[]/\P E2))) ->
  ∃E',ZG t tt gm ds (.lst BR) E=.ok (.lst (BR++ds.flatMap f),E')/\P E'
  := by
 intro ds
 induction ds with
 |nil=>intro BR E h0 _ _ _;exact{E,by simp[ZG],h0}
 |cons d ds ih =>
  intro BR E h0 hl hM hs;rw[BD,Nat.succ_mul] at hl;obtain⟨E1,e1,b,E2,e2,h⟩:=hs d A2 BR E 'l' h0;have hd:=hM d A2;rcases h with⟨rfl,E3,e3,p⟩|⟨rfl,ef,p⟩
  .obtain⟨E',e',p'⟩:=ih (BR:=BR++f d) (E:=E3) p (by rw[BO];lia) (λd hd=>hM d (AZ _ hd)) λd hd=>hs d (AZ _ hd)
   refine{E',?_,p'};unfold ZG;rw[e1];simp only[Out.bind];rw[e2];simp only[if_true];rw[e3];simp only;rw[e',CI,CP]
  .obtain⟨E',e',p'⟩:=ih (BR:=BR) (E:=E2) p 'l' (λd hd=>hM d (AZ _ hd)) λd hd=>hs d (AZ _ hd)
   refine{E',?_,p'};unfold ZG;rw[e1];simp only[Out.bind];rw[e2];simp only[if_false,EA];rw[e',CI,ef,FY]
theorem Eg{ge:G}{BR:List D}{E:Ev}{x:D}(h:ge E=.ok (x,E'))(hl:BR.length<10000):bG ge (.lst BR) E=.ok (.lst (BR++[x]),E'):=HG h (ZI hl)
theorem Ey{t:Tg}{E:Ev}{ds:List D}(f:D->List D)(M:Nat)(P:Ev->Prop)(hi:gi E=.ok (ds,E1))(h0:P (XW k js E1))(hl:ds.length * M<10000)(hM:∀d∈ds,(f d).length<=M)
  (hs:∀d∈ds,∀(BR:List D) (E:Ev),BR.length+M<10000->P E->∃E1,WQ t d E=.ok E1/\∃b E2,tt E1=.ok (b,E2)/\((b=AK/\∃E3,gm (.lst BR) E2=.ok (.lst (BR++f d),E3)/\P E3)\/(b=AC/\f d=[]/\P E2)))
  (hb:∀Ec,P Ec->aH E1 Ec k js=E1):bL gi k js (.lst []) t tt gm E=.ok (.lst (ds.flatMap f),E1):=by
 obtain⟨E',e',p'⟩:=Dd f M P (ds:=ds) (BR:=[]) h0 (by simpa using hl) hM hs;unfold bL;rw[hi];simp only[Out.bind];rw[e'];simp only[Out.bind,FY];rw[hb _ p']
theorem bM{t:Tg}{ge:G}{E:Ev}{ds:List D}(f:D->List D)(P:Ev->Prop)(hi:gi E=.ok (ds,E1))(h0:P (XW k js E1))(hl:ds.length<10000)
  (hs:∀d∈ds,∀E,P E->∃E1,WQ t d E=.ok E1/\∃b E2,tt E1=.ok (b,E2)/\((b=AK/\∃x E3,ge E2=.ok (x,E3)/\f d=[x]/\P E3)\/(b=AC/\f d=[]/\P E2)))
  (hb:∀Ec,P Ec->aH E1 Ec k js=E1):KY gi k js t tt ge E=.ok (.lst (ds.flatMap f),E1):=by
 by_cases hP:∀d∈ds,∃E,P E
 .refine Ey f 1 P hi h0 'l' (λd hd=>?_) (λd hd BR E OZ hE=>?_) hb
  .obtain⟨E,hE⟩:=hP d hd
   obtain⟨_,_,_,_,_,⟨_,x,_,_,ef,_⟩|⟨_,ef,_⟩⟩:=hs d hd E hE
   .rw[ef];exact AM _
   .rw[ef];exact BP _
  .obtain⟨E1,e1,b,E2,e2,⟨hb,x,E3,e3,ef,p⟩|h⟩:=hs d hd E hE
   .exact{E1,e1,b,E2,e2,.inl {hb,E3,by rw[ef];exact Eg e3 (AR (A6 _ _) OZ),p}}
   .exact{E1,e1,b,E2,e2,.inr h}
 .exact absurd (λd hd=>{_,h0}) hP
def Pl(n:Nat)(d:D):Prop:=∃p,d.py=AA p/\p.depth<=n/\p.canLay0=AK
def Pls(n:Nat)(ds:List D):Prop:=∃ps,pAH ds=AA ps/\NK ps<=n/\FT ps=AK
theorem Pl.int(n:Nat)(i:Int):Pl n (.int i):={_,rfl,BP _,rfl}
theorem Pl.bl(n:Nat)(i:Bool):Pl n (.bl i):={_,rfl,BP _,rfl}
theorem Pls.nil(n:Nat):Pls n []:={_,rfl,BP _,rfl}
theorem Pls.cons{d:D}{ds:List D}(h:Pl n d)(t:Pls n ds):Pls n (d::ds):=by
 obtain⟨p,e,a,b⟩:=h;obtain⟨ps,e2,a2,b2⟩:=t;exact{p::ps,by simp[pAH,e,e2],by simp only[NK];lia,by simp[FT,b,b2]}
theorem Pls.tup{n:Nat}{ds:List D}(t:Pls n ds):Pl (n+1) (.tup ds):=by
 obtain⟨ps,e2,a2,b2⟩:=t;exact{.tuple ps,by simp[D.py,e2],by simp only[F9];lia,b2}
theorem Pls.lst{n:Nat}{ds:List D}(t:Pls n ds):Pl (n+1) (.lst ds):=by
 obtain⟨ps,e2,a2,b2⟩:=t;exact{.list ps,by simp[D.py,e2],by simp only[F9];lia,b2}
theorem Pls.of{α:Type}{n:Nat}{f:α->D}:∀{xs:List α},(∀x∈xs,Pl n (f x))->Pls n (xs.map f)
 |[],_=>.nil n
 |x::xs,h=>.cons (h x A2) (Pls.of λy hy=>h y (AZ _ hy))
theorem Pls.ints(n:Nat)(ns:List Int):Pls n (ns.map D.int):=Pls.of λ_ _=>.int _ _
theorem zWO{d:D}(h:Pl 60 d):TW d d=.ok (.bl AK):=by
 obtain⟨p,e,a,b⟩:=h;unfold TW;simp only[e];rw[if_pos (AY (UN _ _) a),kC p b]
theorem Ew{d:D}(h:Pl 60 d):IL d d=.ok (.bl AC):=by
 obtain⟨p,e,a,b⟩:=h;unfold IL;simp only[e];rw[if_pos (AY (UN _ _) a),kC p b];rfl
theorem Ee(a b:Int):TW (.int a) (.int b)=.ok (.bl (decide (a=b))):=by
 simp only[TW,D.py,F9,D0]
 by_cases h:a=b<;>simp[h]
theorem gE(a b:Int):IL (.int a) (.int b)=.ok (.bl (decide (a≠b))):=by
 simp only[IL,D.py,F9,D0]
 by_cases h:a=b<;>simp[h]
theorem zWP(a:Int):IL (.int a) .non=.ok (.bl AK):=by
 simp[IL,D.py,F9,D0]
theorem zM{ds:List D}(h:Pls n ds):IL (.lst ds) (.lst [])=.ok (.bl (!ds.isEmpty)):=by
 obtain⟨ps,e2,a2,b2⟩:=h;have e0:pAH []=AA []:=by simp[pAH]
 unfold IL;simp only[D.py,e2,e0,Z2];rw[if_pos (by simp only[F9,NK];lia),D0]
 cases ds with
 |nil=>rw[e0] at e2;cases e2;rfl
 |cons d ds =>
  cases ps with
  |nil =>
   simp only[pAH] at e2;split at e2<;>simp at e2
  |cons p ps=>rfl
theorem Fm:∀ns:List Int,pAH (ns.map D.int)=AA (ns.map PC)
 |[]=>by simp[pAH]
 |n::ns=>by simp[pAH,D.py,Fm ns]
theorem yAP(x:Int)(ns:List Int):PK (.int x) (.lst (ns.map D.int))=.ok (.bl (decide (x∈ns))):=by
 simp only[PK,Fm,D.py];rw[if_pos (show F9 (.int x)<=60 from BP _),Fu]
theorem Ed(x:Int)(ns:List Int):PK (.int x) (.tup (ns.map D.int))=.ok (.bl (decide (x∈ns))):=by
 simp only[PK,Fm,D.py];rw[if_pos (show F9 (.int x)<=60 from BP _),Fu]
theorem Uo(ps:List (Int×Int)):kQ [.lst (ps.map JS)]=.ok (.lst ((WI ps).map JS)):=by
 cases ps with
 |nil=>simp[kQ,QW,qA,WI]
 |cons p ps =>
  have:=Af (p::ps);simp only[kQ];rw[this,show QW ((p::ps).map JS)=AL from rfl]
theorem yO{xs:List α}{i:Int}{x:α}(h0:0<=i)(h:xs[i.toNat]?=AA x):atI xs i=AA x:=by
 have:=Qy (xs:=xs) (j:=i.toNat) h
 rwa [show((i.toNat:Nat):Int)=i by lia] at this
theorem Dc{i:Int}(h0:0<=i)(h:i<n):YF n i=AA i.toNat:=by
 unfold YF;rw[if_pos h0,if_pos h]
section
variable[DecidableEq κ]
theorem zK2(kvs:List (κ×D))(k:κ)(v:D):OI (OT kvs k v) k=AA v:=by
 unfold OT;split
 .rename_i h
  unfold OI
  induction kvs with
  |nil=>simp at h
  |cons kv kvs ih =>
   by_cases e:kv.1=k
   .simp[e]
   .simp only[EV,e,decide_false,Bool.false_or] at h
    have:=ih h;simpa[e] using this
 .rename_i h
  unfold OI;rw[fM]
  have:(kvs.find? λkv=>decide (kv.1=k))=AL:=by
   rw[List.find?_eq_none];intro x hx z;exact h (KL.mpr {x,hx,z})
  rw[this];simp
theorem zOF(kvs:List (κ×D)){k k':κ}(v:D)(hk:k'≠k):OI (OT kvs k v) k'=OI kvs k':=by
 unfold OT;split
 .rename_i hh
  clear hh;unfold OI
  induction kvs with
  |nil=>rfl
  |cons kv kvs ih =>
   rw[AU]
   by_cases e:kv.1=k
   .rw[if_pos e,EK,EK]
    have:¬kv.1=k':=λz=>hk (z.symm.trans e);simp only[this,decide_false];exact ih
   .rw[if_neg e,EK,EK]
    by_cases e2:kv.1=k'
    .simp[e2]
    .simp only[e2,decide_false]
     exact ih
 .unfold OI
  rw[fM];have:(List.find? (λkv:κ×D=>decide (kv.1=k')) [(k,v)])=AL:=by simp[FO hk]
  rw[this];simp
theorem t7(kvs:List (κ×D))(k:κ)(v:D):(OT kvs k v).length<=kvs.length+1:=by
 unfold OT;split
 .simp
 .simp
end
theorem O7{m:Mr}{gs:List G}{E:Ev}{ds:List D}{b:Bool}{d d':D}(h1:QE gs E=.ok (ds,E'))(h2:m (ds.map Sl.val)=.ok (b,d,d')):HB m gs E=.ok (d,E'):=HG h1 (HG h2 rfl)
theorem zWQ{E:Ev}:QE [] E=.ok ([],E):=rfl
theorem QX{g:G}{gs:List G}{E:Ev}{d:D}{ds:List D}(h1:g E=.ok (d,E1))(h2:QE gs E1=.ok (ds,E2)):QE (g::gs) E=.ok (d::ds,E2):=HG h1 (HG h2 rfl)
theorem JU{g:G}{E:Ev}{d:D}(h1:g E=.ok (d,E1)):QE [g] E=.ok ([d],E1):=QX h1 zWQ
theorem PH{f:List D->Out D}{gs:List G}{E:Ev}{ds:List D}{d:D}(h1:QE gs E=.ok (ds,E'))(h2:f ds=.ok d):gN f gs E=.ok (d,E'):=HG h1 (HG h2 rfl)
theorem bK{gs:List G}{E:Ev}{ds:List D}(h1:QE gs E=.ok (ds,E'))(h2:ds.length<10000):MG gs E=.ok (.tup ds,E'):=HG h1 (ZI h2)
theorem fY{gs:List G}{E:Ev}{ds:List D}(h1:QE gs E=.ok (ds,E'))(h2:ds.length<10000):JF gs E=.ok (.lst ds,E'):=HG h1 (ZI h2)
theorem RD{g:G}{E:Ev}{d:D}(h:g E=.ok (d,E')):NA g E=.ok (.rt AC d E'):=HG h rfl
theorem Qa{g:G}{E:Ev}{d:D}(h:g E=.ok (d,E')):yE g E=.ok (.rt AK d E'):=HG h rfl
theorem MJ{g:G}{t:Tg}{E:Ev}{d:D}(h:g E=.ok (d,E'))(h2:WQ t d E'=.ok E2):HZ t g E=.ok (.nx E2):=HG h (HG h2 rfl)
theorem aE{g:G}{E:Ev}{d:D}(h:g E=.ok (d,E')):SF i g E=.ok (.nx (E'.set i (.own AC d))):=HG h rfl
theorem tQ{g:G}{E:Ev}{d:D}(h:g E=.ok (d,E')):bH g E=.ok (.nx E'):=HG h rfl
theorem EW{f:D->D->Out D}{ga gb:G}{E:Ev}{x y d:D}(h1:ga E=.ok (x,E1))(h2:gb E1=.ok (y,E2))(h3:f x y=.ok d):g2 f ga gb E=.ok (d,E2):=HG h1 (HG h2 (HG h3 rfl))
theorem MI{g:G}{E:Ev}{b:Bool}(h:g E=.ok (.bl b,E')):gB g E=.ok (b,E'):=HG h rfl
theorem Z9{g:G}{E:Ev}{d:D}{b:Bool}(h:g E=.ok (d,E'))(h2:Wr d=.ok b):RB g E=.ok (b,E'):=HG h (HG h2 rfl)
theorem lC{t:Ev->Out (Bool×Ev)}{E:Ev}{b:Bool}(h:t E=.ok (b,E')):WL t E=.ok (!b,E'):=HG h rfl
theorem xY{t u:Ev->Out (Bool×Ev)}{E:Ev}{r:Out (Bool×Ev)}(h:t E=.ok (AC,E'))(h2:u E'=r):bF t u E=r:=HG h h2
theorem yGS{t u:Ev->Out (Bool×Ev)}{E:Ev}(h:t E=.ok (AK,E')):bF t u E=.ok (AK,E'):=HG h rfl
theorem iY{t u:Ev->Out (Bool×Ev)}{E:Ev}{r:Out (Bool×Ev)}(h:t E=.ok (AK,E'))(h2:u E'=r):WK t u E=r:=HG h h2
theorem qD{t u:Ev->Out (Bool×Ev)}{E:Ev}(h:t E=.ok (AC,E')):WK t u E=.ok (AC,E'):=HG h rfl
theorem ZK{g:G}{E:Ev}{d:D}(h:g (O4 is E)=.ok (d,E'))(h2:cV is E d=AK):OP is g E=.ok (d,E):=HG h (if_pos h2)
theorem Pz{g:G}{E:Ev}{d:D}(h:g (O4 is E)=.ok (d,E'))(h2:d.kids=AK):sY is g E=.ok (d,E):=HG h (if_pos h2)
theorem aD{g:Ev->Out (Bool×Ev)}{E:Ev}{d:Bool}(h:g (O4 is E)=.ok (d,E')):T2 is g E=.ok (d,E):=HG h rfl
theorem P5{gb:GS}{sl:Ev}{b:Bool}{d:D}{r:Out (Bool×D×D)}(h:gb (sl++BH (n-sl.length) .no)=.ok (.rt b d E'))(h2:fin sl E' b d=r):QC n gb sl=r:=HG h h2
theorem tP{c:String}{g:G}{E:Ev}{d:D}(h:g E=.ok (d,E')):kN c g E=.ok (.bl (uQ (Ay d) c),E'):=HG h rfl
theorem lB{g:G}{E:Ev}{j:Int}(h:g E=.ok (.int j,E'))(h2:nJ j):OU g E=.ok (QV 0 j.toNat,E'):=HG h (if_pos h2)
theorem Py{g g':G}{E:Ev}{i j:Int}(h:g E=.ok (.int i,E1))(h1:g' E1=.ok (.int j,E'))(h2:nJ i/\nJ j):nG g g' E=.ok (QV i (j-i).toNat,E'):=HG h (HG h1 (if_pos h2))
theorem nR{g:G}{E:Ev}{ds:List D}(h:g E=.ok (.lst ds,E')):IK g E=.ok (ds,E'):=HG h rfl
theorem gD{g:G}{E:Ev}{ds:List D}(h:g E=.ok (.tup ds,E')):IK g E=.ok (ds,E'):=HG h rfl
theorem cW{gk gv:G}{E:Ev}{t:Bool}{d0 d v k d':D}(h0:E[i]?=AA (.own t2 d0))(h1:gv E=.ok (v,E1))(h2:gk E1=.ok (k,E2))(h3:E2[i]?=AA (.own t d))(h4:mX d k v=.ok d'):RT i gk gv E=.ok (.nx (E2.set i (.own t d'))):=by
 unfold RT;rw[h0];simp only;rw[h1];simp only[Out.bind];rw[h2];simp only[h3];rw[h4]
theorem lG{m:Mr}{gs:List G}{E:Ev}{t:Bool}{d0 d x d':D}{ds:List D}{b:Bool}(h0:E[i]?=AA (.own t2 d0))(h1:QE gs E=.ok (ds,E1))(h2:E1[i]?=AA (.own t d))(h3:m (.own AK d::ds.map Sl.val)=.ok (b,x,d')):HV m i gs E=.ok (x,E1.set i (.own t d')):=by
 unfold HV;rw[h0];simp only;rw[h1];simp only[Out.bind,h2];rw[h3]
theorem nQ{f:List D->List D->Out (D×List D)}{gs:List G}{E:Ev}{t:Bool}{xs0 xs:List D}{ds TX:List D}{x:D}(h0:E[i]?=AA (.own t2 (.lst xs0)))(h1:QE gs E=.ok (ds,E1))(h2:E1[i]?=AA (.own t (.lst xs)))(h3:f xs ds=.ok (x,TX)):P6 i f gs E=.ok (x,E1.set i (.own t (.lst TX))):=by
 unfold P6;rw[h0];simp only;rw[h1];simp only[Out.bind,h2];rw[h3]
theorem zWS{m:Mr}{gs:List G}{E:Ev}{ds:List D}{d d':D}(h1:QE gs E=.ok (ds,E'))(h2:m (ds.map Sl.val)=.ok (AK,d,d')):qG m gs E=.ok (d,E'):=HG h1 (HG h2 rfl)
theorem Pm{gd gk gx:G}{E E3:Ev}{a k x:D}{o:Option D}(h1:gd E=.ok (a,E1))(h2:gk E1=.ok (k,E2))(h3:gx E2=.ok (x,E3))(h4:kU a k=AA o):cQ gd gk gx E=.ok (o.getD x,E3):=HG h1 (HG h2 (HG h3 (by simp only[h4])))
theorem yGT{ga gb:G}{E:Ev}{r:Out (D×Ev)}(h:ga E=.ok (.bl AK,E1))(h2:gb E1=r):Hr ga gb E=r:=HG h h2
theorem yES{ga:G}{E:Ev}{b:Bool}(h:ga E=.ok (.bl b,E1)):Hq ga E=.ok (.bl (!b),E1):=HG h rfl
theorem Ib{ds:List D}(h:ds.length=n):NO [.lst ds]=.ok (.int n):=by subst h;rfl
theorem Wx{ds:List D}(h:ds.length=n):NO [.tup ds]=.ok (.int n):=by subst h;rfl
theorem Ww{a b c:List D}(h:a.length+b.length<10000)(e:a++b=c):NP (.lst a) (.lst b)=.ok (.lst c):=by subst e;exact ZI h
theorem yEV{o:Option D}{d:D}(h:o=AA d):(match o with|some d=>Out.ok d|none=>.bad)=.ok d:=by subst h;rfl
theorem uD{ds:List D}{i:Int}{d:D}(h:atI ds i=AA d):EG (.lst ds) (.int i)=.ok d:=yEV h
theorem yAR{o:Option (Option D)}{d:D}(h:o=AA (AA d)):(match o with|some (AA d)=>Out.ok d|_=>.bad)=.ok d:=by subst h;rfl
theorem yI3{kvs:List (Key×D)}{i:Int}{d:D}(h:OI kvs (.inl i)=AA d):EG (.dk kvs) (.int i)=.ok d:=yAR (congrArg AA h)
theorem Ia{ds:List D}{i:Int}{v:D}(h:YF ds.length i=AA j):mX (.lst ds) (.int i) v=.ok (.lst (ds.set j v)):=by
 show(match YF ds.length i with|some j=>Out.ok (D.lst (ds.set j v))|none=>.bad)=_;rw[h]
theorem yGU{kvs:List (Key×D)}{i:Int}{v:D}(h:kvs.length<10000):mX (.dk kvs) (.int i) v=.ok (.dk (OT kvs (.inl i) v)):=ZI h
end L2
variable{u2 u3 u4 u10 u9 u5 u6:L2.Sl}{aw O9:List (Option Int)}{GP ys:List Int}{D6:Int}
namespace My
open PySem L2
theorem nB{i j:Int}(h:0<j):UU (.int i) (.int j)=.ok (.int (i % j)):=if_pos h
theorem Pk{i j:Int}(h:0<j/\j<2 ^ 200):nI (.int i) (.int j)=.ok (.int (i / j)):=if_pos h
theorem Hz{i j:Int}(h:qO i\/qO j):X7 (.int i) (.int j)=.ok (.int (i * j)):=if_pos h
theorem Hy{i j:Int}(h:0<=j/\j<=1000000/\i.natAbs<2 ^ 64):bD (.int i) (.int j)=.ok (.int (i ^ j.toNat)):=if_pos h
noncomputable def U8(a b c n:Int)(u2 u3 u4:Sl):Ev:=[.own AK (.lst [.int a,.int b,.int c]),.val (.int n),u2,u3,u4]
theorem Pj{a b c n:Int}:T2 [0] (gB (g2 jB (g2 EG (AW 0) (gC (.int 0))) (gC (.int 0)))) (U8 a b c n u2 u3 u4)=.ok (decide (0<a),U8 a b c n u2 u3 u4) :=
 aD (MI (EW (EW (x:=.lst [.int a,.int b,.int c]) (y:=.int 0) rfl rfl (d:=.int a) rfl) (y:=.int 0) rfl rfl))
theorem zWT{a b c n:Int}(ha:0<a)(hn:1<=n)(aN:n<2 ^ 200) :
  IS [.own AK (.lst [.int a,.int b,.int c]),.val (.int n)]=.ok (AC,.int (a % n),.lst [.int (a / n),.int b,.int c]):=by
 have h1:0<n:=by lia
 have t:=Pj (a:=a) (b:=b) (c:=c) (n:=n) (u2:=.no) (u3:=.no) (u4:=.no);rw[decide_eq_true ha] at t
 exact P5 (qE (W3 t (GT (E1:=U8 a b c n (.val (.int (a % n))) .no .no) (MJ (ZK (EW (EW (x:=.lst [.int a,.int b,.int c]) (y:=.int 0) rfl rfl (d:=.int a) rfl) (y:=.int n) rfl (nB h1)) rfl) rfl)
  (GT (E1:=U8 (a / n) b c n (.val (.int (a % n))) .no .no) (cW (i:=0) (E1:=U8 a b c n (.val (.int (a % n))) .no .no) (E2:=U8 a b c n (.val (.int (a % n))) .no .no) (t:=AK) (d:=.lst [.int a,.int b,.int c]) (k:=.int 0) (d':=.lst [.int (a / n),.int b,.int c]) rfl (ZK (EW (EW (x:=.lst [.int a,.int b,.int c]) (y:=.int 0) rfl rfl (d:=.int a) rfl) (y:=.int n) rfl (Pk {h1,aN})) rfl) rfl rfl rfl) (RD (d:=.int (a % n)) rfl))))) rfl
def iK(b c:Int):Int:=(b+1000003 * c) % 2305843009213693951
def iJ(b c:Int):Int:=(iK b c * iK b c+7919 * c ^ 2+5) % 2305843009213693951
theorem s64{i:Int}(h0:0<=i)(h:i<2305843009213693951):qO i:={by lia,by lia}
theorem zWW{a b c n:Int}(ha:¬0<a)(hc:0<=c)(eR:c<1000000)(hn:1<=n)(aN:n<2 ^ 200) :
  IS [.own AK (.lst [.int a,.int b,.int c]),.val (.int n)]=.ok (AC,.int (iJ b (c+1) ^ 3 % 2305843009213693951 / 13 % n),.lst [.int a,.int b,.int (c+1)]):=by
 have h1:0<n:=by lia
 have m1:0<=iK b (c+1):=LL _ 'd';have m2:iK b (c+1)<2305843009213693951:=JR _ 'd';have m3:0<=iJ b (c+1):=LL _ 'd';have m4:iJ b (c+1)<2305843009213693951:=JR _ 'd';have t:=Pj (a:=a) (b:=b) (c:=c) (n:=n) (u2:=.no) (u3:=.no) (u4:=.no);rw[decide_eq_false ha] at t;have hp:(0:Int)<2305843009213693951:=by decide
 have bag:AW 0 (O4 [0] (U8 a b (c+1) n .no .no .no))=.ok (.lst [.int a,.int b,.int (c+1)],O4 [0] (U8 a b (c+1) n .no .no .no)):=rfl
 have s1:RT 0 (gC (.int 2)) (OP [0] (g2 NP (g2 EG (AW 0) (gC (.int 2))) (gC (.int 1)))) (U8 a b c n .no .no .no)=.ok (.nx (U8 a b (c+1) n .no .no .no)) :=
  cW (i:=0) (E1:=U8 a b c n .no .no .no) (E2:=U8 a b c n .no .no .no) (t:=AK) (d:=.lst [.int a,.int b,.int c]) (k:=.int 2) (d':=.lst [.int a,.int b,.int (c+1)]) rfl (ZK (EW (EW (x:=.lst [.int a,.int b,.int c]) (y:=.int 2) rfl rfl (d:=.int c) rfl) (y:=.int 1) rfl rfl) rfl) rfl rfl rfl
 have s3:HZ (.nm 4) (OP [0] (g2 UU (g2 NP (g2 EG (AW 0) (gC (.int 1))) (g2 X7 (gC (.int 1000003)) (g2 EG (AW 0) (gC (.int 2))))) (AW 3))) (U8 a b (c+1) n .no (.val (.int 2305843009213693951)) .no)=.ok (.nx (U8 a b (c+1) n .no (.val (.int 2305843009213693951)) (.val (.int (iK b (c+1)))))) :=
  MJ (ZK (d:=.int (iK b (c+1))) (EW (EW (EW (x:=.lst [.int a,.int b,.int (c+1)]) (y:=.int 1) rfl rfl (d:=.int b) rfl) (EW (x:=.int 1000003) rfl (EW (x:=.lst [.int a,.int b,.int (c+1)]) (y:=.int 2) rfl rfl (d:=.int (c+1)) rfl) (Hz (.inl {by decide,by decide}))) rfl) (y:=.int 2305843009213693951) rfl (nB hp)) rfl) rfl
 have s4:HZ (.nm 4) (OP [0] (g2 UU (g2 NP (g2 NP (g2 X7 (AW 4) (AW 4)) (g2 X7 (gC (.int 7919)) (g2 bD (g2 EG (AW 0) (gC (.int 2))) (gC (.int 2))))) (gC (.int 5))) (AW 3))) (U8 a b (c+1) n .no (.val (.int 2305843009213693951)) (.val (.int (iK b (c+1)))))=.ok (.nx (U8 a b (c+1) n .no (.val (.int 2305843009213693951)) (.val (.int (iJ b (c+1)))))) :=
  MJ (ZK (d:=.int (iJ b (c+1))) (EW (EW (EW (EW (x:=.int (iK b (c+1))) (y:=.int (iK b (c+1))) rfl rfl (Hz (.inl (s64 m1 m2)))) (EW (x:=.int 7919) rfl (EW (EW (x:=.lst [.int a,.int b,.int (c+1)]) (y:=.int 2) rfl rfl (d:=.int (c+1)) rfl) (y:=.int 2) rfl (Hy {by decide,by decide,by lia})) (Hz (.inl {by decide,by decide}))) rfl) (y:=.int 5) rfl rfl) (y:=.int 2305843009213693951) rfl (nB hp)) rfl) rfl
 have s5:NA (g2 UU (g2 nI (g2 UU (g2 bD (AW 4) (gC (.int 3))) (AW 3)) (gC (.int 13))) (AW 1)) (U8 a b (c+1) n .no (.val (.int 2305843009213693951)) (.val (.int (iJ b (c+1)))))=.ok (.rt AC (.int (iJ b (c+1) ^ 3 % 2305843009213693951 / 13 % n)) (U8 a b (c+1) n .no (.val (.int 2305843009213693951)) (.val (.int (iJ b (c+1)))))) :=
  RD (EW (EW (EW (EW (x:=.int (iJ b (c+1))) (y:=.int 3) rfl rfl (Hy {by decide,by decide,by lia})) (y:=.int 2305843009213693951) rfl (nB hp)) (y:=.int 13) rfl (Pk {by decide,by decide})) (y:=.int n) rfl (nB h1))
 exact P5 (GT (RC t rfl) (GT s1 (GT (E1:=U8 a b (c+1) n .no (.val (.int 2305843009213693951)) .no) rfl (GT s3 (GT s4 s5))))) rfl
def Bag(k:Nat)(d:D):Prop:=∃a b c:Int,d=.lst [.int a,.int b,.int c]/\0<=c/\c<=k
theorem Bag.mono{k':Nat}{d:D}(h:Bag k d)(l:k<=k'):Bag k' d:=by
 obtain⟨a,b,c,e,h0,h1⟩:=h;exact{a,b,c,e,h0,by lia}
theorem zL{d:D}{n:Int}(B:Bag k d)(hk:k<900000)(hn:1<=n)(aN:n<2 ^ 200) :
  ∃r d',IS [.own AK d,.val (.int n)]=.ok (AC,.int r,d')/\0<=r/\r<n/\Bag (k+1) d':=by
 obtain⟨a,b,c,rfl,h0,h1⟩:=B
 by_cases ha:0<a
 .exact{_,_,zWT ha hn aN,LL _ 'l',JR _ 'l',_,_,_,rfl,h0,by lia}
 .exact{_,_,zWW ha h0 'l' hn aN,LL _ 'l',JR _ 'l',_,_,_,rfl,by lia,by lia}
theorem yAV(n:Int):∃d,rD [.val (.int n),.val (.int 0)]=.ok (AK,d,.non)/\Bag 0 d:=by
 have hp:(0:Int)<2305843009213693951:=by decide
 have pw:∀E:Ev,g2 bD (gC (.int 10)) (gC (.int 18)) E=.ok (.int 1000000000000000000,E):=λE=>EW (x:=.int 10) (y:=.int 18) rfl rfl (Hy {by decide,by decide,by decide});have t:gB (g2 Ip (AW 0) (g2 bD (gC (.int 10)) (gC (.int 18)))) [.val (.int n),.val (.int 0)]=.ok (decide (1000000000000000000<=n),[.val (.int n),.val (.int 0)]):=MI (EW (x:=.int n) rfl (pw _) rfl)
 by_cases h:1000000000000000000<=n
 .rw[decide_eq_true h] at t
  exact{.lst [.int (n-1000000000000000000),.int (n % 2305843009213693951),.int 0],P5 (qE (W3 t (Qa (fY (QX (EW (x:=.int n) rfl (pw _) (d:=.int (n-1000000000000000000)) rfl) (QX (EW (x:=.int n) (y:=.int 2305843009213693951) rfl rfl (nB hp)) (JU (d:=.int 0) rfl))) (show 3<10000 by decide))))) rfl,_,_,_,rfl,by decide,by decide}
 .rw[decide_eq_false h] at t
  exact{.lst [.int 0,.int (n % 2305843009213693951),.int 0],P5 (GT (RC t rfl) (Qa (fY (QX (d:=.int 0) rfl (QX (EW (x:=.int n) (y:=.int 2305843009213693951) rfl rfl (nB hp)) (JU (d:=.int 0) rfl))) (show 3<10000 by decide)))) rfl,_,_,_,rfl,by decide,by decide}
def DO(AE:Int)(ps:List (Int×Int)):D:=.tup [.int AE,.tup (ps.map JS)]
def xX(p:Int×Int):Int×Int:=(p.2,p.1)
structure Net(AE:Int)(ps:List (Int×Int)):Prop where
 m1:1<=AE
 m2:AE<=24
 len:ps.length<=120
 rg:∀p∈ps,0<=p.1/\p.1<AE/\0<=p.2/\p.2<AE/\p.1≠p.2
 pw:ps.Pairwise λa b=>RE a b=AK
def back(ps:List (Int×Int)):List (Int×Int):=WI (ps.map xX)
theorem qN(Ec:Ev)(k:Nat):∀(j:Nat) (E:Ev),cN Ec k [] j E=E
 |_,[]=>rfl
 |j,s::E=>by
  rw[cN,qN Ec k (j+1) E];cases s<;>rfl
theorem Db{E:Ev}(h:E.length=2):∃x y,E=[x,y]:=by
 match E,h with
 |[x,y],_=>exact{x,y,rfl}
theorem zTW{E:Ev}(hi:gi E=.ok (ps.map JS,E1))(hl:ps.length<10000) :
  KY gi 2 [] (.tp [.nm 0,.nm 1]) K4 (MG [AW 1,AW 0]) E=.ok (.lst ((ps.map xX).map JS),E1):=by
 have:=bM (k:=2) (js:=[]) (t:=.tp [.nm 0,.nm 1]) (tt:=K4) (ge:=MG [AW 1,AW 0]) (λd=>match d with|.tup [a,b]=>[.tup [b,a]]|_=>[]) (λE=>E.length=2) hi rfl (by simpa using hl) (λd hd E hE=>by
  obtain⟨p,_,rfl⟩:=BQ.mp hd;obtain⟨x,y,rfl⟩:=Db hE
  exact{_,rfl,AK,_,rfl,.inl {rfl,_,_,rfl,rfl,rfl}}) λEc _=>qN Ec 2 0 E1
 rw[this]
 congr 3
 clear this hi hl
 induction ps with
 |nil=>rfl
 |cons p ps ih=>simp only[AU,CI,ih];rfl
theorem Fz(hl:ps.length<10000):XY [.val (DO AE ps)]=.ok (AC,DO AE (back ps),.non):=by
 have h1:=zTW (gi:=IK (AW 2)) (E:=[.val (DO AE ps),.val (.int AE),.val (.tup (ps.map JS))]) (E1:=[.val (DO AE ps),.val (.int AE),.val (.tup (ps.map JS))]) (ps:=ps) rfl hl;exact P5 (GT (MJ (d:=DO AE ps) rfl rfl) (RD (bK (QX (d:=.int AE) rfl (JU (PH (JU (PH (JU h1) (Uo _))) rfl))) (show 2<10000 by decide)))) rfl
theorem yI4(h:ps.Pairwise λa b=>RE a b=AK):ps.Pairwise λa b=>ZP a b=AK :=
 h.imp λ{a b} e=>by
  simp only[ZP,RE,decide_eq_true_eq,MU,decide_eq_false_iff_not] at *;lia
theorem zOH{a b:Int×Int}(h:ZP a b=AK)(hn:a≠b):RE a b=AK:=by
 obtain⟨a1,a2⟩:=a;obtain⟨b1,b2⟩:=b;simp only[ZP,RE,decide_eq_true_eq,MU,decide_eq_false_iff_not] at *;have:¬(a1=b1/\a2=b2):=(λq0=>by obtain⟨x,y⟩:=q0;exact hn (by rw[x,y]));lia
theorem yEX{a b:Int×Int}(h:RE a b=AK):a≠b:=λz=>by
 subst z;simp only[RE,decide_eq_true_eq] at h;lia
theorem Fk(h:ps.Nodup):(WI ps).Pairwise λa b=>RE a b=AK:=by
 have h2:(WI ps).Nodup:=(rB ps).nodup_iff.mpr h;exact((Rx ps).and h2).imp λ{a b} e=>zOH e.1 e.2
theorem Net.back{AE:Int}{ps:List (Int×Int)}(N:Net AE ps):Net AE (back ps):=by
 have pm:=rB (ps.map xX);refine{N.m1,N.m2,?_,λp hp=>?_,Fk ?_}
 .unfold My.back;rw[pm.length_eq,AI];exact N.len
 .obtain⟨q,hq,rfl⟩:=BQ.mp (pm.mem_iff.mp hp)
  obtain⟨a,b,c,d,e⟩:=N.rg q hq;exact{c,d,a,b,FO e}
 .have:ps.Nodup:=N.pw.imp λe=>yEX e
  exact U5 _ (λa b Nf z=>Nf (by obtain⟨a1,a2⟩:=a;obtain⟨b1,b2⟩:=b;simp only[xX,iA] at z;rw[z.1,z.2])) this
theorem zWY{t:Tg}{ge:G}{E:Ev}{ds:List D}(P:Ev->Prop)(hi:gi E=.ok (ds,E1))(h0:P (XW k js E1))(hl:ds.length<10000)
  (hs:∀d∈ds,∀E,P E->∃E1,WQ t d E=.ok E1/\∃E3,ge E1=.ok (.bl AK,E3)/\P E3)
  (hb:∀Ec,P Ec->aH E1 Ec k js=E1):KY gi k js t K4 ge E=.ok (.lst (ds.map λ_=>.bl AK),E1):=by
 have:=bM (t:=t) (tt:=K4) (ge:=ge) (λ_=>[.bl AK]) P hi h0 hl (λd hd E hE=>by
  obtain⟨E1,e1,E3,e3,p⟩:=hs d hd E hE
  exact{E1,e1,AK,E1,rfl,.inl {rfl,_,_,e3,rfl,p}}) hb
 rw[this]
 congr 3
 clear this hi hl hs
 induction ds with
 |nil=>rfl
 |cons p ps ih=>simp only[AU,CI,ih];rfl
theorem zWZ(ds:List α):mY [.lst (ds.map λ_=>.bl AK)]=.ok (.bl AK):=by
 have:kO (ds.map λ_=>D.bl AK)=AA (ds.map λ_=>AK):=by
  induction ds with
  |nil=>rfl
  |cons d ds ih=>simp[kO,ih]
 simp[mY,this]
def JE:Option Int->D
 |none=>.non
 |some i=>.int i
inductive Rc(ps:List (Int×Int))(cl:List Int)(g:Int):Int->Prop
 |refl:g∉cl->Rc ps cl g g
 |step {x y:Int}:Rc ps cl g x->(x,y)∈ps->y∉cl->Rc ps cl g y
def vis(aw:List (Option Int))(x:Int):Prop:=0<=x/\∃v,aw[x.toNat]?=AA (AA v)
noncomputable def XV:List (Option Int)->Nat
 |[]=>0
 |none::r=>XV r+1
 |some _::r=>XV r
theorem Ro:∀{l:List (Option Int)} {i:Nat} {v:Int},l[i]?=AA AL->XV (l.set i (AA v))+1=XV l
 |[],_,_,h=>by simp at h
 |o::l,0,v,h=>by simp at h;subst h;rfl
 |o::l,i+1,v,h=>by
  have:=Ro (l:=l) (i:=i) (v:=v) (by simpa using h);cases o<;>simp[XV]<;>lia
theorem zK:∀l:List (Option Int),XV l<=l.length
 |[]=>AM _
 |none::r=>by have:=zK r;simp[XV];lia
 |some _::r=>by have:=zK r;simp[XV];lia
theorem nP{j v x:Int}(h0:0<=j)(h1:j.toNat<aw.length):vis (aw.set j.toNat (AA v)) x↔vis aw x\/x=j:=by
 unfold vis
 by_cases e:x=j
 .subst e
  simp only[or_true,iff_true];exact{h0,v,by rw[BE h1]}
 .constructor
  .rintro⟨a,w,b⟩
   rw[A8 'l'] at b;exact .inl {a,w,b}
  .rintro(⟨a,w,b⟩|h)
   .exact{a,w,by rw[A8 'l'];exact b}
   .exact absurd h e
theorem UW{y:Int}:y∈VB ps j↔((j:Int),y)∈ps:=by
 unfold VB;constructor
 .intro h
  obtain⟨p,hp,rfl⟩:=BQ.mp h;obtain⟨hp,e⟩:=CN.mp hp;have:=of_decide_eq_true e;rw[<-this];exact hp
 .intro h
  exact BQ.mpr {_,CN.mpr {h,decide_eq_true rfl},rfl}
noncomputable def nA(AE:Int)(cl:List Int):D:=.lst ((DL AE.toNat).map λ(j:Nat)=>.bl (decide ((j:Int)∈cl)))
def env(AE:Int)(ps:List (Int×Int))(cl:List Int)(start:Int)(aw:List (Option Int))(GP:List Int)(u8 u9 u10:Sl):Ev :=
 [.val (DO AE ps),.val (.int start),.val (.tup (cl.map D.int)),.val (.int AE),.own AC (.lst (aw.map JE)),.val (fW AE ps),.val (nA AE cl),.val (.lst (GP.map D.int)),u8,u9,u10]
abbrev WG(D9:List Int):Sl:=.own AC (.lst (D9.map D.int))
structure Rg(AE:Int)(ps:List (Int×Int)):Prop where
 m1:0<=AE
 m2:AE<=100
 len:ps.length<=1000
 rg:∀p∈ps,0<=p.1/\p.1<AE/\0<=p.2/\p.2<AE
section
variable{cl:List Int}{start:Int}
abbrev Io:GS:=LM (T2 [4] (WK (gB (g2 rN (g2 EG (AW 4) (AW 10)) (gC .non))) (WL (RB (g2 EG (AW 6) (AW 10))))))
 (FQ (RT 4 (AW 10) (OP [4] (g2 NP (g2 EG (AW 4) (AW 9)) (gC (.int 1)))))
 (bH (P6 8 X9 [(AW 10)])))
 NC
theorem Wv{x:Int}{o:Option Int}(h0:0<=x)(h:aw[x.toNat]?=AA o):EG (.lst (aw.map JE)) (.int x)=.ok (JE o):=by
 have:=yO (xs:=aw.map JE) (x:=JE o) h0 (by rw[AX,h];rfl);exact uD this
theorem yAW{x:Int}(h0:0<=x)(h:x<AE):EG (nA AE cl) (.int x)=.ok (.bl (decide (x∈cl))):=by
 have:=yO (xs:=(DL AE.toNat).map λ(j:Nat)=>D.bl (decide ((j:Int)∈cl))) (x:=.bl (decide (x∈cl))) h0 (by
  rw[AX,I0 'l',JD,show((x.toNat:Nat):Int)=x by lia])
 exact uD this
theorem yAX{x:Int}(h0:0<=x)(h:x<AE):EG (fW AE ps) (.int x)=.ok (.lst ((VB ps x.toNat).map D.int)):=by
 have:=yO (xs:=(DL AE.toNat).map λ(j:Nat)=>D.lst ((VB ps j).map D.int)) (x:=.lst ((VB ps x.toNat).map D.int)) h0 (by
  rw[AX,I0 'l',JD])
 exact uD this
theorem yAY{D9:List Int}{one EE v:Int}(hl:aw.length=AE.toNat)(h1:0<=one)(hv:aw[one.toNat]?=AA (AA v))(h2:0<=EE)(h3:EE<AE)(hll:D9.length<10000) :
  ∃eW OW,Io (env AE ps cl start aw GP (WG D9) (.val (.int one)) (.val (.int EE)))=.ok (.nx (env AE ps cl start eW GP (WG OW) (.val (.int one)) (.val (.int EE)))) /\
   ((aw[EE.toNat]?=AA AL/\EE∉cl/\eW=aw.set EE.toNat (AA (v+1))/\OW=D9++[EE])\/(eW=aw/\OW=D9/\(EE∉cl->vis aw EE))):=by
 obtain⟨o,ho⟩:∃o,aw[EE.toNat]?=AA o:={_,BL 'l'}
 have t1:∀b,(match o with|none=>AK|_=>AC)=b->gB (g2 rN (g2 EG (AW 4) (AW 10)) (gC .non)) (O4 [4] (env AE ps cl start aw GP (WG D9) (.val (.int one)) (.val (.int EE))))=.ok (b,O4 [4] (env AE ps cl start aw GP (WG D9) (.val (.int one)) (.val (.int EE)))):=λb hb =>
  MI (EW (EW (x:=.lst (aw.map JE)) (y:=.int EE) rfl rfl (Wv h2 ho)) (y:=.non) rfl (by cases o<;>subst hb<;>rfl))
 have t2:WL (RB (g2 EG (AW 6) (AW 10))) (O4 [4] (env AE ps cl start aw GP (WG D9) (.val (.int one)) (.val (.int EE))))=.ok (!decide (EE∈cl),O4 [4] (env AE ps cl start aw GP (WG D9) (.val (.int one)) (.val (.int EE)))) :=
  lC (Z9 (EW (x:=nA AE cl) (y:=.int EE) rfl rfl (yAW h2 h3)) rfl)
 cases o with
 |some w =>
  refine{aw,D9,RC (aD (qD (t1 AC rfl))) rfl,.inr {rfl,rfl,λ_=>{h2,w,ho}}}
 |none =>
  by_cases hc:EE∈cl
  .rw[decide_eq_true hc] at t2
   exact{aw,D9,RC (aD (iY (t1 AK rfl) t2)) rfl,.inr {rfl,rfl,λz=>absurd hc z}}
  .rw[decide_eq_false hc] at t2
   refine{_,_,W3 (aD (iY (t1 AK rfl) t2)) (GT (E1:=env AE ps cl start (aw.set EE.toNat (AA (v+1))) GP (WG D9) (.val (.int one)) (.val (.int EE))) ?_ ?_),.inl {ho,hc,rfl,rfl}}
   .have hb:OP [4] (g2 NP (g2 EG (AW 4) (AW 9)) (gC (.int 1))) (env AE ps cl start aw GP (WG D9) (.val (.int one)) (.val (.int EE)))=.ok (.int (v+1),env AE ps cl start aw GP (WG D9) (.val (.int one)) (.val (.int EE))) :=
     ZK (EW (EW (x:=.lst (aw.map JE)) (y:=.int one) rfl rfl (Wv h1 hv)) (y:=.int 1) rfl rfl) rfl
    have:=cW (i:=4) (gk:=AW 10) (t:=AC) (d:=.lst (aw.map JE)) (k:=.int EE) (d':=.lst ((aw.set EE.toNat (AA (v+1))).map JE)) rfl hb rfl rfl (by
     rw[Ia (Dc h2 (by rw[AI];lia)),List.map_set];rfl)
    exact this
   .have:=nQ (i:=8) (f:=X9) (gs:=[AW 10]) (E:=env AE ps cl start (aw.set EE.toNat (AA (v+1))) GP (WG D9) (.val (.int one)) (.val (.int EE))) (xs:=D9.map D.int) (ds:=[.int EE]) (x:=.non) (TX:=(D9++[EE]).map D.int) rfl rfl rfl (by
     simp only[X9,AI]
     rw[ZI hll];simp)
    exact tQ this
structure Bf(ps:List (Int×Int))(cl:List Int)(start:Int)(n:Nat)(O9 aw:List (Option Int))(D9:List Int):Prop where
 len:aw.length=n
 mono:∀x,vis O9 x->vis aw x
 new:∀x,vis aw x->vis O9 x\/x∈D9
 lat:∀x∈D9,vis aw x
 rc:∀x,vis aw x->Rc ps cl start x
 cnt:XV aw+D9.length=XV O9
theorem Bf.step{O9 aw:List (Option Int)}{D9:List Int}{one EE v:Int}{n:Nat}(B:Bf ps cl start n O9 aw D9)(h1:vis aw one)(he:(one,EE)∈ps)(h2:0<=EE)(h3:EE.toNat<n)(h4:aw[EE.toNat]?=AA AL)(h5:EE∉cl) :
  Bf ps cl start n O9 (aw.set EE.toNat (AA (v+1))) (D9++[EE]) where
 len:=by rw[CC];exact B.len
 mono:=λx h=>(nP h2 (by rw[B.len];exact h3)).mpr (.inl (B.mono x h))
 new:=λx h=>by
  rcases(nP h2 (by rw[B.len];exact h3)).mp h with h|rfl
  .rcases B.new x h with h|h
   .exact .inl h
   .exact .inr (DI _ h)
  .exact .inr 's'
 lat:=λx h=>by
  refine(nP h2 (by rw[B.len];exact h3)).mpr ?_;rcases CA.mp h with h|h
  .exact .inl (B.lat x h)
  .exact .inr (BB.mp h)
 rc:=λx h=>by
  rcases(nP h2 (by rw[B.len];exact h3)).mp h with h|rfl
  .exact B.rc x h
  .exact .step (B.rc one h1) he h5
 cnt:=by
  have:=Ro (v:=v+1) h4;have:=B.cnt;rw[BO,KH];lia
abbrev Am:GS:=P4 (IK (g2 EG (AW 5) (AW 9))) (.nm 10) Io
theorem zW0(R:Rg AE ps){TY:List (Option Int)}{VX:List Int}{one:Int}(B1:Bf ps cl start AE.toNat O9 TY VX)(hv:vis TY one)(ho:one<AE)(g7:XV O9<=100) :
  ∃aw D9 u,Am (env AE ps cl start TY GP (WG VX) (.val (.int one)) u10)=.ok (.nx (env AE ps cl start aw GP (WG D9) (.val (.int one)) u))/\Bf ps cl start AE.toNat O9 aw D9/\(∀x,vis TY x->vis aw x)/\∀y,(one,y)∈ps->y∉cl->vis aw y:=by
 have h0:=hv.1
 obtain⟨E',e,aw,D9,u,rfl,B,mo,ex⟩:=i4 (gi:=IK (g2 EG (AW 5) (AW 9))) (t:=.nm 10) (g:=Io) (E:=env AE ps cl start TY GP (WG VX) (.val (.int one)) u10) (ds:=(VB ps one.toNat).map D.int)
  (λi E=>∃aw D9 u,E=env AE ps cl start aw GP (WG D9) (.val (.int one)) u/\Bf ps cl start AE.toNat O9 aw D9/\(∀x,vis TY x->vis aw x)/\∀y∈(VB ps one.toNat).take i,y∉cl->vis aw y)
  (nR (EW (x:=fW AE ps) (y:=.int one) rfl rfl (yAX h0 ho))) {TY,VX,u10,rfl,B1,λ_ h=>h,λy h=>by simp at h}
  (λi d E hd q0=>by
   obtain⟨aw,D9,u,hE,B,mo,ex⟩:=q0;subst hE;rw[AX] at hd;obtain⟨y,hy,rfl⟩:=BY.mp hd
   have wJ:(one,y)∈ps:=by
    have:=UW.mp (DH hy)
    rwa [show((one.toNat:Nat):Int)=one by lia] at this
   obtain⟨_,_,y0,y1⟩:=R.rg _ wJ;simp only at y0 y1;obtain⟨w,hw⟩:=(mo one hv).2;have Cf:=B.cnt;obtain⟨eW,OW,e,h⟩:=yAY (ps:=ps) (cl:=cl) (start:=start) (GP:=GP) (D9:=D9) B.len h0 hw y0 y1 'l';refine{_,rfl,_,e,eW,OW,_,rfl,?_}
   have oX:(VB ps one.toNat).take (i+1)=(VB ps one.toNat).take i++[y]:=by
    obtain⟨hi,e⟩:=AQ.mp hy;rw[CH hi,e]
   rcases h with⟨a,b,rfl,rfl⟩|⟨rfl,rfl,hz⟩
   .have B':=B.step (v:=w) (mo one hv) wJ y0 'l' a b
    refine{B',λx hx=>(nP y0 (by rw[B.len];lia)).mpr (.inl (mo x hx)),λz hz dY=>?_};rw[oX] at hz;refine(nP y0 (by rw[B.len];lia)).mpr ?_;rcases CA.mp hz with h|h
    .exact .inl (ex z h dY)
    .exact .inr (BB.mp h)
   .refine{B,mo,λz h dY=>?_}
    rw[oX] at h;rcases CA.mp h with h|h
    .exact ex z h dY
    .rw[BB.mp h] at dY ⊢;exact hz dY)
 refine{aw,D9,u,e,B,mo,λy hy lU=>ex y ?_ lU};rw[AI,GF];exact UW.mpr (by rwa [show((one.toNat:Nat):Int)=one by lia])
end
section
variable{cl:List Int}{start:Int}
theorem yEZ{x:Int}(hl:aw.length=n)(h:vis aw x):0<=x/\x<n:=by
 obtain⟨a,v,b⟩:=h;have:=(AQ.mp b).1;exact{a,by lia}
theorem zW1(R:Rg AE ps)(hl:O9.length=AE.toNat)(Bz:∀x,vis O9 x->Rc ps cl start x)(o8:∀x∈GP,vis O9 x) :
  ∃aw D9 u v,P4 (IK (AW 7)) (.nm 9) Am (env AE ps cl start O9 GP (WG []) u9 u10)=.ok (.nx (env AE ps cl start aw GP (WG D9) u v))/\Bf ps cl start AE.toNat O9 aw D9/\∀x∈GP,∀y,(x,y)∈ps->y∉cl->vis aw y:=by
 have g7:XV O9<=100:=by have:=zK O9;have:=R.m2;lia
 obtain⟨E',e,aw,D9,u,v,rfl,B,ex⟩:=i4 (gi:=IK (AW 7)) (t:=.nm 9) (g:=Am) (E:=env AE ps cl start O9 GP (WG []) u9 u10) (ds:=GP.map D.int)
  (λi E=>∃aw D9 u v,E=env AE ps cl start aw GP (WG D9) u v/\Bf ps cl start AE.toNat O9 aw D9/\∀x∈GP.take i,∀y,(x,y)∈ps->y∉cl->vis aw y)
  (nR rfl) {O9,[],u9,u10,rfl,{hl,λ_ h=>h,λ_ h=>.inl h,λ_ h=>by simp at h,Bz,rfl},λy h=>by simp at h}
  (λi d E hd q0=>by
   obtain⟨aw,D9,u,v,hE,B,ex⟩:=q0;subst hE;rw[AX] at hd;obtain⟨x,hx,rfl⟩:=BY.mp hd;have Zt:=B.mono x (o8 x (DH hx));have KZ:=yEZ B.len Zt;obtain⟨eW,OW,u',e,B',mo,ex'⟩:=zW0 R (GP:=GP) (u10:=v) B Zt (by have:=R.m1;lia) g7;refine{_,rfl,_,e,eW,OW,_,u',rfl,B',λz hz y hy lU=>?_};obtain⟨hi,e⟩:=AQ.mp hx;rw[CH hi,e] at hz;rcases CA.mp hz with h|h
   .exact mo y (ex z h y hy lU)
   .rw[BB.mp h] at hy;exact ex' y hy lU)
 rw[AI,GF] at ex;exact{aw,D9,u,v,e,B,ex}
abbrev Xx:GS:=(FQ (SF 8 (JF []))
 (FQ (P4 (IK (AW 7)) (.nm 9) Am)
 (HZ (.nm 7) (AW 8))))
theorem zW2(R:Rg AE ps)(hl:O9.length=AE.toNat)(hv:∀x,vis O9 x↔x=start)(hs:start∉cl) :
  ∃aw u8 u9 u10,YG (RB (AW 7)) Xx 100000 (env AE ps cl start O9 [start] .no .no .no)=.ok (.nx (env AE ps cl start aw [] u8 u9 u10))/\aw.length=AE.toNat/\∀x,vis aw x↔Rc ps cl start x:=by
 have g7:XV O9<=100:=by have:=zK O9;have:=R.m2;lia
 obtain⟨E',e,aw,u8,u9,u10,rfl,h1,h2⟩:=yP (t:=RB (AW 7)) (g:=Xx)
  (λn E=>∃aw GP u8 u9 u10,E=env AE ps cl start aw GP u8 u9 u10/\aw.length=AE.toNat/\(∀x,vis aw x->Rc ps cl start x)/\vis aw start/\(∀x∈GP,vis aw x)/\(∀x,vis aw x->x∈GP\/∀y,(x,y)∈ps->y∉cl->vis aw y)/\n=XV aw+(if GP=[] then 0 else 1))
  (λE=>∃aw u8 u9 u10,E=env AE ps cl start aw [] u8 u9 u10/\aw.length=AE.toNat/\∀x,vis aw x↔Rc ps cl start x)
  (λn E hP=>by
   obtain⟨aw,GP,u8,u9,u10,hE,hl,Bz,gU,o8,hex,hn⟩:=hP;subst hE
   cases GP with
   |nil =>
    refine .inl {_,Z9 (d:=.lst []) rfl rfl,aw,u8,u9,u10,rfl,hl,λx=>{Bz x,λh=>?_}}
    induction h with
    |refl _=>exact gU
    |step _ he hc ih =>
     rcases hex _ ih with h|h
     .simp at h
     .exact h _ he hc
   |cons r GP =>
    obtain⟨eW,D9,u,v,e,B,ex⟩:=zW1 R (GP:=r::GP) (u9:=u9) (u10:=u10) hl Bz o8;refine .inr {_,env AE ps cl start eW D9 (.val (.lst (D9.map D.int))) u v,XV eW+(if D9=[] then 0 else 1),Z9 (d:=.lst ((r::GP).map D.int)) rfl rfl,GT (aE (d:=.lst []) rfl) (GT e (MJ (d:=.lst (D9.map D.int)) rfl rfl)),?_,eW,D9,_,_,_,rfl,B.len,B.rc,B.mono _ gU,B.lat,λx hx=>?_,rfl}
    .have:=B.cnt
     rw[show(if(r::GP:List Int)=[] then 0 else 1)=1 from if_neg 's'] at hn
     cases D9 with
     |nil=>simp at this ⊢;lia
     |cons a l=>simp at this ⊢;lia
    .rcases B.new x hx with h|h
     .refine .inr ?_
      rcases hex x h with h|h
      .exact ex x h
      .exact λy hy hc=>B.mono y (h y hy hc)
     .exact .inl h) 100000 (XV O9+1) (env AE ps cl start O9 [start] .no .no .no) 'l'
  {O9,[start],_,_,_,rfl,hl,λx h=>by rw[(hv x).mp h];exact .refl hs,(hv _).mpr rfl,λx h=>by rw[BB.mp h];exact(hv _).mpr rfl,λx h=>.inl (by rw[(hv x).mp h];simp),rfl}
 exact{aw,u8,u9,u10,e,h1,h2}
theorem yAZ(R:Rg AE ps):lI [.val (DO AE ps)]=.ok (AC,fW AE ps,.non):=by
 exact yGR {rfl,R.m1,R.m2,R.len,λp hp=>{(R.rg p hp).1,(R.rg p hp).2.1}}
theorem yA0(R:Rg AE ps){E:Ev}(h3:E[3]?=AA (.val (.int AE)))(h2:E[2]?=AA (.val (.tup (cl.map D.int))))(hb:∀Ec,aH E Ec 1 [2]=E):KY (OU (AW 3)) 1 [2] (.nm 0) K4 (g2 PK (AW 0) (AW 1)) E=.ok (nA AE cl,E):=by
 have UB:=R.m1;have RI:=R.m2;have hg:AW 3 E=.ok (.int AE,E):=by simp[AW,h3]
 have:=bM (k:=1) (js:=[2]) (t:=.nm 0) (tt:=K4) (ge:=g2 PK (AW 0) (AW 1)) (λd=>match d with|.int j=>[.bl (decide (j∈cl))]|_=>[]) (λE=>∃x,E=[x,.val (.tup (cl.map D.int))]) (lB hg {by lia,by lia}) {.no,by simp[XW,h2]} (by simp[QV];lia) (λd hd E q0=>by
  obtain⟨x,hE⟩:=q0;subst hE;obtain⟨j,_,rfl⟩:=BQ.mp hd
  exact{_,rfl,AK,_,rfl,.inl {rfl,_,_,EW (x:=.int (0+(j:Int))) (y:=.tup (cl.map D.int)) rfl rfl (Ed _ _),rfl,_,rfl}}) λEc _=>hb Ec
 rw[this]
 congr 3
 simp only[nA,QV];clear this;rw[List.flatMap_map];generalize DL AE.toNat=l
 induction l with
 |nil=>rfl
 |cons p ps ih=>simp only[AU,CI];rw[ih];simp
theorem yA1(R:Rg AE ps)(h0:0<=start)(h1:start<AE):∃aw,Ai [.val (DO AE ps),.val (.int start),.val (.tup (cl.map D.int))]=.ok (AC,.lst (aw.map JE),.non)/\aw.length=AE.toNat/\∀x,vis aw x↔Rc ps cl start x:=by
 have UB:=R.m1;have RI:=R.m2;obtain⟨TY,aP⟩:∃TY:List (Option Int),TY=BH AE.toNat AL:={_,rfl}
 have Lh:iM (.lst [.non]) (.int AE)=.ok (.lst (TY.map JE)):=by
  have e:(BH AE.toNat [D.non]).flatten=TY.map JE:=by
   rw[aP,List.map_replicate];generalize AE.toNat=n
   induction n with
   |zero=>rfl
   |succ n ih=>rw[ES,ES,GZ,ih];rfl
  simp only[iM,L2.guard];rw[if_pos {by lia,by lia,by simp;lia},e]
 have Kz:∀x,¬vis TY x:=by
  rintro x ⟨_,v,b⟩;rw[aP,D5] at b;split at b<;>simp at b
 obtain⟨E3,YU⟩:∃E3:Ev,E3=[.val (DO AE ps),.val (.int start),.val (.tup (cl.map D.int)),.val (.int AE),.own AC (.lst (TY.map JE)),.no,.no,.no,.no,.no,.no]:={_,rfl}
 have Bn:gB (g2 PK (AW 1) (AW 2)) E3=.ok (decide (start∈cl),E3):=by
  rw[YU];exact MI (EW (x:=.int start) (y:=.tup (cl.map D.int)) rfl rfl (Ed _ _))
 have s1:∀{g:GS} {r:Out Fl},g E3=r->(FQ (HZ (.nm 3) (g2 EG (AW 0) (gC (.int 0)))) (FQ (SF 4 (g2 iM (JF [(gC .non)]) (AW 3))) g)) ([.val (DO AE ps),.val (.int start),.val (.tup (cl.map D.int))]++BH 8 .no)=r:=λh =>
  GT (MJ (d:=.int AE) (EW (x:=DO AE ps) (y:=.int 0) rfl rfl rfl) rfl) (GT (aE (EW (x:=.lst [.non]) (y:=.int AE) rfl rfl Lh)) (by rw[YU] at h;exact h))
 by_cases hs:start∈cl
 .rw[decide_eq_true hs] at Bn
  refine{TY,P5 (s1 (qE (b:=AC) (d:=.lst (TY.map JE)) (W3 Bn (RD (by rw[YU];rfl))))) rfl,by rw[aP];simp,λx=>{λh=>absurd h (Kz x),λh=>?_}}
  induction h with
  |refl h=>exact absurd hs h
  |step _ _ _ ih=>exact absurd ih (Kz _)
 .rw[decide_eq_false hs] at Bn
  have Lg:∀x,vis (TY.set start.toNat (AA 0)) x↔x=start:=λx=>by
   rw[nP h0 (by rw[aP];simp;lia)];exact{λh=>h.resolve_left (Kz x),.inr}
  obtain⟨aw,u8,u9,u10,ew,hl,hr⟩:=zW2 (cl:=cl) (start:=start) R (O9:=TY.set start.toNat (AA 0)) (by rw[aP];simp) Lg hs
  refine{aw,P5 (s1 (GT (RC Bn rfl) (GT (E1:=E3.set 5 (.val (fW AE ps))) (MJ (O7 (ds:=[DO AE ps]) (by rw[YU];rfl) (yAZ R)) rfl) (GT (E1:=(E3.set 5 (.val (fW AE ps))).set 6 (.val (nA AE cl))) (MJ (yA0 R (by rw[YU];rfl) (by rw[YU];rfl) (λEc=>by rw[YU];rfl)) rfl)
   (GT (E1:=(((E3.set 5 (.val (fW AE ps))).set 6 (.val (nA AE cl))).set 4 (.own AC (.lst ((TY.set start.toNat (AA 0)).map JE))))) ?_ (GT (E1:=env AE ps cl start (TY.set start.toNat (AA 0)) [start] .no .no .no) (MJ (d:=.lst [.int start]) (by rw[YU];rfl) (by first|rfl|(rw[YU];rfl))) (GT ew (RD (d:=.lst (aw.map JE)) rfl)))))))) rfl,hl,hr}
  rw[YU]
  exact cW (i:=4) (gk:=AW 1) (gv:=gC (.int 0)) (t:=AC) (d:=.lst (TY.map JE)) (v:=.int 0) (k:=.int start) (d':=.lst ((TY.set start.toNat (AA 0)).map JE)) rfl rfl rfl rfl (by
     rw[Ia (Dc h0 (by rw[AI,aP];simp;lia)),List.map_set];rfl)
end
noncomputable def fP:List (Option Int)->Nat->List Int
 |[],_=>[]
 |none::r,k=>fP r (k+1)
 |some _::r,k=>(k:Int)::fP r (k+1)
theorem PJ:∀{aw:List (Option Int)} {k:Nat} {x:Int},x∈fP aw k↔(k:Int)<=x/\∃v,aw[x.toNat-k]?=AA (AA v)
 |[],k,x=>by simp[fP]
 |none::r,k,x=>by
  rw[fP,PJ];constructor
  .rintro⟨a,v,b⟩
   refine{by lia,v,?_};rw[show x.toNat-k=(x.toNat-(k+1))+1 by lia,FW];exact b
  .rintro⟨a,v,b⟩
   by_cases e:x=k
   .subst e;simp at b
   .refine{by lia,v,?_}
    rw[show x.toNat-k=(x.toNat-(k+1))+1 by lia,FW] at b;exact b
 |some w::r,k,x=>by
  rw[fP,A7,PJ];constructor
  .rintro(rfl|⟨a,v,b⟩)
   .exact{HQ _,w,by simp}
   .refine{by lia,v,?_}
    rw[show x.toNat-k=(x.toNat-(k+1))+1 by lia,FW];exact b
  .rintro⟨a,v,b⟩
   by_cases e:x=k
   .exact .inl e
   .refine .inr {by lia,v,?_}
    rw[show x.toNat-k=(x.toNat-(k+1))+1 by lia,FW] at b;exact b
theorem Dz:∀(aw:List (Option Int)) (k:Nat),(fP aw k).Pairwise (· < ·)
 |[],_=>.nil
 |none::r,k=>Dz r (k+1)
 |some _::r,k=>L7.mpr {λx h=>by have:=(PJ.mp h).1;lia,Dz r (k+1)}
noncomputable def Ig(d:D):List D:=match d with
 |.tup [_,.non]=>[]
 |.tup [i,_]=>[i]
 |_=>[]
theorem Fj:∀(aw:List (Option Int)) (k:Nat),(((aw.map JE).zipIdx k).map λp=>D.tup [.int (p.2:Int),p.1]).flatMap Ig=(fP aw k).map D.int
 |[],_=>rfl
 |none::r,k=>by simp only[AU,KJ,CI,Fj r (k+1)];rfl
 |some _::r,k=>by simp only[AU,KJ,CI,Fj r (k+1)];rfl
section
variable{cl:List Int}{start:Int}
theorem Dy(R:Rg AE ps)(h0:0<=start)(h1:start<AE):∃xs:List Int,lJ [.val (DO AE ps),.val (.int start),.val (.tup (cl.map D.int))]=.ok (AC,.tup (xs.map D.int),.non)/\xs.Pairwise (· < ·)/\∀x,x∈xs↔Rc ps cl start x:=by
 obtain⟨aw,e,hl,hr⟩:=yA1 (cl:=cl) R h0 h1;have RI:=R.m2;refine{fP aw 0,?_,Dz aw 0,λx=>?_}
 .have hc:=bM (gi:=Dj (AW 3)) (k:=2) (js:=[]) (t:=.tp [.nm 0,.nm 1]) (tt:=gB (g2 sV (AW 1) (gC .non))) (ge:=AW 0) (E:=[.val (DO AE ps),.val (.int start),.val (.tup (cl.map D.int)),.val (.lst (aw.map JE))]) (E1:=[.val (DO AE ps),.val (.int start),.val (.tup (cl.map D.int)),.val (.lst (aw.map JE))]) (ds:=kM (aw.map JE)) Ig (λE=>E.length=2) rfl rfl (by simp[kM];lia) (λd hd E hE=>by
   obtain⟨⟨o,j⟩,ho,rfl⟩:=BQ.mp hd;obtain⟨x,y,rfl⟩:=Db hE
   have:∃w,JE w=o:=by
    have:=List.mem_zipIdx ho;obtain⟨w,_,hw⟩:=BQ.mp (List.mem_of_getElem (this.2.2.symm));exact{w,hw}
   obtain⟨w,rfl⟩:=this
   cases w with
   |none=>exact{_,rfl,AC,_,rfl,.inr {rfl,rfl,rfl}}
   |some w=>exact{_,rfl,AK,_,rfl,.inl {rfl,_,_,rfl,rfl,rfl}}) λEc _=>qN Ec 2 0 _
  have hf:(kM (aw.map JE)).flatMap Ig=(fP aw 0).map D.int:=Fj aw 0;rw[hf] at hc;exact P5 (GT (MJ (O7 (ds:=[DO AE ps,.int start,.tup (cl.map D.int)]) rfl e) rfl) (RD (PH (JU hc) rfl))) rfl
 .rw[PJ,<-hr]
  exact Iff.rfl
theorem Ab(R:Rg AE ps)(h0:0<=start)(h1:start<AE):∃xs:List Int,W7 [.val (DO AE ps),.val (.int start)]=.ok (AC,.tup (xs.map D.int),.non)/\xs.Pairwise (· < ·)/\∀x,x∈xs↔Rc ps [] start x:=by
 obtain⟨xs,e,h⟩:=Dy (cl:=[]) R h0 h1;exact{xs,P5 (RD (O7 (ds:=[DO AE ps,.int start,.tup []]) rfl e)) rfl,h}
end
noncomputable def sc(ps:List (Int×Int))(x:Int):List Int:=(ps.filter λp=>decide (p.1=x)).map (·.2)
theorem dF{x y:Int}:y∈sc ps x↔(x,y)∈ps:=by
 unfold sc;constructor
 .intro h
  obtain⟨p,hp,rfl⟩:=BQ.mp h;obtain⟨hp,e⟩:=CN.mp hp;have:=of_decide_eq_true e;rw[<-this];exact hp
 .intro h
  exact BQ.mpr {_,CN.mpr {h,decide_eq_true rfl},rfl}
theorem yE0(ps:List (Int×Int))(x:Int):(sc ps x).length<=ps.length:=by
 unfold sc;rw[AI];exact GO _ _
theorem Aa:∀ns:List Int,pAA (ns.map D.int)=AK
 |[]=>by simp[pAA]
 |n::ns=>by simp[pAA,D.nod,Aa ns]
theorem Gm:∀ns:List Int,pA9 (ns.map D.int)=AK
 |[]=>by simp[pA9]
 |n::ns=>by simp[pA9,D.flat,Gm ns]
theorem Pi(x:Int)(c:Option Int):IL (.int x) (JE c)=.ok (.bl (decide (x∉c.toList))):=by
 cases c with
 |none=>rw[JE,zWP];simp
 |some c=>rw[JE,gE];simp
def gP(fs:List Int):D:=.dk (fs.map λx=>(.inl x,.bl AK))
theorem yA3(fs:List Int)(x:Int):(OI (κ:=Key) (fs.map λx=>(.inl x,.bl AK)) (.inl x)).isSome=decide (x∈fs):=by
 unfold OI
 induction fs with
 |nil=>rfl
 |cons a fs ih =>
  rw[AU,EK]
  by_cases e:a=x
  .subst e;simp
  .have e2:¬((CZ a:Key)=.inl x):=λz=>e (LZ z)
   simp only[e2,decide_false,ih];have:¬x=a:=λz=>e z.symm;simp[this]
theorem yA4{fs:List Int}{x:Int}(h:x∉fs):OT (κ:=Key) (fs.map λx=>(.inl x,.bl AK)) (.inl x) (.bl AK)=(fs++[x]).map λx=>(.inl x,.bl AK):=by
 unfold OT;rw[if_neg]
 .simp
 .rw[List.any_map]
  intro z;obtain⟨a,ha,e⟩:=KL.mp z;have:=LZ (of_decide_eq_true e);exact h (this▸ha)
section
variable{BV:Option Int}{BF:Int}
def XU(AE:Int)(ps:List (Int×Int))(BV:Option Int)(BF:Int)(u3 u4 u5 u6 u7:Sl):Ev:=[.val (DO AE ps),.val (.int BF),.val (JE BV),u3,u4,u5,u6,u7]
def Ix(ps:List (Int×Int))(kvs:List (Key×D)):Prop:=∀x:Int,(OI kvs (.inl x)).getD (.lst [])=.lst ((sc ps x).map D.int)
theorem zW3(hl:ps.length<=1000):∃kvs u4 u5,P4 (IK (g2 EG (AW 0) (gC (.int 1)))) (.tp [(.nm 4),(.nm 5)])
 (RT 3 (AW 4) (OP [3] (g2 NP (cQ (AW 3) (AW 4) (JF [])) (JF [(AW 5)])))) (XU AE ps BV BF (.own AC (.dk [])) .no .no .no .no)=.ok (.nx (XU AE ps BV BF (.own AC (.dk kvs)) u4 u5 .no .no))/\Ix ps kvs:=by
 obtain⟨E',e,kvs,u4,u5,rfl,hk,ht⟩:=i4 (gi:=IK (g2 EG (AW 0) (gC (.int 1)))) (t:=.tp [(.nm 4),(.nm 5)]) (g:=RT 3 (AW 4) (OP [3] (g2 NP (cQ (AW 3) (AW 4) (JF [])) (JF [(AW 5)])))) (E:=XU AE ps BV BF (.own AC (.dk [])) .no .no .no .no) (ds:=ps.map JS)
  (λi E=>∃kvs u4 u5,E=XU AE ps BV BF (.own AC (.dk kvs)) u4 u5 .no .no/\kvs.length<=i/\Ix (ps.take i) kvs) (gD (EW (x:=DO AE ps) (y:=.int 1) rfl rfl rfl)) {[],_,_,rfl,AM _,λx=>rfl}
  (λi d E hd hP=>by
   obtain⟨kvs,u4,u5,hE,hk,ht⟩:=hP;subst hE;rw[AX] at hd;obtain⟨⟨a,b⟩,hp,rfl⟩:=BY.mp hd;have Ce:=(AQ.mp hp).1;have Lf:=yE0 (ps.take i) a;rw[GG] at Lf;have hf:=Gq (λp:Int×Int=>decide (p.1=a)) hp
   have hg:cQ (AW 3) (AW 4) (JF []) (O4 [3] (XU AE ps BV BF (.own AC (.dk kvs)) (.val (.int a)) (.val (.int b)) .no .no))=.ok (.lst ((sc (ps.take i) a).map D.int),O4 [3] (XU AE ps BV BF (.own AC (.dk kvs)) (.val (.int a)) (.val (.int b)) .no .no)):=by
    have:=Pm (gd:=AW 3) (gk:=AW 4) (gx:=JF []) (E:=O4 [3] (XU AE ps BV BF (.own AC (.dk kvs)) (.val (.int a)) (.val (.int b)) .no .no)) (a:=.dk kvs) (k:=.int a) (x:=.lst []) (o:=OI kvs (.inl a)) rfl rfl rfl rfl;rw[ht a] at this;exact this
   have hb:OP [3] (g2 NP (cQ (AW 3) (AW 4) (JF [])) (JF [(AW 5)])) (XU AE ps BV BF (.own AC (.dk kvs)) (.val (.int a)) (.val (.int b)) .no .no)=.ok (.lst ((sc (ps.take (i+1)) a).map D.int),XU AE ps BV BF (.own AC (.dk kvs)) (.val (.int a)) (.val (.int b)) .no .no):=by
    refine ZK (EW hg (y:=.lst [.int b]) rfl ?_) ?_
    .refine Ww (by rw[AI];show _+1<10000;lia) ?_
     unfold sc;rw[hf,if_pos (decide_eq_true rfl)];simp
    .simp only[cV,XU,D.flat,D.nod,Aa];rfl
   refine{_,rfl,_,cW (i:=3) (t:=AC) (d:=.dk kvs) (k:=.int a) (d':=.dk (OT kvs (.inl a) (.lst ((sc (ps.take (i+1)) a).map D.int)))) rfl hb rfl rfl (by simp only[mX,iU];rw[ZI 'l']),OT kvs (.inl a) (.lst ((sc (ps.take (i+1)) a).map D.int)),_,_,rfl,AY (t7 _ _ _) (EJ hk (AM _)),λx=>?_}
   by_cases ex:x=a
   .subst ex;rw[zK2];rfl
   .rw[zOF _ _ (λz=>ex (LZ z)),ht x]
    have hf:=Gq (λp:Int×Int=>decide (p.1=x)) hp;unfold sc
    rw[hf,if_neg (by simp only[decide_eq_true_eq];exact λz=>ex z.symm),EL])
 rw[AI,GF] at ht;exact{kvs,u4,u5,e,ht}
end
section
variable{BV:Option Int}{BF:Int}
abbrev uM:GS:=LM (T2 [6] (WK (gB (g2 IL (AW 5) (AW 2))) (gB (g2 T3 (AW 5) (AW 6)))))
 (FQ (RT 6 (AW 5) (gC (.bl AK)))
 (bH (P6 7 X9 [(AW 5)])))
 NC
def QB(AE:Int)(ps:List (Int×Int))(BV:Option Int)(BF:Int)(u3 u4 u5:Sl)(fs GP:List Int):Ev:=XU AE ps BV BF u3 u4 u5 (.own AC (gP fs)) (.own AC (.lst (GP.map D.int)))
theorem zW4(x:Int)(fs:List Int):T3 (.int x) (gP fs)=.ok (.bl (decide (x∉fs))):=by
 have:=yA3 fs x;simp only[T3,PK,gP,kU,iU,JD];simp only[Out.bind,this];simp
theorem yGV{fs:List Int}{y:Int}(hf:fs.length<10000)(hr:GP.length<10000) :
  ∃pN OV,uM (QB AE ps BV BF u3 u4 (.val (.int y)) fs GP)=.ok (.nx (QB AE ps BV BF u3 u4 (.val (.int y)) pN OV)) /\
   ((y∉BV.toList/\y∉fs/\pN=fs++[y]/\OV=GP++[y])\/((y∈BV.toList\/y∈fs)/\pN=fs/\OV=GP)):=by
 obtain⟨E0,g8⟩:∃E0,E0=O4 [6] (QB AE ps BV BF u3 u4 (.val (.int y)) fs GP):={_,rfl}
 have t1:gB (g2 IL (AW 5) (AW 2)) E0=.ok (decide (y∉BV.toList),E0):=by
  rw[g8];exact MI (EW (x:=.int y) (y:=JE BV) rfl rfl (Pi _ _))
 have t2:gB (g2 T3 (AW 5) (AW 6)) E0=.ok (decide (y∉fs),E0):=by
  rw[g8];exact MI (EW (x:=.int y) (y:=gP fs) rfl rfl (zW4 _ _))
 by_cases hc:y∈BV.toList
 .rw[decide_eq_false (λz=>z hc)] at t1
  exact{fs,GP,RC (aD (by rw[<-g8];exact qD t1)) rfl,.inr {.inl hc,rfl,rfl}}
 rw[decide_eq_true hc] at t1
 by_cases hm:y∈fs
 .rw[decide_eq_false (λz=>z hm)] at t2
  exact{fs,GP,RC (aD (by rw[<-g8];exact iY t1 t2)) rfl,.inr {.inr hm,rfl,rfl}}
 rw[decide_eq_true hm] at t2;refine{fs++[y],GP++[y],W3 (aD (by rw[<-g8];exact iY t1 t2)) (GT (E1:=QB AE ps BV BF u3 u4 (.val (.int y)) (fs++[y]) GP) ?_ ?_),.inl {hc,hm,rfl,rfl}}
 .exact cW (i:=6) (gk:=AW 5) (gv:=gC (.bl AK)) (E:=QB AE ps BV BF u3 u4 (.val (.int y)) fs GP) (E1:=QB AE ps BV BF u3 u4 (.val (.int y)) fs GP) (E2:=QB AE ps BV BF u3 u4 (.val (.int y)) fs GP) (t:=AC) (d:=gP fs) (k:=.int y) (v:=.bl AK) (d':=gP (fs++[y])) rfl rfl rfl rfl (by
   exact(yGU (by rw[AI];exact hf)).trans (by rw[yA4 hm];rfl))
 .have:=nQ (i:=7) (f:=X9) (gs:=[AW 5]) (E:=QB AE ps BV BF u3 u4 (.val (.int y)) (fs++[y]) GP) (xs:=GP.map D.int) (ds:=[.int y]) (x:=.non) (TX:=(GP++[y]).map D.int) rfl rfl rfl (by
  simp only[X9,AI]
  rw[ZI hr];simp)
  exact tQ this
structure Fd(ps:List (Int×Int))(cl:List Int)(BF AE:Int)(fs GP:List Int):Prop where
 nd:fs.Nodup
 rc:∀x∈fs,Rc ps cl BF x
 rg:∀x∈fs,0<=x/\x<AE
 sub:∀x∈GP,x∈fs
theorem Fd.len{cl:List Int}{fs:List Int}(F:Fd ps cl BF AE fs GP):fs.length<=AE.toNat:=by
 have:=DD (l₂:=(DL AE.toNat).map λ(j:Nat)=>(j:Int)) F.nd (λx hx=>by
  obtain⟨a,b⟩:=F.rg x hx
  exact BQ.mpr {x.toNat,IP.mpr 'l',by lia})
 simpa using this
theorem yA5(R:Rg AE ps){kvs:List (Key×D)}{N4 VU:List Int}{r:Int}(hr:r∈N4)(F0:Fd ps BV.toList BF AE N4 VU)(jQ:VU.length<=N4.length) :
  ∃fs GP u,TQ (.nm 5) uM ((sc ps r).map D.int) (QB AE ps BV BF (.val (.dk kvs)) u4 u5 N4 VU)=.ok (.nx (QB AE ps BV BF (.val (.dk kvs)) u4 u fs GP))/\Fd ps BV.toList BF AE fs GP/\(∀x∈N4,x∈fs)/\(∀x∈VU,x∈GP)/\(∀x∈fs,x∈N4\/x∈GP)/\fs.length+VU.length=GP.length+N4.length/\∀y,(r,y)∈ps->y∉BV.toList->y∈fs:=by
 have RI:=R.m2
 obtain⟨E',e,fs,GP,u,rfl,F,a,b,c,d,ex⟩:=zS (t:=.nm 5) (g:=uM) (λi E=>∃fs GP u,E=QB AE ps BV BF (.val (.dk kvs)) u4 u fs GP/\Fd ps BV.toList BF AE fs GP/\(∀x∈N4,x∈fs)/\(∀x∈VU,x∈GP)/\(∀x∈fs,x∈N4\/x∈GP)/\fs.length+VU.length=GP.length+N4.length/\∀y∈(sc ps r).take i,y∉BV.toList->y∈fs)
  (ds:=(sc ps r).map D.int) (E:=QB AE ps BV BF (.val (.dk kvs)) u4 u5 N4 VU) 0 {N4,VU,u5,rfl,F0,λ_ h=>h,λ_ h=>h,λ_ h=>.inl h,Nat.add_comm _ _,λy h=>by simp at h}
  (λi d E hd hP=>by
   rw[EN] at hP ⊢;obtain⟨fs,GP,u,hE,F,a,b,c,E6,ex⟩:=hP;subst hE;rw[AX] at hd;obtain⟨y,hy,rfl⟩:=BY.mp hd;have wJ:(r,y)∈ps:=dF.mp (DH hy);obtain⟨_,_,y0,y1⟩:=R.rg _ wJ;have hfl:=F.len;obtain⟨pN,OV,e,h⟩:=yGV (AE:=AE) (ps:=ps) (BV:=BV) (BF:=BF) (u3:=.val (.dk kvs)) (u4:=u4) (fs:=fs) (GP:=GP) (y:=y) 'l' 'l'
   have oX:(sc ps r).take (i+1)=(sc ps r).take i++[y]:=by
    obtain⟨hi,e⟩:=AQ.mp hy;rw[CH hi,e]
   refine{_,rfl,_,e,pN,OV,_,rfl,?_};rw[oX];rcases h with⟨hc,hm,rfl,rfl⟩|⟨Cb,rfl,rfl⟩
   .refine{{?_,?_,?_,?_},λx hx=>DI _ (a x hx),λx hx=>DI _ (b x hx),?_,by simp;lia,?_}
    .rw[J3]
     exact{F.nd,FK.mpr {by simp,GK},λp hp q hq=>by rw[BB.mp hq];exact λz=>hm (z▸hp)}
    .intro x hx
     rcases CA.mp hx with h|h
     .exact F.rc x h
     .rw[BB.mp h];exact .step (F.rc r (a r hr)) wJ hc
    .intro x hx
     rcases CA.mp hx with h|h
     .exact F.rg x h
     .rw[BB.mp h];exact{y0,y1}
    .intro x hx
     rcases CA.mp hx with h|h
     .exact DI _ (F.sub x h)
     .exact BG _ h
    .intro x hx
     rcases CA.mp hx with h|h
     .rcases c x h with h|h
      .exact .inl h
      .exact .inr (DI _ h)
     .exact .inr (BG _ h)
    .intro z hz dY
     rcases CA.mp hz with h|h
     .exact DI _ (ex z h dY)
     .exact BG _ h
   .refine{F,a,b,c,E6,λz hz dY=>?_}
    rcases CA.mp hz with h|h
    .exact ex z h dY
    .rw[BB.mp h] at dY ⊢
     exact Cb.resolve_left dY)
 refine{fs,GP,u,e,F,a,b,c,d,λy hy lU=>ex y ?_ lU};rw[EN,AI,GF];exact dF.mpr hy
theorem zTX(R:Rg AE ps){kvs:List (Key×D)}(ht:Ix ps kvs)(Lb:u3=.own AC (.dk kvs)\/u3=.val (.dk kvs)){N4:List Int}(F0:Fd ps BV.toList BF AE N4 N4)(hg:BF∈BV.toList\/BF∈N4) :
  ∃fs v3 v5,YG (T2 [7] (gB (g2 IL (AW 7) (JF [])))) (P4 (IK (cQ (AW 3) (P6 7 fR []) (JF []))) (.nm 5) uM) 100000 (QB AE ps BV BF u3 u4 u5 N4 N4)=.ok (.nx (QB AE ps BV BF v3 u4 v5 fs []))/\fs.Nodup/\∀x,x∈fs↔Rc ps BV.toList BF x:=by
 have RI:=R.m2
 obtain⟨E',e,fs,u3',u5',rfl,h1,h2⟩:=yP (t:=T2 [7] (gB (g2 IL (AW 7) (JF [])))) (g:=P4 (IK (cQ (AW 3) (P6 7 fR []) (JF []))) (.nm 5) uM)
  (λn E=>∃fs GP u3 u5,E=QB AE ps BV BF u3 u4 u5 fs GP/\(u3=.own AC (.dk kvs)\/u3=.val (.dk kvs))/\Fd ps BV.toList BF AE fs GP/\(BF∈BV.toList\/BF∈fs)/\(∀x∈fs,x∈GP\/∀y,(x,y)∈ps->y∉BV.toList->y∈fs)/\GP.length<=fs.length/\n=2 * (AE.toNat-fs.length)+GP.length)
  (λE=>∃fs u3 u5,E=QB AE ps BV BF u3 u4 u5 fs []/\fs.Nodup/\∀x,x∈fs↔Rc ps BV.toList BF x)
  (λn E hP=>by
   obtain⟨fs,GP,u3,u5,hE,Lb,F,hg,hex,jQ,hn⟩:=hP;subst hE
   have tw:T2 [7] (gB (g2 IL (AW 7) (JF []))) (QB AE ps BV BF u3 u4 u5 fs GP)=.ok (!(GP.map D.int).isEmpty,QB AE ps BV BF u3 u4 u5 fs GP) :=
    aD (MI (EW (x:=.lst (GP.map D.int)) (y:=.lst []) rfl rfl (zM (Pls.ints 0 GP))))
   rcases ZB GP with rfl|⟨OV,r,Zw⟩
   .refine .inl {_,tw,fs,u3,u5,rfl,F.nd,λx=>{F.rc x,λh=>?_}}
    induction h with
    |refl h=>exact hg.resolve_left h
    |step _ he hc ih =>
     rcases hex _ ih with h|h
     .simp at h
     .exact h _ he hc
   .rw[List.concat_eq_append] at Zw
    subst Zw;have hrf:r∈fs:=F.sub r 's';rw[BO,KH] at jQ hn;have F':Fd ps BV.toList BF AE fs OV:={F.nd,F.rc,F.rg,λx hx=>F.sub x (DI _ hx)};obtain⟨fs2,vH,u,e,F2,a,b,c,d,ex⟩:=yA5 (kvs:=kvs) (u4:=u4) (u5:=u5) R hrf F' (AY (A6 _ _) jQ);have hfl:=F2.len;have hfl2:=F.len;have hfl3:=DD F.nd a
    have eF:P6 7 fR [] (QB AE ps BV BF (.val (.dk kvs)) u4 u5 fs (OV++[r]))=.ok (.int r,QB AE ps BV BF (.val (.dk kvs)) u4 u5 fs OV) :=
     nQ (i:=7) (f:=fR) (gs:=[]) (t:=AC) (xs:=(OV++[r]).map D.int) (ds:=[]) (x:=.int r) (TX:=OV.map D.int) rfl rfl rfl (by simp[fR])
    have hgi:IK (cQ (AW 3) (P6 7 fR []) (JF [])) (QB AE ps BV BF u3 u4 u5 fs (OV++[r]))=.ok ((sc ps r).map D.int,QB AE ps BV BF (.val (.dk kvs)) u4 u5 fs OV):=by
     have h3:AW 3 (QB AE ps BV BF u3 u4 u5 fs (OV++[r]))=.ok (.dk kvs,QB AE ps BV BF (.val (.dk kvs)) u4 u5 fs (OV++[r])):=by
      rcases Lb with rfl|rfl<;>rfl
     have:=Pm (gx:=JF []) (x:=.lst []) (o:=OI kvs (.inl r)) h3 eF rfl rfl;rw[ht r] at this;exact nR this
    refine .inr {_,_,2 * (AE.toNat-fs2.length)+vH.length,?_,HG hgi e,by lia,fs2,vH,_,u,rfl,.inr rfl,F2,hg.imp id (a _),λx hx=>?_,by lia,rfl}
    .rw[tw];simp
    .rcases c x hx with h|h
     .rcases hex x h with h|h
      .rcases CA.mp h with h|h
       .exact .inl (b x h)
       .rw[BB.mp h];exact .inr ex
      .exact .inr λy hy lU=>a y (h y hy lU)
     .exact .inl h) 100000 (2 * (AE.toNat-N4.length)+N4.length) (QB AE ps BV BF u3 u4 u5 N4 N4) (by have:=F0.len;lia)
  {N4,N4,u3,u5,rfl,Lb,F0,hg,λx h=>.inl h,AM _,rfl}
 exact{fs,u3',u5',e,h1,h2}
theorem uA(R:Rg AE ps)(h0:0<=BF)(h1:BF<AE):∃fs:List Int,XZ [.val (DO AE ps),.val (.int BF),.val (JE BV)]=.ok (AC,.lst (fs.map D.int),.non)/\fs.Nodup/\∀x,x∈fs↔Rc ps BV.toList BF x:=by
 obtain⟨kvs,u4,u5,e1,ht⟩:=zW3 (AE:=AE) (ps:=ps) (BV:=BV) (BF:=BF) R.len
 obtain⟨N4,hfs,F0,hg⟩:∃N4:List Int,(uS (gB (g2 IL (AW 1) (AW 2))) (Dk (AW 1) (gC (.bl AK))) (gC (.dk []))) (XU AE ps BV BF (.own AC (.dk kvs)) u4 u5 .no .no)=.ok (gP N4,XU AE ps BV BF (.own AC (.dk kvs)) u4 u5 .no .no)/\Fd ps BV.toList BF AE N4 N4/\(BF∈BV.toList\/BF∈N4):=by
  have t:=MI (EW (E:=XU AE ps BV BF (.own AC (.dk kvs)) u4 u5 .no .no) (ga:=AW 1) (gb:=AW 2) (x:=.int BF) (y:=JE BV) rfl rfl (Pi _ _))
  by_cases hc:BF∈BV.toList
  .rw[decide_eq_false (λz=>z hc)] at t
   exact{[],HG t rfl,{GK,λ_ h=>by simp at h,λ_ h=>by simp at h,λ_ h=>h},.inl hc}
  .rw[decide_eq_true hc] at t
   exact{[BF],HG t rfl,{FK.mpr {by simp,GK},λx h=>by rw[BB.mp h];exact .refl hc,λx h=>by rw[BB.mp h];exact{h0,h1},λ_ h=>h},.inr 's'}
 obtain⟨fs,v3,v5,e2,nd,hm⟩:=zTX R ht (u5:=u5) (.inl rfl) F0 hg;have U0:∀l:List Int,(l.map λx=>((.inl x,.bl AK):Key×D)).map (λkv=>kK kv.1)=l.map D.int:=λl=>by rw[DR];rfl
 refine{fs,P5 (GT (aE (d:=.dk []) rfl) (GT e1 (GT (aE hfs) (GT (E1:=QB AE ps BV BF (.own AC (.dk kvs)) u4 u5 N4 N4) (aE (E':=XU AE ps BV BF (.own AC (.dk kvs)) u4 u5 (.own AC (gP N4)) .no) (Pz (d:=.lst (N4.map D.int)) (PH (JU (d:=gP N4) rfl) ?_) (Gm _))) (GT e2 (RD (ZK (d:=.lst (fs.map D.int)) (PH (JU (d:=gP fs) rfl) ?_) ?_))))))) rfl,nd,hm}
 .exact congrArg (λl=>Out.ok (D.lst l)) (U0 _)
 .exact congrArg (λl=>Out.ok (D.lst l)) (U0 _)
 .simp only[cV,QB,XU,D.flat,D.nod,Aa];rfl
end
theorem tk{g:G}{E:Ev}{d:D}{n:Int}(h0:E[0]?=AA (.own AK d))(B:Bag k d)(hk:k<900000)(hg:g E=.ok (.int n,E))(hn:1<=n)(aN:n<2 ^ 200) :
  ∃r d',HV IS 0 [g] E=.ok (.int r,E.set 0 (.own AK d'))/\0<=r/\r<n/\Bag (k+1) d':=by
 obtain⟨r,d',e,a,b,B'⟩:=zL B hk hn aN;exact{r,d',lG h0 (JU hg) h0 e,a,b,B'}
theorem Fx{α β:Type}(f:α->β):∀(l:List α) (i:Nat),(l.map f).eraseIdx i=(l.eraseIdx i).map f
 |[],_=>rfl
 |_::_,0=>rfl
 |a::l,i+1=>by simp[Fx f l i]
theorem Uf{α:Type}:∀{l:List α} {i:Nat} (h:i<l.length),(l[i]::l.eraseIdx i).Perm l
 |a::l,0,_=>.refl _
 |a::l,i+1,h=>by
  have:=Uf (l:=l) (i:=i) (by simpa using h);simp only[List.getElem_cons_succ,XS];exact(H9 _ _ _).trans (this.cons a)
theorem Px{d:D}{xs:List Int}(B:Bag k d)(hx:xs.length<=1000)(hk:k<800000) :
  ∃(ys:List Int) (d':D),lK [.own AK d,.val (.lst (xs.map D.int))]=.ok (AC,.lst (ys.map D.int),d')/\ys.Perm xs/\Bag (k+xs.length) d':=by
 obtain⟨E',e,ys,d',rfl,hp,B'⟩:=yP (t:=T2 [2] (gB (g2 IL (AW 2) (JF [])))) (g:=bH (P6 3 X9 [(P6 2 aB [(HV IS 0 [(OP [2] (gN NO [(AW 2)]))])])]))
  (λn E=>∃(rest JO:List Int) (d:D),E=[.own AK d,.val (.lst (xs.map D.int)),.own AC (.lst (rest.map D.int)),.own AC (.lst (JO.map D.int))]/\(JO++rest).Perm xs/\Bag (k+JO.length) d/\n=rest.length)
  (λE=>∃(JO:List Int) (d:D),E=[.own AK d,.val (.lst (xs.map D.int)),.own AC (.lst []),.own AC (.lst (JO.map D.int))]/\JO.Perm xs/\Bag (k+xs.length) d)
  (λn E hP=>by
   obtain⟨rest,JO,d,hE,hp,B,hn⟩:=hP;subst hE;have E6:=hp.length_eq;rw[BO] at E6
   have tw:T2 [2] (gB (g2 IL (AW 2) (JF []))) [.own AK d,.val (.lst (xs.map D.int)),.own AC (.lst (rest.map D.int)),.own AC (.lst (JO.map D.int))]=.ok (!(rest.map D.int).isEmpty,[.own AK d,.val (.lst (xs.map D.int)),.own AC (.lst (rest.map D.int)),.own AC (.lst (JO.map D.int))]) :=
    aD (MI (EW (x:=.lst (rest.map D.int)) (y:=.lst []) rfl rfl (zM (Pls.ints 0 rest))))
   by_cases hr:rest=[]
   .subst hr
    rw[EL] at hp;exact .inl {_,tw,JO,d,rfl,hp,by rw[<-hp.length_eq];exact B}
   .have VZ:0<rest.length:=bB.mpr hr
    have hg:OP [2] (gN NO [(AW 2)]) [.own AK d,.val (.lst (xs.map D.int)),.own AC (.lst (rest.map D.int)),.own AC (.lst (JO.map D.int))]=.ok (.int (rest.length:Int),[.own AK d,.val (.lst (xs.map D.int)),.own AC (.lst (rest.map D.int)),.own AC (.lst (JO.map D.int))]) :=
     ZK (PH (JU (d:=.lst (rest.map D.int)) rfl) (Ib (AI _))) rfl
    obtain⟨r,d',et,r0,r1,B'⟩:=tk (g:=OP [2] (gN NO [(AW 2)])) (E:=[.own AK d,.val (.lst (xs.map D.int)),.own AC (.lst (rest.map D.int)),.own AC (.lst (JO.map D.int))]) rfl B 'l' hg 'l' 'l';have jQ:r.toNat<rest.length:=by lia
    have eF:P6 2 aB [(HV IS 0 [(OP [2] (gN NO [(AW 2)]))])] [.own AK d,.val (.lst (xs.map D.int)),.own AC (.lst (rest.map D.int)),.own AC (.lst (JO.map D.int))]=.ok (.int rest[r.toNat],[.own AK d',.val (.lst (xs.map D.int)),.own AC (.lst ((rest.eraseIdx r.toNat).map D.int)),.own AC (.lst (JO.map D.int))]) :=
     nQ (i:=2) (f:=aB) (t:=AC) (xs:=rest.map D.int) (ds:=[.int r]) (x:=.int rest[r.toNat]) (TX:=(rest.eraseIdx r.toNat).map D.int) rfl (JU et) rfl (by
      simp only[aB,AI,L2.guard];rw[if_pos {r0,r1,by lia},AX,BL jQ]
      simp[Fx])
    refine .inr {_,_,(rest.eraseIdx r.toNat).length,?_,tQ (nQ (i:=3) (f:=X9) (t:=AC) (xs:=JO.map D.int) (ds:=[.int rest[r.toNat]]) (x:=.non) (TX:=(JO++[rest[r.toNat]]).map D.int) rfl (JU eF) rfl (by
      simp only[X9,AI]
      rw[ZI 'l'];simp)),?_,rest.eraseIdx r.toNat,JO++[rest[r.toNat]],d',rfl,?_,?_,rfl}
    .rw[tw]
     cases rest with
     |nil=>exact absurd rfl hr
     |cons a l=>rfl
    .rw[List.length_eraseIdx_of_lt jQ];lia
    .rw[CP]
     exact((Uf jQ).append_left JO).trans hp
    .rw[BO,KH,<-Nat.add_assoc];exact B') 100000 xs.length [.own AK d,.val (.lst (xs.map D.int)),.own AC (.lst (xs.map D.int)),.own AC (.lst [])] (iE (AY hx (DX _ _)))
  {xs,[],d,rfl,G2 _,B,rfl}
 exact{ys,d',P5 (GT (aE (d:=.lst (xs.map D.int)) rfl) (GT (aE (d:=.lst []) rfl) (GT e (RD (d:=.lst (ys.map D.int)) rfl)))) rfl,hp,B'}
noncomputable def U7(d:D)(D6:Int)(u2 u3 u4 u5 u6 u7 u8 u9 u10 u11:Sl):Ev:=[.own AK d,.val (.int D6),u2,u3,u4,u5,u6,u7,u8,u9,u10,u11]
theorem iL{xs:List Int}{ds:List D}{x:D}{i:Int}(h0:0<=i)(h:ds[i.toNat]?=AA x):EG (.lst ds) (.int i)=.ok x:=by
 exact uD (yO h0 h)
theorem yI5{d:D}(B:Bag k d)(hk:k<800000)(h1:1<=D6)(h2:D6<=24) :
  ∃AE d',HZ (.nm 2) (g2 EG (JF [(AW 1),(g2 NP (gC (.int 1)) (HV IS 0 [(AW 1)])),(g2 NP (gC (.int 1)) (HV IS 0 [(gN iS [(gC (.int 7)),(AW 1)])]))]) (HV IS 0 [(gC (.int 3))]))
   (U7 d D6 .no .no .no .no .no .no .no .no .no .no)=.ok (.nx (U7 d' D6 (.val (.int AE)) .no .no .no .no .no .no .no .no .no))/\1<=AE/\AE<=D6/\Bag (k+3) d':=by
 obtain⟨a,d1,e1,a0,a1,B1⟩:=tk (g:=AW 1) (E:=U7 d D6 .no .no .no .no .no .no .no .no .no .no) rfl B (AN hk (DX _ _)) rfl h1 'l';obtain⟨b,d2,e2,b0,b1,B2⟩:=tk (g:=gN iS [(gC (.int 7)),(AW 1)]) (E:=U7 d1 D6 .no .no .no .no .no .no .no .no .no .no) (n:=if D6<7 then D6 else 7) rfl B1 'l' rfl (by split<;>lia) (by split<;>lia);obtain⟨c,d3,e3,c0,c1,B3⟩:=tk (g:=gC (.int 3)) (E:=U7 d2 D6 .no .no .no .no .no .no .no .no .no .no) rfl B2 'l' rfl 'l' 'l';have hb:b<D6:=by split at b1<;>lia
 have KA:∃AE:Int,([D.int D6,.int (1+a),.int (1+b)])[c.toNat]?=AA (.int AE)/\1<=AE/\AE<=D6:=by
  have:c=0\/c=1\/c=2:=by lia
  rcases this with rfl|rfl|rfl
  .exact{D6,rfl,h1,HQ _}
  .exact{1+a,rfl,by lia,by lia}
  .exact{1+b,rfl,by lia,by lia}
 obtain⟨AE,hm,m0,m1⟩:=KA;refine{AE,d3,MJ (EW (fY (QX (d:=.int D6) rfl (QX (EW (x:=.int 1) rfl e1 (d:=.int (1+a)) rfl) (JU (EW (x:=.int 1) rfl e2 (d:=.int (1+b)) rfl)))) (show 3<10000 by decide)) e3 (iL (xs:=[]) c0 hm)) rfl,m0,m1,B3}
theorem yI6{d:D}{kind:Int}(B:Bag k d)(hk:k<800000)(h1:1<=AE)(h2:AE<=24) :
  ∃wanted d',HZ (.nm 4) (g2 EG (JF [(gC (.int 0)),(gC (.int 1)),(HV IS 0 [(g2 NP (AW 2) (gC (.int 1)))]),(g2 NP (AW 2) (HV IS 0 [(g2 X7 (gC (.int 5)) (AW 2))])),(gC (.int 120))]) (HV IS 0 [(gC (.int 5))]))
   (U7 d D6 (.val (.int AE)) (.val (.int kind)) .no .no .no .no .no .no .no .no)=.ok (.nx (U7 d' D6 (.val (.int AE)) (.val (.int kind)) (.val (.int wanted)) .no .no .no .no .no .no .no))/\0<=wanted/\wanted<=200/\Bag (k+3) d':=by
 obtain⟨a,d1,e1,a0,a1,B1⟩:=tk (g:=g2 NP (AW 2) (gC (.int 1))) (E:=U7 d D6 (.val (.int AE)) (.val (.int kind)) .no .no .no .no .no .no .no .no) rfl B (AN hk (DX _ _)) rfl 'l' 'l'
 have Lu:X7 (.int 5) (.int AE)=.ok (.int (5 * AE)):=by
  simp only[X7,L2.guard];rw[if_pos (.inl {by decide,by decide})]
 obtain⟨b,d2,e2,b0,b1,B2⟩:=tk (g:=g2 X7 (gC (.int 5)) (AW 2)) (E:=U7 d1 D6 (.val (.int AE)) (.val (.int kind)) .no .no .no .no .no .no .no .no) rfl B1 'l' (EW (x:=.int 5) (y:=.int AE) rfl rfl Lu) 'l' 'l';obtain⟨c,d3,e3,c0,c1,B3⟩:=tk (g:=gC (.int 5)) (E:=U7 d2 D6 (.val (.int AE)) (.val (.int kind)) .no .no .no .no .no .no .no .no) rfl B2 'l' rfl 'l' 'l'
 have KA:∃w:Int,([D.int 0,.int 1,.int a,.int (AE+b),.int 120])[c.toNat]?=AA (.int w)/\0<=w/\w<=200:=by
  have:c=0\/c=1\/c=2\/c=3\/c=4:=by lia
  rcases this with rfl|rfl|rfl|rfl|rfl
  .exact{0,rfl,by decide,by decide}
  .exact{1,rfl,by decide,by decide}
  .exact{a,rfl,a0,by lia}
  .exact{AE+b,rfl,by lia,by lia}
  .exact{120,rfl,by decide,by decide}
 obtain⟨w,hw,w0,w1⟩:=KA;exact{w,d3,MJ (EW (fY (QX (d:=.int 0) rfl (QX (d:=.int 1) rfl (QX e1 (QX (EW (x:=.int AE) rfl e2 (d:=.int (AE+b)) rfl) (JU (d:=.int 120) rfl))))) (show 5<10000 by decide)) e3 (iL (xs:=[]) c0 hw)) rfl,w0,w1,B3}
structure Ln(AE:Int)(kvs:List (List Int×D)):Prop where
 nd:(kvs.map (·.1)).Nodup
 rg:∀k∈kvs.map (·.1),∃a b:Int,k=[a,b]/\0<=a/\a<AE/\0<=b/\b<AE/\a≠b
theorem Te(kvs:List (List Int×D))(k:List Int)(v:D):(OT kvs k v).map (·.1)=if k∈kvs.map (·.1) then kvs.map (·.1) else kvs.map (·.1)++[k]:=by
 unfold OT
 by_cases h:k∈kvs.map (·.1)
 .rw[if_pos h,if_pos]
  .rw[DR]
   refine PD λkv _=>?_;simp only[T0];split<;>rfl
  .obtain⟨kv,Lz,e⟩:=BQ.mp h
   exact KL.mpr {kv,Lz,decide_eq_true e}
 .rw[if_neg h,if_neg]
  .simp
  .intro z
   obtain⟨kv,Lz,e⟩:=KL.mp z;exact h (BQ.mpr {kv,Lz,of_decide_eq_true e})
theorem Ln.put{kvs:List (List Int×D)}(L:Ln AE kvs){a b:Int}(h:0<=a/\a<AE/\0<=b/\b<AE/\a≠b)(v:D):Ln AE (OT kvs [a,b] v):=by
 constructor
 .rw[Te]
  split
  .exact L.nd
  .rename_i hn
   rw[J3];exact{L.nd,FK.mpr {by simp,GK},λp hp q hq=>by rw[BB.mp hq];exact λz=>hn (z▸hp)}
 .rw[Te]
  split
  .exact L.rg
  .intro k hk
   rcases CA.mp hk with h'|h'
   .exact L.rg k h'
   .exact{a,b,BB.mp h',h}
theorem Da{kvs:List (List Int×D)}{a b:Int}(h:kvs.length<10000):mX (.dt kvs) (.tup [.int a,.int b]) (.bl AK)=.ok (.dt (OT kvs [a,b] (.bl AK))):=by
 exact ZI h
abbrev Yf:GS:=LM (gB (g2 bP (AW 3) (gC (.int 3))))
 (RT 5 (MG [(g2 EG (JF [(HV IS 0 [(AW 6)]),(g2 fS (g2 fS (AW 6) (gC (.int 1))) (HV IS 0 [(gN iS [(AW 6),(gC (.int 2))])])),(gC (.int 0))]) (AW 3)),(AW 6)]) (gC (.bl AK)))
 NC
section
variable{kind wanted:Int}
abbrev O8(d:D)(D6 AE kind wanted:Int)(kvs:List (List Int×D))(u6 u7 u8 u9:Sl):Ev:=U7 d D6 (.val (.int AE)) (.val (.int kind)) (.val (.int wanted)) (.own AC (.dt kvs)) u6 u7 u8 u9 .no .no
theorem yGW{d:D}(B:Bag k d)(hk:k<800000)(h1:1<=AE)(h2:AE<=24)(pG:0<=kind) :
  ∃(d':D) (kvs:List (List Int×D)) (u6:Sl),P4 (nG (gC (.int 1)) (AW 2)) (.nm 6) Yf (O8 d D6 AE kind wanted [] .no .no .no .no)=.ok (.nx (O8 d' D6 AE kind wanted kvs u6 .no .no .no))/\Bag (k+48) d'/\Ln AE kvs/\kvs.length<=24:=by
 obtain⟨E',e,d',kvs,u6,rfl,B',L,hl⟩:=i4 (gi:=nG (gC (.int 1)) (AW 2)) (t:=.nm 6) (g:=Yf) (E:=O8 d D6 AE kind wanted [] .no .no .no .no)
  (λi E=>∃(d':D) (kvs:List (List Int×D)) (u6:Sl),E=O8 d' D6 AE kind wanted kvs u6 .no .no .no/\Bag (k+2 * i) d'/\Ln AE kvs/\kvs.length<=i) (Py (i:=1) (j:=AE) rfl rfl {{by decide,by decide},by lia,by lia}) {d,[],.no,rfl,B,{GK,λ_ h=>by simp at h},AM _}
  (λi x E hx hP=>by
   obtain⟨d,kvs,u6,hE,B,L,hl⟩:=hP;subst hE;have hi:=(AQ.mp hx).1;simp only[QV,AI,EU] at hi;simp only[QV] at hx;rw[AX,I0 hi] at hx;obtain rfl:=BJ hx;obtain⟨p,hp⟩:∃p:Int,p=1+(i:Int):={_,rfl};show ∃E1,WQ (Tg.nm 6) (.int (1+(i:Int))) (O8 d D6 AE kind wanted kvs u6 Sl.no Sl.no Sl.no)=Out.ok E1/\_;rw[<-hp];refine{_,rfl,?_}
   by_cases hk3:kind<3
   .obtain⟨a,d1,e1,a0,a1,B1⟩:=tk (g:=AW 6) (E:=O8 d D6 AE kind wanted kvs (.val (.int p)) .no .no .no) (n:=p) rfl B 'l' rfl 'l' 'l'
    obtain⟨b,d2,e2,b0,b1,B2⟩:=tk (g:=gN iS [(AW 6),(gC (.int 2))]) (E:=O8 d1 D6 AE kind wanted kvs (.val (.int p)) .no .no .no) (n:=if 2<p then 2 else p) rfl B1 'l' rfl (by split<;>lia) (by split<;>lia)
    have KA:∃v:Int,([D.int a,.int (p-1-b),.int 0])[kind.toNat]?=AA (.int v)/\0<=v/\v<p:=by
     have:kind=0\/kind=1\/kind=2:=by lia
     rcases this with h|h|h
     .exact{a,by rw[h];rfl,a0,a1}
     .exact{p-1-b,by rw[h];rfl,by split at b1<;>lia,by lia}
     .exact{0,by rw[h];rfl,HQ _,HU a0 a1}
    obtain⟨v,hv,v0,v1⟩:=KA;refine{_,W3 (MI (EW (x:=.int kind) (y:=.int 3) rfl rfl (d:=.bl AK) (by simp only[bP];rw[decide_eq_true hk3]))) (cW (i:=5) (E1:=O8 d D6 AE kind wanted kvs (.val (.int p)) .no .no .no) (E2:=O8 d2 D6 AE kind wanted kvs (.val (.int p)) .no .no .no) (t:=AC) (d:=.dt kvs) (v:=.bl AK) rfl rfl (bK (QX (EW (fY (QX e1 (QX (EW (x:=.int (p-1)) rfl e2 (d:=.int (p-1-b)) rfl) (JU (d:=.int 0) rfl))) (show 3<10000 by decide)) (y:=.int kind) rfl (iL (xs:=[]) pG hv)) (JU (d:=.int p) rfl)) (show 2<10000 by decide)) rfl (Da 'l')),d2,_,_,rfl,B2.mono 'l',L.put {v0,by lia,RP (HU a0 a1),by lia,ZD v1} _,AY (t7 _ _ _) (EJ hl (AM _))}
   .exact{_,RC (MI (EW (x:=.int kind) (y:=.int 3) rfl rfl (d:=.bl AC) (by simp only[bP];rw[decide_eq_false hk3]))) rfl,d,kvs,_,rfl,B.mono 'l',L,AY hl (A6 _ _)})
 simp only[QV,AI,EU] at B' hl;exact{d',kvs,u6,e,B'.mono 'l',L,by lia}
abbrev Ye:GS:=(FQ (HZ (.nm 8) (HV IS 0 [(AW 2)]))
 (FQ (HZ (.nm 9) (g2 EG (JF [(HV IS 0 [(AW 2)]),(g2 UU (g2 NP (g2 NP (AW 8) (gC (.int 1))) (HV IS 0 [(gC (.int 2))])) (AW 2))]) (HV IS 0 [(gC (.int 2))])))
 (LM (T2 [5] (WK (gB (g2 IL (AW 8) (AW 9))) (gB (g2 bP (gN NO [(AW 5)]) (gC (.int 120))))))
 (RT 5 (MG [(AW 8),(AW 9)]) (gC (.bl AK)))
 NC)))
theorem yGX{d:D}{kvs:List (List Int×D)}(B:Bag k d)(hk:k<800000)(h1:1<=AE)(h2:AE<=24)(hw0:0<=wanted)(hw1:wanted<=200)(L:Ln AE kvs)(hl:kvs.length<=120) :
  ∃(d':D) (SN:List (List Int×D)) (u7 u8 u9:Sl),P4 (OU (AW 4)) (.nm 7) Ye (O8 d D6 AE kind wanted kvs u6 .no .no .no)=.ok (.nx (O8 d' D6 AE kind wanted SN u6 u7 u8 u9))/\Bag (k+800) d'/\Ln AE SN/\SN.length<=120:=by
 obtain⟨E',e,d',SN,u7,u8,u9,rfl,B',L',wW⟩:=i4 (gi:=OU (AW 4)) (t:=.nm 7) (g:=Ye) (E:=O8 d D6 AE kind wanted kvs u6 .no .no .no)
  (λi E=>∃(d':D) (kvs:List (List Int×D)) (u7 u8 u9:Sl),E=O8 d' D6 AE kind wanted kvs u6 u7 u8 u9/\Bag (k+4 * i) d'/\Ln AE kvs/\kvs.length<=120) (lB (j:=wanted) rfl {by lia,by lia}) {d,kvs,.no,.no,.no,rfl,B,L,hl}
  (λi x E hx hP=>by
   obtain⟨d,kvs,u7,u8,u9,hE,B,L,hl⟩:=hP;subst hE;have hi:=(AQ.mp hx).1;simp only[QV,AI,EU] at hi;obtain⟨a,d1,e1,a0,a1,B1⟩:=tk (g:=AW 2) (E:=O8 d D6 AE kind wanted kvs u6 (.val x) u8 u9) (n:=AE) rfl B 'l' rfl (h1) 'l';obtain⟨b,d2,e2,b0,b1,B2⟩:=tk (g:=AW 2) (E:=O8 d1 D6 AE kind wanted kvs u6 (.val x) (.val (.int a)) u9) (n:=AE) rfl B1 'l' rfl (h1) 'l';obtain⟨c,d3,e3,c0,c1,B3⟩:=tk (g:=gC (.int 2)) (E:=O8 d2 D6 AE kind wanted kvs u6 (.val x) (.val (.int a)) u9) (n:=2) rfl B2 'l' rfl 'l' 'l';obtain⟨f,d4,e4,f0,f1,B4⟩:=tk (g:=gC (.int 2)) (E:=O8 d3 D6 AE kind wanted kvs u6 (.val x) (.val (.int a)) u9) (n:=2) rfl B3 'l' rfl 'l' 'l';have m0:0<=(a+1+c) % AE:=LL _ (Int.ne_of_gt (HU a0 a1));have m1:(a+1+c) % AE<AE:=JR _ (HU a0 a1)
   have Lv:UU (.int (a+1+c)) (.int AE)=.ok (.int ((a+1+c) % AE)):=by
    simp only[UU,L2.guard];rw[if_pos (HU a0 a1)]
   have KA:∃v:Int,([D.int b,.int ((a+1+c) % AE)])[f.toNat]?=AA (.int v)/\0<=v/\v<AE:=by
    have:f=0\/f=1:=by lia
    rcases this with h|h
    .exact{b,by rw[h];rfl,b0,b1}
    .exact{(a+1+c) % AE,by rw[h];rfl,m0,m1}
   obtain⟨v,hv,v0,v1⟩:=KA;refine{_,rfl,?_};have s1:HZ (.nm 8) (HV IS 0 [(AW 2)]) (O8 d D6 AE kind wanted kvs u6 (.val x) u8 u9)=.ok (.nx (O8 d1 D6 AE kind wanted kvs u6 (.val x) (.val (.int a)) u9)):=MJ e1 rfl
   have s2:HZ (.nm 9) (g2 EG (JF [(HV IS 0 [(AW 2)]),(g2 UU (g2 NP (g2 NP (AW 8) (gC (.int 1))) (HV IS 0 [(gC (.int 2))])) (AW 2))]) (HV IS 0 [(gC (.int 2))])) (O8 d1 D6 AE kind wanted kvs u6 (.val x) (.val (.int a)) u9)=.ok (.nx (O8 d4 D6 AE kind wanted kvs u6 (.val x) (.val (.int a)) (.val (.int v)))) :=
    MJ (EW (fY (QX e2 (JU (EW (EW (x:=.int (a+1)) rfl e3 (d:=.int (a+1+c)) rfl) (y:=.int AE) rfl Lv))) (show 2<10000 by decide)) e4 (iL (xs:=[]) f0 hv)) rfl
   have t1:gB (g2 IL (AW 8) (AW 9)) (O4 [5] (O8 d4 D6 AE kind wanted kvs u6 (.val x) (.val (.int a)) (.val (.int v))))=.ok (decide (a≠v),O4 [5] (O8 d4 D6 AE kind wanted kvs u6 (.val x) (.val (.int a)) (.val (.int v)))) :=
    MI (EW (x:=.int a) (y:=.int v) rfl rfl (gE _ _))
   have t2:gB (g2 bP (gN NO [(AW 5)]) (gC (.int 120))) (O4 [5] (O8 d4 D6 AE kind wanted kvs u6 (.val x) (.val (.int a)) (.val (.int v))))=.ok (decide ((kvs.length:Int)<120),O4 [5] (O8 d4 D6 AE kind wanted kvs u6 (.val x) (.val (.int a)) (.val (.int v)))) :=
    MI (EW (x:=.int kvs.length) (PH (JU (d:=.dt kvs) rfl) rfl) (y:=.int 120) rfl rfl)
   by_cases Nd:a=v
   .rw[decide_eq_false (λz=>z Nd)] at t1
    exact{_,GT s1 (GT s2 (RC (aD (qD t1)) rfl)),d4,kvs,_,_,_,rfl,B4.mono 'l',L,hl}
   rw[decide_eq_true Nd] at t1
   by_cases l6:(kvs.length:Int)<120
   .rw[decide_eq_true l6] at t2
    exact{_,GT s1 (GT s2 (W3 (aD (iY t1 t2)) (cW (i:=5) (E1:=O8 d4 D6 AE kind wanted kvs u6 (.val x) (.val (.int a)) (.val (.int v))) (E2:=O8 d4 D6 AE kind wanted kvs u6 (.val x) (.val (.int a)) (.val (.int v))) (t:=AC) (d:=.dt kvs) (v:=.bl AK) (k:=.tup [.int a,.int v]) rfl rfl rfl rfl (Da (iE (AY hl (DX _ _))))))),d4,_,_,_,_,rfl,B4.mono 'l',L.put {a0,a1,v0,v1,Nd} _,AY (t7 _ _ _) 'l'}
   .rw[decide_eq_false l6] at t2
    exact{_,GT s1 (GT s2 (RC (aD (iY t1 t2)) rfl)),d4,kvs,_,_,_,rfl,B4.mono 'l',L,hl})
 simp only[QV,AI,EU] at B';exact{d',SN,u7,u8,u9,e,B'.mono 'l',L',wW}
end
def ri(n:Nat):List Int:=(DL n).map λ(j:Nat)=>(0:Int)+(j:Int)
theorem qC(n:Nat):QV 0 n=(ri n).map D.int:=by simp[QV,ri]
theorem HR{x:Int}:x∈ri n↔0<=x/\x<n:=by
 unfold ri;constructor
 .intro h
  obtain⟨j,hj,rfl⟩:=BQ.mp h;have:=IP.mp hj;lia
 .rintro⟨a,b⟩
  exact BQ.mpr {x.toNat,IP.mpr 'l',by lia}
theorem Ie(n:Nat):(ri n).Nodup:=U5 _ (λa b h z=>h 'l') List.nodup_range
theorem SG(n:Nat):(ri n).length=n:=by simp[ri]
def RW(ys:List Int)(a:Int):Int:=ys.getD a.toNat 0
def pk(ys:List Int)(k:List Int):Int×Int:=match k with
 |[a,b]=>(RW ys a,RW ys b)
 |_=>(0,0)
theorem p9{a:Int}(h0:0<=a)(h:a.toNat<ys.length):EG (.lst (ys.map D.int)) (.int a)=.ok (.int (RW ys a)):=by
 refine iL (xs:=[]) h0 ?_;rw[AX,BL h];simp[RW,h]
theorem tH{a:Int}(h:a.toNat<ys.length):RW ys a∈ys:=by
 have:RW ys a=ys[a.toNat]:=by simp[RW,h]
 rw[this];exact IV h
theorem yN(hn:ys.Nodup){a b:Int}(a0:0<=a)(b0:0<=b)(ha:a.toNat<ys.length)(hb:b.toNat<ys.length)(e:RW ys a=RW ys b):a=b:=by
 have e1:RW ys a=ys[a.toNat]:=by simp[RW,ha]
 have e2:RW ys b=ys[b.toNat]:=by simp[RW,hb]
 rw[e1,e2] at e;rcases iD a.toNat b.toNat with h|h|h
 .exact absurd e (EO.mp hn _ _ ha hb h)
 .lia
 .exact absurd e.symm (EO.mp hn _ _ hb ha h)
theorem Gk:∀ps:List (Int×Int),pAA (ps.map JS)=AK
 |[]=>by simp[pAA]
 |p::ps=>by simp[pAA,D.nod,JS,Gk ps]
section
variable{kind wanted:Int}
def Qj(ys:List Int)(d:D):List D:=match d with
 |.tup [.int a,.int b]=>[JS (RW ys a,RW ys b)]
 |_=>[]
theorem Rn{ys:List Int}:∀{ks:List (List Int)},(∀k∈ks,∃a b:Int,k=[a,b]/\0<=a/\a<AE/\0<=b/\b<AE/\a≠b)->(ks.map uE).flatMap (Qj ys)=(ks.map (pk ys)).map JS
 |[],_=>rfl
 |k::ks,h=>by
  obtain⟨a,b,rfl,_⟩:=h k A2;simp only[AU,CI,Rn λk hk=>h k (AZ _ hk)]
  rfl
theorem fX{x:Int}(h:n=AE.toNat)(h0:0<=x)(h1:x<AE):x.toNat<n:=by lia
theorem yA7{d:D}(B:Bag k d)(hk:k<700000)(h1:1<=D6)(h2:D6<=24) :
  ∃(AE:Int) (ps:List (Int×Int)) (BF:Int) (d':D),rA [.own AK d,.val (.int D6)]=.ok (AC,.tup [DO AE ps,.int BF],d')/\Net AE ps/\AE<=D6/\0<=BF/\BF<AE/\Bag (k+1000) d':=by
 obtain⟨AE,d1,e1,m1,m2,B1⟩:=yI5 B (AN hk (DX _ _)) h1 h2;obtain⟨kind,d2,e2,k0,k1,B2⟩:=tk (g:=gC (.int 4)) (E:=U7 d1 D6 (.val (.int AE)) .no .no .no .no .no .no .no .no .no) rfl B1 'l' rfl 'l' 'l';obtain⟨wanted,d3,e3,w0,w1,B3⟩:=yI6 (D6:=D6) (AE:=AE) (kind:=kind) B2 'l' m1 (LW m2 h2);obtain⟨d4,kvs,u6,e4,B4,L4,l4⟩:=yGW (D6:=D6) (AE:=AE) (kind:=kind) (wanted:=wanted) B3 'l' m1 (LW m2 h2) k0;obtain⟨d5,kvs,u7,u8,u9,e5,B5,L5,l5⟩:=yGX (D6:=D6) (AE:=AE) (kind:=kind) (wanted:=wanted) (u6:=u6) B4 'l' m1 (LW m2 h2) w0 w1 L4 (AY l4 (DX _ _));obtain⟨ys,d6,e6,hp,B6⟩:=Px (xs:=ri AE.toNat) B5 (by rw[SG];lia) 'l';have aM:ys.length=AE.toNat:=by rw[hp.length_eq,SG]
 have wK:ys.Nodup:=hp.nodup_iff.mpr (Ie _);have sJ:∀x,x∈ys->0<=x/\x<AE:=λx hx=>by have:=HR.mp (hp.mem_iff.mp hx);lia
 rw[SG] at B6
 have s6:HZ (.nm 10) (HV lK 0 [(uR (AW 2))]) (O8 d5 D6 AE kind wanted kvs u6 u7 u8 u9)=.ok (.nx (U7 d6 D6 (.val (.int AE)) (.val (.int kind)) (.val (.int wanted)) (.own AC (.dt kvs)) u6 u7 u8 u9 (.val (.lst (ys.map D.int))) .no)):=by
  refine MJ (lG (ds:=[.lst ((ri AE.toNat).map D.int)]) (E1:=O8 d5 D6 AE kind wanted kvs u6 u7 u8 u9) (t:=AK) (d:=d5) rfl (JU (HG (a:=(.int AE,O8 d5 D6 AE kind wanted kvs u6 u7 u8 u9)) rfl ?_)) rfl e6) rfl;simp only[L2.guard];rw[if_pos {by lia,by lia},qC]
 obtain⟨a,d7,e7,a0,a1,B7⟩:=tk (g:=AW 2) (E:=U7 d6 D6 (.val (.int AE)) (.val (.int kind)) (.val (.int wanted)) (.own AC (.dt kvs)) u6 u7 u8 u9 (.val (.lst (ys.map D.int))) .no) (n:=AE) rfl B6 'l' rfl (m1) 'l';obtain⟨c,d8,e8,c0,c1,B8⟩:=tk (g:=gC (.int 3)) (E:=U7 d7 D6 (.val (.int AE)) (.val (.int kind)) (.val (.int wanted)) (.own AC (.dt kvs)) u6 u7 u8 u9 (.val (.lst (ys.map D.int))) .no) (n:=3) rfl B7 'l' rfl 'l' 'l';have hz:(0:Int).toNat<ys.length:=by rw[aM];lia
 have aK:=sJ _ (tH (ys:=ys) (a:=0) hz)
 have KA:∃g:Int,([D.int (RW ys 0),.int (RW ys 0),.int a])[c.toNat]?=AA (.int g)/\0<=g/\g<AE:=by
  have:c=0\/c=1\/c=2:=by lia
  rcases this with h|h|h
  .exact{_,by rw[h];rfl,aK.1,aK.2}
  .exact{_,by rw[h];rfl,aK.1,aK.2}
  .exact{a,by rw[h];rfl,a0,a1}
 obtain⟨BF,hg,g0,g1⟩:=KA;obtain⟨E9,mB⟩:∃E9,E9=U7 d8 D6 (.val (.int AE)) (.val (.int kind)) (.val (.int wanted)) (.own AC (.dt kvs)) u6 u7 u8 u9 (.val (.lst (ys.map D.int))) (.val (.int BF)):={_,rfl}
 have s7:HZ (.nm 11) (g2 EG (JF [(g2 EG (AW 10) (gC (.int 0))),(g2 EG (AW 10) (gC (.int 0))),(HV IS 0 [(AW 2)])]) (HV IS 0 [(gC (.int 3))])) (U7 d6 D6 (.val (.int AE)) (.val (.int kind)) (.val (.int wanted)) (.own AC (.dt kvs)) u6 u7 u8 u9 (.val (.lst (ys.map D.int))) .no)=.ok (.nx E9):=by
  rw[mB];exact MJ (EW (fY (QX (EW (x:=.lst (ys.map D.int)) (y:=.int 0) rfl rfl (p9 'd' hz)) (QX (EW (x:=.lst (ys.map D.int)) (y:=.int 0) rfl rfl (p9 'd' hz)) (JU e7))) (show 3<10000 by decide)) e8 (iL (xs:=[]) c0 hg)) rfl
 obtain⟨qs,bW⟩:∃qs,qs=(kvs.map (·.1)).map (pk ys):={_,rfl}
 have eQ:KY (IK (AW 5)) 2 [10] (.tp [(.nm 0),(.nm 1)]) K4 (MG [(g2 EG (AW 2) (AW 0)),(g2 EG (AW 2) (AW 1))]) (O4 [5] E9)=.ok (.lst (qs.map JS),O4 [5] E9):=by
  have:=bM (gi:=IK (AW 5)) (k:=2) (js:=[10]) (t:=.tp [(.nm 0),(.nm 1)]) (tt:=K4) (ge:=MG [(g2 EG (AW 2) (AW 0)),(g2 EG (AW 2) (AW 1))]) (E:=O4 [5] E9) (E1:=O4 [5] E9) (ds:=(kvs.map (·.1)).map uE) (Qj ys) (λE=>∃x y,E=[x,y,.val (.lst (ys.map D.int))]) (by rw[DR,mB];rfl) (by rw[mB];exact{_,_,rfl}) (by rw[AI,AI];lia) (λx hx E hE=>by
   obtain⟨ky,Ly,rfl⟩:=BQ.mp hx;obtain⟨p,q,rfl⟩:=hE;obtain⟨a,b,rfl,a0,a1,b0,b1,_⟩:=L5.rg ky Ly
   exact{_,rfl,AK,_,rfl,.inl {rfl,_,_,bK (QX (EW (x:=.lst (ys.map D.int)) (y:=.int a) rfl rfl (p9 a0 (fX aM a0 a1))) (JU (EW (x:=.lst (ys.map D.int)) (y:=.int b) rfl rfl (p9 b0 (fX aM b0 b1))))) (show 2<10000 by decide),rfl,_,_,rfl}}) (λEc hEc=>by
   rw[mB]
   have:∀(u:Sl) (j:Nat),j≠10->iN Ec 2 [10] j (bI [5] j u)=bI [5] j u:=λu j hj=>by
    cases u with
    |no=>rfl
    |val d=>rfl
    |own t d =>
     simp only[bI];split<;>rfl
   simp only[aH,O4,U7,iW,cN,EN,Nat.reduceAdd];rw[this u6 6 'd',this u7 7 'd',this u8 8 'd',this u9 9 'd']
   rfl)
  rw[this,Rn L5.rg,bW]
 have Lr:Net AE (WI qs):=by
  have pm:=rB qs;refine{m1,LW m2 h2,by rw[pm.length_eq,bW,AI,AI];exact l5,λp hp=>?_,Fk ?_}
  .have hp:=pm.mem_iff.mp hp
   rw[bW] at hp;obtain⟨ky,Ly,rfl⟩:=BQ.mp hp;obtain⟨a,b,rfl,a0,a1,b0,b1,ab⟩:=L5.rg ky Ly;have ha:=sJ _ (tH (ys:=ys) (a:=a) (fX aM a0 a1));have hb:=sJ _ (tH (ys:=ys) (a:=b) (fX aM b0 b1));exact{ha.1,ha.2,hb.1,hb.2,λz=>ab (yN wK a0 b0 (fX aM a0 a1) (fX aM b0 b1) z)}
  .rw[bW]
   refine DY.mpr (List.Pairwise.imp_of_mem ?_ L5.nd);intro x y hx hy hxy z;obtain⟨a,b,rfl,a0,a1,b0,b1,ab⟩:=L5.rg x hx;obtain⟨a',b',rfl,a0',a1',b0',b1',ab'⟩:=L5.rg y hy;simp only[pk,iA] at z;exact hxy (by rw[yN wK a0 a0' (fX aM a0 a1) (fX aM a0' a1') z.1,yN wK b0 b0' (fX aM b0 b1) (fX aM b0' b1') z.2])
 refine{AE,WI qs,BF,d8,P5 (E':=E9) (GT e1 (GT (MJ e2 rfl) (GT e3 (GT (aE (d:=.dt []) rfl) (GT e4 (GT e5 (GT s6 (GT s7 (RD (ZK (d:=.tup [DO AE (WI qs),.int BF]) (bK (QX (bK (QX (d:=.int AE) (by rw[mB];rfl) (JU (PH (JU (PH (JU eQ) (Uo qs))) rfl))) (show 2<10000 by decide)) (JU (d:=.int BF) (by rw[mB];rfl))) (show 2<10000 by decide)) ?_)))))))))) (by rw[mB];rfl),Lr,m2,g0,g1,B8.mono 'l'};rw[mB];simp only[cV,U7,DO,D.flat,pA9,D.nod,pAA,Gk]
 rfl
end
section
variable{cl:List Int}{g x a b c:Int}
theorem Rc.st(h:Rc ps cl g x):g∉cl:=by
 induction h with
 |refl h=>exact h
 |step _ _ _ ih=>exact ih
theorem Rc.ne(h:Rc ps cl g x):x∉cl:=by
 cases h with
 |refl h=>exact h
 |step _ _ h=>exact h
theorem Rc.mono{dl:List Int}(hs:∀z∈dl,z∈cl)(h:Rc ps cl g x):Rc ps dl g x:=by
 induction h with
 |refl h=>exact .refl λz=>h (hs _ z)
 |step _ e h ih=>exact .step ih e λz=>h (hs _ z)
theorem Rc.range(R:Rg AE ps)(h0:0<=g)(h1:g<AE)(h:Rc ps cl g x):0<=x/\x<AE:=by
 cases h with
 |refl _=>exact{h0,h1}
 |step _ e _=>obtain⟨_,_,a,b⟩:=R.rg _ e;exact{a,b}
theorem fO(h:a≠b):a∉[b]:=λz=>h (BB.mp z)
theorem Rc.by(b:Int)(h:Rc ps cl g x):Rc ps [b] g x\/Rc ps cl g b:=by
 induction h with
 |refl h =>
  by_cases e:g=b
  .exact .inr (by rw[<-e];exact .refl h)
  .exact .inl (.refl (fO e))
 |@step x y h e c ih =>
  rcases ih with ih|ih
  .by_cases eb:y=b
   .exact .inr (by rw[<-eb];exact .step h e c)
   .exact .inl (.step ih e (fO eb))
  .exact .inr ih
def Dom(ps:List (Int×Int))(g c x:Int):Prop:=Rc ps [] g x/\¬Rc ps [c] g x
theorem Dom.refl(h:Rc ps [] g x):Dom ps g x x:={h,λz=>z.ne A2}
theorem pAR(h:Rc ps [] g x):Dom ps g g x:={h,λz=>z.st A2}
theorem Dom.rc(h:Dom ps g c x):Rc ps [] g c:=(h.1.by c).resolve_left h.2
theorem Dom.trans(h1:Dom ps g a b)(h2:Dom ps g b c):Dom ps g a c:={h2.1,λz=>(z.by b).elim h2.2 h1.2}
theorem Dom.anti(h1:Dom ps g a b)(h2:Dom ps g b a):a=b:=SE λne=>by
 have KA:∀x,Rc ps [] g x->Rc ps [a,b] g x:=λx h=>by
  have Yw:∀y:Int,y≠a->y≠b->y∉[a,b]:=λy p q z=>by
   simp only[A7,BZ,or_false] at z;exact z.elim p q
  induction h with
  |refl _ =>
   refine .refl (Yw g (λe=>h2.2 ?_) (λe=>h1.2 ?_))
   .rw[<-e];exact .refl (fO (by rw[e];exact ne))
   .rw[<-e];exact .refl (fO (by rw[e];exact FO ne))
  |@step x y _ e _ ih =>
   refine .step ih e (Yw y (λq=>h2.2 ?_) (λq=>h1.2 ?_))
   .rw[<-q];exact .step (ih.mono 's') e (fO (by rw[q];exact ne))
   .rw[<-q];exact .step (ih.mono 's') e (fO (by rw[q];exact FO ne))
 exact(KA a h2.1).ne A2
theorem Dom.lin(h1:Dom ps g a x)(h2:Dom ps g b x):Dom ps g a b\/Dom ps g b a:=by
 by_cases e:Rc ps [a] g b
 .refine .inr {h1.rc,λz=>?_}
  have ne:a≠b:=λq=>e.ne (by rw[q];exact A2)
  have KA:∀x,Rc ps [] g x->Rc ps [a] g x\/Rc ps [b] g x:=λx h=>by
   induction h with
   |refl _ =>
    by_cases q:g=a
    .exact .inr (.refl (fO (by rw[q];exact ne)))
    .exact .inl (.refl (fO q))
   |@step x y _ e' _ ih =>
    rcases ih with ih|ih
    .by_cases q:y=a
     .exact .inr (by rw[q];exact z)
     .exact .inl (.step ih e' (fO q))
    .by_cases q:y=b
     .exact .inl (by rw[q];exact e)
     .exact .inr (.step ih e' (fO q))
  exact(KA x h1.1).elim h1.2 h2.2
 .exact .inl {h2.rc,e}
theorem Ue{p q:Int->Bool}:∀{l:List Int},(∀x∈l,p x=AK->q x=AK)->(l.filter p).length<=(l.filter q).length
 |[],_=>AM _
 |x::l,h=>by
  have ih:=Ue (l:=l) λy hy=>h y (AZ _ hy);have hx:=h x A2;rw[IW,IW];split
  .rename_i e;rw[if_pos (hx e)];simp only[BD];lia
  .split
   .simp only[BD];lia
   .exact ih
theorem Gj{p q:Int->Bool}{y:Int}(hq:q y=AK)(hp:¬p y=AK):∀{l:List Int},(∀x∈l,p x=AK->q x=AK)->y∈l->(l.filter p).length<(l.filter q).length
 |x::l,h,hy=>by
  have bT:=Ue (l:=l) λy hy=>h y (AZ _ hy);have hx:=h x A2;rw[IW,IW];rcases A7.mp hy with e|hy
  .subst e
   rw[if_neg hp,if_pos hq];simp only[BD];lia
  .have ih:=Gj hq hp (l:=l) (λy hy=>h y (AZ _ hy)) hy
   split
   .rename_i e;rw[if_pos (hx e)];simp only[BD];lia
   .split
    .simp only[BD];lia
    .exact ih
structure All(ps:List (Int×Int))(g:Int)(L:List Int):Prop where
 nd:L.Nodup
 mem:∀x,x∈L↔Rc ps [] g x
noncomputable instance domDec (ps:List (Int×Int)) (g c x:Int):Decidable (Dom ps g c x):=Classical.propDecidable _
noncomputable def mu(ps:List (Int×Int))(g:Int)(L:List Int)(x:Int):List Int:=L.filter λc=>decide (Dom ps g c x)
noncomputable def cu(ps:List (Int×Int))(g:Int)(L:List Int)(c:Int):List Int:=L.filter λx=>decide (Dom ps g c x)
variable{L zs zs':List Int}{p h:Int}
theorem Dg(A:All ps g L):c∈mu ps g L x↔Dom ps g c x:=by
 unfold mu;rw[CN,decide_eq_true_eq,A.mem];exact{λz=>z.2,λz=>{z.rc,z}}
theorem yE1(A:All ps g L):x∈cu ps g L c↔Dom ps g c x:=by
 unfold cu;rw[CN,decide_eq_true_eq,A.mem];exact{λz=>z.2,λz=>{z.1,z}}
theorem p8(A:All ps g L)(d:Dom ps g a b)(ne:a≠b):(mu ps g L a).length<(mu ps g L b).length:=by
 refine Gj (y:=b) (decide_eq_true (Dom.refl d.1)) (λz=>ne (d.anti (of_decide_eq_true z))) (λx _ z=>decide_eq_true ((of_decide_eq_true z:Dom ps g x a).trans d)) ((A.mem b).mpr d.1)
theorem yGY(A:All ps g L)(d:Dom ps g a b)(ne:a≠b):(cu ps g L b).length<(cu ps g L a).length:=by
 refine Gj (y:=a) (decide_eq_true (Dom.refl d.rc)) (λz=>ne (d.anti (of_decide_eq_true z))) (λx _ z=>decide_eq_true (d.trans (of_decide_eq_true z:Dom ps g b x))) ((A.mem a).mpr d.rc)
structure Srt(ps:List (Int×Int))(g:Int)(L:List Int)(x:Int)(zs:List Int):Prop where
 pm:zs.Perm (mu ps g L x)
 pw:zs.Pairwise λa b=>(mu ps g L a).length<(mu ps g L b).length
theorem Srt.mem(A:All ps g L)(S:Srt ps g L x zs):c∈zs↔Dom ps g c x:=by rw[S.pm.mem_iff,Dg A]
theorem Fi(h:Dom ps g c g):c=g:=h.anti (pAR h.rc)
structure IsH(ps:List (Int×Int))(g p h:Int):Prop where
 dom:Dom ps g h p
 ne:h≠p
 last:∀c,Dom ps g c p->c≠p->Dom ps g c h
theorem IsH.uniq{h':Int}(I:IsH ps g p h)(I':IsH ps g p h'):h=h':=(I'.last h I.dom I.ne).anti (I.last h' I'.dom I'.ne)
theorem Srt.nodup(S:Srt ps g L x zs):zs.Nodup:=S.pw.imp λh e=>by rw[e] at h;lia
theorem Srt.last(A:All ps g L)(S:Srt ps g L p zs)(hp:Rc ps [] g p)(ne:p≠g):∃pre h,zs=pre++[h,p]/\IsH ps g p h:=by
 obtain⟨pre,post,e⟩:=cK ((S.mem A).mpr (Dom.refl hp));have pw:=S.pw;rw[e,IN] at pw;obtain⟨w1,w2,w3⟩:=pw;rw[L7] at w2
 have wQ:post=[]:=by
  cases post with
  |nil=>rfl
  |cons c post =>
   exfalso;have h1:=w2.1 c A2;have hc:Dom ps g c p:=(S.mem A).mp (by rw[e];simp)
   by_cases q:c=p
   .rw[q] at h1;lia
   .have:=p8 A hc q;lia
 subst wQ;rcases ZB pre with UA|⟨vQ,h,UA⟩
 .exfalso
  have:=(S.mem A).mpr (pAR hp);rw[e,UA] at this;exact ne (BB.mp this).symm
 .have UA:pre=vQ++[h]:=by simpa using UA
  subst UA;refine{vQ,h,by rw[e];simp,{(S.mem A).mp (by rw[e];simp),λq=>?_,λc hc q=>?_}}
  .have:=w3 h 's' p A2
   rw[q] at this;lia
  .have hh:Dom ps g h p:=(S.mem A).mp (by rw[e];simp)
   have hcm:=(S.mem A).mpr hc;rw[e,CA,CA,BB,BB] at hcm;rcases hcm with(hcm|hcm)|hcm
   .have lt:=(IN.mp w1).2.2 c hcm h A2
    rcases hc.lin hh with z|z
    .exact z
    .by_cases q2:h=c
     .rw[q2] at lt;lia
     .have:=p8 A z q2;lia
   .rw[hcm];exact .refl hh.rc
   .exact absurd hcm q
open Classical in
noncomputable def uF(ps:List (Int×Int))(g p:Int):Int:=if h:∃h,IsH ps g p h then h.choose else g
theorem Dx(I:IsH ps g p h):uF ps g p=h:=by
 have e:∃h,IsH ps g p h:={h,I};unfold uF;rw[dif_pos e];exact e.choose_spec.uniq I
theorem Td:uF ps g g=g:=by
 unfold uF;rw[dif_neg];rintro⟨h,I⟩;exact I.ne (Fi I.dom)
noncomputable def fV(ps:List (Int×Int))(g b:Int)(zs:List Int):Option Int:=zs.foldl (λBR c=>if Dom ps g c b/\b≠c then AA c else BR) AL
theorem Ud:fV ps g b (zs++[c])=if Dom ps g c b/\b≠c then AA c else fV ps g b zs:=by
 unfold fV;rw[fL];rfl
theorem Dw:∀{ys:List Int} {BR:Option Int},(∀c∈ys,¬(Dom ps g c b/\b≠c))->ys.foldl (λBR c=>if Dom ps g c b/\b≠c then AA c else BR) BR=BR
 |[],_,_=>rfl
 |c::ys,BR,h=>by rw[K7,if_neg (h c A2)];exact Dw λd hd=>h d (AZ _ hd)
theorem Uc(h:∀c∈zs,¬(Dom ps g c b/\b≠c)):fV ps g b zs=AL:=Dw h
theorem zT2(h:∀c∈ys,¬(Dom ps g c b/\b≠c)):fV ps g b (zs++ys)=fV ps g b zs:=by
 unfold fV;rw[fL];exact Dw h
theorem zQY(A:All ps g L)(pm:zs.Perm L)(pw:zs.Pairwise λa b=>(cu ps g L b).length<=(cu ps g L a).length)(I:IsH ps g b h):fV ps g b zs=AA h:=by
 obtain⟨pre,post,e⟩:=cK (pm.mem_iff.mpr ((A.mem h).mpr I.dom.rc));have nd:zs.Nodup:=pm.nodup_iff.mpr A.nd;rw[e,show pre++h::post=(pre++[h])++post by simp,zT2,Ud,if_pos {I.dom,FO I.ne}];rintro c hc ⟨d,ne⟩;rw[e,IN,L7] at pw;rw[e,J3,FK] at nd;have h1:=pw.2.1.1 c hc;have:=yGY A (I.last c d (FO ne)) (λq=>nd.2.1.1 (by rw[<-q];exact hc));lia
end
end My
namespace L2
open PySem
theorem Gi(x:Int)(ns:List Int):T3 (.int x) (.tup (ns.map D.int))=.ok (.bl (decide (x∉ns))):=by
 rw[T3,Ed];simp[Out.bind]
theorem zQZ(x:Int)(ns:List Int):T3 (.int x) (.lst (ns.map D.int))=.ok (.bl (decide (x∉ns))):=by
 rw[T3,yAP];simp[Out.bind]
theorem uC{f:D->List D}{g:Int->D}(p:Int->Bool)(h:∀x,f (.int x)=if p x=AK then[g x] else[]):∀l:List Int,(l.map D.int).flatMap f=(l.filter p).map g
 |[]=>rfl
 |x::l=>by
  rw[AU,CI,uC p h l,h x,IW]
  by_cases e:p x=AK
  .rw[if_pos e,if_pos e];rfl
  .rw[if_neg e,if_neg e];rfl
end L2
variable{cs:List Int}{φ:Int->Option Int}{u1 u7 u8:L2.Sl}
namespace My
open PySem L2
theorem nS{E:Ev}(p:Int->Bool)(cs:List Sl)(hi:gi E=.ok (ns.map D.int,E1))(hc:XW 1 js E1=.no::cs)(hl:ns.length<10000)
  (ht:∀x∈ns,tt (.val (.int x)::cs)=.ok (p x,.val (.int x)::cs)) (hb:∀u,aH E1 (u::cs) 1 js=E1):KY gi 1 js (.nm 0) tt (AW 0) E=.ok (.lst ((ns.filter p).map D.int),E1):=by
 have:=bM (gi:=gi) (k:=1) (js:=js) (t:=.nm 0) (tt:=tt) (ge:=AW 0) (E:=E) (E1:=E1) (ds:=ns.map D.int) (λd=>match d with|.int x=>if p x=AK then[.int x] else[]|_=>[]) (λE=>∃u,E=u::cs) hi {_,hc} (by rw[AI];exact hl) (λd hd E hE=>by
  obtain⟨x,hx,rfl⟩:=BQ.mp hd;obtain⟨u,rfl⟩:=hE;refine{_,rfl,p x,_,ht x hx,?_}
  by_cases h:p x=AK
  .exact .inl {h,.int x,_,rfl,by simp only[h,if_true],_,rfl}
  .exact .inr {by simpa using h,by simp only[h,if_false];rfl,_,rfl}) ((λEc q0=>by obtain⟨u,e⟩:=q0;exact by rw[e];exact hb u))
 rw[this,uC (g:=D.int) p λx=>rfl]
section
variable{BF c:Int}
theorem Ph(R:Rg AE ps)(h0:0<=BF)(h1:BF<AE)(hc:Rc ps [] BF c):∃xs:List Int,nU [.val (DO AE ps),.val (.int BF),.val (.int c)]=.ok (AC,.tup (xs.map D.int),.non)/\xs.Nodup/\∀x,x∈xs↔Dom ps BF c x:=by
 obtain⟨xs,e1,p1,m1⟩:=Ab (start:=BF) R h0 h1;obtain⟨ys,e2,p2,m2⟩:=Dy (cl:=[c]) (start:=BF) R h0 h1;have RI:=R.m2;have nx:xs.Nodup:=p1.imp λe=>ZD e
 have hl:xs.length<10000:=by
  have:=DD (l₂:=ri AE.toNat) nx λx hx=>HR.mpr (by
   have:=((m1 x).mp hx).range R h0 h1;lia)
  rw[SG] at this;lia
 refine{xs.filter λx=>decide (x∉ys),?_,nx.filter _,λx=>?_}
 .have eQ:=nS (gi:=IK (AW 3)) (js:=[4]) (tt:=gB (g2 T3 (AW 0) (AW 1))) (E:=[.val (DO AE ps),.val (.int BF),.val (.int c),.val (.tup (xs.map D.int)),.val (.tup (ys.map D.int))]) (E1:=[.val (DO AE ps),.val (.int BF),.val (.int c),.val (.tup (xs.map D.int)),.val (.tup (ys.map D.int))]) (λx=>decide (x∉ys)) [.val (.tup (ys.map D.int))] rfl rfl hl
   (λx _=>MI (EW (x:=.int x) (y:=.tup (ys.map D.int)) rfl rfl (Gi x ys))) λu=>rfl
  have t1:gB (g2 T3 (AW 2) (AW 3)) [.val (DO AE ps),.val (.int BF),.val (.int c),.val (.tup (xs.map D.int)),.no]=.ok (AC,[.val (DO AE ps),.val (.int BF),.val (.int c),.val (.tup (xs.map D.int)),.no]) :=
   MI (EW (x:=.int c) (y:=.tup (xs.map D.int)) rfl rfl (by rw[Gi,decide_eq_false (λz=>z ((m1 c).mpr hc))]))
  exact P5 (GT (MJ (O7 (ds:=[DO AE ps,.int BF]) rfl e1) rfl) (GT (RC t1 rfl) (GT (MJ (O7 (ds:=[DO AE ps,.int BF,.tup [.int c]]) rfl e2) rfl) (RD (PH (JU eQ) rfl))))) rfl
 .rw[CN,m1,decide_eq_true_eq,m2];rfl
def X0(f:Int->D)(L:List Int):List (Key×D):=L.map λp=>(CZ p,f p)
theorem Rm{f:Int->D}{p:Int}:∀{L:List Int},p∈L->OI (X0 f L) (.inl p)=AA (f p)
 |x::L,h=>by
  unfold OI X0;rw[AU,EK]
  by_cases e:x=p
  .subst e;simp
  .have:decide ((CZ x:Key)=CZ p)=AC:=decide_eq_false λz=>e (LZ z)
   simp only[this];exact Rm (L:=L) ((A7.mp h).resolve_left (FO e))
theorem zW6{f:Int->D}{p:Int}{L:List Int}(h:p∉L):OT (X0 f L) (.inl p) (f p)=X0 f (L++[p]):=by
 unfold OT X0;rw[if_neg,HX]
 .rfl
 .simp only[List.any_map,KL,T0,decide_eq_true_eq,not_exists,not_and]
  exact λq hq z=>h (LZ z▸hq)
theorem zW7{f:Int->D}{L:List Int}:(X0 f L).map (λkv=>kK kv.1)=L.map D.int:=by unfold X0;rw[DR];rfl
theorem Om{gv:G}(f:Int->D)(cs:List Sl):∀{ns BR:List Int} {u:Sl},(BR++ns).Nodup->(BR++ns).length<10000->(∀x∈ns,gv (.val (.int x)::cs)=.ok (f x,.val (.int x)::cs)) ->
  ∃u',ZG (.nm 0) K4 (qF (AW 0) gv) (ns.map D.int) (.dk (X0 f BR)) (u::cs)=.ok (.dk (X0 f (BR++ns)),u'::cs)
 |[],BR,u,_,_,_=>{u,by rw[EL];rfl}
 |x::ns,BR,u,nd,hl,hv=>by
  have hx:x∉BR:=λz=>(J3.mp nd).2.2 x z x A2 rfl;have hla:(X0 f BR).length<10000:=by unfold X0;rw[AI];rw[BO] at hl;lia
  obtain⟨u',e⟩:=Om f cs (ns:=ns) (BR:=BR++[x]) (u:=.val (.int x)) (by rw[CP];exact nd) (by rw[CP];exact hl) λy hy=>hv y (AZ _ hy);refine{u',?_};rw[CP] at e
  have ge:qF (AW 0) gv (.dk (X0 f BR)) (.val (.int x)::cs)=.ok (.dk (X0 f (BR++[x])),.val (.int x)::cs):=by
   refine HG (a:=(.int x,.val (.int x)::cs)) rfl (HG (hv x A2) ?_);show few (X0 f BR).length (Out.ok (D.dk (OT (X0 f BR) (.inl x) (f x)),Sl.val (.int x)::cs))=_;rw[ZI hla,zW6 hx]
  rw[AU,ZG];refine HG (a:=.val (.int x)::cs) rfl (HG (a:=(AK,.val (.int x)::cs)) rfl ?_);show(if AK=AK then _ else _)=_;rw[if_pos rfl];exact HG ge e
theorem Qi{ge:G}{ds:List D}(k:Int->Int):∀{cs:List Int},(∀c∈cs,ge (.val (.int c)::ds.map .val)=.ok (.int (k c),.val (.int c)::ds.map .val))->fQ ge ds (cs.map D.int)=.ok (cs.map k)
 |[],_=>rfl
 |c::cs,h=>by
  rw[AU,fQ];exact HG (a:=k c) (HG (h c A2) rfl) (HG (Qi k λd hd=>h d (AZ _ hd)) rfl)
theorem zW8{gl ge:G}{E:Ev}{ds:List D}(k:Int->Int)(hl:gl E=.ok (.lst (cs.map D.int),E1))(hv:valsJ (shareJ js E1) js=AA ds)(hn:cs.length<64)
  (hk:∀c∈cs,ge (.val (.int c)::ds.map .val)=.ok (.int (k c),.val (.int c)::ds.map .val)):tE gl js ge E=.ok ((cs.map D.int,cs.map k),shareJ js E1):=by
 refine HG hl ?_;show(match D.lst (cs.map D.int),valsJ (shareJ js E1) js with|.lst ys,AA ds=>if ys.length<64 then(fQ ge ds ys).bind λkz=>.ok ((ys,kz),shareJ js E1) else .bad|_,_=>.bad)=_;rw[hv];show(if(cs.map D.int).length<64 then(fQ ge ds (cs.map D.int)).bind λkz=>Out.ok ((cs.map D.int,kz),shareJ js E1) else .bad)=_;rw[if_pos (by rw[AI];exact hn)];exact HG (Qi k hk) rfl
theorem Eu{α β γ:Type}(f:α->β)(h:α->γ):∀l:List α,(l.map f).zip (l.map h)=l.map λx=>(f x,h x)
 |[]=>rfl
 |x::l=>by rw[AU,AU,P9,Eu f h l];rfl
theorem zT4{k:Int->Int}{qs:List (Int×D)}(h:mU (cs.map k) (cs.map D.int) qs):∃zs:List Int,qs=zs.map (λc=>(k c,D.int c))/\zs.Perm cs/\zs.Pairwise λa b=>k a<=k b:=by
 obtain⟨pm,pw⟩:=h;rw[Eu] at pm
 have un:∀q∈qs,q=(k (match q.2 with|.int c=>c|_=>0),D.int (match q.2 with|.int c=>c|_=>0)):=λq hq=>by
  obtain⟨c,_,rfl⟩:=BQ.mp (pm.mem_iff.mp hq)
  rfl
 have e:qs=(qs.map λq=>match q.2 with|.int c=>c|_=>0).map (λc=>(k c,D.int c)):=by
  rw[DR];exact((PD λq hq=>(un q hq).symm).trans (List.map_id _)).symm
 refine{_,e,?_,?_}
 .have:=pm.map (λq:Int×D=>match q.2 with|.int c=>c|_=>0)
  rw[DR] at this;exact this.trans (by rw[show((λq:Int×D=>match q.2 with|.int c=>c|_=>0)∘λc=>(k c,D.int c))=id from rfl,List.map_id])
 .rw[e,DY] at pw
  exact pw
end
def WP(n:Nat)(φ:Int->Option Int):List D:=(ri n).map λb=>JE (φ b)
theorem yA8(n:Nat)(φ:Int->Option Int):(WP n φ).length=n:=by unfold WP;rw[AI,SG]
theorem yGZ(h:j<n):(ri n)[j]?=AA (j:Int):=by
 unfold ri;rw[AX,I0 h];simp
theorem yA9(h0:0<=AE)(h1:AE<=100):iM (.lst [.non]) (.int AE)=.ok (.lst (WP AE.toNat λ_=>AL)):=by
 have e:(BH AE.toNat [D.non]).flatten=WP AE.toNat λ_=>AL:=by
  unfold WP ri;rw[DR];generalize AE.toNat=n
  induction n with
  |zero=>rfl
  |succ n ih=>rw[kG,HX,<-ih,List.replicate_succ',List.flatten_append];rfl
 simp only[iM,L2.guard];rw[if_pos {by lia,by lia,by simp;lia},e]
theorem Qh{b c:Int}(h0:0<=b)(h1:b<n):mX (.lst (WP n φ)) (.int b) (.int c)=.ok (.lst (WP n λx=>if x=b then AA c else φ x)):=by
 rw[Ia (j:=b.toNat) (by rw[yA8];exact Dc h0 h1)]
 congr 2
 refine Q9 λj=>?_;rw[List.getElem?_set];unfold WP;rw[AX,AX,AI,SG]
 by_cases hj:j<n
 .rw[yGZ hj]
  by_cases e:b.toNat=j
  .have:(j:Int)=b:=by lia
   simp[e,hj,this,JE]
  .have:¬(j:Int)=b:=by lia
   simp[e,this]
 .have:(ri n)[j]?=AL:=OG (by rw[SG];lia)
  rw[this]
  by_cases e:b.toNat=j
  .lia
  .simp[e]
theorem Rl(φ:Int->Option Int):∀l:List Int,pA9 (l.map λb=>JE (φ b))=AK/\pAA (l.map λb=>JE (φ b))=AK
 |[]=>by simp[pA9,pAA]
 |b::l=>by
  obtain⟨h1,h2⟩:=Rl φ l;rw[AU,pA9,pAA,h1,h2];cases φ b<;>simp[JE,D.flat,D.nod]
section
variable{g:Int}{L:List Int}{p:Int}
def Ir(ps:List (Int×Int))(g:Int)(L:List Int)(p:Int):List Int:=(mu ps g L p).mergeSort λa b=>decide ((mu ps g L a).length<=(mu ps g L b).length)
theorem yBA(A:All ps g L):Srt ps g L p (Ir ps g L p):=by
 have pm:(Ir ps g L p).Perm (mu ps g L p):=LK _ _;have nd:(Ir ps g L p).Nodup:=pm.nodup_iff.mpr (A.nd.filter _)
 have pw:=JQ (le:=λa b=>decide ((mu ps g L a).length<=(mu ps g L b).length)) (λa b c h1 h2=>decide_eq_true (AY (of_decide_eq_true h1) (of_decide_eq_true h2)))
  (λa b=>by rcases Nat.le_total (mu ps g L a).length (mu ps g L b).length with h|h<;>simp[h]) (mu ps g L p)
 refine{pm,(pw.and nd).imp_of_mem λ{a b} ha hb h=>?_};have h1:=of_decide_eq_true h.1;have da:=(Dg A).mp (pm.mem_iff.mp ha);have db:=(Dg A).mp (pm.mem_iff.mp hb);rcases da.lin db with z|z
 .exact p8 A z h.2
 .have:=p8 A z (FO h.2);lia
theorem Fw(A:All ps g L)(hp:Rc ps [] g p)(ne:p≠g):∃h,IsH ps g p h:=let ⟨_,h,_,I⟩:=(yBA A).last A hp ne;{h,I}
end
theorem yBB{BF:Int}{L:List Int}(R:Rg AE ps)(h0:0<=BF)(h1:BF<AE)(A:All ps BF L):L.length<=AE.toNat:=by
 have:=DD (l₂:=ri AE.toNat) A.nd λx hx=>HR.mpr (by
  have:=((A.mem x).mp hx).range R h0 h1;lia)
 rwa [SG] at this
section
variable{BF:Int}
open Classical in
theorem yBC{gl ge:G}{ks:List Nat}{t:Tg}{g:GS}{E Ef:Ev}{k:Int->Int}(h:tE gl js ge E=.ok ((cs.map D.int,cs.map k),E1))
  (hz:∀zs:List Int,zs.Perm cs->zs.Pairwise (λa b=>k a<=k b)->∃E2,TQ t g (zs.map D.int) E1=.ok (.nx E2)/\hush ks E2=Ef):sU gl js ge t g ks E=.ok (.nx Ef):=by
 refine HG h ?_;have pm:(cs.mergeSort λa b=>decide (k a<=k b)).Perm cs:=LK _ _
 have pw:=JQ (le:=λa b=>decide (k a<=k b)) (λa b c h1 h2=>decide_eq_true (LW (of_decide_eq_true h1) (of_decide_eq_true h2)))
  (λa b=>by rcases ZE (k a) (k b) with h|h<;>simp[h]) cs
 have q0:mU (cs.map k) (cs.map D.int) ((cs.mergeSort λa b=>decide (k a<=k b)).map λc=>(k c,D.int c)):={by rw[Eu];exact pm.map _,DY.mpr (pw.imp λh=>of_decide_eq_true h)}
 have al:∀qs,mU (cs.map k) (cs.map D.int) qs->∃E2,TQ t g (qs.map HH) E1=.ok (.nx E2)/\hush ks E2=Ef:=λqs hq=>by
  obtain⟨ws,rfl,p1,p2⟩:=zT4 hq;rw[DR];exact hz ws p1 p2
 have ex:∃E0,∀qs,mU (cs.map k) (cs.map D.int) qs->∃E2,TQ t g (qs.map HH) E1=.ok (.nx E2)/\hush ks E2=E0:={Ef,al};show(if h:∃E0,∀qs,mU (cs.map k) (cs.map D.int) qs->∃E2,TQ t g (qs.map HH) E1=.ok (.nx E2)/\hush ks E2=E0 then Out.ok (Fl.nx h.choose) else .bad)=_;rw[dif_pos ex];obtain⟨E2,a1,a2⟩:=ex.choose_spec _ q0;obtain⟨E3,b1,b2⟩:=al _ q0;rw[a1] at b1;cases b1;rw[<-a2,b2]
end
section
variable{BF:Int}
def Ya:Option D->Sl
 |none=>.no
 |some d=>.val d
theorem zW9{L:List Int}(h:i<L.length)(q:Int):q∈L.take (i+1)↔q∈L.take i\/q=L[i]:=by
 rw[CH h,CA,BB]
open Classical in
def hO(ps:List (Int×Int))(g b:Int):Option Int:=if Rc ps [] g b then AA (uF ps g b) else AL
def hE(AE:Int)(ps:List (Int×Int))(BF:Int)(JC:D)(φ:Int->Option Int)(o4 o5:Option D):Ev:=[.val (DO AE ps),.val (.int BF),.val JC,.own AC (.lst (WP AE.toNat φ)),Ya o4,Ya o5]
abbrev hB:GS:=LM (gB (g2 IL (AW 5) (AW 4))) (RT 3 (AW 5) (AW 4)) NC
theorem yE3{JC:D}{o5:Option D}{c:Int}{xs:List Int}(hx:EG JC (.int c)=.ok (.tup (xs.map D.int)))(hr:∀x∈xs,0<=x/\x<AE) :
  ∃oO,P4 (IK (g2 EG (AW 2) (AW 4))) (.nm 5) hB (hE AE ps BF JC φ (AA (.int c)) o5)=.ok (.nx (hE AE ps BF JC (λb=>if b∈xs/\b≠c then AA c else φ b) (AA (.int c)) oO)):=by
 obtain⟨E',e,oO,rfl⟩:=i4 (gi:=IK (g2 EG (AW 2) (AW 4))) (t:=.nm 5) (g:=hB) (E:=hE AE ps BF JC φ (AA (.int c)) o5) (ds:=xs.map D.int)
  (λi E=>∃oO,E=hE AE ps BF JC (λb=>if b∈xs.take i/\b≠c then AA c else φ b) (AA (.int c)) oO)
  (gD (EW (x:=JC) (y:=.int c) rfl rfl hx)) {o5,by simp}
  (λi x E hx hP=>by
   obtain⟨o5,rfl⟩:=hP;rw[AX] at hx;obtain⟨b,hb,rfl⟩:=BY.mp hx;obtain⟨hi,eS⟩:=AQ.mp hb;obtain⟨b0,b1⟩:=hr b (DH hb);have tm:∀q,q∈xs.take (i+1)↔q∈xs.take i\/q=b:=by rw[<-eS];exact zW9 hi
   have t1:gB (g2 IL (AW 5) (AW 4)) (hE AE ps BF JC (λb=>if b∈xs.take i/\b≠c then AA c else φ b) (AA (.int c)) (AA (.int b)))=.ok (decide (b≠c),hE AE ps BF JC (λb=>if b∈xs.take i/\b≠c then AA c else φ b) (AA (.int c)) (AA (.int b))) :=
    MI (EW (x:=.int b) (y:=.int c) rfl rfl (gE _ _))
   by_cases e:b=c
   .rw[decide_eq_false (λz=>z e)] at t1
    refine{_,rfl,_,RC t1 rfl,AA (.int b),?_}
    congr 1
    funext q
    have:(q∈xs.take (i+1)/\q≠c)↔(q∈xs.take i/\q≠c):=by
     rw[tm];constructor
     .rintro⟨z|z,n⟩
      .exact{z,n}
      .exact absurd (z.trans e) n
     .rintro⟨z,n⟩;exact{.inl z,n}
    simp only[this]
   .rw[decide_eq_true e] at t1
    refine{_,rfl,_,W3 t1 (cW (i:=3) (t:=AC) (d:=.lst (WP AE.toNat λb=>if b∈xs.take i/\b≠c then AA c else φ b)) (v:=.int c) (k:=.int b) rfl rfl rfl rfl (Qh b0 'l')),AA (.int b),?_};show hE AE ps BF JC _ (AA (.int c)) (AA (.int b))=_
    congr 1
    funext q
    by_cases eq:q=b
    .subst eq
     rw[if_pos rfl,if_pos {(tm q).mpr (.inr rfl),e}]
    .have:(q∈xs.take (i+1)/\q≠c)↔(q∈xs.take i/\q≠c):=by
      rw[tm];constructor
      .rintro⟨z|z,n⟩
       .exact{z,n}
       .exact absurd z eq
      .rintro⟨z,n⟩;exact{.inl z,n}
     simp only[this,if_neg eq])
 rw[AI,GF] at e;exact{oO,e}
theorem Ub(R:Rg AE ps)(hm:AE<=24)(h0:0<=BF)(h1:BF<AE):WO [.val (DO AE ps),.val (.int BF)]=.ok (AC,.tup (WP AE.toNat (hO ps BF)),.non):=by
 obtain⟨xs,e1,p1,m1⟩:=Ab (start:=BF) R h0 h1;have A:All ps BF xs:={p1.imp λe=>ZD e,m1};have hl:=yBB R h0 h1 A
 obtain⟨Z0,aO⟩:∃Z0:Int->List Int,∀c∈xs,nU [.val (DO AE ps),.val (.int BF),.val (.int c)]=.ok (AC,.tup ((Z0 c).map D.int),.non)/\(Z0 c).Nodup/\∀x,x∈Z0 c↔Dom ps BF c x:=by
  have:=λc=>Classical.em (Rc ps [] BF c);refine{λc=>(open Classical in if h:Rc ps [] BF c then(Ph R h0 h1 h).choose else[]),λc hc=>?_};have h:=(m1 c).mp hc;simp only[dif_pos h];exact(Ph R h0 h1 h).choose_spec
 have M0:∀c∈xs,(Z0 c).length=(cu ps BF xs c).length:=λc hc=>((U4 (aO c hc).2.1 (A.nd.filter _)).mpr λx=>by rw[(aO c hc).2.2];exact(yE1 A).symm).length_eq;obtain⟨JC,hc⟩:∃JC,JC=D.dk (X0 (λp=>.tup ((Z0 p).map D.int)) xs):={_,rfl};have w9:∀p∈xs,EG JC (.int p)=.ok (.tup ((Z0 p).map D.int)):=λp hp=>by rw[hc];exact yI3 (Rm hp)
 -- the JC
 have s1:bL (IK (HB W7 [(AW 0),(AW 1)])) 1 [0,1] (.dk []) (.nm 0) K4 (qF (AW 0) (HB nU [(AW 1),(AW 2),(AW 0)])) [.val (DO AE ps),.val (.int BF),.no,.no,.no,.no]=.ok (JC,[.val (DO AE ps),.val (.int BF),.no,.no,.no,.no]):=by
  obtain⟨u',e⟩:=Om (gv:=HB nU [(AW 1),(AW 2),(AW 0)]) (λp=>.tup ((Z0 p).map D.int)) [.val (DO AE ps),.val (.int BF)] (ns:=xs) (BR:=[]) (u:=.no) A.nd (by rw[FY];lia) λx hx=>O7 (ds:=[DO AE ps,.int BF,.int x]) rfl (aO x hx).1;rw[FY,<-hc] at e;exact HG (gD (O7 (ds:=[DO AE ps,.int BF]) rfl e1)) (HG e rfl)
 have s3:sU (gN kP [(AW 2)]) [2] (g1 uG (gN NO [(g2 EG (AW 1) (AW 0))])) (.nm 4) (P4 (IK (g2 EG (AW 2) (AW 4))) (.nm 5) hB) [4,5] (hE AE ps BF JC (λ_=>AL) AL AL)
   = .ok (.nx (hE AE ps BF JC (λb=>if b=BF then AL else hO ps BF b) AL AL)):=by
  refine yBC (cs:=xs) (k:=λc=>-((Z0 c).length:Int)) (zW8 (λc=>-((Z0 c).length:Int)) (PH (ds:=[JC]) (JU rfl) (by rw[hc];exact congrArg (λz=>Out.ok (D.lst z)) zW7)) (ds:=[JC]) rfl 'l' λc xG=>?_) λzs pm pw=>?_
  .exact HG (PH (JU (EW (x:=JC) (y:=.int c) rfl rfl (w9 c xG))) (Wx (by rw[AI]))) rfl
  .obtain⟨E',e,o4,o5,rfl⟩:=zS (t:=.nm 4) (g:=P4 (IK (g2 EG (AW 2) (AW 4))) (.nm 5) hB) (ds:=zs.map D.int) (E:=hE AE ps BF JC (λ_=>AL) AL AL)
    (λi E=>∃o4 o5,E=hE AE ps BF JC (λb=>fV ps BF b (zs.take i)) o4 o5) 0 {AL,AL,rfl} (λi x E hx hP=>by
     rw[EN] at hP ⊢;obtain⟨o4,o5,rfl⟩:=hP;rw[AX] at hx;obtain⟨c,hcz,rfl⟩:=BY.mp hx;obtain⟨hi,ZZ⟩:=AQ.mp hcz;have xG:c∈xs:=pm.mem_iff.mp (DH hcz);obtain⟨oO,e⟩:=yE3 (AE:=AE) (ps:=ps) (BF:=BF) (φ:=λb=>fV ps BF b (zs.take i)) (o5:=o5) (w9 c xG) λx hx=>(((aO c xG).2.2 x).mp hx).1.range R h0 h1;refine{_,rfl,_,e,AA (.int c),oO,?_}
     congr 1
     funext b
     rw[CH hi,ZZ,Ud];have:(b∈Z0 c/\b≠c)↔(Dom ps BF c b/\b≠c):=by rw[(aO c xG).2.2]
     simp only[this])
   refine{_,e,?_};rw[AI,EN,GF];have hh:∀φ:Int->Option Int,hush [4,5] (hE AE ps BF JC φ o4 o5)=hE AE ps BF JC φ AL AL:=λφ=>by cases o4<;>cases o5<;>rfl
   rw[hh]
   congr 1
   funext b
   have pw':zs.Pairwise λa b=>(cu ps BF xs b).length<=(cu ps BF xs a).length:=pw.imp_of_mem λ{a b} ha hb h=>by
    rw[M0 a (pm.mem_iff.mp ha),M0 b (pm.mem_iff.mp hb)] at h;lia
   by_cases eb:b=BF
   .rw[if_pos eb]
    exact Uc λc _ z=>z.2 (by rw[eb] at z ⊢;exact(Fi z.1).symm)
   .rw[if_neg eb]
    unfold hO
    by_cases hb:Rc ps [] BF b
    .rw[if_pos hb]
     obtain⟨h,I⟩:=Fw A hb eb;rw[Dx I];exact zQY A pm pw' I
    .rw[if_neg hb]
     exact Uc λc _ z=>hb z.1.1
 have hg:Rc ps [] BF BF:=.refl 's'
 have Mn:(λx=>if x=BF then AA BF else if x=BF then AL else hO ps BF x)=hO ps BF:=by
  funext x
  by_cases e:x=BF
  .rw[if_pos e,e];unfold hO;rw[if_pos hg,Td]
  .rw[if_neg e,if_neg e]
 have s4:=cW (i:=3) (gk:=AW 1) (gv:=AW 1) (E:=hE AE ps BF JC (λb=>if b=BF then AL else hO ps BF b) AL AL) (E1:=hE AE ps BF JC (λb=>if b=BF then AL else hO ps BF b) AL AL) (E2:=hE AE ps BF JC (λb=>if b=BF then AL else hO ps BF b) AL AL) (t:=AC) (t2:=AC) (d0:=.lst (WP AE.toNat λb=>if b=BF then AL else hO ps BF b)) (d:=.lst (WP AE.toNat λb=>if b=BF then AL else hO ps BF b)) (v:=.int BF) (k:=.int BF) rfl rfl rfl rfl (Qh h0 'l');rw[Mn] at s4;have fl:=Rl (hO ps BF) (ri AE.toNat)
 have lo:cV [3] (hE AE ps BF JC (hO ps BF) AL AL) (.tup (WP AE.toNat (hO ps BF)))=AK:=by
  unfold cV;rw[D.flat,D.nod,WP,fl.1,fl.2];simp
 exact P5 (GT (MJ s1 rfl) (GT (aE (EW (x:=.lst [.non]) (y:=.int AE) rfl (EW (x:=DO AE ps) (y:=.int 0) rfl rfl rfl) (yA9 (RP (HU h0 h1)) 'l'))) (GT s3 (GT s4 (RD (ZK (E':=O4 [3] (hE AE ps BF JC (hO ps BF) AL AL)) (PH (ds:=[.lst (WP AE.toNat (hO ps BF))]) (JU rfl) rfl) lo)))))) rfl
end
theorem Net.rg'(N:Net AE ps):Rg AE ps:={by have:=N.m1;lia,by have:=N.m2;lia,by have:=N.len;lia,λp hp=>let ⟨a,b,c,d,_⟩:=N.rg p hp;{a,b,c,d}}
theorem yE4{xs:List Int}(hx:xs.Pairwise (· < ·))(hy:ys.Pairwise (· < ·))(h:∀x,x∈xs↔x∈ys):xs=ys:=by
 have nx:xs.Nodup:=hx.imp λe z=>by lia
 have ny:ys.Nodup:=hy.imp λe z=>by lia
 exact LU (le:=(· < ·)) (λa b _ _ u v=>by lia) hx hy ((U4 nx ny).mpr h)
theorem Rk(f:α->β)(xs:List α)(lo hi:Option Int):YA (xs.map f) lo hi=(YA xs lo hi).map f:=by
 unfold YA;rw[AI,List.map_take,List.map_drop]
theorem yG0(n:Nat):(ri n).Pairwise (· < ·):=DY.mpr (List.Pairwise.imp (λh=>by lia) List.pairwise_lt_range)
theorem yBD(ns:List Int):∃c:Int,rF [.val (.lst (ns.map D.int)),.val (.int 0)]=.ok (AC,.int c,.non):=by
 unfold rF
 cases ns with
 |nil=>exact{0,P5 (GT (RC (E1:=[.val (.lst []),.val (.int 0)]) (MI (EW (x:=.int 0) (y:=.int 0) rfl (PH (JU (d:=.lst []) rfl) rfl) rfl)) rfl) (RD (d:=.int 0) rfl)) rfl}
 |cons n ns =>
  refine{n,P5 (qE (E1:=[.val (.lst ((n::ns).map D.int)),.val (.int 0)]) (W3 (E1:=[.val (.lst ((n::ns).map D.int)),.val (.int 0)]) (MI (EW (x:=.int 0) (y:=.int ((n::ns).map D.int).length) rfl (PH (JU (d:=.lst ((n::ns).map D.int)) rfl) rfl) ?_)) (RD (EW (x:=.lst ((n::ns).map D.int)) (y:=.int 0) rfl rfl (iL (xs:=[]) 'd' rfl))))) rfl};simp only[bP];rw[decide_eq_true (by simp only[AU,BD];lia)]
open Classical in
def UV(AE:Int)(ps:List (Int×Int))(DF one:Int):List Int:=(ri AE.toNat).filter λx=>decide (Rc ps [] one x/\¬Rc ps [DF] one x/\x≠DF)
section
variable{DF one:Int}
theorem yE5:(UV AE ps DF one).Pairwise (· < ·):=(yG0 _).filter _
theorem Qg(h:AE<=24):(UV AE ps DF one).length<=24:=by
 refine AY (GO _ _) ?_;rw[SG];lia
theorem qM(R:Rg AE ps)(h0:0<=one)(h1:one<AE){x:Int}:x∈UV AE ps DF one↔Rc ps [] one x/\¬Rc ps [DF] one x/\x≠DF:=by
 simp only[UV,CN,HR,decide_eq_true_eq];refine{λh=>h.2,λh=>{?_,h}};have:=h.1.range R h0 h1;lia
theorem yG1(R:Rg AE ps)(h0:0<=one)(h1:one<AE){xs:List Int}(hx:xs.Pairwise (· < ·))(mx:∀x,x∈xs↔Rc ps [] one x)(my:∀x,x∈ys↔Rc ps [DF] one x):(xs.filter λx=>decide (x∉ys)&&decide (x≠DF))=UV AE ps DF one :=
 yE4 (hx.filter _) yE5 λx=>by
  rw[CN,qM R h0 h1,mx,EB,decide_eq_true_eq,decide_eq_true_eq,my]
theorem yBE(R:Rg AE ps)(hm:AE<=24)(h0:0<=one)(h1:one<AE):rH [.val (DO AE ps),.val (.int DF),.val (.int one)]=.ok (AC,.lst ((UV AE ps DF one).map D.int),.non):=by
 obtain⟨ys,e1,_,my⟩:=Dy (cl:=[DF]) R h0 h1;obtain⟨xs,e2,hx,mx⟩:=Ab R h0 h1
 have E6:xs.length<10000:=by
  have:=DD (l₂:=ri AE.toNat) (hx.imp λe z=>by lia) (λx h=>HR.mpr (by have:=((mx x).mp h).range R h0 h1;lia));rw[SG] at this;lia
 have hc:=bM (gi:=IK (HB W7 [(AW 0),(AW 2)])) (k:=1) (js:=[3,1]) (t:=.nm 0) (tt:=WK (gB (g2 T3 (AW 0) (AW 1))) (gB (g2 IL (AW 0) (AW 2)))) (ge:=AW 0) (E:=[.val (DO AE ps),.val (.int DF),.val (.int one),.val (.tup (ys.map D.int))]) (E1:=[.val (DO AE ps),.val (.int DF),.val (.int one),.val (.tup (ys.map D.int))]) (ds:=xs.map D.int)
  (λd=>match d with|.int x=>if(decide (x∉ys)&&decide (x≠DF))=AK then[.int x] else[]|_=>[]) (λE=>∃u,E=[u,.val (.tup (ys.map D.int)),.val (.int DF)])
  (gD (O7 (ds:=[DO AE ps,.int one]) rfl e2)) {_,rfl} (by rw[AI];exact E6) (λd hd E hE=>by
   obtain⟨x,_,rfl⟩:=BQ.mp hd;obtain⟨u,rfl⟩:=hE;have t1:=MI (EW (E:=[.val (.int x),.val (.tup (ys.map D.int)),.val (.int DF)]) (ga:=AW 0) (gb:=AW 1) (x:=.int x) rfl rfl (Gi x ys));have t2:=MI (EW (E:=[.val (.int x),.val (.tup (ys.map D.int)),.val (.int DF)]) (ga:=AW 0) (gb:=AW 2) (x:=.int x) rfl rfl (gE x DF));refine{_,rfl,decide (x∉ys)&&decide (x≠DF),[.val (.int x),.val (.tup (ys.map D.int)),.val (.int DF)],?_,?_}
   .by_cases h:x∉ys
    .rw[decide_eq_true h] at t1 ⊢;rw[W1];exact iY t1 t2
    .rw[decide_eq_false h] at t1 ⊢;rw[mT];exact qD t1
   .by_cases h:(decide (x∉ys)&&decide (x≠DF))=AK
    .exact .inl {h,.int x,_,rfl,by simp only[h,if_true],_,rfl}
    .exact .inr {by simpa using h,by simp only[h,if_false];rfl,_,rfl}) (λEc ⟨u,e⟩=>by rw[e];rfl)
 rw[uC (g:=D.int) (λx=>decide (x∉ys)&&decide (x≠DF)) (λx=>rfl),yG1 R h0 h1 hx mx my] at hc;exact P5 (GT (MJ (O7 (ds:=[DO AE ps,.int one,.tup [.int DF]]) rfl e1) rfl) (RD hc)) rfl
end
theorem yBF(n:Nat)(a:Int):zBA (n+1) [.val (.int a),.val (.int a)]=.ok (AC,.bl AK,.non) :=
 P5 (GT (RC (E1:=[.val (.int a),.val (.int a)]) (Z9 (tP (d:=.int a) rfl) rfl) rfl) (RD (yGT (E1:=[.val (.int a),.val (.int a)]) (yES (tP (d:=.int a) rfl)) (EW (x:=.int a) (y:=.int a) rfl rfl (d:=.bl AK) (by rw[Ee];simp))))) rfl
theorem yBG{ds:List D}(hl:ds.length<10000)(h:∀d∈ds,zBA n [.val d,.val d]=.ok (AC,.bl AK,.non)):zBA (n+1) [.val (.tup ds),.val (.tup ds)]=.ok (AC,.bl AK,.non):=by
 have hc:KY (Ho (AW 0) (AW 1)) 2 [] (.tp [(.nm 0),(.nm 1)]) K4 (HB (zBA n) [(AW 0),(AW 1)]) [.val (.tup ds),.val (.tup ds)]=.ok (.lst ((mW ds ds).map λ_=>.bl AK),[.val (.tup ds),.val (.tup ds)]):=by
  refine zWY (λE=>E.length=2) rfl rfl (by simpa[mW] using hl) (λd hd E hE=>?_) λEc _=>qN Ec 2 0 _;obtain⟨x,y,rfl⟩:=Db hE;obtain⟨⟨p,q⟩,hp,rfl⟩:=BQ.mp hd
  have N0:p=q/\p∈ds:=by
   obtain⟨i,hi⟩:=List.mem_iff_getElem?.mp hp;rw[WE] at hi;obtain⟨a,b⟩:=hi;rw[a] at b;exact{BJ b,DH a}
  obtain⟨rfl,hm⟩:=N0;exact{_,rfl,_,O7 (ds:=[p,p]) rfl (h p hm),rfl}
 have t1:bF (WL (RB (kN "tuple" (AW 0)))) (gB (g2 IL (gN NO [(AW 0)]) (gN NO [(AW 1)]))) [.val (.tup ds),.val (.tup ds)]=.ok (AC,[.val (.tup ds),.val (.tup ds)]) :=
  xY (lC (b:=AK) (Z9 (tP (d:=.tup ds) rfl) rfl)) (MI (EW (PH (JU (d:=.tup ds) rfl) rfl) (PH (JU (d:=.tup ds) rfl) rfl) (d:=.bl AC) (by rw[gE];simp)))
 exact P5 (qE (W3 (E1:=[.val (.tup ds),.val (.tup ds)]) (Z9 (tP (d:=.tup ds) rfl) rfl) (GT (RC t1 rfl) (RD (PH (JU hc) (zWZ _)))))) rfl
def YC(DF:Int)(n:Nat):List Int:=(ri n).filter λo=>decide (o≠DF)
def cM(AE:Int)(ps:List (Int×Int))(DF:Int)(n:Nat):List (Int×Int):=(YC DF n).flatMap λone=>(UV AE ps DF one).map λx=>(one,x)
section
variable{DF:Int}
def Ij(AE:Int)(ps:List (Int×Int))(DF:Int)(d:D):List D:=match d with
 |.int one=>((UV AE ps DF one).map λx=>(one,x)).map JS
 |_=>[]
theorem Qf:∀l:List Int,(l.map D.int).flatMap (Ij AE ps DF)=(l.flatMap λone=>(UV AE ps DF one).map λx=>(one,x)).map JS
 |[]=>rfl
 |x::l=>by rw[AU,CI,Qf l,CI,HX];rfl
theorem Qe(one:Int):∀l:List Int,(l.map D.int).flatMap (λd=>[D.tup [.int one,d]])=(l.map λx=>(one,x)).map JS
 |[]=>rfl
 |x::l=>by rw[AU,CI,Qe one l];rfl
theorem yG2(N:Net AE ps):nY [.val (DO AE ps),.val (.int DF)]=.ok (AC,.tup ((cM AE ps DF AE.toNat).map JS),.non):=by
 have R:=N.rg';have UB:=N.m1;have RI:=N.m2
 have h1:KY (OU (g2 EG (AW 0) (gC (.int 0)))) 1 [1] (.nm 0) (gB (g2 IL (AW 0) (AW 1))) (AW 0) [.val (DO AE ps),.val (.int DF),.no]=.ok (.lst ((YC DF AE.toNat).map D.int),[.val (DO AE ps),.val (.int DF),.no]):=by
  have:=bM (gi:=OU (g2 EG (AW 0) (gC (.int 0)))) (k:=1) (js:=[1]) (t:=.nm 0) (tt:=gB (g2 IL (AW 0) (AW 1))) (ge:=AW 0) (E:=[.val (DO AE ps),.val (.int DF),.no]) (E1:=[.val (DO AE ps),.val (.int DF),.no]) (ds:=(ri AE.toNat).map D.int)
   (λd=>match d with|.int x=>if decide (x≠DF)=AK then[.int x] else[]|_=>[]) (λE=>∃u,E=[u,.val (.int DF)])
   (by rw[<-qC];exact lB (j:=AE) (EW (x:=DO AE ps) (y:=.int 0) rfl rfl rfl) {by lia,by lia}) {_,rfl} (by rw[AI,SG];lia) (λd hd E hE=>by
    obtain⟨x,_,rfl⟩:=BQ.mp hd;obtain⟨u,rfl⟩:=hE;refine{_,rfl,decide (x≠DF),[.val (.int x),.val (.int DF)],MI (EW (x:=.int x) (y:=.int DF) rfl rfl (gE _ _)),?_}
    by_cases h:decide (x≠DF)=AK
    .exact .inl {h,.int x,_,rfl,by simp only[h,if_true],_,rfl}
    .exact .inr {by simpa using h,by simp only[h,if_false];rfl,_,rfl}) (λEc ⟨u,e⟩=>by rw[e];rfl)
  rw[this,uC (g:=D.int) (λx=>decide (x≠DF)) (λx=>rfl)];rfl
 have Lo:∀x∈YC DF AE.toNat,0<=x/\x<AE:=λx hx=>by
  have:=HR.mp (CN.mp hx).1;lia
 have Cc:(YC DF AE.toNat).length<=24:=by
  refine AY (GO _ _) ?_;rw[SG];lia
 obtain⟨E0,g8⟩:∃E0:Ev,E0=[.val (DO AE ps),.val (.int DF),.val (.lst ((YC DF AE.toNat).map D.int))]:={_,rfl}
 have h2:bL (IK (AW 2)) 2 [1,0] (.lst []) (.nm 0) K4 (k8 (IK (HB rH [(AW 3),(AW 2),(AW 0)])) (.nm 1) K4 (bG (MG [(AW 0),(AW 1)]))) E0=.ok (.lst ((cM AE ps DF AE.toNat).map JS),E0):=by
  have:=Ey (gi:=IK (AW 2)) (k:=2) (js:=[1,0]) (t:=.nm 0) (tt:=K4) (gm:=k8 (IK (HB rH [(AW 3),(AW 2),(AW 0)])) (.nm 1) K4 (bG (MG [(AW 0),(AW 1)]))) (E:=E0) (E1:=E0) (ds:=(YC DF AE.toNat).map D.int) (Ij AE ps DF) 24
   (λE=>∃u v,E=[u,v,.val (.int DF),.val (DO AE ps)]) (by rw[g8];rfl) (by rw[g8];exact{_,_,rfl}) (by rw[AI];lia) (λd hd=>by
    obtain⟨x,_,rfl⟩:=BQ.mp hd;simp only[Ij,AI]
    exact Qg RI) (λd hd BR E OZ hE=>by
    obtain⟨x,hx,rfl⟩:=BQ.mp hd;obtain⟨u,v,rfl⟩:=hE;obtain⟨x0,x1⟩:=Lo x hx
    obtain⟨E',e',u',Ni⟩:=Dd (t:=.nm 1) (tt:=K4) (gm:=bG (MG [(AW 0),(AW 1)])) (λd=>[D.tup [.int x,d]]) 1 (λE=>∃u,E=[.val (.int x),u,.val (.int DF),.val (DO AE ps)]) (ds:=(UV AE ps DF x).map D.int) (BR:=BR) (E:=[.val (.int x),v,.val (.int DF),.val (DO AE ps)]) {v,rfl} (by
      have:=Qg (ps:=ps) (DF:=DF) (one:=x) RI
      rw[AI];lia) (λ_ _=>AM _) (λd hd BR E OZ hE=>by
      obtain⟨u,rfl⟩:=hE
      exact{_,rfl,AK,_,rfl,.inl {rfl,_,Eg (bK (ds:=[.int x,d]) rfl (show 2<10000 by decide)) 'l',_,rfl}})
    refine{_,rfl,AK,_,rfl,.inl {rfl,E',?_,{_,_,Ni}}};rw[Qe] at e'
    exact HG (nR (O7 (ds:=[DO AE ps,.int DF,.int x]) rfl (yBE R RI x0 x1))) e') (λEc ⟨u,v,e⟩=>by rw[g8,e];rfl)
  rw[this,Qf];rfl
 subst g8;exact P5 (GT (MJ h1 rfl) (RD (PH (JU h2) rfl))) rfl
end
section
variable{cl:List Int}{a b c g p x:Int}{L:List Int}
theorem W8:(a,b)∈back ps↔(b,a)∈ps:=by
 unfold back;rw[(rB _).mem_iff];constructor
 .intro h
  obtain⟨q,hq,e⟩:=BQ.mp h;cases e;exact hq
 .exact λh=>BQ.mpr {_,h,rfl}
theorem Rc.trans(h1:Rc ps cl a b)(h2:Rc ps cl b c):Rc ps cl a c:=by
 induction h2 with
 |refl _=>exact h1
 |step _ e n ih=>exact .step ih e n
theorem Rc.rev(hq:∀a b,(a,b)∈ps->(b,a)∈qs)(h:Rc ps cl a b):Rc qs cl b a:=by
 induction h with
 |refl n=>exact .refl n
 |step h e n ih=>exact Rc.trans (.step (.refl n) (hq _ _ e) h.ne) ih
theorem OE:Rc (back ps) cl b a↔Rc ps cl a b:={λh=>h.rev λ_ _ e=>W8.mp e,λh=>h.rev λ_ _ e=>W8.mpr e}
def Round(AE:Int)(ps:List (Int×Int)):Prop:=∀a b,0<=a->a<AE->0<=b->b<AE->Rc ps [] a b
def X6(AE:Int)(ps:List (Int×Int))(p:Int):Prop:=∃a b,(0<=a/\a<AE)/\a≠p/\b≠p/\Rc ps [] a b/\¬Rc ps [p] a b
theorem zXA(h1:∀x,0<=x->x<AE->Rc ps [] 0 x)(h2:∀x,0<=x->x<AE->Rc (back ps) [] 0 x):Round AE ps:=λa b a0 a1 b0 b1=>(OE.mp (h2 a a0 a1)).trans (h1 b b0 b1)
theorem Round.back(h:Round AE ps):Round AE (back ps):=λa b a0 a1 b0 b1=>OE.mpr (h b a b0 b1 a0 a1)
theorem Dv(A:All ps g L):∀(n:Nat) (b:Int),(mu ps g L b).length<=n->Dom ps g p b->p≠b->∃x,Rc ps [] g x/\IsH ps g x p
 |0,b,hn,d,ne=>absurd hn (Nat.not_le.mpr (AR (BP _) (p8 A d ne)))
 |n+1,b,hn,d,ne=>by
  have hb:b≠g:=λe=>ne (Fi (e▸d) |>.trans e.symm);obtain⟨h,I⟩:=Fw A d.1 hb
  by_cases e:p=h
  .subst e;exact{b,d.1,I}
  .exact Dv A n h (G1 (AN (p8 A I.dom I.ne) hn)) (I.last p d ne) e
theorem Pw(A:All ps g L)(h:hO ps g x=AA p)(RX:p≠g):IsH ps g x p:=by
 unfold hO at h;split at h
 .rename_i r
  have e:=BJ h;have hx:x≠g:=λz=>by subst z;rw[Td] at e;exact RX e.symm
  obtain⟨q,I⟩:=Fw A r hx;rw[Dx I] at e;subst e;exact I
 .cases h
theorem Xc(r:Rc ps [] g x)(I:IsH ps g x p):hO ps g x=AA p:=by
 unfold hO;rw[if_pos r,Dx I]
theorem zXB{L':List Int}(R:Rg AE ps)(R':Rg AE (back ps))(A:All ps g L)(A':All (back ps) g L')(S:Round AE ps)(g0:0<=g)(g1:g<AE)(RX:p≠g):((∃x,hO ps g x=AA p)\/∃x,hO (back ps) g x=AA p)↔X6 AE ps p:=by
 constructor
 .rintro(⟨x,h⟩|⟨x,h⟩)
  .have I:=Pw A h RX
   exact{g,x,{g0,g1},RX.symm,I.ne.symm,I.dom.1,I.dom.2}
  .have I:=Pw A' h RX
   exact{x,g,I.dom.1.range R' g0 g1,I.ne.symm,RX.symm,OE.mp I.dom.1,λz=>I.dom.2 (OE.mpr z)}
 .rintro⟨a,b,ha,h1,h2,h3,h4⟩
  have hb:=h3.range R ha.1 ha.2
  by_cases c:Rc ps [p] g b
  .have d:Dom (back ps) g p a:={OE.mpr (S a g ha.1 ha.2 g0 g1),λz=>h4 ((OE.mp z).trans c)}
   obtain⟨x,r,I⟩:=Dv A' _ a (AM _) d h1.symm;exact .inr {x,Xc r I}
  .obtain⟨x,r,I⟩:=Dv A _ b (AM _) {S g b g0 g1 hb.1 hb.2,c} h2.symm
   exact .inl {x,Xc r I}
end
theorem zA:∀os:List (Option Int),pAH (os.map JE)=AA (os.map λo=>match o with|some i=>PC i|none=>.none)
 |[]=>by simp[pAH]
 |none::os=>by simp[pAH,D.py,JE,zA os]
 |some i::os=>by simp[pAH,D.py,JE,zA os]
theorem yZ(x:Int):∀os:List (Option Int),((os.map λo=>match o with|some i=>PC i|none=>.none).any λd=>D0 d (.int x))=decide (AA x∈os)
 |[]=>by simp
 |none::os=>by
  rw[AU,EV,yZ x os];simp[D0]
 |some i::os=>by
  rw[AU,EV,yZ x os]
  by_cases e:x=i
  .subst e;simp[D0]
  .simp[D0,e,FO e]
theorem zXC(x:Int)(os:List (Option Int)):PK (.int x) (.lst (os.map JE))=.ok (.bl (decide (AA x∈os))):=by
 simp only[PK,zA,D.py];rw[if_pos (show F9 (.int x)<=60 from BP _),yZ]
theorem Rj(x:Int)(os:List (Option Int)):PK (.int x) (.tup (os.map JE))=.ok (.bl (decide (AA x∈os))):=by
 simp only[PK,zA,D.py];rw[if_pos (show F9 (.int x)<=60 from BP _),yZ]
theorem Ol(n:Nat)(φ:Int->Option Int):WP n φ=((ri n).map φ).map JE:=by unfold WP;rw[DR];rfl
theorem Oj{g p:Int}(R:Rg AE ps)(g0:0<=g)(g1:g<AE):AA p∈(ri AE.toNat).map (hO ps g)↔∃x,hO ps g x=AA p:=by
 constructor
 .intro h
  obtain⟨x,_,e⟩:=BQ.mp h;exact{x,e}
 .rintro⟨x,e⟩
  refine BQ.mpr {x,HR.mpr ?_,e};unfold hO at e;split at e
  .rename_i r
   have:=r.range R g0 g1;lia
  .cases e
open Classical in
def tf(p:Prop):Bool:=decide p
theorem dA{p:Prop}:tf p=AK↔p:=by unfold tf;simp
theorem kJ{p:Prop}(h:p):tf p=AK:=dA.mpr h
theorem nZ{p:Prop}(h:¬p):tf p=AC:=by
 cases e:tf p with
 |false=>rfl
 |true=>exact absurd (dA.mp e) h
theorem yM{p:Prop}[Decidable p]:decide p=tf p:=by unfold tf;congr
theorem qU{p q:Prop}(h:p↔q):tf p=tf q:=by rw[propext h]
theorem Net.rgB(N:Net AE ps):Rg AE (My.back ps):=N.back.rg'
theorem Du{xs:List Int}{P:Int->Prop}(h1:1<=AE)(nd:xs.Nodup)(mx:∀x,x∈xs↔P x)(r:∀x,P x->0<=x/\x<AE):(((xs.length:Nat):Int)=AE↔∀x,0<=x->x<AE->P x)/\xs.length<=AE.toNat:=by
 have sub:∀x∈xs,x∈ri AE.toNat:=λx hx=>HR.mpr (by have:=r x ((mx x).mp hx);lia);have le:=DD nd sub;rw[SG] at le;refine{{λe x h0 h1=>SE λn=>?_,λh=>?_},le}
 .have:=DD (l₁:=x::xs) (l₂:=ri AE.toNat) (FK.mpr {λz=>n ((mx x).mp z),nd}) (λy hy=>by
   rcases A7.mp hy with rfl|hy
   .exact HR.mpr 'l'
   .exact sub y hy)
  rw[SG,BD] at this;lia
 .have:=DD (l₁:=ri AE.toNat) (l₂:=xs) (Ie _) (λy hy=>(mx y).mpr (h y (HR.mp hy).1 (by have:=(HR.mp hy).2;lia)))
  rw[SG] at this;lia
theorem yY(N:Net AE ps):g2 TW (gN NO [(HB W7 [(AW 0),(gC (.int 0))])]) (g2 EG (AW 1) (gC (.int 0))) [.val (DO AE ps),.val (DO AE qs)]=.ok (.bl (tf (∀x,0<=x->x<AE->Rc ps [] 0 x)),[.val (DO AE ps),.val (DO AE qs)]):=by
 have h1:=N.m1;obtain⟨xs,e,pw,mx⟩:=Ab N.rg' (start:=0) (HQ _) 'l';have l:=(Du h1 (pw.imp λh z=>by lia) mx λx h=>h.range N.rg' (HQ _) 'l').1;refine EW (PH (JU (O7 (ds:=[DO AE ps,.int 0]) rfl e)) (Wx (n:=xs.length) (AI ..))) (EW (x:=DO AE qs) (y:=.int 0) rfl rfl rfl) ?_;rw[Ee,yM,qU l]
theorem Hx(N:Net AE ps):cZ [.val (DO AE ps)]=.ok (AC,.bl (tf (Round AE ps)),.non):=by
 have t:=Fz (AE:=AE) (ps:=ps) (by have:=N.len;lia)
 have hc:KY (IK (MG [(AW 0),(HB XY [(AW 0)])])) 1 [0] (.nm 0) K4 (g2 TW (gN NO [(HB W7 [(AW 0),(gC (.int 0))])]) (g2 EG (AW 1) (gC (.int 0)))) [.val (DO AE ps)]=.ok (.lst [.bl (tf (∀x,0<=x->x<AE->Rc ps [] 0 x)),.bl (tf (∀x,0<=x->x<AE->Rc (back ps) [] 0 x))],[.val (DO AE ps)]):=by
  have:=bM (gi:=IK (MG [(AW 0),(HB XY [(AW 0)])])) (k:=1) (js:=[0]) (t:=.nm 0) (tt:=K4) (ge:=g2 TW (gN NO [(HB W7 [(AW 0),(gC (.int 0))])]) (g2 EG (AW 1) (gC (.int 0)))) (E:=[.val (DO AE ps)]) (E1:=[.val (DO AE ps)]) (ds:=[DO AE ps,DO AE (back ps)])
   (λd=>match g2 TW (gN NO [(HB W7 [(AW 0),(gC (.int 0))])]) (g2 EG (AW 1) (gC (.int 0))) [.val d,.val (DO AE ps)] with|.ok (x,_)=>[x]|_=>[]) (λE=>∃u,E=[u,.val (DO AE ps)])
   (gD (bK (QX (d:=DO AE ps) rfl (JU (O7 (ds:=[DO AE ps]) rfl t))) (show 2<10000 by decide))) {_,rfl} (show 2<10000 by decide) (λd hd E hE=>by
    obtain⟨u,rfl⟩:=hE
    have:∃b,g2 TW (gN NO [(HB W7 [(AW 0),(gC (.int 0))])]) (g2 EG (AW 1) (gC (.int 0))) [.val d,.val (DO AE ps)]=.ok (.bl b,[.val d,.val (DO AE ps)]):=by
     simp only[A7,BZ,or_false] at hd;rcases hd with rfl|rfl
     .exact{_,yY N}
     .exact{_,yY N.back}
    obtain⟨b,e⟩:=this
    exact{_,rfl,AK,_,rfl,.inl {rfl,_,_,e,by rw[e],_,rfl}}) (λEc ⟨u,e⟩=>by rw[e];rfl)
  rw[this,CI,CI,yY N,yY N.back]
  rfl
 refine P5 (RD (PH (JU hc) (d:=.bl (tf (Round AE ps))) ?_)) rfl;show Out.ok (D.bl _)=_
 congr 2
 by_cases h:Round AE ps
 .rw[kJ h,kJ λx a b=>h 0 x (HQ _) (by have:=N.m1;lia) a b,kJ λx a b=>h.back 0 x (HQ _) (by have:=N.m1;lia) a b];rfl
 .rw[nZ h]
  by_cases h1:∀x,0<=x->x<AE->Rc ps [] 0 x
  .rw[kJ h1,nZ λh2=>h (zXA h1 h2)];rfl
  .rw[nZ h1];rfl
def YB(AE:Int)(ps:List (Int×Int)):List Int:=(ri AE.toNat).filter λp=>tf (X6 AE ps p)
theorem zUB(N:Net AE ps):(YB AE ps).length<=24:=by
 refine AY (GO _ _) ?_;rw[SG];have:=N.m2;lia
theorem Oi(R:Rg AE ps){g:Int}(g0:0<=g)(g1:g<AE):∃L,All ps g L:=by
 obtain⟨L,_,nd,m⟩:=uA (BV:=AL) (BF:=g) R g0 g1;exact{L,nd,m}
theorem Pu(N:Net AE ps)(S:Round AE ps){g p:Int}(g0:0<=g)(g1:g<AE)(RX:p≠g):(AA p∈(ri AE.toNat).map (hO ps g)\/AA p∈(ri AE.toNat).map (hO (back ps) g))↔X6 AE ps p:=by
 obtain⟨L,A⟩:=Oi N.rg' g0 g1;obtain⟨L',A'⟩:=Oi N.rgB g0 g1;rw[Oj N.rg' g0 g1,Oj N.rgB g0 g1];exact zXB N.rg' N.rgB A A' S g0 g1 RX
theorem zUD(N:Net AE ps){p:Int}:(cM AE ps p AE.toNat).isEmpty=!tf (X6 AE ps p):=by
 by_cases h:X6 AE ps p
 .rw[kJ h]
  obtain⟨a,b,ha,h1,h2,h3,h4⟩:=h;have:(a,b)∈cM AE ps p AE.toNat:=iH.mpr {a,CN.mpr {HR.mpr 'l',decide_eq_true h1},BQ.mpr {b,(qM N.rg' ha.1 ha.2).mpr {h3,h4,h2},rfl}}
  cases e:cM AE ps p AE.toNat with
  |nil=>rw[e] at this;cases this
  |cons x l=>rfl
 .rw[nZ h]
  cases e:cM AE ps p AE.toNat with
  |nil=>rfl
  |cons x l =>
   have hx:x∈cM AE ps p AE.toNat:=by rw[e];exact A2
   obtain⟨a,ha,hx⟩:=iH.mp hx;obtain⟨ha,h1⟩:=CN.mp ha;have ha:=HR.mp ha;obtain⟨b,hb,rfl⟩:=BQ.mp hx;have:=(qM N.rg' ha.1 'l').mp hb;exact absurd {a,b,{ha.1,by lia},of_decide_eq_true h1,this.2.2,this.1,this.2.1} h
theorem Pt:ri (n+1)=0::(DL n).map λ(j:Nat)=>(1:Int)+(j:Int):=by
 unfold ri;rw[List.range_succ_eq_map,AU,DR]
 congr 1
 refine PD λj _=>?_;simp only[T0];lia
theorem zXD{ds:List D}(h:Pls n ds)(hn:n<=50):IL (.tup ds) (.tup [])=.ok (.bl (!ds.isEmpty)):=by
 obtain⟨ps,e2,dp,_⟩:=h;have e0:pAH []=AA []:=by simp[pAH]
 unfold IL;simp only[D.py,e2,e0,Z2];rw[if_pos (by simp only[F9,NK];lia),D0]
 cases ds with
 |nil=>rw[e0] at e2;cases e2;rfl
 |cons d ds =>
  cases ps with
  |nil =>
   simp only[pAH] at e2;split at e2<;>simp at e2
  |cons p ps=>rfl
theorem Pls.pairs(qs:List (Int×Int)):Pls 20 (qs.map JS):=Pls.of λq _=>Pls.tup (n:=19) (.cons (.int _ _) (.cons (.int _ _) (.nil _)))
theorem zQ0(N:Net AE ps):bL (IK (MG [(AW 0),(HB XY [(AW 0)])])) 2 [] (.lst []) (.nm 0) K4 (k8 (IK (HB WO [(AW 0),(gC (.int 0))])) (.nm 1) K4 (bG (AW 1))) [.val (DO AE ps),u1,u2]
  = .ok (.lst ((((ri AE.toNat).map (hO ps 0))++((ri AE.toNat).map (hO (back ps) 0))).map JE),[.val (DO AE ps),u1,u2]):=by
 have UB:=N.m1;have RI:=N.m2;have t:=Fz (AE:=AE) (ps:=ps) (by have:=N.len;lia)
 have ho:∀qs,Net AE qs->WO [.val (DO AE qs),.val (.int 0)]=.ok (AC,.tup (((ri AE.toNat).map (hO qs 0)).map JE),.non):=λqs M=>by
  rw[<-Ol];exact Ub M.rg' RI (HQ _) 'l'
 have len:∀qs,(((ri AE.toNat).map (hO qs 0)).map JE).length<=24:=λqs=>by rw[AI,AI,SG];lia
 have:=Ey (gi:=IK (MG [(AW 0),(HB XY [(AW 0)])])) (k:=2) (js:=[]) (t:=.nm 0) (tt:=K4) (gm:=k8 (IK (HB WO [(AW 0),(gC (.int 0))])) (.nm 1) K4 (bG (AW 1))) (E:=[.val (DO AE ps),u1,u2]) (E1:=[.val (DO AE ps),u1,u2]) (ds:=[DO AE ps,DO AE (back ps)])
  (λd=>match WO [.val d,.val (.int 0)] with|.ok (_,.tup xs,_)=>xs|_=>[]) 24 (λE=>∃u v,E=[u,v])
  (gD (bK (QX (d:=DO AE ps) rfl (JU (O7 (ds:=[DO AE ps]) rfl t))) (show 2<10000 by decide))) {_,_,rfl} (show 2 * 24<10000 by decide) (λd hd=>by
   simp only[A7,BZ,or_false] at hd;rcases hd with rfl|rfl
   .rw[ho ps N];exact len ps
   .rw[ho _ N.back];exact len _) (λd hd BR E OZ hE=>by
   obtain⟨u,v,rfl⟩:=hE
   have:∃xs:List D,WO [.val d,.val (.int 0)]=.ok (AC,.tup xs,.non)/\xs.length<=24:=by
    simp only[A7,BZ,or_false] at hd;rcases hd with rfl|rfl
    .exact{_,ho ps N,len ps}
    .exact{_,ho _ N.back,len _}
   obtain⟨xs,e,hx⟩:=this
   obtain⟨E',e',u',Ni⟩:=Dd (t:=.nm 1) (tt:=K4) (gm:=bG (AW 1)) (λd=>[d]) 1 (λE=>∃u,E=[.val d,u]) (ds:=xs) (BR:=BR) (E:=[.val d,v]) {v,rfl} 'l' (λ_ _=>AM _) (λx hx BR E OZ hE=>by
     obtain⟨u,rfl⟩:=hE
     exact{_,rfl,AK,_,rfl,.inl {rfl,_,Eg (x:=x) rfl 'l',_,rfl}})
   refine{_,rfl,AK,_,rfl,.inl {rfl,E',?_,{_,_,Ni}}};rw[e];have fl:xs.flatMap (λd=>[d])=xs:=List.flatMap_singleton' xs;rw[fl] at e'
   exact HG (gD (O7 (ds:=[d,.int 0]) rfl e)) e') (λEc ⟨u,v,e⟩=>qN Ec 2 0 _)
 rw[this,CI,CI,ho ps N,ho _ N.back,HX];simp
theorem zXE(N:Net AE ps)(S:Round AE ps):gF [.val (DO AE ps)]=.ok (AC,.tup ((YB AE ps).map D.int),.non):=by
 have UB:=N.m1;have RI:=N.m2;obtain⟨os,gX⟩:∃os,os=((ri AE.toNat).map (hO ps 0))++((ri AE.toNat).map (hO (back ps) 0)):={_,rfl};have h1:=zQ0 N (u1:=.no) (u2:=.no);rw[<-gX] at h1;obtain⟨r1,pA⟩:∃r1,r1=(DL (AE-1).toNat).map λ(j:Nat)=>(1:Int)+(j:Int):={_,rfl}
 have sK:ri AE.toNat=0::r1:=by
  have:AE.toNat=(AE-1).toNat+1:=by lia
  rw[this,Pt,pA]
 have Li:r1.length<30:=by rw[pA,AI,EU];lia
 have h2:KY (nG (gC (.int 1)) (g2 EG (AW 0) (gC (.int 0)))) 1 [1] (.nm 0) (gB (g2 PK (AW 0) (AW 1))) (AW 0) [.val (DO AE ps),.val (.lst (os.map JE)),.no]=.ok (.lst ((r1.filter λx=>decide (AA x∈os)).map D.int),[.val (DO AE ps),.val (.lst (os.map JE)),.no]) :=
  nS (λx=>decide (AA x∈os)) [.val (.lst (os.map JE))] (by
   have:=Py (g:=gC (.int 1)) (g':=g2 EG (AW 0) (gC (.int 0))) (E:=[.val (DO AE ps),.val (.lst (os.map JE)),.no]) (i:=1) (j:=AE) rfl (EW (x:=DO AE ps) (y:=.int 0) rfl rfl rfl) {{by lia,by lia},by lia,by lia};rw[this];unfold QV
   rw[pA,DR];rfl) rfl 'l' (λx _=>MI (EW (x:=.int x) (y:=.lst (os.map JE)) rfl rfl (zXC x os))) λu=>rfl
 have hF:(r1.filter λx=>decide (AA x∈os))=r1.filter λx=>tf (X6 AE ps x):=by
  refine fN λx hx=>?_;rw[pA] at hx;obtain⟨j,_,rfl⟩:=BQ.mp hx;rw[yM];refine qU ?_;rw[gX,CA];exact Pu N S (HQ _) 'l' 'l'
 rw[hF] at h2;obtain⟨F,Nh⟩:∃F,F=r1.filter λx=>tf (X6 AE ps x):={_,rfl};rw[<-Nh] at h2;have hFl:F.length<30:=by rw[Nh];exact AR (GO _ _) Li
 have hP:YB AE ps=(if tf (X6 AE ps 0)=AK then 0::F else F):=by
  unfold YB;rw[sK,IW,<-Nh]
 have t0:LM (WL (RB (HB cZ [(AW 0)]))) Aq NC [.val (DO AE ps),.no,.no]=.ok (.nx [.val (DO AE ps),.no,.no]):=by
  have e:=Hx N;rw[kJ S] at e;exact RC (lC (b:=AK) (Z9 (O7 (ds:=[DO AE ps]) rfl e) rfl)) rfl
 obtain⟨E3,YU⟩:∃E3:List D->Ev,E3=λds=>[.val (DO AE ps),.val (.lst (os.map JE)),.own AC (.lst ds)]:={_,rfl}
 have t3:LM (gB (g2 IL (HB nY [(AW 0),(gC (.int 0))]) (MG []))) (bH (P6 2 n6 [(gC (.int 0)),(gC (.int 0))])) NC (E3 (F.map D.int))=.ok (.nx (E3 ((YB AE ps).map D.int))):=by
  have ne:=zXD (Pls.pairs (cM AE ps 0 AE.toNat)) 'd';have em:((cM AE ps 0 AE.toNat).map JS).isEmpty=(cM AE ps 0 AE.toNat).isEmpty:=by cases cM AE ps 0 AE.toNat<;>rfl
  rw[em,zUD N,Bool.not_not] at ne
  have tt:gB (g2 IL (HB nY [(AW 0),(gC (.int 0))]) (MG [])) (E3 (F.map D.int))=.ok (tf (X6 AE ps 0),E3 (F.map D.int)):=by
   subst YU;exact MI (EW (O7 (ds:=[DO AE ps,.int 0]) rfl (yG2 N)) rfl ne)
  rw[hP]
  by_cases h:tf (X6 AE ps 0)=AK
  .rw[h] at tt
   rw[if_pos h,YU];subst YU;refine W3 tt (tQ (d:=.non) (?_:P6 2 n6 [(gC (.int 0)),(gC (.int 0))] [.val (DO AE ps),.val (.lst (os.map JE)),.own AC (.lst (F.map D.int))]=.ok (.non,[.val (DO AE ps),.val (.lst (os.map JE)),.own AC (.lst ((0::F).map D.int))])));exact(nQ (i:=2) (E:=[.val (DO AE ps),.val (.lst (os.map JE)),.own AC (.lst (F.map D.int))]) (E1:=[.val (DO AE ps),.val (.lst (os.map JE)),.own AC (.lst (F.map D.int))]) (t:=AC) (t2:=AC) (xs0:=F.map D.int) (xs:=F.map D.int) (ds:=[.int 0,.int 0]) (x:=.non) (TX:=(0::F).map D.int) rfl rfl rfl (show n6 (F.map D.int) [.int 0,.int 0]=_ from ZI (n:=(F.map D.int).length) (by rw[AI];lia)))
  .have h:tf (X6 AE ps 0)=AC:=by simpa using h
   rw[h] at tt;rw[if_neg (by rw[h];decide)];exact RC tt rfl
 subst YU;refine P5 (GT t0 (GT (MJ h1 rfl) (GT (aE h2) (GT t3 (RD (ZK (PH (JU (d:=.lst ((YB AE ps).map D.int)) rfl) rfl) ?_)))))) rfl;simp[cV,rP,Ar,D.flat,D.nod,Gm,Aa]
noncomputable def kb:List D:=[.bl AC,.bl AC,.bl AC,.bl AC,.bl AC,.bl AK,.bl AC,.bl AC,.bl AC,.bl AC,.bl AK]
theorem yE7:TW (.lst []) (.lst [])=.ok (.bl AK):=zWO (Pls.lst (n:=59) (.nil _))
theorem yG3{g:GS}{gs:List G}{mx:List D->Out Ev}{bs:List Bool}{E:Ev}{r:Fl}(h:g E=.ok r):n8 g gs mx ik ie bs E=.ok r:=by unfold n8;rw[h]
theorem yG4{g:GS}{gs:List G}{mx:List D->Out Ev}{bs:List Bool}{E z:Ev}{ds:List D}(h:g E=.bad)(h1:QE gs E=.ok (ds,E1))(h2:mx ds=.ok z):n8 g gs mx ik ie bs E=.ok (.nx ((E1.set ik (.val (.lst (bs.map D.bl)))).set ie .no)):=by
 unfold n8;rw[h];exact HG h1 (HG h2 rfl)
theorem yE8(N:Net AE ps)(S:Round AE ps):nX [.val (DO AE ps)]=.ok (AC,.tup ((YB AE ps).map D.int),.non):=by
 have h:=zXE N S;refine P5 (GT (MJ (d:=.non) rfl rfl) (GT (MJ (d:=.lst []) rfl rfl) (GT (E1:=[.val (DO AE ps),.val (.tup ((YB AE ps).map D.int)),.val (.lst []),.no]) ?_ (RD (HG (MI (EW (x:=.lst []) (y:=.lst []) rfl rfl yE7)) (by rw[if_pos rfl];rfl)))))) rfl;have:HZ (.nm 1) (HB gF [(AW 0)]) [.val (DO AE ps),.val .non,.val (.lst []),.no]=.ok (.nx [.val (DO AE ps),.val (.tup ((YB AE ps).map D.int)),.val (.lst []),.no]):=MJ (O7 (ds:=[DO AE ps]) rfl h) rfl;exact yG3 this
theorem yE9(N:Net AE ps)(S:¬Round AE ps):nX [.val (DO AE ps)]=.ok (AC,.lst kb,.non):=by
 have e:=Hx N;rw[nZ S] at e;have tr:∀(u1 u2:Sl),WL (RB (HB cZ [(AW 0)])) [.val (DO AE ps),u1,u2]=.ok (AK,[.val (DO AE ps),u1,u2]):=λu1 u2=>lC (b:=AC) (Z9 (O7 (ds:=[DO AE ps]) rfl e) rfl)
 have bad:gF [.val (DO AE ps)]=.bad:=by
  show(FQ _ _ [.val (DO AE ps),.no,.no]).bind _=_
  rw[show FQ _ _ [.val (DO AE ps),.no,.no]=.bad from by
   show(LM _ _ _ [.val (DO AE ps),.no,.no]).bind _=_
   rw[W3 (tr .no .no) rfl];rfl]
  rfl
 have gx:∃z,zX [DO AE ps]=.ok z:={_,HG (tr .no .no) (by rw[if_pos rfl];exact HG (JU (d:=.str "the net does not lead round") rfl) (ZI (show 1<10000 by decide)))};obtain⟨z,hz⟩:=gx;refine P5 (GT (MJ (d:=.non) rfl rfl) (GT (MJ (d:=.lst []) rfl rfl) (GT (E1:=[.val (DO AE ps),.val .non,.val (.lst kb),.no]) ?_ (RD (HG (MI (EW (x:=.lst kb) (y:=.lst []) (d:=.bl AC) rfl rfl rfl)) (by rw[if_neg B9];rfl)))))) rfl
 have:HZ (.nm 1) (HB gF [(AW 0)]) [.val (DO AE ps),.val .non,.val (.lst []),.no]=.bad:=by
  show(HB gF [(AW 0)] _).bind _=_
  rw[show HB gF [(AW 0)] [.val (DO AE ps),.val .non,.val (.lst []),.no]=.bad from by
   show(gF [.val (DO AE ps)]).bind _=_
   rw[bad];rfl]
  rfl
 exact yG4 this (JU (g:=AW 0) (d:=DO AE ps) (E1:=[.val (DO AE ps),.val .non,.val (.lst []),.no]) rfl) hz
theorem yBJ:rC [.val (.int 5)]=.ok (AC,.lst kb,.non):=by
 rfl
theorem Gp:∀ps:List (Int×Int),pA9 (ps.map JS)=AK
 |[]=>by simp[pA9]
 |p::ps=>by simp[pA9,D.flat,JS,Gp ps]
theorem Su:∀cs:List (Int×Int),toPrs (cs.map λp=>D.tup [JS p,.bl AK])=AA (cs.map λp=>([p.1,p.2],D.bl AK))
 |[]=>rfl
 |p::cs=>by
  rw[AU,JS,toPrs,Su cs]
  rfl
theorem Sa:∀cs:List (Int×Int),(cs.map JS).flatMap (λd=>[D.tup [d,.bl AK]])=cs.map λp=>D.tup [JS p,.bl AK]
 |[]=>rfl
 |p::cs=>by rw[AU,CI,Sa cs];rfl
theorem Ps:∀(cs:List (Int×Int)) {BR:List (List Int×D)},Ln AE BR->(∀p∈cs,0<=p.1/\p.1<AE/\0<=p.2/\p.2<AE/\p.1≠p.2) ->
  Ln AE ((cs.map λp=>([p.1,p.2],D.bl AK)).foldl (λa p=>OT a p.1 p.2) BR)/\((cs.map λp=>([p.1,p.2],D.bl AK)).foldl (λa p=>OT a p.1 p.2) BR).length<=BR.length+cs.length
 |[],BR,L,_=>{L,AM _}
 |p::cs,BR,L,h=>by
  rw[AU,K7];obtain⟨a,b⟩:=Ps cs (L.put (h p A2) (.bl AK)) λq hq=>h q (AZ _ hq);refine{a,AY b ?_};have:=t7 BR [p.1,p.2] (.bl AK);rw[BD];lia
theorem Ln.pairs{kvs:List (List Int×D)}(L:Ln AE kvs):∃qs:List (Int×Int),kvs.map (·.1)=qs.map (λp=>[p.1,p.2]):=by
 have h:=L.rg;generalize kvs.map (·.1)=ks at h
 induction ks with
 |nil=>exact{[],rfl}
 |cons k ks ih =>
  obtain⟨qs,e⟩:=ih λk hk=>h k (AZ _ hk);obtain⟨a,b,rfl,_⟩:=h k A2;exact{(a,b)::qs,by rw[e];rfl}
theorem Ln.net{kvs:List (List Int×D)}(L:Ln AE kvs)(e:kvs.map (·.1)=qs.map (λp=>[p.1,p.2]))(m1:1<=AE)(m2:AE<=24)(hl:kvs.length<=120):Net AE (WI qs):=by
 have pm:=rB qs;have el:kvs.length=qs.length:=by have:=congrArg K0 e;simpa using this
 refine{m1,m2,by rw[pm.length_eq];lia,λp hp=>?_,Fk ?_}
 .obtain⟨a,b,h1,h2⟩:=L.rg [p.1,p.2] (by rw[e];exact BQ.mpr {p,pm.mem_iff.mp hp,rfl})
  cases h1;exact h2
 .have:=L.nd
  rw[e] at this;exact(DY.mp this).imp λh z=>h (by rw[z])
theorem Net.erase(N:Net AE ps)(i:Nat):Net AE (ps.eraseIdx i) :=
 have s:=List.eraseIdx_sublist ps i
 {N.m1,N.m2,AY s.length_le N.len,λp hp=>N.rg p (s.subset hp),N.pw.sublist s}
theorem yBK(hl:ys.length=AE.toNat)(hm:1<AE){k:Int}(k0:0<=k)(k1:k<AE):∃j:Nat,EG (.lst (ys.map D.int)) (.int (k-1))=.ok (.int (RW ys j))/\j<ys.length/\j≠k.toNat:=by
 by_cases h:k=0
 .subst h
  refine{ys.length-1,uD ?_,by lia,by lia};unfold atI YF;rw[if_neg 'l',AI,if_pos 'l'];have:((0:Int)-1+(ys.length:Int)).toNat=ys.length-1:=by lia
  rw[Option.bind_some,this,AX];have hj:ys.length-1<ys.length:=by lia
  rw[BL hj];simp[RW,hj]
 .refine{(k-1).toNat,?_,by lia,by lia}
  have:=p9 (ys:=ys) (a:=k-1) 'l' 'l';rw[this];simp[RW]
abbrev rE(d:D)(AE:Int)(ps:List (Int×Int))(ys:List Int)(u3 u4 u5 u6:Sl):Ev:=[.own AK d,.val (DO AE ps),.val (.lst (ys.map D.int)),u3,u4,u5,u6]
theorem yI7{d:D}(B:Bag k d)(hk:k<700000)(N:Net AE ps):∃(ys:List Int) (d1:D),HZ (.nm 2) (HV lK 0 [(uR (g2 EG (AW 1) (gC (.int 0))))]) [.own AK d,.val (DO AE ps),.no,.no,.no,.no,.no]=.ok (.nx (rE d1 AE ps ys .no .no .no .no))/\ys.Perm (ri AE.toNat)/\Bag (k+24) d1:=by
 have m1:=N.m1;have m2:=N.m2;obtain⟨ys,d1,e,hp,B1⟩:=Px (xs:=ri AE.toNat) B (by rw[SG];lia) 'l';rw[SG] at B1;refine{ys,d1,MJ (lG (ds:=[.lst ((ri AE.toNat).map D.int)]) (E1:=[.own AK d,.val (DO AE ps),.no,.no,.no,.no,.no]) (t:=AK) (d:=d) rfl (JU (HG (a:=(.int AE,[.own AK d,.val (DO AE ps),.no,.no,.no,.no,.no])) (EW (x:=DO AE ps) (y:=.int 0) rfl rfl rfl) ?_)) rfl e) rfl,hp,B1.mono 'l'};simp only[L2.guard];rw[if_pos {by lia,by lia},qC]
theorem yI8{d:D}(B:Bag k d)(hk:k<700000)(N:Net AE ps):∃(kvs:List (List Int×D)) (d1:D),SF 3 (gN tD [(KY (IK (k7 (g2 EG (AW 1) (gC (.int 1))) AL (AA (HV IS 0 [(gC (.int 97))])))) 1 [] (.nm 0) K4 (MG [(AW 0),(gC (.bl AK))]))]) (rE d AE ps ys .no .no .no .no)=.ok (.nx (rE d1 AE ps ys (.own AC (.dt kvs)) .no .no .no))/\Ln AE kvs/\kvs.length<=96/\Bag (k+1) d1:=by
 obtain⟨r,d1,e,r0,r1,B1⟩:=tk (g:=gC (.int 97)) (E:=rE d AE ps ys .no .no .no .no) (n:=97) rfl B 'l' rfl 'l' 'l';obtain⟨cs,ZX⟩:∃cs,cs=YA ps AL (AA r):={_,rfl}
 have jO:cs=ps.take (min r.toNat ps.length):=by
  rw[ZX];unfold YA;simp only[HT.sIx];rw[if_neg 'l',L8,Nat.sub_zero]
 have Lw:∀p∈cs,p∈ps:=λp hp=>by rw[jO] at hp;exact List.mem_of_mem_take hp
 have E6:cs.length<=96:=by rw[jO,GG];lia
 have hs:IK (k7 (g2 EG (AW 1) (gC (.int 1))) AL (AA (HV IS 0 [(gC (.int 97))]))) (rE d AE ps ys .no .no .no .no)=.ok (cs.map JS,rE d1 AE ps ys .no .no .no .no) :=
  gD (HG (EW (x:=DO AE ps) (y:=.int 1) rfl rfl rfl) (HG (a:=(AL,rE d AE ps ys .no .no .no .no)) rfl (HG (a:=(AA r,rE d1 AE ps ys .no .no .no .no)) (HG e rfl) (HG (a:=.tup (cs.map JS)) (by rw[ZX,<-Rk];rfl) rfl))))
 have hc:KY (IK (k7 (g2 EG (AW 1) (gC (.int 1))) AL (AA (HV IS 0 [(gC (.int 97))])))) 1 [] (.nm 0) K4 (MG [(AW 0),(gC (.bl AK))]) (rE d AE ps ys .no .no .no .no)=.ok (.lst (cs.map λp=>D.tup [JS p,.bl AK]),rE d1 AE ps ys .no .no .no .no):=by
  have:=bM (gi:=IK (k7 (g2 EG (AW 1) (gC (.int 1))) AL (AA (HV IS 0 [(gC (.int 97))])))) (k:=1) (js:=[]) (t:=.nm 0) (tt:=K4) (ge:=MG [(AW 0),(gC (.bl AK))]) (E:=rE d AE ps ys .no .no .no .no) (E1:=rE d1 AE ps ys .no .no .no .no) (ds:=cs.map JS)
   (λd=>[.tup [d,.bl AK]]) (λE=>∃u,E=[u]) hs {_,rfl} (by rw[AI];lia) (λx hx E hE=>by
    obtain⟨u,rfl⟩:=hE
    exact{_,rfl,AK,_,rfl,.inl {rfl,_,_,bK (ds:=[x,.bl AK]) rfl (show 2<10000 by decide),rfl,_,rfl}}) (λEc _=>qN Ec 1 0 _)
  rw[this,Sa]
 obtain⟨L,l⟩:=Ps (AE:=AE) cs (BR:=[]) {GK,λ_ h=>by simp at h} λp hp=>N.rg p (Lw p hp);refine{_,d1,aE (PH (JU hc) ?_),L,by simpa using AY l (by simpa using E6),B1};show(match toPrs _ with|some m=>_|none=>_)=_;rw[Su];exact ZI (by rw[AI];lia)
abbrev Yc:GS:=(LM (gB (g2 jB (g2 EG (AW 1) (gC (.int 0))) (gC (.int 1))))
 (RT 3 (MG [(g2 EG (AW 2) (g2 fS (AW 4) (gC (.int 1)))),(g2 EG (AW 2) (AW 4))]) (gC (.bl AK)))
 NC)
theorem yI9{d:D}{kvs:List (List Int×D)}(N:Net AE ps)(hp:ys.Perm (ri AE.toNat))(L:Ln AE kvs)(hl:kvs.length<=96):∃(SN:List (List Int×D)) (u4:Sl),P4 (OU (g2 EG (AW 1) (gC (.int 0)))) (.nm 4) Yc (rE d AE ps ys (.own AC (.dt kvs)) .no .no .no)=.ok (.nx (rE d AE ps ys (.own AC (.dt SN)) u4 .no .no))/\Ln AE SN/\SN.length<=120:=by
 have m1:=N.m1;have m2:=N.m2;have aM:ys.length=AE.toNat:=by rw[hp.length_eq,SG]
 have wK:ys.Nodup:=hp.nodup_iff.mpr (Ie _);have sJ:∀x,x∈ys->0<=x/\x<AE:=λx hx=>by have:=HR.mp (hp.mem_iff.mp hx);lia
 obtain⟨E',e,SN,u4,rfl,L',l'⟩:=i4 (gi:=OU (g2 EG (AW 1) (gC (.int 0)))) (t:=.nm 4) (g:=Yc) (E:=rE d AE ps ys (.own AC (.dt kvs)) .no .no .no)
  (λi E=>∃(kvs:List (List Int×D)) (u4:Sl),E=rE d AE ps ys (.own AC (.dt kvs)) u4 .no .no/\Ln AE kvs/\kvs.length<=96+i) (lB (j:=AE) (EW (x:=DO AE ps) (y:=.int 0) rfl rfl rfl) {by lia,by lia}) {kvs,.no,rfl,L,hl}
  (λi x E hx hP=>by
   obtain⟨kvs,u4,hE,L,hl⟩:=hP;subst hE;have hi:=(AQ.mp hx).1;simp only[QV,AI,EU] at hi;simp only[QV] at hx;rw[AX,I0 hi] at hx;obtain rfl:=BJ hx;obtain⟨p,hp⟩:∃p:Int,p=0+(i:Int):={_,rfl};show ∃E1,WQ (Tg.nm 4) (.int (0+(i:Int))) _=Out.ok E1/\_;rw[<-hp];refine{_,rfl,?_}
   by_cases h1:1<AE
   .obtain⟨j,ej,j1,j2⟩:=yBK (ys:=ys) aM h1 (k:=p) 'l' 'l'
    have ek:=p9 (ys:=ys) (a:=p) 'l' 'l';have a:=sJ _ (tH (ys:=ys) (a:=(j:Int)) (by simpa using j1));have b:=sJ _ (tH (ys:=ys) (a:=p) 'l');have ab:RW ys (j:Int)≠RW ys p:=λz=>j2 (by have:=yN wK (a:=(j:Int)) (b:=p) 'l' 'l' (by simpa using j1) 'l' z;lia);refine{_,W3 (MI (EW (EW (x:=DO AE ps) (y:=.int 0) (d:=.int AE) rfl rfl rfl) (y:=.int 1) rfl (d:=.bl AK) (by show Out.ok (D.bl (decide (1<AE)))=_;rw[decide_eq_true h1]))) (cW (i:=3) (E1:=rE d AE ps ys (.own AC (.dt kvs)) (.val (.int p)) .no .no) (E2:=rE d AE ps ys (.own AC (.dt kvs)) (.val (.int p)) .no .no) (t:=AC) (d:=.dt kvs) (v:=.bl AK) rfl rfl (bK (QX (EW (x:=.lst (ys.map D.int)) rfl (EW (x:=.int p) (y:=.int 1) (d:=.int (p-1)) rfl rfl rfl) ej) (JU (EW (x:=.lst (ys.map D.int)) (y:=.int p) rfl rfl ek))) (show 2<10000 by decide)) rfl (Da 'l')),_,_,rfl,L.put {a.1,a.2,b.1,b.2,ab} _,?_};have:=t7 kvs [RW ys (j:Int),RW ys p] (.bl AK);lia
   .exact{_,RC (MI (EW (EW (x:=DO AE ps) (y:=.int 0) (d:=.int AE) rfl rfl rfl) (y:=.int 1) rfl (d:=.bl AC) (by show Out.ok (D.bl (decide (1<AE)))=_;rw[decide_eq_false h1]))) rfl,kvs,_,rfl,L,by lia})
 simp only[QV,AI,EU] at l';exact{SN,u4,e,L',by lia}
abbrev Ii:GS:=(LM (T2 [5] (gB (g2 IL (AW 5) (JF []))))
 (bH (P6 5 aB [(HV IS 0 [(OP [5] (gN NO [(AW 5)]))])]))
 NC)
theorem yJA{d:D}{kvs:List (List Int×D)}(B:Bag k d)(hk:k<700000)(M:Net AE qs):∃(gS:List (Int×Int)) (d':D) (u6:Sl),P4 (OU (g2 EG (JF [(gC (.int 0)),(gC (.int 0)),(gC (.int 0)),(gC (.int 1)),(gC (.int 2))]) (HV IS 0 [(gC (.int 5))]))) (.nm 6) Ii (rE d AE ps ys (.own AC (.dt kvs)) u4 (.own AC (.lst (qs.map JS))) .no)=.ok (.nx (rE d' AE ps ys (.own AC (.dt kvs)) u4 (.own AC (.lst (gS.map JS))) u6))/\Net AE gS/\Bag (k+4) d':=by
 obtain⟨c,d1,e1,c0,c1,B1⟩:=tk (g:=gC (.int 5)) (E:=rE d AE ps ys (.own AC (.dt kvs)) u4 (.own AC (.lst (qs.map JS))) .no) (n:=5) rfl B 'l' rfl 'l' 'l'
 have KA:∃j:Int,([D.int 0,.int 0,.int 0,.int 1,.int 2])[c.toNat]?=AA (.int j)/\0<=j/\j<=2:=by
  have:c=0\/c=1\/c=2\/c=3\/c=4:=by lia
  rcases this with h|h|h|h|h<;>rw[h]
  .exact{0,rfl,by decide,by decide}
  .exact{0,rfl,by decide,by decide}
  .exact{0,rfl,by decide,by decide}
  .exact{1,rfl,by decide,by decide}
  .exact{2,rfl,by decide,by decide}
 obtain⟨j,hj,j0,j1⟩:=KA
 obtain⟨E',e,gS,d',u6,rfl,M',B'⟩:=i4 (gi:=OU (g2 EG (JF [(gC (.int 0)),(gC (.int 0)),(gC (.int 0)),(gC (.int 1)),(gC (.int 2))]) (HV IS 0 [(gC (.int 5))]))) (t:=.nm 6) (g:=Ii) (E:=rE d AE ps ys (.own AC (.dt kvs)) u4 (.own AC (.lst (qs.map JS))) .no)
  (λi E=>∃(qs:List (Int×Int)) (d:D) (u6:Sl),E=rE d AE ps ys (.own AC (.dt kvs)) u4 (.own AC (.lst (qs.map JS))) u6/\Net AE qs/\Bag (k+1+i) d)
  (lB (j:=j) (EW (fY (ds:=[.int 0,.int 0,.int 0,.int 1,.int 2]) rfl (show 5<10000 by decide)) e1 (iL (xs:=[]) c0 hj)) {by lia,by lia}) {qs,d1,.no,rfl,M,B1}
  (λi x E hx hP=>by
   obtain⟨qs,d,u6,hE,M,B⟩:=hP;subst hE;have hi:=(AQ.mp hx).1;simp only[QV,AI,EU] at hi;refine{_,rfl,?_};obtain⟨E1,sR⟩:∃E1,E1=rE d AE ps ys (.own AC (.dt kvs)) u4 (.own AC (.lst (qs.map JS))) (.val x):={_,rfl}
   have tw:T2 [5] (gB (g2 IL (AW 5) (JF []))) E1=.ok (!(qs.map JS).isEmpty,E1):=by
    subst sR;exact aD (MI (EW (x:=.lst (qs.map JS)) (y:=.lst []) rfl rfl (zM (Pls.pairs qs))))
   show ∃r,Ii (rE d AE ps ys (.own AC (.dt kvs)) u4 (.own AC (.lst (qs.map JS))) (.val x))=_/\_;rw[<-sR]
   by_cases hr:qs=[]
   .subst hr
    exact{E1,RC tw rfl,[],d,_,sR,M,B.mono 'l'}
   .have VZ:0<qs.length:=bB.mpr hr
    have hql:=M.len
    have hg:OP [5] (gN NO [(AW 5)]) E1=.ok (.int (qs.length:Int),E1):=by
     subst sR;exact ZK (PH (JU (d:=.lst (qs.map JS)) rfl) (Ib (AI _))) rfl
    obtain⟨r,d',et,r0,r1,B'⟩:=tk (g:=OP [5] (gN NO [(AW 5)])) (E:=E1) (by rw[sR];rfl) B 'l' hg 'l' 'l';have jQ:r.toNat<qs.length:=by lia
    have eF:P6 5 aB [(HV IS 0 [(OP [5] (gN NO [(AW 5)]))])] E1=.ok (JS qs[r.toNat],rE d' AE ps ys (.own AC (.dt kvs)) u4 (.own AC (.lst ((qs.eraseIdx r.toNat).map JS))) (.val x)):=by
     subst sR
     exact nQ (i:=5) (f:=aB) (t:=AC) (xs:=qs.map JS) (ds:=[.int r]) (x:=JS qs[r.toNat]) (TX:=(qs.eraseIdx r.toNat).map JS) rfl (JU et) rfl (by
      simp only[aB,AI,L2.guard];rw[if_pos {r0,r1,by lia},AX,BL jQ]
      simp[Fx])
    have tw:T2 [5] (gB (g2 IL (AW 5) (JF []))) E1=.ok (AK,E1):=by
     rw[tw]
     cases qs with
     |nil=>exact absurd rfl hr
     |cons a l=>rfl
    exact{_,W3 tw (tQ eF),_,d',_,rfl,M.erase _,B'.mono 'l'})
 simp only[QV,AI,EU] at B';exact{gS,d',u6,e,M',B'.mono 'l'}
theorem zQ1{d:D}(B:Bag k d)(hk:k<600000)(N:Net AE ps):∃(qs:List (Int×Int)) (d':D),rJ [.own AK d,.val (DO AE ps)]=.ok (AC,DO AE qs,d')/\Net AE qs/\Bag (k+40) d':=by
 obtain⟨ys,d1,e1,hp,B1⟩:=yI7 B 'l' N;obtain⟨kvs,d2,e2,L2,l2,B2⟩:=yI8 (ys:=ys) B1 'l' N;obtain⟨kvs,u4,e3,L3,l3⟩:=yI9 (d:=d2) N hp L2 l2;obtain⟨qs,hq⟩:=L3.pairs;have M:=L3.net hq N.m1 N.m2 l3
 have e4:SF 5 (sY [3] (gN tB [(AW 3)])) (rE d2 AE ps ys (.own AC (.dt kvs)) u4 .no .no)=.ok (.nx (rE d2 AE ps ys (.own AC (.dt kvs)) u4 (.own AC (.lst ((WI qs).map JS))) .no)):=by
  refine aE (d:=.lst ((WI qs).map JS)) (E':=rE d2 AE ps ys (.own AC (.dt kvs)) u4 .no .no) (Pz (PH (JU (d:=.dt kvs) rfl) ?_) (Gp _));show(match toPr2 _ with|some ps=>_|none=>_)=_;rw[hq,zTJ]
 obtain⟨gS,d',u6,e5,M',B5⟩:=yJA (ps:=ps) (ys:=ys) (kvs:=kvs) (u4:=u4) B2 'l' M;refine{gS,d',P5 (GT e1 (GT e2 (GT e3 (GT e4 (GT e5 (RD (ZK (d:=DO AE gS) (bK (QX (EW (x:=DO AE ps) (y:=.int 0) (d:=.int AE) rfl rfl rfl) (JU (PH (JU (d:=.lst (gS.map JS)) rfl) rfl))) (show 2<10000 by decide)) ?_))))))) rfl,M',B5.mono 'l'};simp[cV,rP,Ar,DO,D.flat,pA9,D.nod,pAA,Gp,Gk]
theorem qB{E Ec:Ev}(h:∀j∈js,∃d,E[j]?=AA (.val d)):aH E Ec k js=E:=Q9 λi=>by
 rw[Fg,EN]
 cases q:E[i]? with
 |none=>rfl
 |some s =>
  cases s with
  |own t d =>
   simp only[Z2,iN]
   cases f:kW i js 0 with
   |none=>rfl
   |some n =>
    obtain⟨m,_,e⟩:=Go f;obtain⟨d,z⟩:=h i (DH e);rw[q] at z;cases z
  |_=>rfl
section
variable{p:Int}
abbrev Be:GS:=(FQ (HZ (.nm 4) (HB XZ [(AW 0),(AW 3),(AW 1)]))
 (LM (gB (g2 IL (KY (IK (HB XZ [(AW 0),(AW 3),(gC .non)])) 1 [1,4] (.nm 0) (WK (gB (g2 IL (AW 0) (AW 1))) (gB (g2 T3 (AW 0) (AW 2)))) (AW 0)) (JF [])))
 (NA (gC (.bl AK)))
 NC))
def aG(AE:Int)(ps:List (Int×Int))(p:Int)(u2 u3 u4:Sl):Ev:=[.val (DO AE ps),.val (.int p),u2,u3,u4]
theorem ip1(N:Net AE ps){x:Int}(x0:0<=x)(x1:x<AE):∃v4,Be (aG AE ps p u2 (.val (.int x)) u4)=.ok (if(UV AE ps p x).isEmpty then .nx (aG AE ps p u2 (.val (.int x)) v4) else .rt AC (.bl AK) (aG AE ps p u2 (.val (.int x)) v4)):=by
 have R:=N.rg';obtain⟨fs,e1,n1,f1⟩:=uA (BV:=AA p) (BF:=x) R x0 x1;obtain⟨gs,e2,n2,f2⟩:=uA (BV:=AL) (BF:=x) R x0 x1;have hl:=(Du (P:=λy=>Rc ps [] x y) N.m1 n2 f2 λy h=>h.range R x0 x1).2;have RI:=N.m2;obtain⟨E2,hE2⟩:∃E2,E2=aG AE ps p u2 (.val (.int x)) (.val (.lst (fs.map D.int))):={_,rfl}
 have hc:KY (IK (HB XZ [(AW 0),(AW 3),(gC .non)])) 1 [1,4] (.nm 0) (WK (gB (g2 IL (AW 0) (AW 1))) (gB (g2 T3 (AW 0) (AW 2)))) (AW 0) E2=.ok (.lst ((gs.filter λy=>decide (y∉fs)&&decide (y≠p)).map D.int),E2):=by
  subst hE2;refine nS (λy=>decide (y∉fs)&&decide (y≠p)) [.val (.int p),.val (.lst (fs.map D.int))] (nR (O7 (ds:=[DO AE ps,.int x,.non]) rfl e2)) rfl 'l' (λy _=>?_) λu=>qB (rY {_,rfl} {_,rfl});have t1:=MI (EW (E:=[.val (.int y),.val (.int p),.val (.lst (fs.map D.int))]) (ga:=AW 0) (gb:=AW 1) (x:=.int y) rfl rfl (gE y p));have t2:=MI (EW (E:=[.val (.int y),.val (.int p),.val (.lst (fs.map D.int))]) (ga:=AW 0) (gb:=AW 2) (x:=.int y) rfl rfl (zQZ y fs))
  by_cases h:y≠p
  .rw[decide_eq_true h] at t1 ⊢;rw[Bool.and_true];exact iY t1 t2
  .rw[decide_eq_false h] at t1 ⊢;rw[U6];exact qD t1
 have ne:=zM (Pls.ints 9 (gs.filter λy=>decide (y∉fs)&&decide (y≠p)))
 have em:((gs.filter λy=>decide (y∉fs)&&decide (y≠p)).map D.int).isEmpty=(UV AE ps p x).isEmpty:=by
  rw[List.isEmpty_map,kI,R9,R9,SC,SC]
  have k:∀y,y∈(gs.filter λy=>decide (y∉fs)&&decide (y≠p))↔y∈UV AE ps p x:=λy=>by
   rw[CN,qM R x0 x1,f2,EB,decide_eq_true_eq,decide_eq_true_eq,f1];rfl
  simp only[k]
 rw[em] at ne;have tt:gB (g2 IL (KY (IK (HB XZ [(AW 0),(AW 3),(gC .non)])) 1 [1,4] (.nm 0) (WK (gB (g2 IL (AW 0) (AW 1))) (gB (g2 T3 (AW 0) (AW 2)))) (AW 0)) (JF [])) E2=.ok (!(UV AE ps p x).isEmpty,E2):=MI (EW hc (y:=.lst []) rfl ne);subst hE2;refine{.val (.lst (fs.map D.int)),GT (MJ (O7 (ds:=[DO AE ps,.int x,.int p]) rfl e1) rfl) ?_}
 cases hz:(UV AE ps p x).isEmpty with
 |true =>
  rw[hz] at tt;exact RC tt rfl
 |false =>
  rw[hz] at tt;exact W3 tt rfl
theorem Yg(N:Net AE ps){u2:Sl}:∀(l:List Int) (u3 u4:Sl),(∀x∈l,0<=x/\x<AE)->∃v3 v4,TQ (.nm 3) Be (l.map D.int) (aG AE ps p u2 u3 u4)=.ok (if tf (∃x∈l,UV AE ps p x≠[])=AK then .rt AC (.bl AK) (aG AE ps p u2 v3 v4) else .nx (aG AE ps p u2 v3 v4))
 |[],u3,u4,_=>{u3,u4,by rw[nZ 's'];rfl}
 |x::l,u3,u4,h=>by
  obtain⟨x0,x1⟩:=h x A2;obtain⟨v4,e⟩:=ip1 (p:=p) (u2:=u2) (u4:=u4) N x0 x1
  cases hz:(UV AE ps p x).isEmpty with
  |true =>
   rw[hz,if_pos rfl] at e;obtain⟨w3,w4,e2⟩:=Yg N l (.val (.int x)) v4 λy hy=>h y (AZ _ hy);refine{w3,w4,?_}
   have k:(∃y∈x::l,UV AE ps p y≠[])↔∃y∈l,UV AE ps p y≠[]:=by
    have:=R9.mp hz;simp[this]
   rw[qU k,<-e2];exact HG (a:=aG AE ps p u2 (.val (.int x)) u4) rfl (HG e rfl)
  |false =>
   rw[hz,if_neg B9] at e;refine{.val (.int x),v4,?_};rw[kJ {x,A2,λz=>by rw[z] at hz;cases hz},if_pos rfl];exact HG (a:=aG AE ps p u2 (.val (.int x)) u4) rfl (HG e rfl)
theorem zQ3(N:Net AE ps):rK [.val (DO AE ps),.val (.int p)]=.ok (AC,.bl (tf (X6 AE ps p)),.non):=by
 have UB:=N.m1;have RI:=N.m2;have R:=N.rg'
 have h1:KY (OU (g2 EG (AW 0) (gC (.int 0)))) 1 [1] (.nm 0) (gB (g2 IL (AW 0) (AW 1))) (AW 0) (aG AE ps p .no .no .no)=.ok (.lst ((YC p AE.toNat).map D.int),aG AE ps p .no .no .no) :=
  nS (λx=>decide (x≠p)) [.val (.int p)] (by rw[<-qC];exact lB (j:=AE) (EW (x:=DO AE ps) (y:=.int 0) rfl rfl rfl) {by lia,by lia}) rfl (by rw[SG];lia) (λx _=>MI (EW (x:=.int x) (y:=.int p) rfl rfl (gE _ _))) λu=>rfl
 have mo:∀x,x∈YC p AE.toNat↔(0<=x/\x<AE)/\x≠p:=λx=>by
  unfold YC;rw[CN,HR,decide_eq_true_eq];lia
 obtain⟨v3,v4,e⟩:=Yg (p:=p) (u2:=.val (.lst ((YC p AE.toNat).map D.int))) N (YC p AE.toNat) .no .no λx hx=>((mo x).mp hx).1
 have k:(∃x∈YC p AE.toNat,UV AE ps p x≠[])↔X6 AE ps p:=by
  constructor
  .rintro⟨x,hx,h⟩
   obtain⟨⟨x0,x1⟩,xp⟩:=(mo x).mp hx;obtain⟨y,hy⟩:=List.exists_mem_of_ne_nil _ h;obtain⟨a,b,c⟩:=(qM R x0 x1).mp hy;exact{x,y,{x0,x1},xp,c,a,b}
  .rintro⟨a,b,ha,h1,h2,h3,h4⟩
   exact{a,(mo a).mpr {ha,h1},List.ne_nil_of_mem ((qM R ha.1 ha.2).mpr {h3,h4,h2})}
 rw[qU k] at e;have s2:∀r,TQ (.nm 3) Be ((YC p AE.toNat).map D.int) (aG AE ps p (.val (.lst ((YC p AE.toNat).map D.int))) .no .no)=r->P4 (IK (AW 2)) (.nm 3) Be (aG AE ps p (.val (.lst ((YC p AE.toNat).map D.int))) .no .no)=r:=λr h=>HG (nR rfl) h
 cases hb:tf (X6 AE ps p) with
 |true =>
  rw[hb,if_pos rfl] at e;exact P5 (GT (MJ h1 rfl) (qE (s2 _ e))) rfl
 |false =>
  rw[hb,if_neg B9] at e;exact P5 (GT (MJ h1 rfl) (GT (s2 _ e) (RD (d:=.bl AC) rfl))) rfl
def lE(sc:D)(u1 u2 u3 u4 u5 u6 u7 u8 u9 u10:Sl):Ev:=[.val sc,u1,u2,u3,u4,u5,u6,u7,u8,u9,u10]
theorem yBL{sc:D}(N:Net AE ps):g2 TW (gN rM [(KY (OU (g2 EG (AW 3) (gC (.int 0)))) 1 [3] (.nm 0) K4 (gN NO [(HB XZ [(AW 1),(AW 0),(gC .non)])]))]) (g2 EG (AW 3) (gC (.int 0))) (lE sc u1 u2 (.val (DO AE ps)) u4 u5 u6 u7 u8 u9 u10)=.ok (.bl (tf (Round AE ps)),lE sc u1 u2 (.val (DO AE ps)) u4 u5 u6 u7 u8 u9 u10):=by
 have UB:=N.m1;have RI:=N.m2;have R:=N.rg'
 obtain⟨L,hL⟩:∃L:Int->List Int,∀x,0<=x->x<AE->XZ [.val (DO AE ps),.val (.int x),.val .non]=.ok (AC,.lst ((L x).map D.int),.non)/\(L x).Nodup/\∀y,y∈L x↔Rc ps [] x y:=by
  refine{λx=>(open Classical in if h:0<=x/\x<AE then(uA (BV:=AL) R h.1 h.2).choose else[]),λx a b=>?_};simp only[dif_pos (TK a b)];exact(uA (BV:=AL) R a b).choose_spec
 have la:∀x,0<=x->x<AE->(((L x).length:Int)=AE↔∀y,0<=y->y<AE->Rc ps [] x y)/\(L x).length<=AE.toNat:=λx a b=>Du UB (hL x a b).2.1 (hL x a b).2.2 λy h=>h.range R a b
 have hc:KY (OU (g2 EG (AW 3) (gC (.int 0)))) 1 [3] (.nm 0) K4 (gN NO [(HB XZ [(AW 1),(AW 0),(gC .non)])]) (lE sc u1 u2 (.val (DO AE ps)) u4 u5 u6 u7 u8 u9 u10)=.ok (.lst (((ri AE.toNat).map λx=>((L x).length:Int)).map D.int),lE sc u1 u2 (.val (DO AE ps)) u4 u5 u6 u7 u8 u9 u10):=by
  have:=bM (gi:=OU (g2 EG (AW 3) (gC (.int 0)))) (k:=1) (js:=[3]) (t:=.nm 0) (tt:=K4) (ge:=gN NO [(HB XZ [(AW 1),(AW 0),(gC .non)])]) (E:=lE sc u1 u2 (.val (DO AE ps)) u4 u5 u6 u7 u8 u9 u10) (E1:=lE sc u1 u2 (.val (DO AE ps)) u4 u5 u6 u7 u8 u9 u10) (ds:=(ri AE.toNat).map D.int)
   (λd=>match d with|.int x=>if(λ_=>AK) x=AK then[.int (L x).length] else[]|_=>[]) (λE=>∃u,E=[u,.val (DO AE ps)])
   (by rw[<-qC];exact lB (j:=AE) (EW (x:=DO AE ps) (y:=.int 0) rfl rfl rfl) {by lia,by lia}) {_,rfl} (by rw[AI,SG];lia) (λd hd E hE=>by
    obtain⟨x,hx,rfl⟩:=BQ.mp hd;have hx:=HR.mp hx;obtain⟨u,rfl⟩:=hE
    exact{_,rfl,AK,_,rfl,.inl {rfl,_,_,PH (JU (O7 (ds:=[DO AE ps,.int x,.non]) rfl (hL x hx.1 'l').1)) (Ib (AI _)),rfl,_,rfl}}) (λEc _=>qB (dG {_,rfl}))
  rw[this,uC (g:=λx=>.int (L x).length) (λ_=>AK) (λx=>rfl),List.filter_eq_self.mpr (λ_ _=>rfl),DR];rfl
 obtain⟨l,hl⟩:∃l:List Int,ri AE.toNat=0::l:={_,by rw[show AE.toNat=(AE-1).toNat+1 by lia];exact Pt};have mn:=Fc (l.map λx=>((L x).length:Int)) ((L 0).length:Int)
 have all:∀z,z∈((L 0).length:Int)::(l.map λx=>((L x).length:Int))↔∃x,(0<=x/\x<AE)/\((L x).length:Int)=z:=λz=>by
  rw[show(((L 0).length:Int)::l.map λx=>((L x).length:Int))=(ri AE.toNat).map λx=>((L x).length:Int) by rw[hl];rfl,BQ];constructor
  .rintro⟨x,hx,e⟩
   have:=HR.mp hx;exact{x,{this.1,by lia},e}
  .rintro⟨x,hx,e⟩
   exact{x,HR.mpr 'l',e}
 refine EW (x:=.int ((l.map λx=>((L x).length:Int)).foldl min ((L 0).length:Int))) (PH (JU hc) ?_) (EW (x:=DO AE ps) (y:=.int 0) (d:=.int AE) rfl rfl rfl) ?_
 .rw[hl]
  show(match QW _ with|some (n::ns)=>_|_=>_)=_;rw[Uj];rfl
 .rw[Ee,yM]
  refine congrArg (λb=>Out.ok (D.bl b)) (qU {λe a b a0 a1 b0 b1=>?_,λS=>?_})
  .have h:=mn.2 _ ((all _).mpr {a,{a0,a1},rfl})
   have h2:=(la a a0 a1).2;exact(la a a0 a1).1.mp 'l' b b0 b1
  .obtain⟨x,hx,e⟩:=(all _).mp mn.1
   rw[<-e];exact(la x hx.1 hx.2).1.mpr λy y0 y1=>S x y hx.1 hx.2 y0 y1
end
section
variable{BF:Int}{sc d1 d2 d4 d5 d6:D}
abbrev Il:GS:=(FQ (HZ (.nm 7) (gN ZF [(KY (OU (g2 EG (AW 3) (gC (.int 0)))) 1 [3] (.nm 0) (RB (HB rK [(AW 1),(AW 0)])) (AW 0))]))
 (FQ (HZ (.nm 8) (HV IS 2 [(g2 EG (AW 3) (gC (.int 0)))]))
 (FQ (HZ (.nm 9) (KY (IK (MG [(AW 3),(HB XY [(AW 3)])])) 1 [8] (.nm 0) K4 (HB WO [(AW 0),(AW 1)])))
 (FQ (HZ (.nm 10) (KY (OU (g2 EG (AW 3) (gC (.int 0)))) 1 [8,9] (.nm 0) (WK (gB (g2 IL (AW 0) (AW 1))) (bF (gB (g2 PK (AW 0) (g2 EG (AW 2) (gC (.int 0))))) (gB (g2 PK (AW 0) (g2 EG (AW 2) (gC (.int 1))))))) (AW 0)))
 (LM (bF (WL (RB (HB (zBA 5) [(AW 6),(AW 7)]))) (gB (g2 IL (KY (IK (AW 7)) 1 [8] (.nm 0) (gB (g2 IL (AW 0) (AW 1))) (AW 0)) (AW 10))))
 (NA (gC (.bl AC)))
 NC)))))
theorem zXF{xs:List Int}(h:xs.length<10000):zBA 5 [.val (.tup (xs.map D.int)),.val (.tup (xs.map D.int))]=.ok (AC,.bl AK,.non) :=
 yBG (n:=4) (by rw[AI];exact h) λd hd=>by
  obtain⟨x,_,rfl⟩:=BQ.mp hd;exact yBF 3 x
theorem yBM(N:Net AE ps)(g0:0<=BF)(g1:BF<AE):KY (IK (MG [(AW 3),(HB XY [(AW 3)])])) 1 [8] (.nm 0) K4 (HB WO [(AW 0),(AW 1)]) (lE sc u1 u2 (.val (DO AE ps)) u4 u5 u6 u7 (.val (.int BF)) u9 u10)
  = .ok (.lst [.tup (((ri AE.toNat).map (hO ps BF)).map JE),.tup (((ri AE.toNat).map (hO (back ps) BF)).map JE)],lE sc u1 u2 (.val (DO AE ps)) u4 u5 u6 u7 (.val (.int BF)) u9 u10):=by
 have t:=Fz (AE:=AE) (ps:=ps) (by have:=N.len;lia)
 have ho:∀qs,Net AE qs->WO [.val (DO AE qs),.val (.int BF)]=.ok (AC,.tup (((ri AE.toNat).map (hO qs BF)).map JE),.non):=λqs M=>by
  rw[<-Ol];exact Ub M.rg' M.m2 g0 g1
 have:=bM (gi:=IK (MG [(AW 3),(HB XY [(AW 3)])])) (k:=1) (js:=[8]) (t:=.nm 0) (tt:=K4) (ge:=HB WO [(AW 0),(AW 1)]) (E:=lE sc u1 u2 (.val (DO AE ps)) u4 u5 u6 u7 (.val (.int BF)) u9 u10) (E1:=lE sc u1 u2 (.val (DO AE ps)) u4 u5 u6 u7 (.val (.int BF)) u9 u10) (ds:=[DO AE ps,DO AE (back ps)])
  (λd=>match WO [.val d,.val (.int BF)] with|.ok (_,x,_)=>[x]|_=>[]) (λE=>∃u,E=[u,.val (.int BF)])
  (gD (bK (QX (d:=DO AE ps) rfl (JU (O7 (ds:=[DO AE ps]) rfl t))) (show 2<10000 by decide))) {_,rfl} (show 2<10000 by decide) (λd hd E hE=>by
   obtain⟨u,rfl⟩:=hE
   have:∃x,WO [.val d,.val (.int BF)]=.ok (AC,x,.non):=by
    simp only[A7,BZ,or_false] at hd;rcases hd with rfl|rfl
    .exact{_,ho ps N}
    .exact{_,ho _ N.back}
   obtain⟨x,e⟩:=this
   exact{_,rfl,AK,_,rfl,.inl {rfl,_,_,O7 (ds:=[d,.int BF]) rfl e,by rw[e],_,rfl}}) (λEc _=>qB (dG {_,rfl}))
 rw[this,CI,CI,ho ps N,ho _ N.back]
 rfl
theorem yG5(N:Net AE ps)(S:Round AE ps)(B:Bag k d2)(hk:k<800000):∃d' v7 v8 v9 vA,Il (lE sc (.val d1) (.own AC d2) (.val (DO AE ps)) u4 u5 (.val (.tup ((YB AE ps).map D.int))) u7 u8 u9 u10)=.ok (.nx (lE sc (.val d1) (.own AC d') (.val (DO AE ps)) u4 u5 (.val (.tup ((YB AE ps).map D.int))) v7 v8 v9 vA)):=by
 have UB:=N.m1;have RI:=N.m2;have sK:(ri AE.toNat).length<10000:=by rw[SG];lia
 have hP:=zUB N;have By:∀E:Ev,g2 EG (AW 3) (gC (.int 0)) E=.ok (.int AE,E)->OU (g2 EG (AW 3) (gC (.int 0))) E=.ok ((ri AE.toNat).map D.int,E):=λE h=>by rw[<-qC];exact lB (j:=AE) h {by lia,by lia}
 obtain⟨T,hT⟩:∃T,T=D.tup ((YB AE ps).map D.int):={_,rfl};rw[<-hT]
 have a7:HZ (.nm 7) (gN ZF [(KY (OU (g2 EG (AW 3) (gC (.int 0)))) 1 [3] (.nm 0) (RB (HB rK [(AW 1),(AW 0)])) (AW 0))]) (lE sc (.val d1) (.own AC d2) (.val (DO AE ps)) u4 u5 (.val T) u7 u8 u9 u10)=.ok (.nx (lE sc (.val d1) (.own AC d2) (.val (DO AE ps)) u4 u5 (.val T) (.val T) u8 u9 u10)):=by
  rw[hT];exact MJ (PH (JU (nS (λp=>tf (X6 AE ps p)) [.val (DO AE ps)] (By _ (EW (x:=DO AE ps) (y:=.int 0) rfl rfl rfl)) rfl sK (λx _=>Z9 (O7 (ds:=[DO AE ps,.int x]) rfl (zQ3 N)) rfl) λu=>qB (dG {_,rfl}))) rfl) rfl
 obtain⟨BF,d',et,g0,g1,B'⟩:=zL (n:=AE) B 'l' UB 'l'
 have a8:HZ (.nm 8) (HV IS 2 [(g2 EG (AW 3) (gC (.int 0)))]) (lE sc (.val d1) (.own AC d2) (.val (DO AE ps)) u4 u5 (.val T) (.val T) u8 u9 u10)=.ok (.nx (lE sc (.val d1) (.own AC d') (.val (DO AE ps)) u4 u5 (.val T) (.val T) (.val (.int BF)) u9 u10)) :=
  MJ (lG (i:=2) (t:=AC) (d:=d2) (ds:=[.int AE]) rfl (JU (EW (x:=DO AE ps) (y:=.int 0) rfl rfl rfl)) rfl et) rfl
 obtain⟨o1,eI⟩:∃o1,o1=(ri AE.toNat).map (hO ps BF):={_,rfl};obtain⟨o2,V0⟩:∃o2,o2=(ri AE.toNat).map (hO (back ps) BF):={_,rfl};have e9:=yBM (sc:=sc) (u1:=.val d1) (u2:=.own AC d') (u4:=u4) (u5:=u5) (u6:=.val T) (u7:=.val T) (u9:=u9) (u10:=u10) N g0 g1;rw[<-eI,<-V0] at e9;obtain⟨bo,Nb⟩:∃bo,bo=D.lst [.tup (o1.map JE),.tup (o2.map JE)]:={_,rfl};have i0:EG bo (.int 0)=.ok (.tup (o1.map JE)):=by rw[Nb];rfl
 have i1:EG bo (.int 1)=.ok (.tup (o2.map JE)):=by rw[Nb];rfl
 rw[<-Nb] at e9;obtain⟨hl,hhl⟩:∃hl,hl=(ri AE.toNat).filter λx=>decide (x≠BF)&&(decide (AA x∈o1)||decide (AA x∈o2)):={_,rfl}
 have Nx:KY (OU (g2 EG (AW 3) (gC (.int 0)))) 1 [8,9] (.nm 0) (WK (gB (g2 IL (AW 0) (AW 1))) (bF (gB (g2 PK (AW 0) (g2 EG (AW 2) (gC (.int 0))))) (gB (g2 PK (AW 0) (g2 EG (AW 2) (gC (.int 1))))))) (AW 0) (lE sc (.val d1) (.own AC d') (.val (DO AE ps)) u4 u5 (.val T) (.val T) (.val (.int BF)) (.val bo) u10)=.ok (.lst (hl.map D.int),lE sc (.val d1) (.own AC d') (.val (DO AE ps)) u4 u5 (.val T) (.val T) (.val (.int BF)) (.val bo) u10):=by
  rw[hhl];refine nS (λx=>decide (x≠BF)&&(decide (AA x∈o1)||decide (AA x∈o2))) [.val (.int BF),.val bo] (By _ (EW (x:=DO AE ps) (y:=.int 0) rfl rfl rfl)) rfl sK (λx _=>?_) λu=>qB (rY {_,rfl} {_,rfl});have t1:=MI (EW (E:=[.val (.int x),.val (.int BF),.val bo]) (ga:=AW 0) (gb:=AW 1) (x:=.int x) rfl rfl (gE x BF));have t2:=MI (EW (E:=[.val (.int x),.val (.int BF),.val bo]) (ga:=AW 0) (gb:=g2 EG (AW 2) (gC (.int 0))) (x:=.int x) rfl (EW (x:=bo) (y:=.int 0) rfl rfl i0) (Rj x o1));have t3:=MI (EW (E:=[.val (.int x),.val (.int BF),.val bo]) (ga:=AW 0) (gb:=g2 EG (AW 2) (gC (.int 1))) (x:=.int x) rfl (EW (x:=bo) (y:=.int 1) rfl rfl i1) (Rj x o2))
  by_cases h:x≠BF
  .rw[decide_eq_true h] at t1 ⊢
   refine iY t1 ?_
   by_cases h2:AA x∈o1
   .rw[decide_eq_true h2] at t2 ⊢;exact yGS t2
   .rw[decide_eq_false h2] at t2 ⊢;exact xY t2 t3
  .rw[decide_eq_false h] at t1 ⊢;exact qD t1
 have same:((YB AE ps).filter λx=>decide (x≠BF))=hl:=by
  rw[hhl];unfold YB;rw[List.filter_filter];refine fN λx _=>?_
  by_cases h:x≠BF
  .rw[decide_eq_true h,W1,W1,<-qU (Pu N S g0 g1 h),eI,V0,<-yM,Bool.decide_or]
  .rw[decide_eq_false h];rfl
 have e11:KY (IK (AW 7)) 1 [8] (.nm 0) (gB (g2 IL (AW 0) (AW 1))) (AW 0) (lE sc (.val d1) (.own AC d') (.val (DO AE ps)) u4 u5 (.val T) (.val T) (.val (.int BF)) (.val bo) (.val (.lst (hl.map D.int))))=.ok (.lst (hl.map D.int),lE sc (.val d1) (.own AC d') (.val (DO AE ps)) u4 u5 (.val T) (.val T) (.val (.int BF)) (.val bo) (.val (.lst (hl.map D.int)))):=by
  rw[<-same];exact nS (λx=>decide (x≠BF)) [.val (.int BF)] (by rw[hT];exact gD rfl) rfl 'l' (λx _=>MI (EW (x:=.int x) (y:=.int BF) rfl rfl (gE _ _))) λu=>qB (dG {_,rfl})
 have li:zBA 5 [.val T,.val T]=.ok (AC,.bl AK,.non):=by rw[hT];exact zXF 'l'
 exact{d',_,_,_,_,GT a7 (GT a8 (GT (MJ e9 rfl) (GT (MJ Nx rfl) (RC (xY (lC (b:=AK) (Z9 (O7 (ds:=[T,T]) rfl li) rfl)) (MI (EW e11 (y:=.lst (hl.map D.int)) rfl (Ew (Pls.lst (n:=59) (Pls.ints _ _)))))) rfl))))}
abbrev Im:GS:=(FQ (HZ (.nm 4) (g2 TW (gN rM [(KY (OU (g2 EG (AW 3) (gC (.int 0)))) 1 [3] (.nm 0) K4 (gN NO [(HB XZ [(AW 1),(AW 0),(gC .non)])]))]) (g2 EG (AW 3) (gC (.int 0)))))
 (FQ (HZ (.nm 5) (HB cZ [(AW 3)]))
 (FQ (HZ (.nm 6) (HB nX [(AW 3)]))
 (FQ (LM (bF (WL (RB (kN "bool" (AW 5)))) (gB (g2 IL (AW 5) (AW 4))))
 (NA (gC (.bl AC)))
 NC)
 (LM (WL (RB (AW 4)))
 (LM (gB (g2 IL (AW 6) (HB rC [(gC (.int 5))])))
 (NA (gC (.bl AC)))
 NC)
 Il)))))
theorem yG6(N:Net AE ps)(B:Bag k d2)(hk:k<800000):∃v2 v4 v5 v6 v7 v8 v9 vA,Im (lE sc (.val d1) (.own AC d2) (.val (DO AE ps)) u4 u5 u6 u7 u8 u9 u10)=.ok (.nx (lE sc (.val d1) v2 (.val (DO AE ps)) v4 v5 v6 v7 v8 v9 vA)):=by
 obtain⟨dJ,ht⟩:∃dJ,nX [.val (DO AE ps)]=.ok (AC,dJ,.non)/\(Round AE ps->dJ=.tup ((YB AE ps).map D.int))/\(¬Round AE ps->dJ=.lst kb):=by
  by_cases S:Round AE ps
  .exact{_,yE8 N S,λ_=>rfl,λz=>absurd S z}
  .exact{_,yE9 N S,λz=>absurd z S,λ_=>rfl}
 obtain⟨b,hb⟩:∃b,b=tf (Round AE ps):={_,rfl};have e4:=yBL (sc:=sc) (u1:=.val d1) (u2:=.own AC d2) (u4:=u4) (u5:=u5) (u6:=u6) (u7:=u7) (u8:=u8) (u9:=u9) (u10:=u10) N;have e5:=Hx N;rw[<-hb] at e4 e5
 have pre:∀r,(LM (WL (RB (AW 4)))
 (LM (gB (g2 IL (AW 6) (HB rC [(gC (.int 5))])))
 (NA (gC (.bl AC)))
 NC)
 Il) (lE sc (.val d1) (.own AC d2) (.val (DO AE ps)) (.val (.bl b)) (.val (.bl b)) (.val dJ) u7 u8 u9 u10)=r->Im (lE sc (.val d1) (.own AC d2) (.val (DO AE ps)) u4 u5 u6 u7 u8 u9 u10)=r:=λr h =>
  GT (MJ e4 rfl) (GT (MJ (O7 (ds:=[DO AE ps]) rfl e5) rfl) (GT (MJ (O7 (ds:=[DO AE ps]) rfl ht.1) rfl) (GT (RC (xY (lC (b:=AK) (Z9 (tP (d:=.bl b) rfl) rfl)) (MI (EW (x:=.bl b) (y:=.bl b) rfl rfl (Ew (Pl.bl 60 b))))) rfl) h)))
 by_cases S:Round AE ps
 .rw[kJ S] at hb
  have h6:=ht.2.1 S;subst hb;subst h6;obtain⟨d',v7,v8,v9,vA,e⟩:=yG5 (sc:=sc) (d1:=d1) (u4:=.val (.bl AK)) (u5:=.val (.bl AK)) (u7:=u7) (u8:=u8) (u9:=u9) (u10:=u10) N S B hk;exact{_,_,_,_,_,_,_,_,pre _ (RC (lC (b:=AK) (Z9 (d:=.bl AK) rfl rfl)) e)}
 .rw[nZ S] at hb
  have h6:=ht.2.2 S;subst hb;subst h6;exact{_,_,_,_,_,_,_,_,pre _ (W3 (lC (b:=AC) (Z9 (d:=.bl AC) rfl rfl)) (RC (MI (EW (x:=.lst kb) (y:=.lst kb) rfl (O7 (ds:=[.int 5]) rfl yBJ) (Ew (Pls.lst (n:=59) (Pls.of (f:=D.bl) (xs:=[AC,AC,AC,AC,AC,AK,AC,AC,AC,AC,AK]) λ_ _=>.bl _ _))))) rfl))}
end
theorem law_true:∀ns:List Int,ns.length<=63->∃b d',m_law [.val (.lst (ns.map D.int))]=.ok (b,.bl AK,d'):=by
 intro ns jT;obtain⟨c,ec⟩:=yBD ns;obtain⟨sc,Zu⟩:∃sc:D,sc=.lst (ns.map D.int):={_,rfl}
 have aO:(YA ns (AA 1) (AA 8)).length<=63:=by
  unfold YA;rw[GG,R8];lia
 obtain⟨E',e,u1,u2,u3,u4,u5,u6,u7,u8,u9,u10,rfl⟩:=i4 (gi:=IK (g2 NP (JF [(HB rF [(AW 0),(gC (.int 0))])]) (k7 (AW 0) (AA (gC (.int 1))) (AA (gC (.int 8)))))) (t:=.nm 1)
  (g:=(FQ (SF 2 (qG rD [(AW 1),(gC (.int 0))]))
 (FQ (HZ (.nm 3) (g2 EG (HV rA 2 [(g2 EG (JF [(gC (.int 24)),(gC (.int 9))]) (HV IS 2 [(gC (.int 2))]))]) (gC (.int 0))))
 (FQ (LM (gB (g2 jB (HV IS 2 [(gC (.int 3))]) (gC (.int 0))))
 (HZ (.nm 3) (HV rJ 2 [(AW 3)]))
 NC)
 Im)))) (E:=lE sc .no .no .no .no .no .no .no .no .no .no) (E1:=lE sc .no .no .no .no .no .no .no .no .no .no) (ds:=(c::YA ns (AA 1) (AA 8)).map D.int)
  (λi E=>∃u1 u2 u3 u4 u5 u6 u7 u8 u9 u10,E=lE sc u1 u2 u3 u4 u5 u6 u7 u8 u9 u10)
  (by
   rw[Zu];refine nR (EW (x:=.lst [.int c]) (y:=.lst ((YA ns (AA 1) (AA 8)).map D.int)) (fY (JU (O7 (ds:=[.lst (ns.map D.int),.int 0]) rfl ec)) (show 1<10000 by decide)) ?_ ?_)
   .rw[<-Rk];rfl
   .exact Ww (by rw[AI];show 1+_<10000;lia) rfl) {_,_,_,_,_,_,_,_,_,_,rfl}
  (λi x E hx hP=>by
   obtain⟨u1,u2,u3,u4,u5,u6,u7,u8,u9,u10,hE⟩:=hP;subst hE;rw[AX] at hx;obtain⟨n,_,rfl⟩:=BY.mp hx;refine{_,rfl,?_};obtain⟨w,ew,B⟩:=yAV n
   have s1:SF 2 (qG rD [(AW 1),(gC (.int 0))]) (lE sc (.val (.int n)) u2 u3 u4 u5 u6 u7 u8 u9 u10)=.ok (.nx (lE sc (.val (.int n)) (.own AC w) u3 u4 u5 u6 u7 u8 u9 u10)) :=
    aE (i:=2) (E':=lE sc (.val (.int n)) u2 u3 u4 u5 u6 u7 u8 u9 u10) (zWS (ds:=[.int n,.int 0]) rfl ew)
   obtain⟨r,w1,er,r0,r1,B1⟩:=zL (n:=2) B 'd' 'd' 'd'
   obtain⟨D6,hmo,mo1,mo2⟩:∃D6:Int,([D.int 24,.int 9])[r.toNat]?=AA (.int D6)/\1<=D6/\D6<=24:=by
    have:r=0\/r=1:=by lia
    rcases this with h|h<;>rw[h]
    .exact{24,rfl,by decide,by decide}
    .exact{9,rfl,by decide,by decide}
   obtain⟨AE,ps,BF,w2,en,N,_,_,_,B2⟩:=yA7 (D6:=D6) B1 'd' mo1 mo2;have s0:HV IS 2 [(gC (.int 2))] (lE sc (.val (.int n)) (.own AC w) u3 u4 u5 u6 u7 u8 u9 u10)=.ok (.int r,lE sc (.val (.int n)) (.own AC w1) u3 u4 u5 u6 u7 u8 u9 u10):=lG (i:=2) (t:=AC) (d:=w) (ds:=[.int 2]) (E1:=lE sc (.val (.int n)) (.own AC w) u3 u4 u5 u6 u7 u8 u9 u10) rfl rfl rfl er
   have s2:HZ (.nm 3) (g2 EG (HV rA 2 [(g2 EG (JF [(gC (.int 24)),(gC (.int 9))]) (HV IS 2 [(gC (.int 2))]))]) (gC (.int 0))) (lE sc (.val (.int n)) (.own AC w) u3 u4 u5 u6 u7 u8 u9 u10)=.ok (.nx (lE sc (.val (.int n)) (.own AC w2) (.val (DO AE ps)) u4 u5 u6 u7 u8 u9 u10)) :=
    MJ (EW (x:=.tup [DO AE ps,.int BF]) (lG (i:=2) (t:=AC) (t2:=AC) (d0:=w) (d:=w1) (ds:=[.int D6]) (E1:=lE sc (.val (.int n)) (.own AC w1) u3 u4 u5 u6 u7 u8 u9 u10) rfl (JU (EW (fY (ds:=[.int 24,.int 9]) (E':=lE sc (.val (.int n)) (.own AC w) u3 u4 u5 u6 u7 u8 u9 u10) rfl (show 2<10000 by decide)) s0 (iL (xs:=[]) r0 hmo))) rfl en) (y:=.int 0) rfl rfl) rfl
   obtain⟨q,w3,eq,q0,q1,B3⟩:=zL (n:=3) B2 'd' 'd' 'd'
   have tq:gB (g2 jB (HV IS 2 [(gC (.int 3))]) (gC (.int 0))) (lE sc (.val (.int n)) (.own AC w2) (.val (DO AE ps)) u4 u5 u6 u7 u8 u9 u10)=.ok (decide (0<q),lE sc (.val (.int n)) (.own AC w3) (.val (DO AE ps)) u4 u5 u6 u7 u8 u9 u10) :=
    MI (EW (lG (i:=2) (t:=AC) (d:=w2) (ds:=[.int 3]) rfl rfl rfl eq) (y:=.int 0) rfl rfl)
   obtain⟨qs,w4,k,s3,N',B4,hk⟩:∃(qs:List (Int×Int)) (w4:D) (k:Nat),LM (gB (g2 jB (HV IS 2 [(gC (.int 3))]) (gC (.int 0)))) (HZ (.nm 3) (HV rJ 2 [(AW 3)])) NC (lE sc (.val (.int n)) (.own AC w2) (.val (DO AE ps)) u4 u5 u6 u7 u8 u9 u10)=.ok (.nx (lE sc (.val (.int n)) (.own AC w4) (.val (DO AE qs)) u4 u5 u6 u7 u8 u9 u10))/\Net AE qs/\Bag k w4/\k<800000:=by
    by_cases h:0<q
    .rw[decide_eq_true h] at tq
     obtain⟨qs,w4,e,N',B4⟩:=zQ1 B3 'd' N;exact{qs,w4,_,W3 tq (MJ (lG (i:=2) (t:=AC) (d:=w3) (ds:=[DO AE ps]) rfl rfl rfl e) rfl),N',B4,by decide}
    .rw[decide_eq_false h] at tq
     exact{ps,w3,_,RC tq rfl,N,B3,by decide}
   obtain⟨v2,v4,v5,v6,v7,v8,v9,vA,e4⟩:=yG6 (sc:=sc) (d1:=.int n) (u4:=u4) (u5:=u5) (u6:=u6) (u7:=u7) (u8:=u8) (u9:=u9) (u10:=u10) N' B4 hk
   exact{_,GT s1 (GT s2 (GT s3 e4)),_,_,_,_,_,_,_,_,_,_,rfl})
 refine{AC,.non,?_};rw[<-Zu];exact P5 (GT e (RD (d:=.bl AK) rfl)) rfl
structure FA(K:AD)(x:C2)(st:FF)(f:AT)(fd:JZ):Prop where
 a:BX K BK x=AA (AA (.ref f))
 F:Fun K x x st f fd
section
variable{K:AD}{st:FF}
theorem fa{kV dc:AJ}{sl:Array (Option AJ)}(a:BX K BK x=AA (AA (.ref f)))(l:K.lookup f=AA {oc,od,.func (FN x x (gI st) (W5 st) (J4 st) .none kV dc pm an cd ct),sl})(c:JP K cd x=AK)(k:FD K (.ref f)=AK):FA K x st f (FN x x (gI st) (W5 st) (J4 st) .none kV dc pm an cd ct):={a,Dl l c k}
theorem FA.cal{P:CU}{w:D8}{mg:C2->Option AJ}{base h:D7}{ps:List C2}{k np:Nat}{m:Mr}(A:FA K x st f fd)(X:K.In h)(G:h.Ns BK mg)(o:FnOk P w K mg base LP k f fd ps (NQ K np m))(b:Binds K fd ps []):K9 P w K mg base x k np m:=Fun.cal A.F o (DQ X G A.a) b
abbrev bA(x:C2)(st:FF)(us:List AJ)(r:List (C2×AJ)):Prop:=∀(kV SW pm:AJ) (an:Option AT) (G3 ct:AJ),OL (FN x x (gI st) (W5 st) (J4 st) .none kV SW pm an G3 ct) {us,[]}=pure r
theorem FA.b1{p:C2}(A:FA K x st f fd)(h:∀u,bA x st [u] [(p,u)]:=by exact λ_ _ _ _ _ _ _=>rfl):Binds K fd [p] []:=A.F.binds λ_ _ _ _ _ _ us hl=>by
 match us,hl with
 |[u],_=>exact h u _ _ _ _ _ _
theorem FA.b2{p:C2}(A:FA K x st f fd)(h:∀u v,bA x st [u,v] [(p,u),(q,v)]:=by exact λ_ _ _ _ _ _ _ _=>rfl):Binds K fd [p,q] []:=A.F.binds λ_ _ _ _ _ _ us hl=>by
 match us,hl with
 |[u,v],_=>exact h u v _ _ _ _ _ _
theorem FA.b3{p r:C2}(A:FA K x st f fd)(h:∀u v w,bA x st [u,v,w] [(p,u),(q,v),(r,w)]:=by exact λ_ _ _ _ _ _ _ _ _=>rfl):Binds K fd [p,q,r] []:=A.F.binds λ_ _ _ _ _ _ us hl=>by
 match us,hl with
 |[u,v,w],_=>exact h u v w _ _ _ _ _ _
end
theorem all_mk{l:RL}{K:AD}{fa f0 f1 f2 f3 f4 f5 f6 f7 f8 f9 f10 f11 f12 f13 f14 f15 f16 f17 f18 Nr f20 f21 f22 Nq:AT}{d0 d1 d2 d3 d4 d5 d6 d7 d8 d9 d10 d11 d12 mJ eU d15 d16 d17 d18 Co Cn d22:JZ}(X:K.In h)(G:h.Ns BK mg)(hfa:mg "law"=AA (.ref fa))
  (x0:FA K "turned" Ez f0 d0)
  (x1:FA K "next_places" Ah f1 d1)
  (x2:FA K "_law_cell" Gy f2 d2)
  (x3:FA K "_law_well" Gx f3 d3)
  (x4:FA K "_law_take" Gw f4 d4)
  (x5:FA K "_law_reach" He f5 d5)
  (x6:FA K "_law_kinds" Hd f6 d6)
  (x7:FA K "_law_only" Gv f7 d7)
  (x8:FA K "lanes_away" Hc f8 d8)
  (x9:FA K "_law_shuffled" Hm f9 d9)
  (Jm:FA K "_law_is_post" Hi f10 d10)
  (Jl:FA K "reached_past" Hh f11 d11)
  (Jk:FA K "_law_net" Gn f12 d12)
  (Jj:FA K "_law_rounded" Hg f13 mJ)
  (Ji:FA K "reached" Gc f14 eU)
  (Jh:FA K "cut_off" Gb f15 d15)
  (Jg:FA K "parted_from" Hl f16 d16)
  (Jf:FA K "leads_round" Hk f17 d17)
  (uZ:FA K "_law_is" Gh f18 d18)
  (Je:FA K "parted_by" Gu f20 Co)
  (oK:FA K "posts" zB f21 Cn)
  (Jd:FA K "_law_told" Gs f22 d22)
  {Kk Oe:Option AT} {Ju:Array (Option AJ)} {Km Ku Oa Kb Oc Kf:AJ}
  {pY T19:AT} {u0:Array AJ} {Ki:Option AT} {Js:Array (Option AJ)}
  (Of:BX K BK "holders"=AA (AA (.ref Nr))) (Zp:K.lookup Nr=AA {Km,Kk,.func (FN "holders" "holders" (gI qW) (W5 qW) (J4 qW) .none Ku Oa Kb Oe (.ref pY) Oc),Ju}) (c19:JP K (.ref pY) "holders"=AK) (k19:FD K (.ref Nr)=AK) (n19:K.lookup pY=AA {Kf,Ki,.fields u0,Js}) (r19:u0[11]?=AA (.ref T19))
  {Kj xV:Option AT} {Jt:Array (Option AJ)} {Kl wE xN vR xP pX:AJ}
  (a23:BX K BK "law"=AA (AA (.ref Nq))) (l23:K.lookup Nq=AA {Kl,Kj,.func (FN "law" "law" (gI iQ) (W5 iQ) (J4 iQ) .none wE xN vR xV pX xP),Jt}) (c23:JP K pX "law"=AK) (k23:FD K (.ref Nq)=AK)
  {y0 y1 y2 y3 y4 y5 y6 y7 y8 y9 WA:AT} (yW:BX K BK "WayError"=AA (AA (.ref WA))) (ya0:BX K BK "NotReached"=AA (AA (.ref y0))) (ya1:BX K BK "NoPaper"=AA (AA (.ref y1))) (ya2:BX K BK "TooMany"=AA (AA (.ref y2))) (ya3:BX K BK "NoSuch"=AA (AA (.ref y3))) (ya4:BX K BK "NoLane"=AA (AA (.ref y4))) (Ys:BX K BK "NoRound"=AA (AA (.ref y5))) (ya6:BX K BK "NoText"=AA (AA (.ref y6))) (ya7:BX K BK "NoRow"=AA (AA (.ref y7))) (ya8:BX K BK "NoPlace"=AA (AA (.ref y8))) (ya9:BX K BK "NothingLeft"=AA (AA (.ref y9)))
  (ye0:BU K (.ref y5) (.ref y0)=AA AC) (ye1:BU K (.ref y5) (.ref y1)=AA AC) (ye2:BU K (.ref y5) (.ref y2)=AA AC) (ye3:BU K (.ref y5) (.ref y3)=AA AC) (ye4:BU K (.ref y5) (.ref y4)=AA AC) (ye5:BU K (.ref y5) (.ref y5)=AA AK) (ye6:BU K (.ref y5) (.ref y6)=AA AC) (ye7:BU K (.ref y5) (.ref y7)=AA AC) (ye8:BU K (.ref y5) (.ref y8)=AA AC) (ye9:BU K (.ref y5) (.ref y9)=AA AC) (Jc:BU K (.ref y5) (.type "ValueError")=AA AK) (yx:OA K (.ref y5) (.ref WA)=AA AK) (yz:ExK K y5 [.type "ValueError",.type "Exception",.type "BaseException",.type "object"] "ValueError.__new__")
  (VM:BX K BK "ValueError"=AA AL) (uY:BX K BK "all"=AA AL) (oJ:BX K BK "bool"=AA AL) (oI:BX K BK "dict"=AA AL) (W9:BX K BK "enumerate"=AA AL) (VL:BX K BK "isinstance"=AA AL) (uX:BX K BK "len"=AA AL) (oH:BX K BK "list"=AA AL) (uW:BX K BK "min"=AA AL) (jF:BX K BK "range"=AA AL) (dI:BX K BK "sorted"=AA AL) (jE:BX K BK "tuple"=AA AL) (uV:BX K BK "zip"=AA AL) :
  ∃fd:JZ,(∀(s:AS) (v:AJ),US s fd {[v],[]} [("script",v)])/\∀base:D7,K.In base->base.Ns BK mg->CB K base->FnOk l.prog w K mg base LP 9 fa fd ["script"] (NQ K 1 m_law):=by
 have e:=hfa.symm.trans (DQ X G a23);cases e;have T:Bt mg:={DK X G VM,DK X G uY,DK X G oJ,DK X G oI,DK X G W9,DK X G VL,DK X G uX,DK X G oH,DK X G uW,DK X G jF,DK X G dI,DK X G jE,DK X G uV};have Oh:=Dl (st:=qW) Zp c19 k19;have F23:=Dl (st:=iQ) l23 c23 k23;refine{FN "law" "law" (gI iQ) (W5 iQ) (J4 iQ) .none wE xN vR xV pX xP,λs v=>.of_eq rfl,λbase _ _ cb=>?_};have vC:=tabIn_of Of Zp rfl n19 r19;have q0:=x0.cal X G (zTM (P:=l.prog) (w:=w) (base:=base) x0.F T ) x0.b1;have q1:=x1.cal X G (zIT (P:=l.prog) (w:=w) (base:=base) x1.F T ) x1.b1;have q2:=x2.cal X G (zMX (P:=l.prog) (w:=w) (base:=base) x2.F T ) x2.b2;have q3:=x3.cal X G (zMY (P:=l.prog) (w:=w) (base:=base) x3.F T ) x3.b2;have q4:=x4.cal X G (zMZ (P:=l.prog) (w:=w) (base:=base) x4.F T ) x4.b2;have q5:=x5.cal X G (zKV (P:=l.prog) (w:=w) (base:=base) x5.F T ) x5.b3;have ts:TryS l.prog w K mg base y5 WA f6 [AC,AC,AC,AC,AC,AK,AC,AC,AC,AC,AK]:={ku x6.F T x6.b1 yz (DQ X G ya0) ye0 (DQ X G ya1) ye1 (DQ X G ya2) ye2 (DQ X G ya3) ye3 (DQ X G ya4) ye4 (DQ X G Ys) ye5 (DQ X G ya6) ye6 (DQ X G ya7) ye7 (DQ X G ya8) ye8 (DQ X G ya9) ye9 Jc,DQ X G x6.a,x6.F.kp,DQ X G yW,yx};have q7:=x7.cal X G (zM0 (P:=l.prog) (w:=w) (base:=base) x7.F T ) x7.b1;have q8:=x8.cal X G (zKW (P:=l.prog) (w:=w) (base:=base) x8.F T q1) x8.b3;have q9:=x9.cal X G (zG2 (P:=l.prog) (w:=w) (base:=base) x9.F T q4) x9.b2;have q10:=Jm.cal X G (zIA (P:=l.prog) (w:=w) (base:=base) Jm.F T q5) Jm.b2;have Ka:=Jl.cal X G (zIB (P:=l.prog) (w:=w) (base:=base) Jl.F T q8) Jl.b3;have q12:=Jk.cal X G (zOB (P:=l.prog) (w:=w) (base:=base) Jk.F T q4 q9) Jk.b2;have q13:=Jj.cal X G (zIC (P:=l.prog) (w:=w) (base:=base) Jj.F T q9 q4) Jj.b2;have Bp:=Ji.cal X G (zQT (P:=l.prog) (w:=w) (base:=base) Ji.F T Ka) Ji.b2;have q15:=Jh.cal X G (zQU (P:=l.prog) (w:=w) (base:=base) Jh.F T Bp Ka) Jh.b3;have q16:=Jg.cal X G (zIU (P:=l.prog) (w:=w) (base:=base) Jg.F T Ka Bp) Jg.b3;have Jz:=Jf.cal X G (zIV (P:=l.prog) (w:=w) (base:=base) Jf.F T Bp q0) Jf.b1;have q18:K9 l.prog w K mg base "_law_is" 5 2 (zBA 5):=uZ.cal X G (Ug uZ.F T (DQ X G uZ.a) uZ.b2  5) uZ.b2;have Jy:=Fun.cal Oh (zQV (P:=l.prog) (w:=w) (base:=base) Oh T rfl (cb "holders" (by decide +kernel) _ _ vC) {"holders",_,by decide +kernel,vC,rfl} q15 Bp) (DQ X G Of) (FA.b2 {Of,Oh});have Zh:=Je.cal X G (zM4 (P:=l.prog) (w:=w) (base:=base) Je.F T q16) Je.b2;have q21:=oK.cal X G (zWM (P:=l.prog) (w:=w) (base:=base) oK.F T Jz Zh Jy q0) oK.b1;have VN:=pAO oK.F (zWN (P:=l.prog) (w:=w) (base:=base) oK.F T (DQ X G Ys) yz.ex Jz Zh Jy q0) (DQ X G oK.a) oK.b1;have q22:=Jd.cal X G (zM5 (P:=l.prog) (w:=w) (base:=base) Jd.F T ts VN q21) Jd.b1;exact yER F23 T q3 Jz q22 q2 q12 q4 q13 q7 Jy q18 q5 q10 q0
end My
namespace PySem.W.Fast
theorem tw9630037921409076376:True:=trivial
theorem tw8299822380317119632:True:=trivial
theorem tw18110557802267493557:True:=trivial
theorem tw4765774456798572313:True:=trivial
theorem tw2027498922894757493:True:=trivial
theorem tw11505143035874330880:True:=trivial
theorem tw2862062582741612268:True:=trivial
theorem tw11349471365126644060:True:=trivial
theorem tw16159511959106397546:True:=trivial
theorem tw13834178194578073195:True:=trivial
theorem tw4923516452550763834:True:=trivial
theorem tw7154685179459633060:True:=trivial
theorem tw7956001855089087854:True:=trivial
theorem tw15717600790653360414:True:=trivial
theorem tw11520272617625511315:True:=trivial
theorem tw13049693435391714711:True:=trivial
theorem tw2528937525285629215:True:=trivial
theorem tw17773512114776112732:True:=trivial
theorem tw12029190120798657903:True:=trivial
theorem tw7853807889330530412:True:=trivial
theorem tw4335001201408902910:True:=trivial
theorem tw9333316273038171961:True:=trivial
theorem tw8726569693216692328:True:=trivial
theorem tw15473645066630724110:True:=trivial
theorem tw16869434874844299123:True:=trivial
theorem tw15725801111943640023:True:=trivial
theorem tw14896482832098606488:True:=trivial
theorem tw567603321825783911:True:=trivial
theorem tw4864049400325618684:True:=trivial
theorem tw9093229354393701945:True:=trivial
theorem tw13050218784198469990:True:=trivial
theorem tw10095901277814652794:True:=trivial
theorem tw343929528153161990:True:=trivial
theorem tw10098153671932167684:True:=trivial
theorem tw5357642281168182995:True:=trivial
theorem tw8925386058523784979:True:=trivial
theorem tw18418422433206729168:True:=trivial
theorem tw8673850246794988475:True:=trivial
theorem tw8421959338131807607:True:=trivial
theorem tw2098874065585158181:True:=trivial
theorem tw8014013957725063481:True:=trivial
theorem tw9643556589897317329:True:=trivial
theorem tw4072585874227432697:True:=trivial
theorem tw16182852451102912807:True:=trivial
theorem tw9899596028786079708:True:=trivial
theorem tw4851403508565658384:True:=trivial
theorem tw13511233192996058658:True:=trivial
theorem tw9101248064942697926:True:=trivial
theorem tw11012663613742190286:True:=trivial
theorem tw1003774219342283202:True:=trivial
theorem tw18303999819022935615:True:=trivial
theorem tw13441075130672488554:True:=trivial
theorem tw807582328884187261:True:=trivial
theorem tw5891786031706460270:True:=trivial
theorem tw2806670808261780106:True:=trivial
theorem tw13419844952883155481:True:=trivial
theorem tw17957258637269607861:True:=trivial
theorem tw6782589554766948170:True:=trivial
theorem tw10048137000754232231:True:=trivial
theorem tw2842847557780629189:True:=trivial
theorem tw13516704395259733754:True:=trivial
theorem tw11509974110782336122:True:=trivial
theorem tw1705441060071943757:True:=trivial
theorem tw7497742434193469959:True:=trivial
theorem tw18319799977148671763:True:=trivial
theorem tw2028089493578969253:True:=trivial
theorem tw6840712370673904999:True:=trivial
theorem tw4082933093894693011:True:=trivial
theorem tw14369381834715709836:True:=trivial
theorem tw11241278385540358228:True:=trivial
theorem tw2781395794558197012:True:=trivial
theorem tw16713878280301835919:True:=trivial
theorem tw1477822245351037201:True:=trivial
theorem tw9471524049675159097:True:=trivial
theorem tw10946160404012980454:True:=trivial
theorem tw4251534992844440058:True:=trivial
theorem tw15849787735498857139:True:=trivial
theorem tw18211447159009927798:True:=trivial
theorem tw15550060699676670093:True:=trivial
theorem tw11412904730156526258:True:=trivial
theorem tw11034492361973453891:True:=trivial
theorem tw2294578887588216050:True:=trivial
theorem tw2786648290324334327:True:=trivial
end PySem.W.Fast
open PySem PySem.W PyProof.Rows
set_option maxRecDepth 100000 in
set_option maxHeartbeats 0 in
theorem PySem.Challenge.cw_waymusts_k21_whole_posts_holds : PySem.Challenge.rw_waymusts_k21_whole_posts.Holds := by
 w_on;o_law;k_head;(case hw=>w_witness2)
 k_fill
 refine L2.walk_v (l:=PySem.Challenge.rw_waymusts_k21_whole_posts) (m:=My.m_law) (lv:=9) rfl rfl {rfl,by decide,by decide,rfl} (λw h Y=>PySem.W.km_in_of Y) ?tK My.law_true ?F
 case tK =>
  intro w;refine' L2.Tabs.of ?h1 ?h2 ?h3 ?h4 ?ap
  (case h1=>refine' L2.TabE.tab (L2.tabIn_of ?a ?l ?e ?m ?r) ?o ?d;(case a=>k_is);(case l=>k_is);(case e=>exact rfl);(case m=>k_is);(case r=>exact rfl);(case o=>kernel_rfl);(case d=>exact rfl))
  (case h2=>refine' .no ?z;(case z=>k_is))
  (case h3=>refine' .no ?z;(case z=>k_is))
  (case h4=>refine' .no ?z;(case z=>k_is))
  (case ap=>decide)
 case F =>
  intro w mg fa h KX G wU;refine' My.all_mk KX G wU ?_ ?_ ?_ ?_ ?_ ?_ ?_ ?_ ?_ ?_ ?_ ?_ ?_ ?_ ?_ ?_ ?_ ?_ ?_ ?_ ?_ ?_ ?_ ?_ ?_ ?_ ?_ ?r19 ?_ ?_ ?_ ?_ ?_ ?_ ?_ ?_ ?_ ?_ ?_ ?_ ?_ ?_ ?_ ?_ ?_ ?_ ?_ ?_ ?_ ?_ ?_ ?_ ?_ ?_ ?_ ?_ ?_ ?_ ?_ ?_ ?_ ?_ ?_ ?_ ?_ ?_ ?_ ?_ ?_
  any_goals (refine' My.fa ?a ?l ?c ?k;(case a=>k_is);(case l=>k_is);(case c=>k_is);(case k=>k_is))
  any_goals k_is
  (case r19=>exact rfl)
  any_goals kernel_rfl
  any_goals (refine' L2.ExK.mk ?a ?_ ?_ ?_ ?_ ?_ ?_ ?_;(case a=>k_exc);all_goals k_is)
