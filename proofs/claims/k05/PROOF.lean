import PyProof.Rows.All
import Wide.All
import OpenK.AllK
import Wide.FinOn
import Lean
import PyProof.EqAt
import PyProof.EqKinds
import PyProof.TupleCall
import KE.KSortKey
import KE.KDflt
import PyProof.Rows.SortRuns
import PyProof.DictCompW
import KE.KLam
import PyProof.Rows.StrRev
import PyProof.WalksMore
import PyProof.ReprRoads
import PyProof.CallStr
import PyProof.AttrMissHeap
import KE.KDictOf
import KE.KTryMore
import OpenK.KOwn
import PyProof.RulesAs
import PyProof.RulesDel
import KE.KDictList
import PyProof.Rows.SeqMore2
import PyProof.FString
import PyProof.Rows.SetFrom
import PySem.Challenge.RW_waymusts_k05_musts_by_closing
set_option autoImplicit false
set_option linter.all false
set_option Elab.async false
set_option maxRecDepth 100000
set_option maxHeartbeats 8000000
local macro_rules (kind:=«term{_}»)|`(«term{_}»|{$x,*})=>`(⟨$x,*⟩)
local macro_rules|`('l')=>`(by lia)
local macro_rules|`('d')=>`(by decide)
local macro_rules|`('s')=>`(by simp)
local macro_rules|`('o')=>`(by omega)
noncomputable section
open Option renaming some→AA,none→AI,map_eq_some_iff→BQ,map_some→GK,isSome_map→O6,getD_none→aR
open Bool renaming false→AD,true→AL,false_ne_true→CG,false_eq_true→D3,and_eq_true→EU,not_eq_true'→LZ,eq_false_iff→QC,and_eq_true_iff→YV,or_eq_true→iM,and_false→kR
open PySem renaming wpAny_bind→AB,Value→AH,starEach→AO,Addr→AQ,Shared→AT,wpAny→AZ,model→A3,mainGlobals→BL,Program→CI,Str→CK,wpAny_setField_rec→CS,Expr→CU,wpAny_mono→CY,wpAny_callSpecial?_slot→C5,foldedSetIterable→C6,wpAny_holding→C7,wpAny_field→C8,wpAny_call_entry→DD,backTo→DH,Around→DJ,wpAny_newObj_type→DN,behindInMarks→DO,World→DY,Heap→DZ,compareOp→EQ,rawInt→ES,Builtin→E4,Stmt→E6,wpAny_rule→E8,Spec→FG,letOwnedTupleGo→FJ,sizeLine_eq→FZ,bootBuiltins→GD,wpAny_attempt→GH,sysModules→GP,cLine→GQ,PyData→G2,sliceBounds→G7,binaryOp→G8,assignEach→HD,codeAny→HG,wpAny_seqItems→HI,Obj→HL,wpAny_typeNameOfWhole_keyiter→HP,wpAny_Call_Name_kw→HW,wpAny_passesOwn→IE,wpAny_execs_nil→IF,wpAny_standAt→IG,swapsWith→IH,wpAny_truthy_bool→IL,mem_of_lookup→IP,standAt→IV,holding→IW,wpAny_typeNameOf_keyiter→JL,wpAny_comprehension_free→JM,FuncData→JN,tupleKind_room_in1→JU,pyNext→JV,DictEntry→JY,wpAny_pyIter_list→KA,IsPair→KB,wpAny_execs_cons→KQ,assign→KR,attributeBase→K1,codeAny_mono→LS,wpAny_newTuple→MG,builtinsNs→MH,wpAny_dictEntries→M0,Scope→M1,wpAny_onRaise→NF,tupleKind→NS,setField→NT,bindArgs→NU,pyIter→N7,codeAny_compStart_list→N9,call_meets→OA,Keyword→OC,wpAny_isOneOf_keyiter→OW,wpAny_updateSeq_pair→PR,wpAny_setField→PU,wpAny_letGo→PV,wpAny_fieldsOf→PX,firstArgMember→PZ,IsPart→P0,getItem→P6,codeAmong→P7,callerA→P8,wpAny_newList→QY,field→QZ,wpAny_pyIter_tuple→RO,wpAny_call→RP,Sem→RQ,wpAny_pyIter_slot→SG,wpAny_Assign_Name→SH,valueAt→SI,slot_list_getitem→SJ,relabel→SK,concat_meets→SL,NameKind→SO,BindsTo→SU,wpAny_isInstance→UU,wpAny_eqBool_int→UV,noFill_tuple_add→UW,isTrue→UX,PassesOwn→UZ,seqIndex_of→VD,keywordEach→VH,wpAny_dictEpoch→WH,Env→WK,wpAny_newFunctionEnv_cells→XS,isSubtype_stop→XU,compTurn→XV,closureFor→XW,atKey→XX,again→XY,ReadsAll→XZ,wpAny_getItem_list_slice→ZJ,swapsWithSole→ZK,swappedStores→ZL,strLen_append→ZN,seq_tuple_add→ZO,call→ZP,slicePick→aH,noteFrame→aJ,bindL→aK,bindC→aM,Reads→aN,isCodeTable→aO,wpAny_typeOf→cW,Fin→dC,codeAny_call_function→fB,Pos→fD,wpAny_pyIter_keyiter→hU,wpAny_of_eq→hV,wpAny_newFunctionEnv→hZ,wpAny_mkInt→iA,loadIfAlive→iC,compPost→iE,compEnvC→iF,codeAny_call_builtin→iG,backToKw→iH,Tok→kM
open PySem.W renaming Frag→AC,kitOne→BP,nsIn→BW,mg_of→CV,kia_one→DA,mg_none_of→DM,tabIn→EI,keepIn→EJ,fnOf→EX,codeIn→HZ,hideAll→IQ,CodeHd→JE,excIn→JX,tabObj→KS,findIn→KW,kitx_dict→LA,cellsFrom_some→MK,kla_obj→MM,exmOne→NH,hideAll_get→NV,callWith_K→OB,methodObj→OX,kitx_list→OY,envX→OZ,instObj→QL,OpenLaw→QM,KatTups→QN,lookIn→RS,mroIn→SN,of_hideAll→X0,kitx_tuple→X1,codeRec_of→X2,specialIn→YN,plainGet→ZQ,kat_cons→ZR,takesIn→aP,kat_yes→aQ,kla_fn→cZ,kat_no→dA,kat_go→dB,WalkO→fC
open PySem.Heap renaming get?_push_of_some→AF,get?_push_size→AV,lt_size→A8,SameBut→DG,size_push→FQ,get?_push_ne→LY,size_update→MP,get?_update_self→NN,get?_update_ne→OJ,get?_update_other→WX,get?_none_of_le→YT,ExtBut→YU
open Array renaming getElem_mem→AG,getElem?_eq_some_iff→CD,getElem?_toList→C0,perm_iff_toList_perm→EA,size_push→EB,toList_append→EG,toList_push→EZ,mem_toList_iff→GR,mem_push→G9,size_append→HR,size_extract→JA,toList_extract→KD,length_toList→KL,forIn_toList→K6,size_setIfInBounds→L6,toList_reverse→NX,toList_setIfInBounds→SV,eraseIdxIfInBounds→U2,append_empty→ZU
open List renaming length_map→AJ,getElem?_eq_some_iff→AR,getElem?_map→AU,map_cons→AX,size_toArray→A0,getElem?_set_ne→A4,mem_singleton→A5,mem_cons_of_mem→A7,mem_cons_self→BB,length_cons→BC,mem_cons→BD,getElem?_set_self→BF,replicate→BG,length_append→BH,take_succ_eq_append_getElem→BJ,mem_append_right→BM,getElem?_eq_getElem→BU,getElem?_append_right→BX,mem_append→BY,length_set→BZ,getElem?_append_left→B9,append_assoc→CF,mem_of_getElem?→CT,not_mem_nil→CZ,length_replicate→C2,range→C9,mem_append_left→DB,append_nil→DC,mem_map→DL,mem_filter→DP,find?_cons→DQ,getElem?_replicate→DR,pairwise_map→DX,map_map→D2,take_length→D5,pairwise_iff_getElem→EF,replicate_succ→EH,length_singleton→EK,nodup_cons→EM,length_take→ET,filterMap_cons→E7,drop_eq_getElem_cons→FD,any_cons→FK,nodup_nil→FP,getElem?_cons_succ→FU,flatMap_cons→FV,nil_append→FX,map_append→FY,pairwise_append→GT,nodup_append→GU,flatten_cons→GV,mem_range→HA,getElem_mem→HB,mem_filterMap→HH,length_filter_le→HQ,reverse_cons→H9,any_eq_true→IM,map_congr_left→IR,of_mem_zip→IZ,length_nil→I0,pairwise_cons→JB,pairwise_singleton→JF,pairwise_mergeSort→JG,take_of_length_le→JQ,length_range→JR,drop_eq_nil_of_le→JS,singleton_append→J2,zipIdx_cons→J7,filter_cons→J8,mergeSort_perm→KY,getElem?_range→KZ,getD_eq_getElem?_getD→LB,length→LW,any_eq_false→LX,lookup_cons→MN,cons_append→MO,map_nil→M3,forIn_cons→NI,getElem?_eq_none→NM,forIn_nil→NZ,drop_zero→N0,length_reverse→OI,zip_cons_cons→O7,filterMap_map→O8,take_sublist→QB,eraseIdxIfInBounds_toArray→QP,length_drop→Q3,foldl_cons→RY,perm_ext_iff_of_nodup→TK,getElem?_zip_eq_some→U1,getElem?_take_of_lt→VP,eraseIdx_cons_succ→WJ,any_map→WW,perm_append_comm→X3,eq_nil_or_concat→X4,dropLast_eq_take→X5,mem_iff_getElem→YR,reverse_append→ZS,foldl→aS,filter_append→aT,append_of_mem→aU,foldl_append→dE,find?_append→dF,filter_congr→dG,reverse_nil→fH,perm_middle→fI,all_eq_true→fJ,zipIdx_nil→iK,range_succ→iL
open Nat renaming le_refl→AM,lt_of_lt_of_le→AN,lt_of_le_of_lt→AS,le_trans→AY,le_add_right→A2,add_lt_add_left→A6,zero_le→BR,ne_of_lt→B0,le_of_lt→CN,le_of_eq→CO,lt_trans→C1,sub_le→C4,lt_or_eq_of_le→DF,le_add_left→DK,lt_succ_self→DS,add_le_add→EC,zero_add→EO,le_of_not_lt→EV,ne_of_gt→FM,lt_of_succ_le→FW,lt_irrefl→GB,lt_of_le_of_ne→GE,le_of_lt_succ→IB,lt_succ_of_lt→JW,le_succ→KI,succ_le_of_lt→L8,le_max_right→MT,add_sub_cancel_left→MU,not_lt→U0,lt_trichotomy→fF,lt_succ_of_le→fG,not_lt_of_le→iI,lt_of_not_le→iJ,min_le_left→kO,le_max_left→kP
open PyProof.Rows renaming arrOf→AW,Keyed→A9,wpS_pure→BE,wpS_bind→BI,SortSt→BO,pendingOf→DE,seqObj→D4,slot_tuple_getitem→D6,SortKind→FC,callWith_type1→FN,envOfC→FR,wpS_forRange→FT,IntsAre→GF,pairsOf→HX,wpS_mono→JK,wpS_modify→MF,wpS_get→MZ,AllBare→M5,wpS→NE,listUpdate_at→NG,mirror→N8,wpS_lift→PQ,pairsOf_toList→PY,IsTup→SR,seqEpoch_at→VF,get?_update_seq→WI,size_push'→XT,subscriptTail→ZM,numOf→aI,subscriptTail_builtinR→cX,listItems_at→cY,tail_any→iB,failedOf→iD,entry_tuple_getitem→kK
open Option.some renaming inj→BK,injEq→VN
open Or renaming inl→BN,inr→D9
open PySem.Builtin.SmallTypes renaming nextOf→CC,ownedTupleIsFree→CW,ownedTupleHandOut→HE
open PySem.PassesOwn renaming never→CH
open Sum renaming inl→CJ,inr→QK
open PySem.Obj renaming mapSeq→C3,data_mapFields→LK,isFreed_of_fields→YQ,cls_mapFields→fE
open PySem.Value renaming ref→DI,none→GC,bool→IX,int→MI,builtin→OG,type→SM,str→VJ,isStrOf→kL
open PySem.PyData renaming eqv→EE,canLayAll0→FS,depth→II,canLay0→K2,depthAll→Q2,int→YO
open PySem.Str renaming ofString→EN,empty→OH
open Ne renaming symm→FH
open Prod renaming snd→FO,fst→QA,ext→kN
open PySem.F renaming slot_enumerate_next→F7,plainAttrs_list→G1,type_list_append→LH,slot_list_append→LI,args_tuple_add_2→LJ,entry_tuple_add→LU,slot_tuple_add→ML,slot_dict_get→MS,args_enumerate_next_1→P9,entry_enumerate_next→QO,slot_enumerate_iter→Q1,args_dict_get_3→TJ,entry_dict_get→UY,type_list_pop→VL,slot_list_pop→VM
open PySem.Heap.SameBut renaming update→GL
open List.Nodup renaming length_le_of_subset→GW
open List.Perm renaming refl→GY,swap→HN,eq_of_pairwise→IK,append_left→JJ,trans→J3,append_right→SQ
open True renaming intro→GZ
open False renaming elim→HF
open Int renaming lt_of_le_of_lt→HJ,emod_lt_of_pos→JH,emod_nonneg→K0,le_trans→K4,le_of_lt→K5,toNat_natCast→L9,ne_of_lt→X6,le_refl→ZT,toNat_of_nonneg→aV
open PySem.Builtin.Slice renaming slicePlaces→HM,sliceAdjust→KC,sliceApplied→O3
open Sum.inl renaming inj→HY
open PySem.Builtin.Tuple renaming tupleExact→IA,tupleItemsOf→O1,tupleIsExact→O2
open PySem.Builtin.List renaming listTooLong→IC
open Decidable renaming not_not→K3
open PySem.SeqAt renaming eqAt_reads→MJ
open PySem.Calls renaming callWith_builtin→MV,evalArgs_plain→NW,spliced_cons→O0,Name_function_global→SS,call_function_entry→TN,spliced_nil→aW
open PySem.Builtin.Dict_items renaming ownsTuple→M4
open List.Pairwise renaming nil→NJ
open Array.Perm renaming refl→O9
open ForInStep renaming yield→P1
open PySem.W.KatTups renaming nil→Q0
open PySem.Data renaming cell→Q4,fields→RT,seq→kQ
open PyProof.Rows.SortSt renaming mk'→RX
open PySem.Heap.IsSliceOf renaming new→RZ
open Function renaming comp→R0
open PySem.Shared renaming heap→WV
open PySem.Around renaming frames_deeper→WY
open And renaming intro→WZ
open List.cons renaming injEq→YS
open PySem.NameKind renaming free→dD
open PySem
variable{κ α:Type}{a it dx C f:AQ}{h h' h1 base:DZ}{items:Array AH}{P prog:CI}{w:DY}{AE:List (AQ×HL)}{s s':AT}{t' i j k n:Nat}{ch fp:List AQ}{N:List CK}{x name qual:CK}{M:Model}{A:DJ}{E Q:AH->AT->Prop}{u cd pm ct oc:AH}{e c tg JO:CU}{pos NP p V3 ME SD:fD}{es:List CU}{body:List E6}{op:CmpOp}{CA us:List AH}{mA mg:CK->Option AH}{fd:JN}{scope:M1}{outer:List WK}{ER:Arguments}{an od:Option AQ}{ps:List CK}
namespace L2
open PySem PySem.Spec PyProof.Rows
abbrev Key:=Sum Int CK
noncomputable def lJ:Key->AH->Bool
 |.inl k,v=>Value.isInt k v
 |.inr x,v=>kL x v
def yGU(w:DY):Key->Int
 |.inl k=>hashInt k
 |.inr x=>hashStr w x
theorem bG:∀{k:Key} {v:AH},lJ k v=AL->(∃i t,k=CJ i/\v=MI i t)\/(∃x t,k=QK x/\v=VJ x t)
 |.inl i,v,h=>by
  obtain⟨t,e⟩:=Value.isInt_shape (k:=i) (v:=v) h;exact .inl {i,t,rfl,e}
 |.inr x,v,h=>by
  obtain⟨t,e⟩:=Value.isStrOf_shape (x:=x) (v:=v) h;exact .inr {x,t,rfl,e}
theorem zPM(i:Int)(t:kM):lJ (.inl i) (.int i t)=AL:=by simp[lJ,Value.isInt]
theorem zPN(x:CK)(t:kM):lJ (.inr x) (.str x t)=AL:=by simp[lJ,kL]
theorem yAG(a b:Int):decide ((CJ a:Key)=CJ b)=(a==b):=by
 by_cases e:a=b
 .subst e;simp
 .have h:¬(CJ a:Key)=CJ b:=λq=>e (HY q)
  rw[decide_eq_false h];exact(beq_eq_false_iff_ne.mpr e).symm
theorem yAH(a b:CK):decide ((QK a:Key)=QK b)=decide (a=b):=by
 by_cases e:a=b
 .subst e;simp
 .have h:¬(QK a:Key)=QK b:=λq=>e (Sum.inr.inj q)
  rw[decide_eq_false h,decide_eq_false e]
theorem yAI(a:Int)(b:CK):decide ((CJ a:Key)=QK b)=AD:=decide_eq_false (λq=>nomatch q)
theorem yAJ(a:CK)(b:Int):decide ((QK a:Key)=CJ b)=AD:=decide_eq_false (λq=>nomatch q)
def R9(prog:CI)(w:DY):PySem.KeyKind prog w Key where
 is:=lJ
 hash:=yGU w
 inj:=λv a b ha hb=>by
  rcases bG ha with⟨i,t,rfl,rfl⟩|⟨x,t,rfl,rfl⟩
  .rcases bG hb with⟨j,u,rfl,e⟩|⟨y,u,rfl,e⟩
   .injection e with e1 _;rw[e1]
   .exact nomatch e
  .rcases bG hb with⟨j,u,rfl,e⟩|⟨y,u,rfl,e⟩
   .exact nomatch e
   .injection e with e1 _;rw[e1]
 byValue:=λk v h=>by
  rcases bG h with⟨i,t,rfl,rfl⟩|⟨x,t,rfl,rfl⟩<;>rfl
 pyHash:=λhv h=>by
  rcases bG hv with⟨i,t,rfl,rfl⟩|⟨x,t,rfl,rfl⟩
  .exact wpAny_pyHash_int h
  .exact wpAny_pyHash_str h
 eqBool:=λhu hv h=>by
  rcases bG hu with⟨i,t,rfl,rfl⟩|⟨x,t,rfl,rfl⟩
  .rcases bG hv with⟨j,u,rfl,rfl⟩|⟨y,u,rfl,rfl⟩
   .rw[yAG] at h;exact UV h
   .rw[yAI] at h;exact SeqAt.EqAt.int_str i t y u _ _ _ _ h
  .rcases bG hv with⟨j,u,rfl,rfl⟩|⟨y,u,rfl,rfl⟩
   .rw[yAJ] at h;exact SeqAt.EqAt.str_int x t j u _ _ _ _ h
   .rw[yAH] at h;exact wpAny_eqBool_str h
 «strs»:=λk x t v h=>by
  rcases bG h with⟨i,u,rfl,e⟩|⟨y,u,rfl,e⟩
  .exact nomatch e
  .injection e with e1 _
   subst e1;cases v<;>rfl
theorem Rp(prog:CI)(w:DY)(k:Key)(v:AH):(R9 prog w).is k v=lJ k v:=rfl
theorem zL6(prog:CI)(w:DY)(i:Int)(t:kM):(R9 prog w).is (.inl i) (.int i t)=AL:=zPM i t
theorem zL7(prog:CI)(w:DY)(x:CK)(t:kM):(R9 prog w).is (.inr x) (.str x t)=AL:=zPN x t
inductive V where
 |non|bl (b:Bool)|int (i:Int)|str (x:CK)|byt (b:Array UInt8)|flt (b:UInt64)|ref (a:AQ)|ty (n:String)
 deriving DecidableEq
def RelV:V->AH->Prop
 |.non,u=>u=GC
 |.bl b,u=>u=IX b
 |.int i,u=>∃t,u=MI i t
 |.str x,u=>∃t,u=VJ x t
 |.byt b,u=>∃t,u=Value.bytes b t
 |.flt b,u=>∃t,u=Value.float b t
 |.ref a,u=>u=DI a
 |.ty n,u=>u=SM n
abbrev Vals:List V->List AH->Prop:=Paired RelV
theorem Vals.length{xs:List V}{us:List AH}(r:Vals xs us):xs.length=us.length:=Paired.length r
theorem Vals.get:∀{xs:List V} {us:List AH} {i:Nat} {x:V},Vals xs us->xs[i]?=AA x->∃u,us[i]?=AA u/\RelV x u
 |_,_,_,_,.nil,e=>by simp at e
 |_,_,0,_,.cons r _,e=>by simp at e;subst e;exact{_,rfl,r}
 |_,_,i+1,x,.cons _ t,e=>by
  obtain⟨u,h1,h2⟩:=Vals.get (i:=i) (x:=x) t (by simpa using e);exact{u,by simpa using h1,h2}
theorem Vals.set{x:V}{u:AH}(r:RelV x u):∀{xs:List V} {us:List AH} (i:Nat),Vals xs us->Vals (xs.set i x) (us.set i u)
 |_,_,_,.nil=>.nil
 |_,_,0,.cons _ t=>.cons r t
 |_,_,i+1,.cons q t=>.cons q (Vals.set r i t)
theorem Vals.append:∀{xs ys:List V} {us ws:List AH},Vals xs us->Vals ys ws->Vals (xs++ys) (us++ws)
 |_,_,_,_,.nil,s=>s
 |_,_,_,_,.cons r t,s=>.cons r (Vals.append t s)
theorem Vals.take:∀{xs:List V} {us:List AH} (n:Nat),Vals xs us->Vals (xs.take n) (us.take n)
 |_,_,0,_=>.nil
 |_,_,_+1,.nil=>.nil
 |_,_,n+1,.cons r t=>.cons r (Vals.take n t)
theorem Vals.drop:∀{xs:List V} {us:List AH} (n:Nat),Vals xs us->Vals (xs.drop n) (us.drop n)
 |_,_,0,r=>r
 |_,_,_+1,.nil=>.nil
 |_,_,n+1,.cons _ t=>Vals.drop n t
def RelO:Option V->Option AH->Prop
 |some v,AA u=>RelV v u
 |none,AI=>True
 |_,_=>False
def KV:List (κ×V)->List (κ×AH)->Prop:=Paired λ(p:κ×V) (q:κ×AH)=>p.1=q.1/\RelV p.2 q.2
def kV:Key->V
 |.inl i=>.int i
 |.inr x=>.str x
inductive HO where
 |lst (xs:List V)
 |tup (xs:List V)
 |dK (kvs:List (Key×V))|dT (kvs:List (List Key×V))
 |set (S:Int->Bool) (n:Nat)
 |ins (C dx:AQ) (fs:List (CK×V))
 |own (x:AQ)
 |xd (fs:List (CK×V))
 |met (f x:AQ)
 |rng (lo hi:Int)
 |frz (o:HL) (u:HO)
 |tbl (q:CK) (ps:Array AH)
 |ext (φ:DZ->Prop)
abbrev Hp:=AQ->Option HO
def DU(H:Hp)(a:AQ)(o:HO):Hp:=λb=>if b=a then AA o else H b
variable{H:Hp}{o:HO}
theorem G3:DU H a o a=AA o:=by unfold DU;rw[if_pos rfl]
theorem EL{b:AQ}(h:b≠a):DU H a o b=H b:=by unfold DU;rw[if_neg h]
theorem yDZ{b:AQ}{u:HO}(h:H a=AA o)(h':H b=AA u)(d:o≠u):a≠b:=by
 intro e;subst e;rw[h] at h';exact d (BK h')
theorem T4{b:AQ}(h:H a=AA o)(h':H b=AI):a≠b:=by
 intro e;subst e;rw[h] at h';cases h'
def IsTupP(h:DZ)(a:AQ)(items:Array AH):Prop:=∃o,h.get? a=AA o/\o.cls=.type "tuple"/\o.dict=AI/\∃n,o.data=.seq items n
theorem IsTupP.isTup(p:IsTupP h a items):SR h a items:=let ⟨o,e,c,_,n⟩:=p;{o,e,c,n}
theorem IsTupP.new(h:DZ)(items:Array AH):IsTupP (h.push { cls:=.type "tuple",data:=.seq items }) h.objs.size items:={_,AV _ rfl,rfl,rfl,_,rfl}
section
variable(P:CI)(w:DY)
def ObjOk(H:Hp)(h:DZ)(a:AQ):HO->Prop
 |.lst xs=>xs.length<=sizeLine/\∃(CA:List AH) (n:Nat),Vals xs CA/\h.get? a=AA { cls:=.type "list",data:=.seq CA.toArray n }
 |.tup xs=>xs.length<=sizeLine/\∃CA:List AH,Vals xs CA/\IsTupP h a CA.toArray
 |.dK kvs=>kvs.length<=sizeLine/\(a==GP)=AD/\∃vs,KV kvs vs/\h.DictOf (R9 P w) a vs
 |.dT kvs=>kvs.length<=sizeLine/\(a==GP)=AD/\∃xs:List (List Key×AQ×AH),
   Paired (λ(p:List Key×V) (q:List Key×AQ×AH)=>p.1=q.1/\H q.2.1=AA (.tup (p.1.map kV))/\RelV p.2 q.2.2) kvs xs /\
   ∃o es ep,h.get? a=AA o/\o.ExactDict/\o.data=.dict es ep/\es.toList=xs.map (entryOfKey (NS (R9 P w)))/\(xs.map (·.1)).Nodup
 |.set S n=>h.SetOf (intKind P w) a S n
 |.ins C dx fs=>H dx=AA (.own a)/\fs.length<=1000/\dx≠a/\h.get? a=AA (QL C dx) /\
   ∃mA,h.Ns1 dx mA/\(∀f,RelO (fs.lookup f) (mA f))/\PySem.Within mA (fs.map (·.1))
 |.own _=>∃o,h.get? a=AA o
 |.xd fs=>∃mA,h.Ns1 a mA/\∀f,RelO (fs.lookup f) (mA f)
 |.rng lo hi=>∃t u v,h.get? a=AA { cls:=.type "range",data:=.fields #[.int lo t,.int hi u,.int 1 v] }
 |.frz o u=>h.get? a=AA o/\ObjOk H h a u
 |.tbl q ps=>h.get? a=AA { cls:=.none,data:=.fields ps }/\TriplesOk ps.toList/\∀pos cv,P7 pos ps.toList=AA cv->∃c' o vs t,cv=.ref c'/\H c'=AA (.frz o (.own c'))/\o.data=.fields vs/\vs[1]?=AA (.str q t)
 |.met f x=>h.get? a=AA (OX (.ref f) (.ref x))
 |.ext φ=>φ h/\(∃o,h.get? a=AA o)/\∀h1 h2:DZ,φ h1->(∀o,h1.get? a=AA o->h2.get? a=AA o)->φ h2
def HOk(H:Hp)(h:DZ):Prop:=∀a o,H a=AA o->ObjOk P w H h a o
end
variable{H':Hp}
theorem ObjOk.lt(x:ObjOk P w H h a o):a<h.objs.size:=by
 cases o with
 |lst xs=>obtain⟨_,_,_,_,e⟩:=x;exact A8 e
 |tup xs=>obtain⟨_,_,_,p⟩:=x;exact p.isTup.lt
 |dK kvs=>obtain⟨_,_,_,_,o,_,_,e,_⟩:=x;exact A8 e
 |dT kvs=>obtain⟨_,_,_,_,o,_,_,e,_⟩:=x;exact A8 e
 |set S n=>obtain⟨o,_,_,_,e,_⟩:=x;exact A8 e
 |ins C dx fs=>obtain⟨_,_,_,e,_⟩:=x;exact A8 e
 |own y=>obtain⟨_,e⟩:=x;exact A8 e
 |xd fs=>obtain⟨_,⟨_,_,_,e,_⟩,_⟩:=x;exact A8 e
 |rng lo hi=>obtain⟨_,_,_,e⟩:=x;exact A8 e
 |frz ob u=>obtain⟨e,_⟩:=x;exact A8 e
 |tbl q ps=>exact A8 x.1
 |met f y=>exact A8 (show h.get? a=AA _ from x)
 |ext φ=>obtain⟨_,⟨_,e⟩,_⟩:=x;exact A8 e
theorem pA0{α β:Type}{F G:α->β->Prop}:∀{l₁:List α} {l₂:List β},Paired F l₁ l₂->(∀a b,F a b->G a b)->Paired G l₁ l₂
 |_,_,.nil,_=>.nil
 |_,_,.cons r t,f=>.cons (f _ _ r) (pA0 t f)
theorem ObjOk.stay(x:ObjOk P w H h a o)(k:∀b u,(b=a\/H b=AA (.own a))->h.get? b=AA u->h'.get? b=AA u)
  (ho:∀b,H b=AA (.own a)->H' b=AA (.own a)) (ht:∀b xs,H b=AA (.tup xs)->H' b=AA (.tup xs)) (hf:∀b o x,H b=AA (.frz o (.own x))->H' b=AA (.frz o (.own x))):ObjOk P w H' h' a o:=by
 induction o with
 |lst xs=>obtain⟨z,CA,n,r,e⟩:=x;exact{z,CA,n,r,k _ _ (.inl rfl) e}
 |tup xs=>obtain⟨z,CA,r,ob,e,c⟩:=x;exact{z,CA,r,ob,k _ _ (.inl rfl) e,c}
 |dK kvs=>obtain⟨z,y,vs,r,ob,es,ep,e,c⟩:=x;exact{z,y,vs,r,ob,es,ep,k _ _ (.inl rfl) e,c}
 |dT kvs =>
  obtain⟨z,y,xs,r,ob,es,ep,e,c⟩:=x;exact{z,y,xs,pA0 r λp q z=>{z.1,ht _ _ z.2.1,z.2.2},ob,es,ep,k _ _ (.inl rfl) e,c}
 |set S n=>obtain⟨ob,es,ep,t,e,c⟩:=x;exact{ob,es,ep,t,k _ _ (.inl rfl) e,c}
 |ins C dx fs =>
  obtain⟨d,z,ne,e,mA,⟨od,es,ep,e2,c⟩,r⟩:=x;exact{ho _ d,z,ne,k _ _ (.inl rfl) e,mA,{od,es,ep,k _ _ (.inr d) e2,c},r}
 |own y=>obtain⟨ob,e⟩:=x;exact{ob,k _ _ (.inl rfl) e}
 |xd fs=>obtain⟨mA,⟨od,es,ep,e,c⟩,r⟩:=x;exact{mA,{od,es,ep,k _ _ (.inl rfl) e,c},r}
 |rng lo hi=>obtain⟨t,u,v,e⟩:=x;exact{t,u,v,k _ _ (.inl rfl) e}
 |frz ob u ih=>obtain⟨e,q⟩:=x;exact{k _ _ (.inl rfl) e,ih q}
 |tbl q ps =>
  obtain⟨e,tr,al⟩:=x;refine{k a _ (.inl rfl) e,tr,λpos cv z=>?_};obtain⟨c',o,vs,t,r1,r2,r3⟩:=al pos cv z;exact{c',o,vs,t,r1,hf _ _ _ r2,r3}
 |met f y =>
  have e:h.get? a=AA (OX (.ref f) (.ref y)):=x;show h'.get? a=AA (OX (.ref f) (.ref y));exact k a _ (.inl rfl) e
 |ext φ=>obtain⟨p,⟨o,e⟩,st⟩:=x;exact{st _ _ p λo q=>k _ _ (.inl rfl) q,{o,k _ _ (.inl rfl) e},st}
theorem HOk.lt(x:HOk P w H h)(e:H a=AA o):a<h.objs.size:=(x a o e).lt
theorem HOk.fresh(x:HOk P w H h)(e:h.objs.size<=a):H a=AI:=by
 cases q:H a with
 |none=>rfl
 |some u=>exact absurd (AN (x.lt q) e) (GB _)
theorem HOk.kept(x:HOk P w H h)(k:∀b u,h.get? b=AA u->h'.get? b=AA u):HOk P w H h':=λa o e =>
 (x a o e).stay (λb u _ q=>k b u q) (λ_ q=>q) (λ_ _ q=>q) λ_ _ _ q=>q
theorem HOk.laid(x:HOk P w H h)(k:∀b u,h.get? b=AA u->h'.get? b=AA u)(hp:h.objs.size<=a)(new:ObjOk P w (DU H a o) h' a o):HOk P w (DU H a o) h':=λb u e=>by
 have hn:=x.fresh hp
 by_cases hb:b=a
 .subst hb;rw[G3] at e;cases e;exact new
 .rw[EL hb] at e
  exact(x b u e).stay (λc v _ q=>k c v q) (λc q=>by rw[EL (T4 q hn)];exact q) (λc xs q=>by rw[EL (T4 q hn)];exact q) λc o x q=>by rw[EL (T4 q hn)];exact q
def Rd(H:Hp)(a:AQ)(u:HO):Prop:=H a=AA u\/∃o,H a=AA (.frz o u)
theorem Rd.ok{u:HO}(r:Rd H a u)(x:HOk P w H h):ObjOk P w H h a u:=by
 rcases r with r|⟨o,r⟩
 .exact x a u r
 .obtain⟨_,q⟩:=x a _ r
  exact q
def sL:Option HO->Prop
 |some (.lst _)=>True
 |some (.dK _)=>True
 |some (.dT _)=>True
 |some (.set _ _)=>True
 |some (.ins _ _ _)=>True
 |some (.ext _)=>True
 |_=>False
section
variable{x e:AQ}{o':HO}
theorem HOk.write(ok:HOk P w H h)(mu:sL (H x))(he:e=x\/H e=AA (.own x))(k:∀b u,b≠e->h.get? b=AA u->h'.get? b=AA u)(p9:∃u,h'.get? e=AA u)
  (new:ObjOk P w (DU H x o') h' x o'):HOk P w (DU H x o') h':=λb u q=>by
 have tW:∀c y,H c=AA (.own y)->c≠x:=λc y r z=>by subst z;rw[r] at mu;exact mu
 have Hk:∀c xs,H c=AA (.tup xs)->c≠x:=λc xs r z=>by subst z;rw[r] at mu;exact mu
 have Hl:∀c o y,H c=AA (.frz o (.own y))->c≠x:=λc o y r z=>by subst z;rw[r] at mu;exact mu
 by_cases hb:b=x
 .subst hb;rw[G3] at q;cases q;exact new
 .rw[EL hb] at q
  by_cases nK:b=e
  .have q':H b=AA (.own x):=by
    rcases he with z|z
    .exact absurd (nK.trans z) hb
    .rw[nK];exact z
   rw[q] at q';cases q';obtain⟨v,hv⟩:=p9;exact{v,by rw[nK];exact hv}
  .refine(ok b u q).stay (λc v hc r=>k c v ?_ r) (λc r=>by rw[EL (tW c b r)];exact r) (λc xs r=>by rw[EL (Hk c xs r)];exact r) λc o y r=>by rw[EL (Hl c o y r)];exact r
   rcases hc with rfl|hc
   .exact nK
   .rintro rfl
    rcases he with z|z
    .exact tW c b hc z
    .rw[hc] at z;cases z;exact hb rfl
end
structure Un(fs ex:List AQ)(H H':Hp)(h h':DZ):Prop where
 keep:∀b o,h.get? b=AA o->H b=AI->b∉fs->b∉ex->h'.get? b=AA o
 slot:∀b o,h.get? b=AA o->H b=AI->b∈fs->b∉ex->∃sl,h'.get? b=AA { o with slots:=sl }
 free:∀b o,h.get? b=AA o->H b=AI->b∉ex->H' b=AI
 there:∀b o,h.get? b=AA o->b∉ex->∃o',h'.get? b=AA o'
 tups:∀b xs,H b=AA (.tup xs)->H' b=AA (.tup xs)
 frzs:∀b o u,H b=AA (.frz o u)->H' b=AA (.frz o u)
 tbls:∀b t ps,H b=AA (.tbl t ps)->∃QH,H' b=AA (.tbl t (ps++QH))
variable{H1 H2:Hp}
section
variable{fs nM ex Xu:List AQ}{h2:DZ}{x e:AQ}
theorem Un.any(u:Un fs ex H H1 h h1){b:AQ}{ob:HL}(q:h.get? b=AA ob)(n:H b=AI)(hx:b∉ex):∃sl,h1.get? b=AA { ob with slots:=sl }:=by
 by_cases hb:b∈fs
 .exact u.slot b ob q n hb hx
 .exact{ob.slots,u.keep b ob q n hb hx}
theorem Un.kept(k:∀b u,h.get? b=AA u->h'.get? b=AA u):Un fs ex H H h h' :=
 {λb ob q _ _ _=>k b ob q,λb ob q _ _ _=>{ob.slots,k b ob q},λ_ _ _ n _=>n,λb ob q _=>{ob,k b ob q},λ_ _ q=>q,λ_ _ _ q=>q,λ_ _ ps q=>{#[],by rw[q];simp}}
theorem Un.refl:Un fs ex H H h h:=Un.kept λ_ _ q=>q
theorem Un.laid(k:∀b u,h.get? b=AA u->h'.get? b=AA u)(hp:h.objs.size<=a)(hn:H a=AI):Un fs ex H (DU H a o) h h' where
 keep:=λb u q _ _ _=>k b u q
 slot:=λb u q _ _ _=>{u.slots,k b u q}
 free:=λb u q n _=>by rw[EL (B0 (AN (A8 q) hp))];exact n
 there:=λb u q _=>{u,k b u q}
 tups:=λb xs q=>by rw[EL (T4 q hn)];exact q
 frzs:=λb u xs q=>by rw[EL (T4 q hn)];exact q
 tbls:=λb t ps q=>{#[],by rw[EL (T4 q hn),q];simp}
theorem Un.write(mu:sL (H x))(he:e=x\/H e=AA (.own x))(k:∀b u,b≠e->h.get? b=AA u->h'.get? b=AA u)(p9:∃u,h'.get? e=AA u):Un fs ex H (DU H x o) h h':=by
 have hx:∀b,H b=AI->b≠x:=λb n z=>by subst z;rw[n] at mu;exact mu
 have hb:∀b,H b=AI->b≠e:=λb n z=>by
  subst z;rcases he with r|r
  .exact hx b n r
  .rw[n] at r;cases r
 have hm:∀b u,H b=AA u->¬sL (AA u)->b≠x:=λb u q nm z=>by subst z;rw[q] at mu;exact nm mu
 refine{λb u q n _ _=>k b u (hb b n) q,λb u q n _ _=>{u.slots,k b u (hb b n) q},λb u q n _=>by rw[EL (hx b n)];exact n,λb u q _=>?_,
  λb xs q=>by rw[EL (hm b _ q λz=>z)];exact q,λb u xs q=>by rw[EL (hm b _ q λz=>z)];exact q,λb t ps q=>{#[],by rw[EL (hm b _ q λz=>z),q];simp}}
 by_cases nK:b=e
 .subst nK;exact p9
 .exact{u,k b u nK q}
end
noncomputable def yS(h:DZ)(H:Hp):List AQ:=(C9 h.objs.size).filter λa=>(H a).isSome
def dP(h:DZ)(H:Hp):DZ:=IQ h (yS h H)
theorem zPO(h:DZ)(H:Hp):(dP h H).objs.size=h.objs.size:=PySem.W.hideAll_size _ _
theorem zSU{b:AQ}{o:HL}(e:h.get? b=AA o)(n:H b=AI):(dP h H).get? b=AA o :=
 NV _ e λhm=>by
  have q:(H b).isSome=AL:=(DP.mp hm).2;rw[n] at q;simp at q
theorem zWU{b:AQ}{o:HL}(e:(dP h H).get? b=AA o):h.get? b=AA o/\H b=AI:=by
 have e':h.get? b=AA o:=X0 (yS h H) e;refine{e',?_}
 cases q:H b with
 |none=>rfl
 |some x =>
  have hm:b∈yS h H:=DP.mpr {HA.mpr (A8 e'),by simp[q]};have z:(dP h H).get? b=AI:=PySem.W.hideAll_none (yS h H) hm;rw[z] at e;cases e
noncomputable def rN(g h:DZ)(L:AQ):List (AQ×HL):=(C9 h.objs.size).filterMap λa=>if a=L\/(g.get? a).isSome=AL then AI else(h.get? a).map λo=>(a,o)
theorem zL8{g:DZ}{L:AQ}{o:HL}(h1:a≠L)(h2:g.get? a=AI)(h3:h.get? a=AA o):(a,o)∈rN g h L :=
 HH.mpr {a,HA.mpr (A8 h3),by simp[h1,h2,h3]}
theorem zG7{g:DZ}{L:AQ}{p:AQ×HL}(hp:p∈rN g h L):p.1≠L/\g.get? p.1=AI/\h.get? p.1=AA p.2:=by
 obtain⟨b,_,e⟩:=HH.mp hp;split at e
 .cases e
 .rename_i hn
  cases q:h.get? b with
  |none=>rw[q] at e;simp at e
  |some u =>
   rw[q] at e;simp only[GK,VN] at e;subst e;refine{λz=>hn (.inl z),?_,q};show g.get? b=AI
   cases r:g.get? b with
   |none=>rfl
   |some v=>exact(hn (.inr (by simp[r]))).elim
def rest(g h:DZ)(L d:AQ):List (AQ×HL):=(rN g h L).filter λp=>decide (p.1≠d)
theorem zSV{g:DZ}{L:AQ}:News g L h (rN g h L):=λp hp=>let ⟨a,b,c⟩:=zG7 hp;{c,a,b}
structure Mod(K:AC)(mg:CK->Option AH)(base:DZ):Prop where
 kin:K.In base
 glob:base.Ns BL mg
 blt:∃mb,base.Ns MH mb/\∀x:CK,x≠"__name__"->mb x=GD x
 nolimit:base.NoLimit
 bmain:∃bm ob,mg "__builtins__"=AA (.ref bm)/\bm≠MH/\base.get? bm=AA ob/\ob.cls=.type "module"/\ob.dict=AA MH/\ob.data=.plain
structure Cx where
 prog:CI
 w:DY
 K:AC
 mg:CK->Option AH
 base:DZ
 A:DJ
 N:List CK
 s₀:AT
 H₀:Hp
 env:WK
 outer:List WK
 stack:List WK
 ex:List AQ
 fn:CK->Bool
 calm:Bool
 pn:List (AQ×HL)
 xe:AH->AT->Prop
def QU(l:List WK):List AQ:=l.filterMap (·.frame)
abbrev Cx.fs(X:Cx):List AQ:=QU X.outer
def ZA(sc:M1)(x:CK):Prop:=sc.names.lookup x=AA .local\/sc.names.lookup x=AA .cell\/sc.names.lookup x=AA .free
def Loc(sc:M1)(x:CK):Prop:=sc.names.lookup x=AA .local\/sc.names.lookup x=AA .cell
def Ti(env:WK)(h:DZ)(m:CK->Option AH)(x:CK)(u:AH):Prop :=
 (env.kindOf x=AA .local/\m x=AA u)\/((env.kindOf x=AA .cell\/env.kindOf x=AA .free)/\∃c,env.cells.lookup x=AA c/\h.IsCell c (AA u))
noncomputable def gD:List CK:=["holders","_law_table","_law_back","_law_kept_right","law"]
def TB(K:AC)(T:AQ)(q:CK):Prop:=∃x c,x∈gD/\EI K x=AA (c,T)/\q=x++(".<locals>.<lambda>":CK)
structure Cx.Ok(X:Cx):Prop where
 tab:∀T q,TB X.K T q->∃ps,X.H₀ T=AA (.tbl q ps)
 mod:Mod X.K X.mg X.base
 kind:X.env.scope.kind=.function
 glob:X.env.globals=BL
 blt:X.env.builtins=MH
 above:X.s₀.heap.objs.size<=X.env.locals
 inj:∀x y c,X.env.cells.lookup x=AA c->X.env.cells.lookup y=AA c->x=y
 has:∀x,(X.env.kindOf x=AA .cell\/X.env.kindOf x=AA .free)->∃c,X.env.cells.lookup x=AA c
 cab:∀x c,X.fn x=AL->X.env.cells.lookup x=AA c->X.s₀.heap.objs.size<=c
 hd:X.calm=AL->X.A.handled=AI
 frames:X.A.frames=AA X.stack
 stk:X.stack=X.outer\/(X.stack=X.env::X.outer/\X.env.frame=AA X.env.locals)
 exf:∀b∈X.ex,b≠X.env.locals/\∀x c,X.env.cells.lookup x=AA c->c≠b
 bs:∀b o,X.base.get? b=AA o->X.s₀.heap.get? b=AA o/\X.H₀ b=AI
 bsz:X.base.objs.size<=X.s₀.heap.objs.size
 noex:∀b o,X.base.get? b=AA o->b∉X.ex
 exfs:∀b∈X.ex,b∉X.fs
 funs:X.s₀.heap.FunFrames X.base X.outer
 frf:∀b∈X.fs,X.H₀ b=AI
structure Inv(X:Cx)(AE:List (AQ×HL))(σ:List (Option V))(H:Hp)(s:AT):Prop where
 ok:X.Ok
 os:s.os=X.s₀.os
 bare:M5 s.gens
 base:Un X.fs X.ex X.H₀ H X.s₀.heap s.heap
 loc:∃m,s.heap.Ns X.env.locals m/\∀(i:Nat) (x:CK) (v:V),X.N[i]?=AA x->σ[i]?=AA (AA v)->ZA X.env.scope x->∃u,RelV v u/\Ti X.env s.heap m x u
 cell:∀x c,X.env.cells.lookup x=AA c->∃v,s.heap.IsCell c v
 free:H X.env.locals=AI
 freeC:∀x c,X.env.cells.lookup x=AA c->H c=AI
 pin:∀p∈X.pn++AE,s.heap.get? p.1=AA p.2/\H p.1=AI/\p.1≠X.env.locals/\p.1∉X.fs/\∀v,p.2.data≠.cell v
 hok:HOk X.prog X.w H s.heap
 len:σ.length=X.N.length
variable{X:Cx}{v:V}{σ:List (Option V)}
theorem Cx.Ok.nofr(ok:X.Ok){b:AQ}{o:HL}(e:X.base.get? b=AA o):b∉X.fs:=λhb=>by
 have:=(ok.funs.mem hb).1;rw[e] at this;cases this
theorem Inv.bs(I:Inv X AE σ H s):∀b o,X.base.get? b=AA o->s.heap.get? b=AA o/\H b=AI:=λb o e =>
 {I.base.keep b o (I.ok.bs b o e).1 (I.ok.bs b o e).2 (I.ok.nofr e) (I.ok.noex b o e),I.base.free b o (I.ok.bs b o e).1 (I.ok.bs b o e).2 (I.ok.noex b o e)}
theorem Inv.bk(I:Inv X AE σ H s):∀b o,X.base.get? b=AA o->s.heap.get? b=AA o:=λb o e=>(I.bs b o e).1
theorem Inv.tab(I:Inv X AE σ H s):∀T q,TB X.K T q->∃ps,H T=AA (.tbl q ps):=λT q b=>by
 obtain⟨ps,e⟩:=I.ok.tab T q b;obtain⟨m,e'⟩:=I.base.tbls T q ps e;exact{_,e'}
theorem Inv.mod(I:Inv X AE σ H s):Mod X.K X.mg X.base:=I.ok.mod
theorem Inv.kIn(I:Inv X AE σ H s):X.K.In s.heap:=I.ok.mod.kin.keeps I.bk
theorem Inv.nolimit(I:Inv X AE σ H s):s.heap.NoLimit:=I.ok.mod.nolimit.keeps I.bk
theorem Inv.fr(I:Inv X AE σ H s):∃m,Fr X.base X.env.locals s.heap m :=
 let ⟨m,hn,_⟩:=I.loc
 {m,hn,I.bk,AY I.ok.bsz I.ok.above}
theorem Inv.lt(I:Inv X AE σ H s):X.env.locals<s.heap.objs.size:=let ⟨_,hn,_⟩:=I.loc;hn.lt
theorem Inv.sz(I:Inv X AE σ H s):X.s₀.heap.objs.size<=s.heap.objs.size:=AY I.ok.above (CN I.lt)
theorem Inv.nofs(I:Inv X AE σ H s)(h:s.heap.objs.size<=a):a∉X.fs:=λhb=>by
 obtain⟨_,o,ho,_⟩:=I.ok.funs.mem hb;exact absurd (AN (A8 ho) (AY I.sz h)) (GB _)
theorem Inv.cne(I:Inv X AE σ H s):∀x c,X.env.cells.lookup x=AA c->c≠X.env.locals:=λx c e z=>by
 obtain⟨v,o,ho,hd⟩:=I.cell x c e;obtain⟨m,⟨o',es,ep,eQ,vE,_⟩,_⟩:=I.loc;rw[z,eQ] at ho;cases ho;rw[vE] at hd;cases hd
theorem Inv.funs(I:Inv X AE σ H s):s.heap.FunFrames X.base X.outer:=by
 have all:∀(l:List WK),(∀b∈QU l,b∈X.fs)->X.s₀.heap.FunFrames X.base l->s.heap.FunFrames X.base l:=by
  intro l
  induction l with
  |nil=>intro _ _;trivial
  |cons env r ih =>
   intro hs hl;obtain⟨hk,⟨L,o,hf,hn,ho,hd⟩,hr⟩:=hl;have hL:L∈X.fs:=hs L (by unfold QU;rw[E7,hf];exact BB);obtain⟨sl,e⟩:=I.base.slot L o ho (I.ok.frf L hL) hL λz=>I.ok.exfs L z hL;exact{hk,{L,_,hf,hn,e,hd},ih (λb hb=>hs b (by unfold QU;rw[E7,hf];exact A7 _ hb)) hr}
 exact all X.outer (λ_ hb=>hb) I.ok.funs
theorem Inv.stack(I:Inv X AE σ H s):s.heap.FunFrames X.base X.stack:=by
 rcases I.ok.stk with e|⟨e,hf⟩
 .rw[e];exact I.funs
 .rw[e]
  obtain⟨m,hn,_⟩:=I.loc;refine .cons (by rw[I.ok.kind];decide) hf hn ?_ I.funs;exact YT (AY I.ok.bsz I.ok.above)
theorem Inv.stkSub(I:Inv X AE σ H s):∀b∈QU X.stack,b∈X.env.locals::X.fs:=λb hb=>by
 rcases I.ok.stk with e|⟨e,hf⟩
 .rw[e] at hb;exact A7 _ hb
 .rw[e] at hb
  unfold QU at hb;rw[E7,hf] at hb;exact hb
theorem Inv.stkFree(I:Inv X AE σ H s):∀b∈QU X.stack,H b=AI:=λb hb=>by
 rcases BD.mp (I.stkSub b hb) with e|hb
 .rw[e];exact I.free
 .obtain⟨_,o,ho,_⟩:=I.ok.funs.mem hb
  exact I.base.free b o ho (I.ok.frf b hb) λz=>I.ok.exfs b z hb
theorem Inv.step{g':Array GenState}{d':Drawn}(I:Inv X AE σ H s)
  (eU:∀b∈ch,(b∈X.ex\/X.s₀.heap.objs.size<=b)/\b≠X.env.locals/\(∀x c,X.env.cells.lookup x=AA c->c≠b)/\∀p∈X.pn++AE,p.1≠b)
  (keep:∀b o,b≠X.env.locals->b∉X.fs->b∉ch->s.heap.get? b=AA o->H b=AI->h'.get? b=AA o)
  (slot:∀b o,b≠X.env.locals->b∈X.fs->b∉ch->s.heap.get? b=AA o->H b=AI->∃sl,h'.get? b=AA { o with slots:=sl }) (free:∀b o,b∉ch->s.heap.get? b=AA o->H b=AI->H' b=AI)
  (there:∀b o,b∉ch->s.heap.get? b=AA o->∃o',h'.get? b=AA o')
  (tups:∀b xs,H b=AA (.tup xs)->H' b=AA (.tup xs)) (frzs:∀b o u,H b=AA (.frz o u)->H' b=AA (.frz o u)) (tbls:∀b t ps,H b=AA (.tbl t ps)->∃QH,H' b=AA (.tbl t (ps++QH)))
  (ns:∀m,s.heap.Ns X.env.locals m->h'.Ns X.env.locals m) (hok:HOk X.prog X.w H' h') (hg:M5 g') :
  Inv X AE σ H' { s with heap:=h',gens:=g',drawn:=d',toks:=t' }:=by
 have Wm:∀b o,X.s₀.heap.get? b=AA o->b≠X.env.locals:=λb o e=>B0 (AN (A8 e) I.ok.above)
 have zN:∀b o,X.s₀.heap.get? b=AA o->b∉X.ex->b∉ch:=λb o e hx hb=>by
  rcases(eU b hb).1 with z|z
  .exact hx z
  .exact absurd (AN (A8 e) z) (GB _)
 have kI:∀x c,X.env.cells.lookup x=AA c->∀v,s.heap.IsCell c v->h'.IsCell c v:=λx c e v q0=>by
  obtain⟨o,ho,hd⟩:=q0;have t8:c∉ch:=λz=>(eU c z).2.2.1 x c e rfl
  by_cases hc:c∈X.fs
  .obtain⟨sl,q⟩:=slot c o (I.cne x c e) hc t8 ho (I.freeC x c e)
   exact{_,q,hd}
  .exact{o,keep c o (I.cne x c e) hc t8 ho (I.freeC x c e),hd}
 refine{I.ok,I.os,hg,{λb o e n hb hx=>?_,λb o e n hb hx=>?_,λb o e n hx=>?_,λb o e hx=>?_,λb xs e=>tups b xs (I.base.tups b xs e),λb o xs e=>frzs b o xs (I.base.frzs b o xs e),λb t ps e=>?_},?_,λx c e=>?_,?_,λx c e=>?_,λp hp=>?_,hok,I.len}
 .exact keep b o (Wm b o e) hb (zN b o e hx) (I.base.keep b o e n hb hx) (I.base.free b o e n hx)
 .obtain⟨sl,e1⟩:=I.base.slot b o e n hb hx
  obtain⟨sY,e2⟩:=slot b _ (Wm b o e) hb (zN b o e hx) e1 (I.base.free b o e n hx);exact{sY,e2}
 .obtain⟨o',e1⟩:=I.base.there b o e hx
  exact free b o' (zN b o e hx) e1 (I.base.free b o e n hx)
 .obtain⟨o',e1⟩:=I.base.there b o e hx
  exact there b o' (zN b o e hx) e1
 .obtain⟨m1,e1⟩:=I.base.tbls b t ps e
  obtain⟨m2,e2⟩:=tbls b t _ e1;exact{m1++m2,by rw[e2,Array.append_assoc]}
 .obtain⟨m,hn,hl⟩:=I.loc
  refine{m,ns m hn,λi x v e1 e2 e3=>?_};obtain⟨u,r,l⟩:=hl i x v e1 e2 e3;refine{u,r,?_};rcases l with l|⟨k,c,e,z⟩
  .exact .inl l
  .exact .inr {k,c,e,kI x c e _ z}
 .obtain⟨v,z⟩:=I.cell x c e
  exact{v,kI x c e v z}
 .obtain⟨m,⟨o,_,_,ho,_⟩,_⟩:=I.loc
  exact free _ o (λz=>(eU _ z).2.1 rfl) ho I.free
 .obtain⟨v,o,ho,hd⟩:=I.cell x c e
  exact free c o (λz=>(eU c z).2.2.1 x c e rfl) ho (I.freeC x c e)
 .obtain⟨e,n,ne,nf,d⟩:=I.pin p hp
  have t8:p.1∉ch:=λz=>(eU p.1 z).2.2.2 p hp rfl;exact{keep p.1 p.2 ne nf t8 e n,free p.1 p.2 t8 e n,ne,nf,d}
theorem Inv.un(I:Inv X AE σ H s)(u:Un X.fs [] H H' s.heap h')(hok:HOk X.prog X.w H' h'):Inv X AE σ H' { s with heap:=h',toks:=t' }:=by
 obtain⟨m,⟨o,es,ep,ho,r⟩,_⟩:=id I.loc;obtain⟨sl,hL⟩:=u.any ho I.free 's'
 exact I.step (g':=s.gens) (d':=s.drawn) (ch:=[]) (λ_ z=>nomatch z) (λb o _ hb _ e n=>u.keep b o e n hb 's') (λb o _ hb _ e n=>u.slot b o e n hb 's') (λb o _ e n=>u.free b o e n 's') (λb o _ e=>u.there b o e 's') u.tups u.frzs u.tbls (λm' hm=>by
  obtain⟨o',kC,kD,eQ,r'⟩:=hm;rw[ho] at eQ;cases eQ
  exact{_,kC,kD,hL,r'}) hok I.bare
theorem Inv.call{g':Array GenState}{d':Drawn}(I:Inv X AE σ H s)(u:Un (QU X.stack) ch H H' s.heap h')(hok:HOk X.prog X.w H' h')(hg:M5 g')
  (eU:∀b∈ch,(b∈X.ex\/X.s₀.heap.objs.size<=b)/\b≠X.env.locals/\(∀x c,X.env.cells.lookup x=AA c->c≠b)/\∀p∈X.pn++AE,p.1≠b) :
  Inv X AE σ H' { s with heap:=h',gens:=g',drawn:=d',toks:=t' }:=by
 obtain⟨m,⟨o,es,ep,ho,r⟩,_⟩:=id I.loc;obtain⟨sl,hL⟩:=u.any ho I.free λz=>(eU _ z).2.1 rfl
 exact I.step (ch:=ch) eU (λb o hL hb hc e n=>u.keep b o e n (λz=>(BD.mp (I.stkSub b z)).elim hL hb) hc) (λb o _ _ hc e n=>u.any e n hc) (λb o hc e n=>u.free b o e n hc) (λb o hc e=>u.there b o e hc) u.tups u.frzs u.tbls (λm' hm=>by
  obtain⟨o',kC,kD,eQ,r'⟩:=hm;rw[ho] at eQ;cases eQ
  exact{_,kC,kD,hL,r'}) hok hg
theorem Inv.turned(I:Inv X AE σ H s)(k:∀b o,b≠it->s.heap.get? b=AA o->h'.get? b=AA o)(hn:H it=AI)(hL:it≠X.env.locals)
  (h1:it∈X.ex\/X.s₀.heap.objs.size<=it) (h2:∀x c,X.env.cells.lookup x=AA c->c≠it) (h3:∀p∈X.pn++AE,p.1≠it):Inv X AE σ H { s with heap:=h',toks:=t' }:=by
 have t7:∀b u,H b=AA u->b≠it:=λb u e z=>by rw[z,hn] at e;cases e
 refine I.step (g':=s.gens) (d':=s.drawn) (ch:=[it]) (λb hb=>?_) (λb o _ _ hc e _=>k b o (λz=>hc (by simp[z])) e) (λb o _ _ hc e _=>{o.slots,k b o (λz=>hc (by simp[z])) e}) (λ_ _ _ _ n=>n)
  (λb o hc e=>{o,k b o (λz=>hc (by simp[z])) e}) (λ_ _ e=>e) (λ_ _ _ e=>e) (λb t ps e=>{#[],by rw[e];simp}) (λm hm=>?_) (λb u e=>?_) I.bare
 .have e:b=it:=by simpa using hb
  subst e;exact{h1,hL,h2,h3}
 .obtain⟨o,es,ep,ho,r⟩:=hm
  exact{o,es,ep,k _ o (FH hL) ho,r}
 .refine(I.hok b u e).stay (λc v hc q=>k c v ?_ q) (λ_ q=>q) (λ_ _ q=>q) λ_ _ _ q=>q
  rcases hc with z|z
  .rw[z];exact t7 b u e
  .exact t7 c _ z
theorem Inv.tok(I:Inv X AE σ H s)(t:Nat):Inv X AE σ H { s with toks:=t }:=I.un (h':=s.heap) (t':=t) Un.refl I.hok
theorem Inv.kept{t':Nat}(I:Inv X AE σ H s)(k:∀b u,s.heap.get? b=AA u->h'.get? b=AA u):Inv X AE σ H { s with heap:=h',toks:=t' }:=I.un (Un.kept k) (I.hok.kept k)
theorem Inv.laid{a:AQ}{o:HO}{t':Nat}(I:Inv X AE σ H s)(k:∀b u,s.heap.get? b=AA u->h'.get? b=AA u)(hp:s.heap.objs.size<=a)(new:ObjOk X.prog X.w (DU H a o) h' a o) :
  Inv X AE σ (DU H a o) { s with heap:=h',toks:=t' }:=I.un (Un.laid k hp (I.hok.fresh hp)) (I.hok.laid k hp new)
theorem Inv.write{x e:AQ}{o:HO}{t':Nat}(I:Inv X AE σ H s)(mu:sL (H x))(he:e=x\/H e=AA (.own x))(k:∀b u,b≠e->s.heap.get? b=AA u->h'.get? b=AA u)(p9:∃u,h'.get? e=AA u)
  (new:ObjOk X.prog X.w (DU H x o) h' x o):Inv X AE σ (DU H x o) { s with heap:=h',toks:=t' }:=I.un (Un.write mu he k p9) (I.hok.write mu he k p9 new)
theorem Inv.weak{σ':List (Option V)}(I:Inv X AE σ H s)(hl:σ'.length=σ.length)(w:∀(i:Nat) v,σ'[i]?=AA (AA v)->σ[i]?=AA (AA v)):Inv X AE σ' H s :=
 {I.ok,I.os,I.bare,I.base,let ⟨m,hn,nC⟩:=I.loc;{m,hn,λi x v e1 e2 e3=>nC i x v e1 (w i v e2) e3},I.cell,I.free,I.freeC,I.pin,I.hok,hl.trans I.len}
theorem Inv.pins_of{pins':List (AQ×HL)}(I:Inv X AE σ H s)(h:∀p∈pins',s.heap.get? p.1=AA p.2/\H p.1=AI/\p.1≠X.env.locals/\p.1∉X.fs/\∀v,p.2.data≠.cell v):Inv X pins' σ H s :=
 {I.ok,I.os,I.bare,I.base,I.loc,I.cell,I.free,I.freeC,λp hp=>(BY.mp hp).elim (λz=>I.pin p (DB _ z)) (h p),I.hok,I.len}
theorem xH(hN:N.Nodup)(a:N[i]?=AA x)(b:N[j]?=AA x):i=j:=by
 obtain⟨h1,e1⟩:=AR.mp a;obtain⟨h2,e2⟩:=AR.mp b;exact(List.getElem_inj hN).mp (e1.trans e2.symm)
theorem Df{Q:Unit->AT->Prop}(I:Inv X AE σ H s)(hN:X.N.Nodup)(hi:X.N[i]?=AA x)(hx:Loc X.env.scope x)(r:RelV v u)
  (h:∀s',Inv X AE (σ.set i (AA v)) H s'->(∃a,DG a s.heap s'.heap/\(a=X.env.locals\/X.env.cells.lookup x=AA a))->Q () s') (hf:X.fn x=AL\/X.env.scope.names.lookup x=AA .local:=by first|exact .inl rfl|exact .inr rfl|assumption):AZ M A (storeName X.env x u) Q E s:=by
 obtain⟨m,hn,hl⟩:=id I.loc;have Jw:(X.env.scope.kind==.class||(X.env.scope.kind==.module&&X.env.locals != X.env.globals))=AD:=by rw[I.ok.kind];rfl
 have hiσ:i < σ.length:=by rw[I.len];exact(AR.mp hi).1
 have Ks:=I.cne
 have UJ:∀{a:AQ} {h':DZ},(∃o,s.heap.get? a=AA o/\H a=AI)->DG a s.heap h'->HOk X.prog X.w H h':=λ{a h'} ha hs b ob e=>by
  obtain⟨_,_,j6⟩:=ha;refine(I.hok b ob e).stay (λc w' hc q=>(hs.2 c ?_).trans q) (λ_ q=>q) (λ_ _ q=>q) λ_ _ _ q=>q;rintro rfl;rcases hc with rfl|hc
  .rw[j6] at e;cases e
  .rw[j6] at hc;cases hc
 rcases hx with hk|hk
 .refine wpAny_storeName_local hk hn (λh' Iw hs=>?_) Jw
  obtain⟨oL,_,_,jZ,_⟩:=id hn;refine h _ {I.ok,I.os,I.bare,{λb o e n hb hx=>?_,λb o e n hb hx=>?_,I.base.free,λb o e hx=>?_,I.base.tups,I.base.frzs,I.base.tbls},{_,Iw,λj y v' e1 e2 e3=>?_},λy c e=>?_,I.free,I.freeC,λp hp=>?_,UJ {oL,jZ,I.free} hs,by simpa using I.len} {_,hs,.inl rfl}
  .exact(hs.2 b (B0 (AN (A8 e) I.ok.above))).trans (I.base.keep b o e n hb hx)
  .obtain⟨sl,e1⟩:=I.base.slot b o e n hb hx
   exact{sl,(hs.2 b (B0 (AN (A8 e) I.ok.above))).trans e1}
  .obtain⟨o',e1⟩:=I.base.there b o e hx
   exact{o',(hs.2 b (B0 (AN (A8 e) I.ok.above))).trans e1}
  .by_cases hj:j=i
   .subst hj
    rw[hi] at e1;cases e1;rw[BF hiσ] at e2;cases e2;exact{u,r,.inl {hk,by simp}}
   .rw[A4 (FH hj)] at e2
    obtain⟨u',r',q⟩:=hl j y v' e1 e2 e3;refine{u',r',?_};rcases q with⟨k,e⟩|⟨k,c,e,z⟩
    .refine .inl {k,?_}
     have:y≠x:=λe=>hj (xH hN e1 (e▸hi));simp[this,e]
    .exact .inr {k,c,e,z.sameBut hs (Ks y c e)}
  .obtain⟨w',z⟩:=I.cell y c e
   exact{w',z.sameBut hs (Ks y c e)}
  .obtain⟨e,n,ne,nf,d⟩:=I.pin p hp
   exact{(hs.2 p.1 ne).trans e,n,ne,nf,d}
 .have Jm:X.fn x=AL:=by
   rcases hf with z|z
   .exact z
   .rw[z] at hk;cases hk
  obtain⟨c,hc⟩:=I.ok.has x (.inl hk);obtain⟨w',z⟩:=I.cell x c hc;refine wpAny_storeName_cell I.ok.kind hk hc z (λh' YL hs=>?_);obtain⟨oc,g7,Iu⟩:=id z;refine h { s with heap:=h' } {I.ok,I.os,I.bare,{λb o e n hb hx=>?_,λb o e n hb hx=>?_,I.base.free,λb o e hx=>?_,I.base.tups,I.base.frzs,I.base.tbls},{m,hn.sameBut hs (FH (Ks x c hc)),λj y v' e1 e2 e3=>?_},λy c' e=>?_,I.free,I.freeC,λp hp=>?_,UJ {oc,g7,I.freeC x c hc} hs,by simpa using I.len} {c,hs,.inr hc}
  .exact(hs.2 b (B0 (AN (A8 e) (I.ok.cab x c Jm hc)))).trans (I.base.keep b o e n hb hx)
  .obtain⟨sl,e1⟩:=I.base.slot b o e n hb hx
   exact{sl,(hs.2 b (B0 (AN (A8 e) (I.ok.cab x c Jm hc)))).trans e1}
  .obtain⟨o',e1⟩:=I.base.there b o e hx
   exact{o',(hs.2 b (B0 (AN (A8 e) (I.ok.cab x c Jm hc)))).trans e1}
  .by_cases hj:j=i
   .subst hj
    rw[hi] at e1;cases e1;rw[BF hiσ] at e2;cases e2;exact{u,r,.inr {.inl hk,c,hc,YL}}
   .rw[A4 (FH hj)] at e2
    obtain⟨u',r',q⟩:=hl j y v' e1 e2 e3;refine{u',r',?_};rcases q with q|⟨k,c',e,z'⟩
    .exact .inl q
    .refine .inr {k,c',e,z'.sameBut hs ?_}
     rintro rfl;exact hj (xH hN e1 (I.ok.inj _ _ _ e hc▸hi))
  .by_cases zX:c'=c
   .subst zX;exact{_,YL}
   .obtain⟨w2,z2⟩:=I.cell y c' e
    exact{w2,z2.sameBut hs zX}
  .obtain⟨e,n,ne,nf,d⟩:=I.pin p hp
   refine{(hs.2 p.1 ?_).trans e,n,ne,nf,d};intro q;rw[q,g7] at e;have q':oc=p.2:=BK e;exact d w' (by rw[<-q'];exact Iu)
theorem xG{Q:Unit->AT->Prop}(I:Inv X AE σ H s)(hN:X.N.Nodup)(hi:X.N[i]?=AA x)(hx:Loc X.env.scope x)(r:RelV v u)
  (h:∀s',Inv X AE (σ.set i (AA v)) H s'->Q () s') (hf:X.fn x=AL\/X.env.scope.names.lookup x=AA .local:=by first|exact .inl rfl|exact .inr rfl|assumption):AZ M A (storeName X.env x u) Q E s :=
 Df I hN hi hx r (λs' I' _=>h s' I') hf
theorem Inv.call'(I:Inv X AE σ H s)(ho:s'.os=s.os)(u:Un (QU X.stack) ch H H' s.heap s'.heap)(hok:HOk X.prog X.w H' s'.heap)(hg:M5 s'.gens)
  (eU:∀b∈ch,(b∈X.ex\/X.s₀.heap.objs.size<=b)/\b≠X.env.locals/\(∀x c,X.env.cells.lookup x=AA c->c≠b)/\∀p∈X.pn++AE,p.1≠b):Inv X AE σ H' s':=by
 obtain⟨h',g',d',t',o'⟩:=s';have e:o'=s.os:=ho;subst e;exact I.call (g':=g') (t':=t') (d':=d') u hok hg eU
abbrev XK:=AH->Option AQ->Hp->Prop
abbrev St:=List (Option V)
abbrev VK:=V->Hp->Prop
abbrev TE:=St->Hp->VK->Prop
abbrev TT:=St->Hp->(Bool->Hp->Prop)->Prop
abbrev TA:=St->Hp->(List V->Hp->Prop)->Prop
structure Ends where
 nx:St->Hp->Prop
 rt:VK
 bk:St->Hp->Prop:=λ_ _=>False
 ct:St->Hp->Prop:=λ_ _=>False
abbrev TS:=Ends->St->Hp->Prop
def EP(X:Cx)(AE:List (AQ×HL))(σ:St)(Q:VK)(u:AH)(s':AT):Prop:=∃v H',Inv X AE σ H' s'/\RelV v u/\Q v H'
def TP(X:Cx)(AE:List (AQ×HL))(σ:St)(Q:Bool->Hp->Prop)(b:Bool)(s':AT):Prop:=∃H',Inv X AE σ H' s'/\Q b H'
def AP(X:Cx)(AE:List (AQ×HL))(σ:St)(Q:List V->Hp->Prop)(us:List AH)(s':AT):Prop:=∃vs H',Inv X AE σ H' s'/\Vals vs us/\Q vs H'
def SP(X:Cx)(AE:List (AQ×HL))(D:Ends)(f:Flow)(s':AT):Prop :=
 match f with
 |.next=>∃σ' H',Inv X AE σ' H' s'/\D.nx σ' H'
 |.brk=>∃σ' H',Inv X AE σ' H' s'/\D.bk σ' H'
 |.cont=>∃σ' H',Inv X AE σ' H' s'/\D.ct σ' H'
 |.ret u=>∃v σ' H',Inv X AE σ' H' s'/\RelV v u/\D.rt v H'
def PE(X:Cx)(e:CU)(t:TE):Prop :=
 ∀(AE:List (AQ×HL)) (s:AT) (σ:St) (H:Hp) (Q:VK),Inv X AE σ H s->t σ H Q->AZ (A3 X.prog X.w) X.A (eval e X.env) (EP X AE σ Q) X.xe s
def PT(X:Cx)(e:CU)(t:TT):Prop :=
 ∀(AE:List (AQ×HL)) (s:AT) (σ:St) (H:Hp) (Q:Bool->Hp->Prop),Inv X AE σ H s->t σ H Q->AZ (A3 X.prog X.w) X.A (UX e X.env (eval e X.env)) (TP X AE σ Q) X.xe s
def PW(X:Cx)(e:CU)(t:TT):Prop :=
 ∀(RB:RQ AH) (AE:List (AQ×HL)) (s:AT) (σ:St) (H:Hp) (Q:Bool->Hp->Prop),Inv X AE σ H s->t σ H Q->AZ (A3 X.prog X.w) X.A (UX e X.env RB) (TP X AE σ Q) X.xe s
theorem PW.pt{t:TT}(h:PW X e t):PT X e t:=h _
def PA(X:Cx)(es:List CU)(t:TA):Prop :=
 ∀(pos:fD) (AE:List (AQ×HL)) (s:AT) (σ:St) (H:Hp) (Q:List V->Hp->Prop),Inv X AE σ H s->t σ H Q->AZ (A3 X.prog X.w) X.A (spliced (DH pos (AO es X.env))) (AP X AE σ Q) X.xe s
def PS(X:Cx)(st:E6)(t:TS):Prop :=
 ∀(AE:List (AQ×HL)) (s:AT) (σ:St) (H:Hp) (D:Ends),Inv X AE σ H s->t D σ H->AZ (A3 X.prog X.w) X.A (exec st X.env) (SP X AE D) X.xe s
def PSs(X:Cx)(st:List E6)(t:TS):Prop :=
 ∀(AE:List (AQ×HL)) (s:AT) (σ:St) (H:Hp) (D:Ends),Inv X AE σ H s->t D σ H->AZ (A3 X.prog X.w) X.A (execs st X.env) (SP X AE D) X.xe s
theorem GN{t:RQ α}{Q Q':α->AT->Prop}(h:AZ M A t Q E s)(hQ:∀a s,Q a s->Q' a s):AZ M A t Q' E s:=CY h hQ λ_ _ x=>x
variable{σ:St}{ta:TE}{tb:TE}
section
def ZY(i:Nat):TE:=λσ H Q=>∃v,σ[i]?=AA (AA v)/\Q v H
def tC(v:V):TE:=λ_ H Q=>Q v H
theorem fY(hN:X.N[i]?=AA x)(hv:ZA X.env.scope x)(hd:(x==("__debug__":CK))=AD:=by decide)(LR:(x==("__classdict__":CK))=AD:=by decide):PE X (.Name x pos) (ZY i):=by
 intro AE s σ H Q I h;obtain⟨v,e,h⟩:=h;obtain⟨m,hn,hl⟩:=I.loc;obtain⟨u,r,l⟩:=hl i x v hN e hv;have fin:EP X AE σ Q u s:={v,H,I,r,h};rcases l with⟨hk,hm⟩|⟨hk,c,hc,j7⟩
 .exact wpAny_Name (wpAny_loadName_local I.ok.kind hk hn hm fin) hd
 .rcases hk with hk|hk
  .exact wpAny_Name (wpAny_loadName_cell I.ok.kind hk hc j7 fin) hd
  .exact wpAny_Name (wpAny_loadName_free I.ok.kind hk hc j7 fin LR) hd
theorem lW{i j pos}:PE X (.Constant (.int i) j pos) (tC (.int i)):=λ_ _ _ H _ I h=>wpAny_Constant_int {.int i,H,I.tok _,{_,rfl},h}
theorem sE{b j pos}:PE X (.Constant (.bool b) j pos) (tC (.bl b)):=λ_ _ _ H _ I h=>Constant_bool {.bl b,H,I,rfl,h}
theorem lV{j pos}:PE X (.Constant .none j pos) (tC .non):=λ_ _ _ H _ I h=>Constant_none {.non,H,I,rfl,h}
def Gl(X:Cx)(x:CK):Prop:=X.env.kindOf x=AA .globalImplicit
theorem oQ(I:Inv X AE σ H s)(hg:Gl X x)(hm:X.mg x=AA u)(h:Q u s)
  (hd:(x==("__debug__":CK))=AD:=by decide):AZ (A3 X.prog X.w) X.A (eval (.Name x pos) X.env) Q E s :=
 SS I.ok.kind hg (Calls.loadGlobal_global (by rw[I.ok.glob];exact I.mod.glob.keeps I.bk) hm h) hd
theorem jC(I:Inv X AE σ H s)(hg:Gl X x)(hm:X.mg x=AI)(hv:GD x=AA u)(h:Q u s)
  (hn:x≠"__name__":=by decide) (hd:(x==("__debug__":CK))=AD:=by decide):AZ (A3 X.prog X.w) X.A (eval (.Name x pos) X.env) Q E s:=by
 obtain⟨mb,h1,h2⟩:=I.mod.blt;exact SS I.ok.kind hg (Calls.loadGlobal_builtin (by rw[I.ok.glob];exact I.mod.glob.keeps I.bk) hm (by rw[I.ok.blt];exact h1.keeps I.bk) ((h2 x hn).trans hv) h) hd
theorem eC(hg:Gl X x)(hm:X.mg x=AA u)(r:RelV v u)(hd:(x==("__debug__":CK))=AD:=by decide):PE X (.Name x pos) (tC v) :=
 λ_ _ _ H _ I h=>oQ I hg hm {v,H,I,r,h} hd
theorem Nz(hg:Gl X x)(hm:X.mg x=AI)(hv:GD x=AA u)(r:RelV v u)(hn:x≠"__name__":=by decide)(hd:(x==("__debug__":CK))=AD:=by decide):PE X (.Name x pos) (tC v) :=
 λ_ _ _ H _ I h=>jC I hg hm hv {v,H,I,r,h} hn hd
variable{a b:CU}{tA zI:TT}{rest:List CU}
def yGV(t u:TT):TT:=λσ H Q=>t σ H λc H1=>if c=AL then u σ H1 Q else Q AD H1
def tOr(t u:TT):TT:=λσ H Q=>t σ H λc H1=>if c=AL then Q AL H1 else u σ H1 Q
def yGW(t:TT):TT:=λσ H Q=>t σ H λc H1=>Q (!c) H1
theorem zWV(ha:PT X a tA):PW X (.BoolOp .And [a] pos) tA:=by
 intro wh AE s σ H Q I h;refine isTrue_and (GN (ha AE s σ H Q I h) λc s1 e=>?_)
 cases c with
 |true=>exact isTrue_and_nil e
 |false=>exact e
theorem yAK(ha:PT X a tA):PW X (.BoolOp .Or [a] pos) tA:=by
 intro wh AE s σ H Q I h;refine isTrue_or (GN (ha AE s σ H Q I h) λc s1 e=>?_)
 cases c with
 |false=>exact isTrue_or_nil e
 |true=>exact e
theorem yAL(ha:PT X a tA)(hb:PW X (.BoolOp .And (b::rest) pos) zI):PW X (.BoolOp .And (a::b::rest) pos) (yGV tA zI):=by
 intro wh AE s σ H Q I h;refine isTrue_and (GN (ha AE s σ H _ I h) λc s1 ⟨H1,I1,q1⟩=>?_)
 cases c with
 |true=>exact hb wh AE s1 σ H1 Q I1 q1
 |false=>exact{H1,I1,q1}
theorem yD0(ha:PT X a tA)(hb:PW X (.BoolOp .Or (b::rest) pos) zI):PW X (.BoolOp .Or (a::b::rest) pos) (tOr tA zI):=by
 intro wh AE s σ H Q I h;refine isTrue_or (GN (ha AE s σ H _ I h) λc s1 ⟨H1,I1,q1⟩=>?_)
 cases c with
 |true=>exact{H1,I1,q1}
 |false=>exact hb wh AE s1 σ H1 Q I1 q1
theorem yAM(ha:PT X a tA):PT X (.UnaryOp .Not a pos) (yGW tA):=by
 intro AE s σ H Q I h;exact isTrue_not (ha AE s σ H (λc H1=>Q (!c) H1) I h)
def yD1(ta tb:TE):TE:=λσ H Q=>ta σ H λx H1=>∃c,x=.bl c/\if c=AL then tb σ H1 Q else Q (.bl AD) H1
def yGX(ta tb:TE):TE:=λσ H Q=>ta σ H λx H1=>∃c,x=.bl c/\if c=AL then Q (.bl AL) H1 else tb σ H1 Q
def yD2(ta:TE):TE:=λσ H Q=>ta σ H λx H1=>∃c,x=.bl c/\Q (.bl (!c)) H1
theorem yAN{op}{t:TE}(h:PE X a t):PE X (.BoolOp op [a] pos) t:=λAE s σ H Q I hw=>BoolOp_one (h AE s σ H Q I hw)
theorem yAO(ha:PE X a ta)(hb:PE X (.BoolOp .And (b::rest) pos) tb):PE X (.BoolOp .And (a::b::rest) pos) (yD1 ta tb):=by
 intro AE s σ H Q I h;refine BoolOp_and (GN (ha AE s σ H _ I h) λv s1 ⟨x,H1,I1,r1,q1⟩=>?_);obtain⟨c,rfl,q1⟩:=q1;cases r1;refine IL ?_
 cases c with
 |true=>exact hb AE s1 σ H1 Q I1 q1
 |false=>exact{.bl AD,H1,I1,rfl,q1}
theorem yD3(ha:PE X a ta)(hb:PE X (.BoolOp .Or (b::rest) pos) tb):PE X (.BoolOp .Or (a::b::rest) pos) (yGX ta tb):=by
 intro AE s σ H Q I h;refine BoolOp_or (GN (ha AE s σ H _ I h) λv s1 ⟨x,H1,I1,r1,q1⟩=>?_);obtain⟨c,rfl,q1⟩:=q1;cases r1;refine IL ?_
 cases c with
 |false=>exact hb AE s1 σ H1 Q I1 q1
 |true=>exact{.bl AL,H1,I1,rfl,q1}
theorem yAP(ha:PE X a ta):PE X (.UnaryOp .Not a pos) (yD2 ta):=by
 intro AE s σ H Q I h;refine UnaryOp_ (GN (ha AE s σ H _ I h) λv s1 ⟨x,H1,I1,r1,q1⟩=>?_);obtain⟨c,rfl,q1⟩:=q1;cases r1;exact not_of (IL {.bl (!c),H1,I1,rfl,q1})
def tIf(t:TT)(ta tb:TE):TE:=λσ H Q=>t σ H λc H1=>if c=AL then ta σ H1 Q else tb σ H1 Q
theorem Pc(hc:PT X c tA)(ha:PE X a ta)(hb:PE X b tb):PE X (.IfExp c a b pos) (tIf tA ta tb):=by
 intro AE s σ H Q I h;refine wpAny_IfExp (GN (hc AE s σ H _ I h) λd s1 ⟨H1,I1,q1⟩=>?_)
 cases d with
 |true=>exact ha AE s1 σ H1 Q I1 q1
 |false=>exact hb AE s1 σ H1 Q I1 q1
end
def SqL(K:AC)(H:Hp)(a:AQ)(xs:List V):Prop :=
 Rd H a (.lst xs) \/
  ∃(o:HL) (CA:Array AH) (n:Nat),K.lookup a=AA o/\o.cls=.type "list"/\o.dict=AI/\o.data=.seq CA n/\CA.size<=sizeLine/\Vals xs CA.toList
def SqT(K:AC)(H:Hp)(a:AQ)(xs:List V):Prop :=
 Rd H a (.tup xs) \/
  ∃(o:HL) (CA:Array AH) (n:Nat),K.lookup a=AA o/\o.cls=.type "tuple"/\o.data=.seq CA n/\CA.size<=sizeLine/\Vals xs CA.toList
noncomputable def yGY:AH->Option V
 |.none=>AA .non
 |.bool b=>AA (.bl b)
 |.int i _=>AA (.int i)
 |.str x _=>AA (.str x)
 |.bytes b _=>AA (.byt b)
 |.float b _=>AA (.flt b)
 |.ref a=>AA (.ref a)
 |.type n=>AA (.ty n)
 |_=>AI
theorem RelV.abs{x:V}(r:RelV x u):yGY u=AA x:=by
 cases x with
 |non=>cases r;rfl
 |bl _=>cases r;rfl
 |int _=>obtain⟨t,rfl⟩:=r;rfl
 |str _=>obtain⟨t,rfl⟩:=r;rfl
 |byt _=>obtain⟨t,rfl⟩:=r;rfl
 |flt _=>obtain⟨t,rfl⟩:=r;rfl
 |ref _=>cases r;rfl
 |ty _=>cases r;rfl
theorem RelV.inj{x y:V}{u:AH}(r:RelV x u)(q:RelV y u):x=y:=BK (r.abs.symm.trans q.abs)
theorem Vals.inj:∀{xs ys:List V} {us:List AH},Vals xs us->Vals ys us->xs=ys
 |_,_,_,.nil,.nil=>rfl
 |_,_,_,.cons r t,.cons r' t'=>by rw[r.inj r',Vals.inj t t']
variable{xs ys:List V}
theorem SqL.of{K:AC}(h:H a=AA (.lst xs)):SqL K H a xs:=.inl (.inl h)
theorem SqT.of{K:AC}(h:H a=AA (.tup xs)):SqT K H a xs:=.inl (.inl h)
theorem Inv.list(I:Inv X AE σ H s)(h:SqL X.K H a xs):∃CA:List AH,Vals xs CA/\PlainL s.heap a CA.toArray/\xs.length<=sizeLine:=by
 rcases h with h|⟨o,CA,n,hk,hc,hd,hs,hz,r⟩
 .obtain⟨z,CA,n,r,e⟩:=h.ok I.hok
  exact{CA,r,{_,n,e,rfl,rfl,rfl},z}
 .refine{CA.toList,r,{o,n,I.kIn a o hk,hc,hd,by simpa using hs},?_}
  have e:=r.length;simp only[KL] at e;exact AY (CO e) hz
theorem Inv.tuple(I:Inv X AE σ H s)(h:SqT X.K H a xs):∃CA:List AH,Vals xs CA/\SR s.heap a CA.toArray/\xs.length<=sizeLine:=by
 rcases h with h|⟨o,CA,n,hk,hc,hs,hz,r⟩
 .obtain⟨z,CA,r,p⟩:=h.ok I.hok
  exact{CA,r,p.isTup,z}
 .refine{CA.toList,r,{o,I.kIn a o hk,hc,n,by simpa using hs},?_}
  have e:=r.length;simp only[KL] at e;exact AY (CO e) hz
theorem Inv.list_inj(I:Inv X AE σ H s)(h:SqL X.K H a xs)(h':SqL X.K H a ys):xs=ys:=by
 obtain⟨CA,r,⟨o,n,e,_,_,d⟩,_⟩:=I.list h;obtain⟨NQ,r',⟨o',n',e',_,_,d'⟩,_⟩:=I.list h';rw[e] at e';cases e';rw[d] at d';injection d' with d1 _;have:CA=NQ:=by simpa using congrArg Array.toList d1
 subst this;exact r.inj r'
theorem Inv.tuple_inj(I:Inv X AE σ H s)(h:SqT X.K H a xs)(h':SqT X.K H a ys):xs=ys:=by
 obtain⟨CA,r,⟨o,e,_,n,d⟩,_⟩:=I.tuple h;obtain⟨NQ,r',⟨o',e',_,n',d'⟩,_⟩:=I.tuple h';rw[e] at e';cases e';rw[d] at d';injection d' with d1 _;have:CA=NQ:=by simpa using congrArg Array.toList d1
 subst this;exact r.inj r'
abbrev Cx.wish(X:Cx)(E:AH->AT->Prop):Cx:={ X with xe:=E }
abbrev Cx.nox(X:Cx):Cx:=X.wish λ_ _=>False
theorem Cx.Ok.wish{X:Cx}(ok:X.Ok)(E:AH->AT->Prop):(X.wish E).Ok :=
 {ok.tab,ok.mod,ok.kind,ok.glob,ok.blt,ok.above,ok.inj,ok.has,ok.cab,ok.hd,ok.frames,ok.stk,ok.exf,ok.bs,ok.bsz,ok.noex,ok.exfs,ok.funs,ok.frf}
theorem Cx.Ok.unwish(ok:(X.wish E).Ok):X.Ok :=
 {ok.tab,ok.mod,ok.kind,ok.glob,ok.blt,ok.above,ok.inj,ok.has,ok.cab,ok.hd,ok.frames,ok.stk,ok.exf,ok.bs,ok.bsz,ok.noex,ok.exfs,ok.funs,ok.frf}
theorem Inv.wish(I:Inv X AE σ H s)(E:AH->AT->Prop):Inv (X.wish E) AE σ H s:={I.ok.wish E,I.os,I.bare,I.base,I.loc,I.cell,I.free,I.freeC,I.pin,I.hok,I.len}
theorem Inv.unwish(I:Inv (X.wish E) AE σ H s):Inv X AE σ H s:={I.ok.unwish,I.os,I.bare,I.base,I.loc,I.cell,I.free,I.freeC,I.pin,I.hok,I.len}
theorem SP.unwish{D:Ends}{f:Flow}{s':AT}(h:SP (X.wish E) AE D f s'):SP X AE D f s':=by
 cases f with
 |next=>obtain⟨σ',H',I,q⟩:=h;exact{σ',H',I.unwish,q}
 |brk=>obtain⟨σ',H',I,q⟩:=h;exact{σ',H',I.unwish,q}
 |cont=>obtain⟨σ',H',I,q⟩:=h;exact{σ',H',I.unwish,q}
 |ret u=>obtain⟨v,σ',H',I,r,q⟩:=h;exact{v,σ',H',I.unwish,r,q}
theorem PSs.nox{st:List E6}{t:TS}(h:PSs X.nox st t):PSs X st t:=λAE s σ H D I hw =>
 CY (h AE s σ H D (I.wish _) hw) (λ_ _ q=>q.unwish) λ_ _ z=>HF z
variable{te:TE}
section
variable{st:E6}{rest:List E6}{t u:TS}
def Ut:TS:=λD σ H=>D.nx σ H
def k7(t u:TS):TS:=λD σ H=>t { D with nx:=u D } σ H
theorem T7:PSs X [] Ut:=λ_ _ σ H _ I h=>IF {σ,H,I,h}
theorem Z2(h1:PS X st t)(h2:PSs X rest u):PSs X (st::rest) (k7 t u):=by
 intro AE s σ H D I h;refine KQ (GN (h1 AE s σ H { D with nx:=u D } I h) λf s1 q=>?_)
 cases f with
 |next =>
  obtain⟨σ',H',I',q⟩:=q;exact h2 AE s1 σ' H' D I' q
 |ret v=>exact q
 |brk=>exact q
 |cont=>exact q
theorem jG(h1:PS X st t):PSs X [st] t:=by
 intro AE s σ H D I h;refine KQ (GN (h1 AE s σ H D I h) λf s1 q=>?_)
 cases f with
 |next=>exact IF q
 |ret v=>exact q
 |brk=>exact q
 |cont=>exact q
theorem Inv.quiet(I:Inv X AE σ H s):interactive X.env=AD:=by simp[interactive,I.ok.kind]
def Us(te:TE):TS:=λD σ H=>te σ H λ_ H1=>D.nx σ H1
theorem Cj(he:PE X e te)(hs:IH e AI pos.line X.env=pure AD:=by rfl):PS X (.Expr e pos) (Us te):=by
 intro AE s σ H D I h;exact wpAny_Expr_any (GN (he AE s σ H _ I h) (λv s1 q0=>by obtain⟨x,H1,I1,r1,q1⟩:=q0;exact{σ,H1,I1,q1})) I.quiet hs
def Ts(te:TE):TS:=λD σ H=>te σ H D.rt
theorem rB(he:PE X e te):PS X (.Return (AA e) pos) (Ts te):=by
 intro AE s σ H D I h;exact wpAny_Return_some (GN (he AE s σ H _ I h) (λv s1 q0=>by obtain⟨x,H1,I1,r1,q1⟩:=q0;exact{x,σ,H1,I1,r1,q1}))
def Tr(c:TT)(t u:TS):TS:=λD σ H=>c σ H λb H1=>if b=AL then t D σ H1 else u D σ H1
theorem Aq{a b:List E6}{tc:TT}(hc:PT X c tc)(ha:PSs X a t)(hb:PSs X b u):PS X (.If c a b pos) (Tr tc t u):=by
 intro AE s σ H D I h;refine wpAny_If (GN (hc AE s σ H _ I h) λd s1 ⟨H1,I1,q1⟩=>?_)
 cases d with
 |true=>exact ha AE s1 σ H1 D I1 q1
 |false=>exact hb AE s1 σ H1 D I1 q1
def Mg:TS:=λ_ _ _=>False
theorem bK:PS X st Mg:=λ_ _ _ _ _ _ h=>h.elim
theorem De{sts:List E6}:PSs X sts Mg:=λ_ _ _ _ _ _ h=>h.elim
end
abbrev TG:=V->St->Hp->(St->Hp->Prop)->Prop
abbrev gK:=List V->St->Hp->(St->Hp->Prop)->Prop
def PG(X:Cx)(PH:CU)(t:TG):Prop :=
 ∀(AE:List (AQ×HL)) (s:AT) (σ:St) (H:Hp) (v:V) (u:AH) (Q:St->Hp->Prop),Inv X AE σ H s->RelV v u->t v σ H Q ->
  AZ (A3 X.prog X.w) X.A (KR PH X.env u) (λ_ s'=>∃σ' H',Inv X AE σ' H' s'/\Q σ' H') X.xe s
def PGs(X:Cx)(ts:List CU)(t:gK):Prop :=
 ∀(AE:List (AQ×HL)) (s:AT) (σ:St) (H:Hp) (vs:List V) (us:List AH) (Q:St->Hp->Prop),Inv X AE σ H s->Vals vs us->t vs σ H Q ->
  AZ (A3 X.prog X.w) X.A (assignInOrder ((HD ts X.env).map (·.2)) us) (λ_ s'=>∃σ' H',Inv X AE σ' H' s'/\Q σ' H') X.xe s
abbrev Es:=V->V->V->Hp->(Hp->Prop)->Prop
def Tq(X:Cx)(t:Es):Prop :=
 ∀(AE:List (AQ×HL)) (s:AT) (σ:St) (H:Hp) (o i v:V) (ov iv u:AH) (Q:Hp->Prop),Inv X AE σ H s->RelV o ov->RelV i iv->RelV v u->t o i v H Q ->
  AZ (A3 X.prog X.w) X.A (setItem ov iv u) (λ_ s'=>∃H',Inv X AE σ H' s'/\Q H') X.xe s
def Z1(i:Nat):TG:=λv σ H Q=>Q (σ.set i (AA v)) H
theorem fZ(hN:X.N.Nodup)(hi:X.N[i]?=AA x)(hx:Loc X.env.scope x)(hf:X.fn x=AL\/X.env.scope.names.lookup x=AA .local:=by first|exact .inl rfl|exact .inr rfl|assumption):PG X (.Name x pos) (Z1 i):=by
 intro AE s σ H v u Q I r h;exact wpAny_assign_Name (xG I hN hi hx r (λs' I'=>{_,H,I',h}) hf)
def yGZ:gK:=λvs σ H Q=>vs=[]/\Q σ H
def yD5(t:TG)(u:gK):gK:=λvs σ H Q=>∃v r,vs=v::r/\t v σ H λσ' H'=>u r σ' H' Q
theorem T8:PGs X [] yGZ:=by
 intro AE s σ H vs us Q I r h;obtain⟨e,h⟩:=h;subst e;cases r;exact assignInOrder_nil {σ,H,I,h}
theorem rR{t:TG}{u:gK}(h1:PG X e t)(h2:PGs X es u)
  (hs:(HD (e::es) X.env).map (·.2)=KR e X.env::(HD es X.env).map (·.2):=by rfl):PGs X (e::es) (yD5 t u):=by
 intro AE s σ H vs us Q I r h;obtain⟨v,vr,e1,h⟩:=h;subst e1
 cases r with
 |cons r rr =>
  rw[hs];refine assignInOrder_cons (GN (h1 AE s σ H _ _ _ I r h) λ_ s1 ⟨σ1,H1,I1,q1⟩=>?_);exact h2 AE s1 σ1 H1 _ _ Q I1 rr q1
def yG0(K:AC)(n:Nat)(t:gK):TG:=λv σ H Q=>∃a xs,v=.ref a/\SqT K H a xs/\xs.length=n/\t xs σ H Q
theorem Bl{t:gK}(hc:X.calm=AL)(h:PGs X es t)
  (hn:(HD es X.env).length=n:=by rfl) (aB:(HD es X.env).findIdx? (·.1)=AI:=by rfl):PG X (.Tuple es k pos) (yG0 X.K n t):=by
 intro AE s σ H v u Q I r hw;obtain⟨a,xs,e1,hq,hl,hw⟩:=hw;subst e1;cases r;obtain⟨CA,rv,ht,hz⟩:=I.tuple hq;refine assign_Tuple_tuple (I.ok.hd hc) ht (by simp[hn,<-hl,rv.length]) aB λh' hx=>?_;have I1:Inv X AE σ H { s with heap:=h' }:=I.kept (t':=s.toks) λb o e=>hx b o (B0 (A8 e)) e;exact h AE _ σ H xs _ Q I1 (by simpa using rv) hw
def yG1(to ti:TE)(t:Es):TG:=λv σ H Q=>to σ H λo H1=>ti σ H1 λi H2=>t o i v H2 λH3=>Q σ H3
theorem yAS{o i:CU}{to ti:TE}{t:Es}(ho:PE X o to)(hi:PE X i ti)(hs:Tq X t)
  (ha:∀v,KR (.Subscript o i pos) X.env v=(do
   let ov <-IW [v] (eval o X.env)
   let iv <-IW [v,ov] (eval i X.env)
   IV pos
   IW [v,ov,iv] (setItem ov iv v)
   release [v,ov,iv] []):=by intro _;rfl):PG X (.Subscript o i pos) (yG1 to ti t):=by
 intro AE s σ H v u Q I r h;rw[ha];refine AB (C7 (GN (ho AE s σ H _ I h) λov s1 ⟨x,H1,I1,r1,q1⟩=>?_));refine AB (C7 (GN (hi AE s1 σ H1 _ I1 q1) λiv s2 ⟨y,H2,I2,r2,q2⟩=>?_));refine AB (IG (AB (C7 (GN (hs AE s2 σ H2 x y v ov iv u _ I2 r1 r2 r q2) λ_ s3 ⟨H3,I3,q3⟩=>?_))));exact wpAny_release {σ,H3,I3,q3}
def iP(te:TE)(g:TG):TS:=λD σ H=>te σ H λx H1=>g x σ H1 D.nx
theorem Bk{g:TG}(he:PE X e te)(hg:PG X tg g)(hs:ZK [tg] e pos.line X.env=pure AD:=by rfl)(hw:ZL [tg] e X.env=pure AI:=by rfl)
  (h1:(HD [tg] X.env).map (·.2)=[KR tg X.env]:=by rfl):PS X (.Assign [tg] e pos) (iP te g):=by
 intro AE s σ H D I h;refine wpAny_Assign_stores (GN (he AE s σ H _ I h) λv s1 ⟨x,H1,I1,r1,q1⟩=>?_) hs hw;rw[h1];exact GN (hg AE s1 σ H1 x v _ I1 r1 q1) λ_ s2 q=>q
theorem rA(hN:X.N.Nodup)(hi:X.N[i]?=AA x)(hx:Loc X.env.scope x)(he:PE X e te)(hs:IH e (AA (.Name x NP)) pos.line X.env=pure AD:=by rfl)(hf:X.fn x=AL\/X.env.scope.names.lookup x=AA .local:=by first|exact .inl rfl|exact .inr rfl|assumption) :
  PS X (.Assign [.Name x NP] e pos) (iP te (Z1 i)):=by
 intro AE s σ H D I h;refine SH (GN (he AE s σ H _ I h) λv s1 ⟨y,H1,I1,r1,q1⟩=>?_) hs;exact xG I1 hN hi hx r1 (λs2 I2=>{_,H1,I2,q1}) hf
variable{tb:TS}
def yAT(c:TT)(tb:TS):TS:=λD σ H=>∃W:Nat->St->Hp->Prop,(∃m,W m σ H)/\∀m σ H,W m σ H ->
 c σ H λb H1=>if b=AL then ∃N:St->Hp->Prop,(∀σ' H',N σ' H'->∃m',m'<m/\W m' σ' H')/\tb { D with nx:=N,ct:=N,bk:=D.nx } σ H1 else D.nx σ H1
theorem zSW{tc:TT}(hp:UZ (A3 X.prog X.w) X.A X.env X.xe)(hc:PT X c tc)(hb:PSs X body tb):PS X (.While c body [] pos) (yAT tc tb):=by
 intro AE s σ H D I h;obtain⟨W,⟨m0,w0⟩,turn⟩:=h;refine wpAny_While (codeAny_whileLoop (λn s'=>∃σ' H',Inv X AE σ' H' s'/\W n σ' H') ?_ m0 {σ,H,I,w0});rintro n s1 ⟨σ1,H1,I1,w1⟩;refine IE hp (GN (hc AE s1 σ1 H1 _ I1 (turn n σ1 H1 w1)) λb s2 ⟨H2,I2,q2⟩=>?_)
 cases b with
 |true =>
  obtain⟨N,hN,q2⟩:=q2;rw[if_pos rfl];refine IE hp (GN (hb AE s2 σ1 H2 _ I2 q2) λf s3 q3=>?_)
  cases f with
  |next =>
   obtain⟨σ3,H3,I3,n3⟩:=q3;obtain⟨m',hm,w3⟩:=hN σ3 H3 n3;exact{m',hm,σ3,H3,I3,w3}
  |cont =>
   obtain⟨σ3,H3,I3,n3⟩:=q3;obtain⟨m',hm,w3⟩:=hN σ3 H3 n3;exact{m',hm,σ3,H3,I3,w3}
  |brk=>exact q3
  |ret v=>exact q3
 |false =>
  rw[if_neg CG];exact IF {σ1,H2,I2,q2}
structure It where
 go:Nat->Hp->Prop
 yld:Nat->Hp->V->Hp->Prop
 stop:Nat->Hp->Prop
def FpOk(X:Cx)(AE:List (AQ×HL))(H:Hp)(b:AQ):Prop :=
 H b=AI/\b≠X.env.locals/\b∉X.fs/\(b∈X.ex\/X.s₀.heap.objs.size<=b)/\(∀x c,X.env.cells.lookup x=AA c->c≠b)/\∀p∈X.pn++AE,p.1≠b
theorem Inv.fpOk{b:AQ}(I:Inv X AE σ H s)(hb:s.heap.objs.size<=b)(hn:H' b=AI):FpOk X AE H' b:=by
 refine{hn,FM (AN I.lt hb),I.nofs hb,.inr (AY I.sz hb),λx c e z=>?_,λp hp z=>?_}
 .obtain⟨v,q⟩:=I.cell x c e
  exact absurd (AN q.lt (by rw[z];exact hb)) (GB _)
 .exact absurd (AN (A8 (I.pin p hp).1) (by rw[z];exact hb)) (GB _)
structure Turn(P:CI)(w:DY)(K:AC)(tg:CU)(J:It)(fp:List AQ)(it:AQ)(tn:Nat->DZ->Prop):Prop where
 mem:it∈fp
 obj:∀i h,tn i h->∀b∈fp,∃o,h.get? b=AA o/\∀v,o.data≠.cell v
 keep:∀i h h',tn i h->(∀b∈fp,∀o,h.get? b=AA o->h'.get? b=AA o)->tn i h'
 item:∀(X:Cx),X.prog=P->X.w=w->X.K=K->X.calm=AL->∀(i:Nat) (AE:List (AQ×HL)) (s:AT) (σ:St) (H:Hp) (E:AH->AT->Prop),Inv X AE σ H s->(∀b∈fp,FpOk X AE H b)->tn i s.heap->J.go i H ->
  AZ (A3 P w) X.A (JV (.ref it)) (λr s1=>∃u,r=AA u /\
   AZ (A3 P w) X.A (FJ tg (.ref it) u) (λ_ s2=>∃x H',Inv X AE σ H' s2/\RelV x u/\J.yld i H x H'/\tn (i+1) s2.heap/\∀b∈fp,H' b=AI) E s1) E s
 done:∀(X:Cx),X.prog=P->X.w=w->X.K=K->X.calm=AL->∀(i:Nat) (AE:List (AQ×HL)) (s:AT) (σ:St) (H:Hp) (E:AH->AT->Prop),Inv X AE σ H s->(∀b∈fp,FpOk X AE H b)->tn i s.heap->J.stop i H ->
  AZ (A3 P w) X.A (JV (.ref it)) (λr s1=>r=AI/\Inv X AE σ H s1) E s
 self:∀(A:DJ) (i:Nat) (s:AT) (Q:AH->AT->Prop) (E:AH->AT->Prop),tn i s.heap->Q (.ref it) s->AZ (A3 P w) A (N7 (.ref it)) Q E s
abbrev TI:=St->Hp->(It->Hp->Prop)->Prop
def Vi(X:Cx)(AE:List (AQ×HL))(σ:St)(tg:CU)(R:It->Hp->Prop)(mH:AH)(s2:AT):Prop :=
 ∃(it:AQ) (fp:List AQ) (tn:Nat->DZ->Prop) (J:It) (H':Hp),mH=.ref it/\Inv X AE σ H' s2/\Turn X.prog X.w X.K tg J fp it tn/\tn 0 s2.heap/\(∀b∈fp,FpOk X AE H' b)/\R J H'
def PI(X:Cx)(tg iter:CU)(wi:TI):Prop :=
 ∀(AE:List (AQ×HL)) (s:AT) (σ:St) (H:Hp) (R:It->Hp->Prop),Inv X AE σ H s->wi σ H R ->
  AZ (A3 X.prog X.w) X.A (eval iter X.env) (λv s1=>AZ (A3 X.prog X.w) X.A (N7 v) (Vi X AE σ tg R) X.xe s1) X.xe s
theorem qN{E:AH → AT → Prop}{o:HL}{n:String}{vs:Array AH}{Q:Unit → AT → Prop}(ho : s.heap.get? it = AA o)(hc : o.cls = .type n)(hd : o.data = .fields vs)
    (hn : ["enumerate", "zip", "dict_itemiterator", "dict_reverseitemiterator", "odict_iterator", "itertools.zip_longest", "itertools.pairwise"].contains n = AD) (hQ : Q () s) : AZ M A (FJ tg (.ref it) u) Q E s := by
  unfold FJ
  cases tg <;> first
    | exact wpAny_pure hQ
    | (cases u <;> first
        | exact wpAny_pure hQ
        | (
          refine AB (wpAny_load ho ?_);rw [hc, hd];show AZ M A (if (["enumerate", "zip", "dict_itemiterator", "dict_reverseitemiterator", "odict_iterator", "itertools.zip_longest", "itertools.pairwise"].contains n && vs[0]? == AA (ES _)) = AL then _ else _) Q E s;rw [if_neg (by intro h; rw [hn, Bool.false_and] at h; cases h)]
          exact wpAny_pure hQ))
noncomputable def pQ(K:AC)(a:AQ):It :=
 {λi H=>∃xs x,SqL K H a xs/\xs[i]?=AA x,λi H x H'=>H'=H/\∀xs,SqL K H a xs->xs[i]?=AA x,λi H=>∃xs,SqL K H a xs/\xs.length<=i}
noncomputable def pO(K:AC)(a:AQ):It :=
 {λi H=>∃xs x,SqT K H a xs/\xs[i]?=AA x,λi H x H'=>H'=H/\∀xs,SqT K H a xs->xs[i]?=AA x,λi H=>∃xs,SqT K H a xs/\xs.length<=i}
noncomputable def pP(lo:Int)(n:Nat):It:={λi _=>i<n,λi H x H'=>H'=H/\x=.int (lo+i),λi _=>n<=i}
theorem zPT{K:AC}(a it:AQ):Turn P w K tg (pQ K a) [it] it (λi h=>h.IsListIter it a i) where
 mem:=by simp
 obj:=λi h st b hb=>by
  have e:b=it:=by simpa using hb
  subst e;obtain⟨o,e,c,d⟩:=st;exact{o,e,λv z=>by rw[d] at z;cases z}
 keep:=λi h h' st k=>st.at λo e=>k it 's' o e
 item:=by
  intro X hP hw hK hc i AE s σ H E I hf st hg;subst hP hw hK;obtain⟨xs,x,hq,hx⟩:=hg;obtain⟨CA,rv,p,hz⟩:=I.list hq;obtain⟨u,hu,ru⟩:=rv.get hx;obtain⟨f0,f1,f2,f3,f4,f5⟩:=hf it 's';refine wpAny_pyNext_list_item st p.isList (x:=u) (by simpa using hu) λh' CM sb=>?_;have I1:Inv X AE σ H { s with heap:=h' }:=I.turned (t':=s.toks) (λb o hb e=>(sb.2 b hb).trans e) f0 f1 f3 f4 f5;obtain⟨o,e,c,d⟩:=id CM;exact{u,rfl,qN (s:={ s with heap:=h' }) e c d 'd' {x,H,I1,ru,{rfl,λys hy=>by rw[I.list_inj hy hq];exact hx},CM,λb hb=>(hf b hb).1}}
 done:=by
  intro X hP hw hK hc i AE s σ H E I hf st hg;subst hP hw hK;obtain⟨xs,hq,hx⟩:=hg;obtain⟨CA,rv,p,hz⟩:=I.list hq;obtain⟨f0,f1,f2,f3,f4,f5⟩:=hf it 's';have hl:=rv.length;exact wpAny_pyNext_list_end (I.ok.hd hc) st p.isList (by simp;lia) λh' eb=>{rfl,I.turned (t':=s.toks) (λb o hb e=>eb b o hb e) f0 f1 f3 f4 f5}
 self:=λ_ _ _ _ _ st h=>wpAny_pyIter_listiter st h
theorem zOL{K:AC}(a it:AQ):Turn P w K tg (pO K a) [it] it (λi h=>h.IsTupleIter it a i) where
 mem:=by simp
 obj:=λi h st b hb=>by
  have e:b=it:=by simpa using hb
  subst e;obtain⟨o,e,c,d⟩:=st;exact{o,e,λv z=>by rw[d] at z;cases z}
 keep:=λi h h' st k=>st.at λo e=>k it 's' o e
 item:=by
  intro X hP hw hK hc i AE s σ H E I hf st hg;subst hP hw hK;obtain⟨xs,x,hq,hx⟩:=hg;obtain⟨CA,rv,p,hz⟩:=I.tuple hq;obtain⟨u,hu,ru⟩:=rv.get hx;obtain⟨f0,f1,f2,f3,f4,f5⟩:=hf it 's';refine wpAny_pyNext_tuple_item st (show s.heap.IsTuple a CA.toArray from p) (x:=u) (by simpa using hu) λh' CM sb=>?_;have I1:Inv X AE σ H { s with heap:=h' }:=I.turned (t':=s.toks) (λb o hb e=>(sb.2 b hb).trans e) f0 f1 f3 f4 f5;obtain⟨o,e,c,d⟩:=id CM;exact{u,rfl,qN (s:={ s with heap:=h' }) e c d 'd' {x,H,I1,ru,{rfl,λys hy=>by rw[I.tuple_inj hy hq];exact hx},CM,λb hb=>(hf b hb).1}}
 done:=by
  intro X hP hw hK hc i AE s σ H E I hf st hg;subst hP hw hK;obtain⟨xs,hq,hx⟩:=hg;obtain⟨CA,rv,p,hz⟩:=I.tuple hq;obtain⟨f0,f1,f2,f3,f4,f5⟩:=hf it 's';have hl:=rv.length;exact wpAny_pyNext_tuple_end (I.ok.hd hc) st (show s.heap.IsTuple a CA.toArray from p) (by simp;lia) λh' eb=>{rfl,I.turned (t':=s.toks) (λb o hb e=>eb b o hb e) f0 f1 f3 f4 f5}
 self:=λ_ _ _ _ _ st h=>wpAny_pyIter_tupleiter st h
theorem zOM{K:AC}(it:AQ)(lo:Int)(n:Nat):Turn P w K tg (pP lo n) [it] it (λi h=>IsRangeIter h it (lo+(i:Nat) * 1) ((n:Int)-(i:Nat)) 1) where
 mem:=by simp
 obj:=λi h st b hb=>by
  have e:b=it:=by simpa using hb
  subst e
  exact{_,st,λv z=>by
   have z':RT _=Q4 v:=z
   cases z'}
 keep:=λi h h' st k=>k it 's' _ st
 item:=by
  intro X hP hw hK hc i AE s σ H E I hf st hg;subst hP hw hK;obtain⟨f0,f1,f2,f3,f4,f5⟩:=hf it 's';have W:=Walks.range (prog:=X.prog) (w:=X.w) (I.ok.hd hc) it lo 1 n;refine W.item i s _ _ hg st λv h' tk hv CM kk=>?_;obtain⟨t,rfl⟩:=hv;have I1:Inv X AE σ H { s with heap:=h',toks:=tk }:=I.turned (λb o hb e=>kk b o (by simpa using hb) e) f0 f1 f3 f4 f5;refine{_,rfl,qN (s:={ s with heap:=h',toks:=tk }) (n:="range_iterator") CM rfl rfl 'd' {.int (lo+i),H,I1,{t,?_},{rfl,rfl},CM,λb hb=>(hf b hb).1}};rw[Int.mul_one]
 done:=by
  intro X hP hw hK hc i AE s σ H E I hf st hg;subst hP hw hK;obtain⟨f0,f1,f2,f3,f4,f5⟩:=hf it 's';exact wpAny_pyNext_range_end (I.ok.hd hc) st (by have:n<=i:=hg;lia) λh' eb=>{rfl,I.turned (t':=s.toks) (λb o hb e=>eb b o hb e) f0 f1 f3 f4 f5}
 self:=λ_ _ _ _ _ st h=>wpAny_pyIter_rangeiter st h
variable{tl:TE}{wi:TI}
def yD6(K:AC)(tl:TE):TI:=λσ H R=>tl σ H λx H1=>∃a,x=.ref a/\(∃xs,SqL K H1 a xs)/\R (pQ K a) H1
def yG2(K:AC)(tl:TE):TI:=λσ H R=>tl σ H λx H1=>∃a,x=.ref a/\(∃xs,SqT K H1 a xs)/\R (pO K a) H1
theorem Ny{l:CU}(hl:PE X l tl):PI X tg l (yD6 X.K tl):=by
 intro AE s σ H R I h;refine GN (hl AE s σ H _ I h) λv s1 q0=>?_;obtain⟨x,H1,I1,r1,q1⟩:=q0;obtain⟨a,e,⟨xs,hq⟩,q⟩:=q1;subst e;cases r1;obtain⟨CA,rv,p,hz⟩:=I1.list hq;refine KA p.isList ?_;refine{s1.heap.objs.size,[s1.heap.objs.size],_,_,H1,rfl,I1.kept (t':=s1.toks) λb o e=>AF _ e,zPT a _,{_,AV _ rfl,rfl,rfl},λb hb=>?_,q};have e:b=s1.heap.objs.size:=by simpa using hb
 subst e;exact I1.fpOk (AM _) (I1.hok.fresh (AM _))
theorem Mf{l:CU}(hl:PE X l tl):PI X tg l (yG2 X.K tl):=by
 intro AE s σ H R I h;refine GN (hl AE s σ H _ I h) λv s1 q0=>?_;obtain⟨x,H1,I1,r1,q1⟩:=q0;obtain⟨a,e,⟨xs,hq⟩,q⟩:=q1;subst e;cases r1;obtain⟨CA,rv,p,hz⟩:=I1.tuple hq;refine RO (show s1.heap.IsTuple a CA.toArray from p) ?_;refine{s1.heap.objs.size,[s1.heap.objs.size],_,_,H1,rfl,I1.kept (t':=s1.toks) λb o e=>AF _ e,zOL a _,{_,AV _ rfl,rfl,rfl},λb hb=>?_,q};have e:b=s1.heap.objs.size:=by simpa using hb
 subst e;exact I1.fpOk (AM _) (I1.hok.fresh (AM _))
theorem Pb{R:It->Hp->Prop}{lo hi:Int}{t u v:kM}{tk:Nat}(I:Inv X AE σ H s)(h1:-(2 ^ 62)<=lo)(h2:lo<2 ^ 62)(h3:-(2 ^ 62)<=hi)(h4:hi<2 ^ 62)
  (q:R (pP lo (hi-lo).toNat) H):AZ (A3 X.prog X.w) X.A (N7 (.ref s.heap.objs.size)) (Vi X AE σ tg R) E { s with heap:=s.heap.push { cls:=.type "range",data:=.fields #[.int lo t,.int hi u,.int 1 v] },toks:=tk }:=by
 refine wpAny_pyIter_range (IsRange.new ..) (small_one h1 h2 h3 h4) ?_;have I1:Inv X AE σ H { s with heap:=s.heap.push { cls:=.type "range",data:=.fields #[.int lo t,.int hi u,.int 1 v] },toks:=tk }:=I.kept λb o e=>AF _ e
 refine{(s.heap.push { cls:=.type "range",data:=.fields #[.int lo t,.int hi u,.int 1 v] }).objs.size,[(s.heap.push { cls:=.type "range",data:=.fields #[.int lo t,.int hi u,.int 1 v] }).objs.size],_,_,H,rfl,
  I1.kept (t':=tk) λb o e=>AF _ e,zOM _ lo (hi-lo).toNat,?_,λb hb=>?_,q}
 .have e1:lo+((0:Nat):Int) * 1=lo:=by simp
  have e2:(((hi-lo).toNat:Nat):Int)-((0:Nat):Int)=Builtin.Range.rangeSize lo hi 1:=by rw[rangeSize_one];split<;>lia
  show IsRangeIter _ _ (lo+((0:Nat):Int) * 1) ((((hi-lo).toNat:Nat):Int)-((0:Nat):Int)) 1;rw[e1,e2];exact AV _ rfl
 .have e:b=(s.heap.push { cls:=.type "range",data:=.fields #[.int lo t,.int hi u,.int 1 v] }).objs.size:=by simpa using hb
  subst e;exact I1.fpOk (AM _) (I1.hok.fresh (AM _))
def yD7(ta:TA):TI:=λσ H R=>ta σ H λvs H1=>∃j:Int,vs=[.int j]/\-(2 ^ 62)<=j/\j<2 ^ 62/\R (pP 0 j.toNat) H1
def yD8(ta:TA):TI:=λσ H R=>ta σ H λvs H1=>∃i j:Int,vs=[.int i,.int j]/\(-(2 ^ 62)<=i/\i<2 ^ 62/\-(2 ^ 62)<=j/\j<2 ^ 62)/\R (pP i (j-i).toNat) H1
theorem Qu{a:CU}{ta:TA}(hg:Gl X "range")(hm:X.mg "range"=AI)(ha:PA X [a] ta)(hs:AO [a] X.env=[(AD,eval a X.env)]:=by rfl):PI X tg (.Call (.Name "range" p) [a] [] pos) (yD7 ta):=by
 intro AE s σ H R I h;refine Call_ (jC I hg hm boot_range (FN (GN (ha pos AE s σ H _ I h) λus s1 ⟨vs,H1,I1,r1,q1⟩=>?_) hs rfl));obtain⟨j,e,q1,q2,q⟩:=q1;subst e
 cases r1 with
 |cons r rr =>
  cases rr;obtain⟨t,rfl⟩:=r;exact call_range_1 (Pb I1 'l' 'l' q1 q2 (by simpa using q))
theorem zPV{a b:CU}{ta:TA}(hg:Gl X "range")(hm:X.mg "range"=AI)(ha:PA X [a,b] ta)(hs:AO [a,b] X.env=[(AD,eval a X.env),(AD,eval b X.env)]:=by rfl)(MR:AO [b] X.env=[(AD,eval b X.env)]:=by rfl) :
  PI X tg (.Call (.Name "range" p) [a,b] [] pos) (yD8 ta):=by
 intro AE s σ H R I h;refine Call_ (jC I hg hm boot_range (FN (GN (ha pos AE s σ H _ I h) λus s1 ⟨vs,H1,I1,r1,q1⟩=>?_) (by rw[hs,MR]) (by rw[MR];rfl)));obtain⟨i,j,e,⟨q1,q2,q3,q4⟩,q⟩:=q1;subst e
 cases r1 with
 |cons r rr =>
  cases rr with
  |cons r' rr =>
   cases rr;obtain⟨t,rfl⟩:=r;obtain⟨t',rfl⟩:=r';exact call_range_2 (Pb I1 q1 q2 q3 q4 q)
def yP(wi:TI)(g:TG)(tb:TS):TS:=λD σ H=>wi σ H λJ H1=>∃W:Nat->Nat->St->Hp->Prop,(∃m,W 0 m σ H1)/\∀i m σ H,W i m σ H ->
 (J.stop i H/\D.nx σ H)\/(J.go i H/\∃N:St->Hp->Prop,(∀σ' H',N σ' H'->∃m',m'<m/\W (i+1) m' σ' H')/\∀x H',J.yld i H x H'->g x σ H' λσ2 H2=>tb { D with nx:=N,ct:=N,bk:=D.nx } σ2 H2)
noncomputable def qZ(fp:List AQ)(h:DZ):List (AQ×HL):=fp.filterMap λb=>(h.get? b).map λo=>(b,o)
theorem xU{b:AQ}{o:HL}(hb:b∈fp)(e:h.get? b=AA o):(b,o)∈qZ fp h:=HH.mpr {b,hb,by rw[e];rfl}
theorem zPW{p:AQ×HL}(hp:p∈qZ fp h):p.1∈fp/\h.get? p.1=AA p.2:=by
 obtain⟨b,hb,e⟩:=HH.mp hp
 cases q:h.get? b with
 |none=>rw[q] at e;cases e
 |some o =>
  rw[q] at e;have e':(b,o)=p:=BK e;subst e';exact{hb,q}
theorem Inv.pinned(I:Inv X AE σ H s)(hf:∀b∈fp,FpOk X AE H b)(ho:∀b∈fp,∃o,s.heap.get? b=AA o/\∀v,o.data≠.cell v):Inv X (AE++qZ fp s.heap) σ H s :=
 I.pins_of λp hp=>(BY.mp hp).elim (λz=>I.pin p (BM _ z)) λz=>by
  obtain⟨hb,e⟩:=zPW z;obtain⟨f0,f1,f2,_⟩:=hf p.1 hb;obtain⟨o,e',d⟩:=ho p.1 hb;rw[e] at e';cases e';exact{e,f0,f1,f2,d}
theorem Inv.unpinned{pl:List (AQ×HL)}(I:Inv X (AE++pl) σ H s):Inv X AE σ H s:=I.pins_of λp hp=>I.pin p (BM _ (DB _ hp))
theorem oJ{iter:CU}{g:TG}(hp:UZ (A3 X.prog X.w) X.A X.env X.xe)(hc:X.calm=AL)(hi:PI X tg iter wi)(hg:PG X tg g)(hb:PSs X body tb)
  (hs:∀x,C6 iter X.env x=pure x:=by intro _;rfl):PS X (.For tg iter body [] pos) (yP wi g tb):=by
 intro AE s σ H D I h;refine wpAny_For (GN (hi AE s σ H _ I h) λv s1 h1=>GN h1 λmH s2 h2=>?_) hs;obtain⟨it,fp,tn,J,H2,e,I2,T,st2,f2,W,⟨m0,w0⟩,turn⟩:=h2;subst e
 -- what stays AL of the iterator's objects through the mG
 have UL:∀{H':Hp},(∀b∈fp,H' b=AI)->∀b∈fp,FpOk X AE H' b:=λhn b hb=>{hn b hb,(f2 b hb).2};refine codeAny_forLoop_any (λn s'=>∃i σ' H',Inv X AE σ' H' s'/\tn i s'.heap/\(∀b∈fp,H' b=AI)/\W i n σ' H') ?_ m0 {0,σ,H2,I2,st2,λb hb=>(f2 b hb).1,w0};rintro n s3 ⟨i,σ3,H3,I3,KJ,vL,w3⟩;rcases turn i n σ3 H3 w3 with⟨stop,qn⟩|⟨go,N,hN,step⟩
 .refine IE hp (GN (T.done X rfl rfl rfl hc i AE s3 σ3 H3 X.xe I3 (UL vL) KJ stop) λr s4 ⟨hr,I4⟩=>?_)
  subst hr;exact IF {σ3,H3,I4,qn}
 .refine IE hp (GN (T.item X rfl rfl rfl hc i AE s3 σ3 H3 X.xe I3 (UL vL) KJ go) λr s4 ⟨u,hr,h4⟩=>?_)
  subst hr;refine IE hp (GN h4 λ_ s5 ⟨x,H5,I5,r5,y5,gS,Kd⟩=>?_);have Ky:=I5.pinned (UL Kd) (T.obj _ _ gS);refine IE hp (GN (hg _ s5 σ3 H5 x u _ Ky r5 (step x H5 y5)) λ_ s6 ⟨σ6,H6,I6,q6⟩=>?_);refine IE hp (GN (hb _ s6 σ6 H6 _ I6 q6) λf s7 q7=>?_)
  have XY:∀{σ7:St} {H7:Hp},Inv X (AE++qZ fp s5.heap) σ7 H7 s7->N σ7 H7->∃m,m<n/\∃i σ' H',Inv X AE σ' H' s7/\tn i s7.heap/\(∀b∈fp,H' b=AI)/\W i m σ' H':=λ{σ7 H7} I7 n7=>by
   obtain⟨m',hm,w7⟩:=hN σ7 H7 n7;refine{m',hm,i+1,σ7,H7,I7.unpinned,T.keep _ _ _ gS λb hb o e=>(I7.pin (b,o) (BM _ (BM _ (xU hb e)))).1,λb hb=>?_,w7};obtain⟨o,e,d⟩:=T.obj _ _ gS b hb;exact(I7.pin (b,o) (BM _ (BM _ (xU hb e)))).2.1
  cases f with
  |next=>obtain⟨σ7,H7,I7,n7⟩:=q7;exact XY I7 n7
  |cont=>obtain⟨σ7,H7,I7,n7⟩:=q7;exact XY I7 n7
  |brk=>obtain⟨σ7,H7,I7,q7⟩:=q7;exact{σ7,H7,I7.unpinned,q7}
  |ret v=>obtain⟨x7,σ7,H7,I7,r7,q7⟩:=q7;exact{x7,σ7,H7,I7.unpinned,r7,q7}
theorem yDM{K:AC}{g:TG}{D:Ends}(Pv:Nat->St->Hp->Prop)(h0:Pv 0 σ H)(hl:∀i σ H,i<=xs.length->Pv i σ H->SqL K H a xs)
  (hs:∀i x σ H,xs[i]?=AA x->Pv i σ H->g x σ H λσ2 H2=>tb { D with nx:=Pv (i+1),ct:=Pv (i+1),bk:=D.nx } σ2 H2) (hd:∀σ H,Pv xs.length σ H->D.nx σ H) :
  ∃W:Nat->Nat->St->Hp->Prop,(∃m,W 0 m σ H)/\∀i m σ H,W i m σ H ->
   ((pQ K a).stop i H/\D.nx σ H)\/((pQ K a).go i H/\∃N:St->Hp->Prop,(∀σ' H',N σ' H'->∃m',m'<m/\W (i+1) m' σ' H')/\∀x H',(pQ K a).yld i H x H'->g x σ H' λσ2 H2=>tb { D with nx:=N,ct:=N,bk:=D.nx } σ2 H2):=by
 refine{λi m σ H=>m=xs.length-i/\i<=xs.length/\Pv i σ H,{xs.length,by simp,BR _,h0},?_};rintro i m σ H ⟨rfl,hi,p⟩;have q:=hl i σ H hi p
 by_cases JI:i<xs.length
 .refine .inr {{xs,xs[i],q,by simp[JI]},Pv (i+1),λσ' H' p'=>{xs.length-(i+1),by lia,rfl,JI,p'},λx H' y=>?_}
  obtain⟨e,y⟩:=y;subst e;exact hs i x σ _ (y xs q) p
 .have e:i=xs.length:=by lia
  subst e;exact .inl {{xs,q,AM _},hd σ H p}
theorem zWY{K:AC}{g:TG}{D:Ends}(Pv:Nat->St->Hp->Prop)(h0:Pv 0 σ H)(hl:∀i σ H,i<=xs.length->Pv i σ H->SqT K H a xs)
  (hs:∀i x σ H,xs[i]?=AA x->Pv i σ H->g x σ H λσ2 H2=>tb { D with nx:=Pv (i+1),ct:=Pv (i+1),bk:=D.nx } σ2 H2) (hd:∀σ H,Pv xs.length σ H->D.nx σ H) :
  ∃W:Nat->Nat->St->Hp->Prop,(∃m,W 0 m σ H)/\∀i m σ H,W i m σ H ->
   ((pO K a).stop i H/\D.nx σ H)\/((pO K a).go i H/\∃N:St->Hp->Prop,(∀σ' H',N σ' H'->∃m',m'<m/\W (i+1) m' σ' H')/\∀x H',(pO K a).yld i H x H'->g x σ H' λσ2 H2=>tb { D with nx:=N,ct:=N,bk:=D.nx } σ2 H2):=by
 refine{λi m σ H=>m=xs.length-i/\i<=xs.length/\Pv i σ H,{xs.length,by simp,BR _,h0},?_};rintro i m σ H ⟨rfl,hi,p⟩;have q:=hl i σ H hi p
 by_cases JI:i<xs.length
 .refine .inr {{xs,xs[i],q,by simp[JI]},Pv (i+1),λσ' H' p'=>{xs.length-(i+1),by lia,rfl,JI,p'},λx H' y=>?_}
  obtain⟨e,y⟩:=y;subst e;exact hs i x σ _ (y xs q) p
 .have e:i=xs.length:=by lia
  subst e;exact .inl {{xs,q,AM _},hd σ H p}
abbrev R2:=V->V->Hp->VK->Prop
def OpR(X:Cx)(f:AH->AH->RQ AH)(r:R2):Prop :=
 ∀(AE:List (AQ×HL)) (s:AT) (σ:St) (H:Hp) (x y:V) (v u:AH) (Q:VK),Inv X AE σ H s->RelV x v->RelV y u->r x y H Q ->
  AZ (A3 X.prog X.w) X.A (f v u) (EP X AE σ Q) X.xe s
def zC(X:Cx)(f:AH->RQ AH)(r:V->Hp->VK->Prop):Prop :=
 ∀(AE:List (AQ×HL)) (s:AT) (σ:St) (H:Hp) (x:V) (v:AH) (Q:VK),Inv X AE σ H s->RelV x v->r x H Q ->
  AZ (A3 X.prog X.w) X.A (f v) (EP X AE σ Q) X.xe s
def CallR(X:Cx)(f:AH)(r:List V->Hp->VK->Prop):Prop :=
 ∀(AE:List (AQ×HL)) (s:AT) (σ:St) (H:Hp) (xs:List V) (us:List AH) (Q:VK),Inv X AE σ H s->Vals xs us->r xs H Q ->
  AZ (A3 X.prog X.w) X.A (call f us) (EP X AE σ Q) X.xe s
def yG3(X:Cx)(r:V->Hp->(Bool->Hp->Prop)->Prop):Prop :=
 ∀(AE:List (AQ×HL)) (s:AT) (σ:St) (H:Hp) (x:V) (v:AH) (Q:Bool->Hp->Prop),Inv X AE σ H s->RelV x v->r x H Q ->
  AZ (A3 X.prog X.w) X.A (truthy v) (TP X AE σ Q) X.xe s
def jJ(r:R2)(ta tb:TE):TE:=λσ H Q=>ta σ H λx H1=>tb σ H1 λy H2=>r x y H2 Q
def Uw(r:V->Hp->VK->Prop)(ta:TE):TE:=λσ H Q=>ta σ H λx H1=>r x H1 Q
def rI(C:Int->Int->Prop)(g:Int->Int->V):R2:=λx y H Q=>∃i j,x=.int i/\y=.int j/\C i j/\Q (g i j) H
def bJ(g:Int->Int->V):R2:=λx y H Q=>∃i j,x=.int i/\y=.int j/\Q (g i j) H
def rU(g:Int->V):V->Hp->VK->Prop:=λx H Q=>∃i,x=.int i/\Q (g i) H
section
variable{a b:CU}{tb tc:TE}
theorem Er(ha:PE X a ta)(hb:PE X b tb){R:V->V->Hp->Prop}(I:Inv X AE σ H s)
  (h:ta σ H λx H1=>tb σ H1 λy H2=>R x y H2) {Q:AH->AT->Prop} {f:AH->AH->RQ AH}
  (hf:∀v u s2 x y H2,Inv X AE σ H2 s2->RelV x v->RelV y u->R x y H2->AZ (A3 X.prog X.w) X.A (f v u) Q X.xe s2) :
  AZ (A3 X.prog X.w) X.A (eval a X.env) (λv EY=>AZ (A3 X.prog X.w) X.A (eval b X.env) (λu ON=>AZ (A3 X.prog X.w) X.A (f v u) Q X.xe ON) X.xe EY) X.xe s:=by
 refine GN (ha AE s σ H _ I h) λv s1 q0=>?_;obtain⟨x,H1,I1,r1,q1⟩:=q0;refine GN (hb AE s1 σ H1 _ I1 q1) λu s2 q0=>?_;obtain⟨y,H2,I2,r2,q2⟩:=q0;exact hf v u s2 x y H2 I2 r1 r2 q2
theorem wD{op:Operator}{r:R2}(ho:OpR X (G8 op) r)(ha:PE X a ta)(hb:PE X b tb):PE X (.BinOp a op b pos) (jJ r ta tb):=by
 intro AE s σ H Q I h;exact wpAny_BinOp (Er ha hb I h λv u s2 x y H2 I2 rx ry q=>ho AE s2 σ H2 x y v u Q I2 rx ry q)
theorem yEA{op:UnaryOp}{r:V->Hp->VK->Prop}(ho:zC X (unaryOp op) r)(ha:PE X a ta):PE X (.UnaryOp op a pos) (Uw r ta):=by
 intro AE s σ H Q I h;exact UnaryOp_ (GN (ha AE s σ H _ I h) (λv s1 q0=>by obtain⟨x,H1,I1,r1,q1⟩:=q0;exact ho AE s1 σ H1 x v Q I1 r1 q1))
theorem yV{f:AH->AH->RQ AH}{C:Int->Int->Prop}{g:Int->Int->Int}
  (rule:∀(i j:Int) (t u:kM) (s:AT) (Q:AH->AT->Prop) (E:AH->AT->Prop),C i j->Q (.int (g i j) s.toks) { s with toks:=s.toks+1 }->AZ (A3 X.prog X.w) X.A (f (.int i t) (.int j u)) Q E s) :
  OpR X f (rI C λi j=>.int (g i j)):=by
 intro AE s σ H x y v u Q I rx ry h;obtain⟨i,j,rfl,rfl,hc,q⟩:=h;obtain⟨t,rfl⟩:=rx;obtain⟨t',rfl⟩:=ry;exact rule i j t t' s _ _ hc {.int (g i j),H,I.tok _,{_,rfl},q}
theorem Tp{f:AH->AH->RQ AH}{g:Int->Int->Int}
  (rule:∀(i j:Int) (t u:kM) (s:AT) (Q:AH->AT->Prop) (E:AH->AT->Prop),Q (.int (g i j) s.toks) { s with toks:=s.toks+1 }->AZ (A3 X.prog X.w) X.A (f (.int i t) (.int j u)) Q E s) :
  OpR X f (bJ λi j=>.int (g i j)):=by
 intro AE s σ H x y v u Q I rx ry h;obtain⟨i,j,rfl,rfl,q⟩:=h;obtain⟨t,rfl⟩:=rx;obtain⟨t',rfl⟩:=ry;exact rule i j t t' s _ _ {.int (g i j),H,I.tok _,{_,rfl},q}
theorem Eo{f:AH->AH->RQ AH}{g:Int->Int->Bool}
  (rule:∀(i j:Int) (t u:kM) (s:AT) (Q:AH->AT->Prop) (E:AH->AT->Prop),Q (.bool (g i j)) s->AZ (A3 X.prog X.w) X.A (f (.int i t) (.int j u)) Q E s) :
  OpR X f (bJ λi j=>.bl (g i j)):=by
 intro AE s σ H x y v u Q I rx ry h;obtain⟨i,j,rfl,rfl,q⟩:=h;obtain⟨t,rfl⟩:=rx;obtain⟨t',rfl⟩:=ry;exact rule i j t t' s _ _ {.bl (g i j),H,I,rfl,q}
def To(i j:Int):Prop:=0<=j/\j<=1000000/\i.natAbs<2 ^ 64
def CMul(i j:Int):Prop:=(-(2 ^ 64)<i/\i<2 ^ 64)\/(-(2 ^ 64)<j/\j<2 ^ 64)
theorem CMul.ok{i j:Int}(h:CMul i j):IntMulOk i j:=by
 rcases h with⟨h1,h2⟩|⟨h1,h2⟩
 .exact .of_left (intBits_le_64 h1 h2)
 .exact .of_right (intBits_le_64 h1 h2)
theorem lX:OpR X (G8 .Add) (bJ λi j=>.int (i+j)):=Tp λ_ _ _ _ _ _ _ q=>add_int q
theorem yAU:OpR X (G8 .Sub) (bJ λi j=>.int (i-j)):=Tp λ_ _ _ _ _ _ _ q=>sub_int q
theorem yAV:OpR X (G8 .Mult) (rI CMul λi j=>.int (i * j)):=yV λ_ _ _ _ _ _ _ hc q=>mul_int q hc.ok
theorem yAW:OpR X (G8 .Mod) (rI (λ_ j=>0<j) λi j=>.int (i % j)):=yV λi j _ _ _ _ _ hc q=>by
 have h1:(0:Int)<j:=hc;exact mod_int' (Int.ne_of_gt hc) (by rw[Int.fmod_eq_emod_of_nonneg i (K5 hc)];exact q)
theorem yAX:OpR X (G8 .Pow) (rI To λi j=>.int (i ^ j.toNat)):=yV λ_ _ _ _ _ _ _ hc q=>pow_int_small hc.1 hc.2.1 hc.2.2 q
theorem unI{f:AH->RQ AH}{g:Int->Int}
  (rule:∀(i:Int) (t:kM) (s:AT) (Q:AH->AT->Prop) (E:AH->AT->Prop),Q (.int (g i) s.toks) { s with toks:=s.toks+1 }->AZ (A3 X.prog X.w) X.A (f (.int i t)) Q E s) :
  zC X f (rU λi=>.int (g i)):=by
 intro AE s σ H x v Q I rx h;obtain⟨i,rfl,q⟩:=h;obtain⟨t,rfl⟩:=rx;exact rule i t s _ _ {.int (g i),H,I.tok _,{_,rfl},q}
theorem yAY:zC X (unaryOp .USub) (rU λi=>.int (-i)):=unI λ_ _ _ _ _ q=>neg_int q
end
variable{y:V}
section
variable{a b:CU}{tb tc:TE}
theorem Me{Q:VK}{k k':Bool}(I:Inv X AE σ H s)(q:Q (.bl k) H)(e:k=k'):EP X AE σ Q (.bool k') s:=by
 subst e;exact{.bl k,H,I,rfl,q}
theorem sF:OpR X (EQ .Lt) (bJ λi j=>.bl (decide (i<j))):=Eo λ_ _ _ _ _ _ _ q=>lt_int q
theorem yEC:OpR X (EQ .Gt) (bJ λi j=>.bl (decide (j<i))):=Eo λ_ _ _ _ _ _ _ q=>gt_int q
theorem yED:OpR X (EQ .GtE) (bJ λi j=>.bl (decide (j<=i))):=Eo λ_ _ _ _ _ _ _ q=>ge_int q
theorem yAZ:OpR X (EQ .Is) (λx y H Q=>y=.non/\Q (.bl (decide (x=.non))) H):=by
 intro AE s σ H x y v u Q I rx ry h;obtain⟨rfl,q⟩:=h;cases ry;refine is_none_gen (Me I q ?_)
 cases x<;>first
  |(cases rx;rfl)
  |(obtain⟨t,rfl⟩:=rx;rfl)
theorem zWZ:OpR X (EQ .IsNot) (λx y H Q=>y=.non/\Q (.bl (!decide (x=.non))) H):=by
 intro AE s σ H x y v u Q I rx ry h;obtain⟨rfl,q⟩:=h;cases ry;refine isnot_none_gen (Me I q ?_)
 cases x<;>first
  |(cases rx;rfl)
  |(obtain⟨t,rfl⟩:=rx;rfl)
theorem OpR.or{f:AH->AH->RQ AH}{r r':R2}(h:OpR X f r)(h':OpR X f r'):OpR X f (λx y H Q=>r x y H Q\/r' x y H Q):=by
 intro AE s σ H x y v u Q I rx ry q;rcases q with q|q
 .exact h AE s σ H x y v u Q I rx ry q
 .exact h' AE s σ H x y v u Q I rx ry q
theorem yF5(b:CU)(h:op≠.In:=by decide)(h2:op≠.NotIn:=by decide):DO op b=AD:=by
 have e1:(op==CmpOp.In)=AD:=by cases op<;>first|rfl|exact absurd rfl h
 have e2:(op==CmpOp.NotIn)=AD:=by cases op<;>first|rfl|exact absurd rfl h2
 cases b<;>simp[DO,e1,e2]
theorem zW0{r:R2}(ho:OpR X (EQ op) r)(ha:PE X a ta)(hb:PE X b tb)(hm:DO op b=AD):PE X (.Compare a [op] [b] pos) (jJ r ta tb):=by
 intro AE s σ H Q I h;exact wpAny_Compare1 (Er ha hb I h λv u s2 x y H2 I2 rx ry q=>ho AE s2 σ H2 x y v u Q I2 rx ry q) hm
def yEE(t:TE):TT:=λσ H Q=>t σ H λx H'=>∃k,x=.bl k/\Q k H'
theorem zW1{r:R2}(ho:OpR X (EQ op) r)(ha:PE X a ta)(hb:PE X b tb)(hm:DO op b=AD):PT X (.Compare a [op] [b] pos) (yEE (jJ r ta tb)):=by
 intro AE s σ H Q I h
 refine wpAny_isTrue_Compare1 (GN (ha AE s σ H _ I h) λv s1 ⟨x,H1,I1,r1,q1⟩=>GN (hb AE s1 σ H1 _ I1 q1) λu s2 ⟨y,H2,I2,r2,q2⟩ =>
  GN (ho AE s2 σ H2 x y v u _ I2 r1 r2 q2) λc s3 ⟨z,H3,I3,r3,k,e,q3⟩=>?_) hm
 subst e;cases r3;exact IL {H3,I3,q3}
def Tn(K:AC)(x:V)(H:Hp)(k:Bool):Prop :=
 match x with
 |.non=>k=AD
 |.bl b=>k=b
 |.int i=>k=(i != 0)
 |.str y=>y.length<=sizeLine/\k=((y.length:Int) != 0)
 |.byt y=>y.size<=sizeLine/\k=((y.size:Int) != 0)
 |.ref p=>(∃xs,SqL K H p xs/\k=!xs.isEmpty)\/(∃xs,SqT K H p xs/\k=!xs.isEmpty)\/∃kvs,H p=AA (.dK kvs)/\k=!kvs.isEmpty
 |_=>False
theorem zON{kvs:List (κ×V)}{vs:List (κ×AH)}(r:KV kvs vs):(!vs.isEmpty)=!kvs.isEmpty:=by
 cases r<;>rfl
theorem Ro(r:Vals xs CA):(!CA.toArray.isEmpty)=!xs.isEmpty:=by
 cases r<;>simp
theorem jB:(sizeLine:Nat)<2 ^ 63:=by rw[FZ];decide
theorem yA0:yG3 X (λx H Q=>∃k,Tn X.K x H k/\Q k H):=by
 intro AE s σ H x v Q I rx h;obtain⟨k,e,q⟩:=h;have hl:=jB;have hs:sizeLine=16777216:=FZ
 cases x with
 |non =>
  cases rx;have e':k=AD:=e;subst e';exact truthy_none {H,I,q}
 |bl b =>
  cases rx;have e':k=b:=e;subst e';exact IL {H,I,q}
 |int i =>
  obtain⟨t,rfl⟩:=rx;have e':k=(i != 0):=e;subst e';exact PySem.P.truthy_int {H,I,q}
 |str y =>
  obtain⟨t,rfl⟩:=rx;obtain⟨hy,e'⟩:y.length<=sizeLine/\k=((y.length:Int) != 0):=e;subst e';exact PySem.P.truthy_str 'l' {H,I.tok _,q}
 |byt y =>
  obtain⟨t,rfl⟩:=rx;obtain⟨hy,e'⟩:y.size<=sizeLine/\k=((y.size:Int) != 0):=e;subst e';exact PySem.W.truthy_bytes 'l' {H,I.tok _,q}
 |ref p =>
  cases rx;have e':(∃xs,SqL X.K H p xs/\k=!xs.isEmpty)\/(∃xs,SqT X.K H p xs/\k=!xs.isEmpty)\/∃kvs,H p=AA (.dK kvs)/\k=!kvs.isEmpty:=e;rcases e' with⟨xs,hx,e'⟩|⟨xs,hx,e'⟩|⟨kvs,hx,e'⟩
  .subst e'
   obtain⟨CA,r,pl,hz⟩:=I.list hx;have EW:=r.length;exact wpAny_truthy_list pl.isList (by simp only[A0];lia) {H,I.tok _,by rw[Ro r];exact q}
  .subst e'
   obtain⟨CA,r,pl,hz⟩:=I.tuple hx;have EW:=r.length;exact truthy_tuple pl (by simp only[A0];lia) {H,I.tok _,by rw[Ro r];exact q}
  .subst e'
   obtain⟨hz,hS,vs,r,m⟩:kvs.length<=sizeLine/\(p==GP)=AD/\∃vs,KV kvs vs/\s.heap.DictOf (R9 X.prog X.w) p vs:=I.hok p _ hx;have EW:kvs.length=vs.length:=Paired.length r;exact wpAny_truthy_dict hS m 'l' {H,I.tok _,by rw[zON r];exact q}
 |_=>exact(show False from e).elim
theorem zSY(ha:PE X a ta)(he:∀RB,UX a X.env RB=(do let v <-RB;IV a.pos;IW [v] (truthy v))) :
  PT X a (λσ H Q=>ta σ H λx H'=>∃k,Tn X.K x H' k/\Q k H'):=by
 intro AE s σ H Q I h;exact isTrue_plain (GN (ha AE s σ H _ I h) (λv s1 q0=>by obtain⟨x,H1,I1,r1,q1⟩:=q0;exact yA0 AE s1 σ H1 x v Q I1 r1 q1)) (he _)
theorem zOO:OpR X (G8 .Add) (λx y H Q=>∃i j,x=.str i/\y=.str j/\i.length+j.length<=sizeLine/\Q (.str (i++j)) H):=by
 intro AE s σ H x y v u Q I rx ry h;obtain⟨i,j,rfl,rfl,hz,q⟩:=h;obtain⟨t,rfl⟩:=rx;obtain⟨t',rfl⟩:=ry;exact add_str (λt' tk=>{.str (i++j),H,I.tok _,{_,rfl},q}) hz
theorem Y1{x:V}(r:Vals [x] us):∃u,us=[u]/\RelV x u:=by
 cases r with
 |cons r1 r2=>cases r2;exact{_,rfl,r1}
theorem yEF{x:V}(r:Vals [x,y] us):∃u w',us=[u,w']/\RelV x u/\RelV y w':=by
 cases r with
 |cons r1 r2 =>
  cases r2 with
  |cons r3 r4=>cases r4;exact{_,_,rfl,r1,r3}
theorem zPX(hc:X.calm=AL):CallR X (.builtin "min") (λxs H Q=>∃i j,xs=[.int i,.int j]/\Q (.int (if j<i then j else i)) H):=by
 intro AE s σ H xs us Q I r h;obtain⟨i,j,rfl,q⟩:=h;obtain⟨u,w',rfl,⟨t,rfl⟩,⟨t',rfl⟩⟩:=yEF r;refine min_two_ints (I.ok.hd hc) λh' tk k=>{_,H,I.kept k,?_,q}
 by_cases hj:j<i
 .rw[if_pos hj,if_pos hj];exact{_,rfl}
 .rw[if_neg hj,if_neg hj];exact{_,rfl}
end
structure ObjM(h:DZ)(x dx C:AQ)(mA:CK->Option AH):Prop where
 obj:h.get? x=AA (QL C dx)
 ns:h.Ns1 dx mA
 ne:dx≠x
theorem zPY(n:h.Ns1 dx mA):∃od,h.get? dx=AA od/\∀name,RS name od=AA (mA name):=by
 obtain⟨o,es,ep,ho,hd,hk,_,hm⟩:=n;refine{o,ho,λname=>?_};have e:=hm name;unfold nsFind findBy at e;rw[<-Array.find?_toList] at e;unfold RS;rw[hd];dsimp only;split
 .rename_i y q
  rw[q] at e;exact congrArg AA e
 .rename_i q
  rw[q] at e
  have a:es.toList.any (·.refKey)=AD:=by
   rw[LX];intro y hy;obtain⟨z,t,NB⟩:=hk y (GR.mp hy);simp[DictEntry.refKey,NB]
  have a':¬es.toList.any (·.refKey)=AL:=by rw[a];exact CG
  rw[if_neg a'];exact congrArg AA e
theorem ObjM.look{x:AQ}(I:ObjM h x dx C mA):∃od,PySem.W.InstAt h x (QL C dx) C (AA od)/\∀name,RS name od=AA (mA name) :=
 let ⟨od,ho,hl⟩:=zPY I.ns
 {od,{I.obj,rfl,rfl,ho},hl}
section
variable{K:AC}{x:AQ}{v:AH}
end
theorem RelO.some_of{o:Option AH}(r:RelO (AA v) o):∃u,o=AA u/\RelV v u:=by
 cases o with
 |none=>exact(show False from r).elim
 |some u=>exact{u,rfl,r}
section
variable{fs nM:List (CK×V)}
theorem zW2(hok:HOk P w H h)(e:H a=AA (.ins C dx fs)):∃mA,ObjM h a dx C mA/\(∀f,RelO (fs.lookup f) (mA f))/\PySem.Within mA (fs.map (·.1))/\fs.length<=1000/\H dx=AA (.own a):=by
 obtain⟨d,z,ne,ob,mA,n,r,q⟩:=(show ObjOk P w H h a (.ins C dx fs) from hok a _ e);exact{mA,{ob,n,ne},r,q,z,d}
end
structure Cls(K:AC)(C:AQ):Prop where
 pg:ZQ K C OH=AL
 hd:PySem.W.hasDictIn K C=AL
 po:PySem.W.plainOver K C=AL
 sa:KW K (.ref C) "__setattr__"=AA (AA (.builtin "object.__setattr__"))
theorem Cls.get{K:AC}(c:Cls K C)(f:CK):ZQ K C f=AL:=c.pg
section
variable{fs:List (CK×V)}{f:CK}
end
variable{tv:TE}
section
variable{o:CU}{f:CK}
end
section
variable{c:AH}{b:Bool}
inductive TyOf(K:AC)(H:Hp):V->AH->Prop where
 |non:TyOf K H .non (.type "NoneType")
 |bl (x:Bool):TyOf K H (.bl x) (.type "bool")
 |int (i:Int):TyOf K H (.int i) (.type "int")
 |str (x:CK):TyOf K H (.str x) (.type "str")
 |flt (x:UInt64):TyOf K H (.flt x) (.type "float")
 |lst {a:AQ} {xs:List V} (e:H a=AA (.lst xs)):TyOf K H (.ref a) (.type "list")
 |frz {a:AQ} {o:HL} {xs:List V} (e:H a=AA (.frz o (.lst xs))):TyOf K H (.ref a) (.type "list")
 |tup {a:AQ} {xs:List V} (e:H a=AA (.tup xs)):TyOf K H (.ref a) (.type "tuple")
 |dK {a:AQ} {kvs:List (Key×V)} (e:H a=AA (.dK kvs)):TyOf K H (.ref a) (.type "dict")
 |dT {a:AQ} {kvs:List (List Key×V)} (e:H a=AA (.dT kvs)):TyOf K H (.ref a) (.type "dict")
 |ins {a C dx:AQ} {fs:List (CK×V)} (e:H a=AA (.ins C dx fs)) (cl:Cls K C) (ha:KW K (.ref C) "__class__"=AA (AA (.builtin "object.__class__")))
   (hn:YN K (.builtin "object.__class__") "__get__"=AA (AA (.builtin "getset_descriptor.__get__"))) (mM:aP K (.builtin "object.__class__")=AA AL)
   (hm:SN K C (.type "object")=AA AL):TyOf K H (.ref a) (.ref C)
theorem xR{x:V}{t:AH}(I:Inv X AE σ H s)(rx:RelV x u)(ty:TyOf X.K H x t)(e:BP X.K t c=AA b)(h:∀tk,Q (.bool b) { s with toks:=tk }) :
  AZ (A3 X.prog X.w) A (call (.builtin "isinstance") [u,c]) Q E s:=by
 cases ty with
 |non=>cases(show u=GC from rx);exact DA PySem.W.kitx_none I.kIn GZ e (λz=>nomatch z) h
 |bl y=>cases(show u=IX y from rx);exact DA PySem.W.kitx_bool I.kIn GZ e (λz=>nomatch z) h
 |int i=>obtain⟨t,q⟩:=(show ∃t,u=MI i t from rx);cases q;exact DA PySem.W.kitx_int I.kIn GZ e (λz=>nomatch z) h
 |str y=>obtain⟨t,q⟩:=(show ∃t,u=VJ y t from rx);cases q;exact DA PySem.W.kitx_str I.kIn GZ e (λz=>nomatch z) h
 |flt y=>obtain⟨t,q⟩:=(show ∃t,u=Value.float y t from rx);cases q;exact DA PySem.W.kitx_float I.kIn GZ e (λz=>nomatch z) h
 |@lst a xs ea =>
  cases(show u=DI a from rx);obtain⟨_,_,n,_,h1⟩:=(show ObjOk X.prog X.w H s.heap a (.lst xs) from I.hok a _ ea);exact DA OY I.kIn {_,h1,rfl} e (λz=>nomatch z) h
 |@frz a ob xs ea =>
  cases(show u=DI a from rx);obtain⟨_,_,_,n,_,h1⟩:=(show ObjOk X.prog X.w H s.heap a (.frz ob (.lst xs)) from I.hok a _ ea);exact DA OY I.kIn {_,h1,rfl} e (λz=>nomatch z) h
 |@tup a xs ea =>
  cases(show u=DI a from rx);obtain⟨_,_,_,p⟩:=(show ObjOk X.prog X.w H s.heap a (.tup xs) from I.hok a _ ea);obtain⟨o,h1,h2,_⟩:=p;exact DA X1 I.kIn {o,h1,h2} e (λz=>nomatch z) h
 |@dK a kvs ea =>
  cases(show u=DI a from rx);obtain⟨_,_,vs,_,p⟩:=(show ObjOk X.prog X.w H s.heap a (.dK kvs) from I.hok a _ ea);obtain⟨o,es,ep,h1,h2,_⟩:=p;exact DA LA I.kIn {o,h1,h2.1} e (λz=>nomatch z) h
 |@dT a kvs ea =>
  cases(show u=DI a from rx);obtain⟨_,_,xs,_,o,es,ep,h1,h2,_⟩:=(show ObjOk X.prog X.w H s.heap a (.dT kvs) from I.hok a _ ea);exact DA LA I.kIn {o,h1,h2.1} e (λz=>nomatch z) h
 |@ins a C dx fs ea cl ha hn mM hm =>
  cases(show u=DI a from rx);obtain⟨mA,O,_⟩:=zW2 I.hok ea;obtain⟨od,J,_⟩:=O.look;exact DA (PySem.W.kitx_own (cl.get _) cl.hd ha hn mM hm) I.kIn J e (λz=>nomatch z) h
end
structure Room(k:Nat)(A:DJ):Prop where
 hd:A.handled=AI
 dp:A.depth+3 * k+5<recursionLimit
 un:A.units+16 * k+200<GQ
 gd:A.guards=AA []
theorem Room.mono(r:Room k A)(h:j<=k):Room j A:={r.hd,by have:=r.dp;lia,by have:=r.un;lia,r.gd}
theorem Room.deeper{k:Nat}{A:DJ}(r:Room (k+1) A)(env:WK):Room k (A.deeper env) :=
 {r.hd,by have:=r.dp;show A.depth+1+3 * k+5<_;lia,by have:=r.un;show A.units+3+16 * k+200<_;lia,r.gd}
theorem Room.in1{k:Nat}{A:DJ}(r:Room (k+1) A):Room k A.in1 :=
 {r.hd,by have:=r.dp;show A.depth+3 * k+5<_;lia,by have:=r.un;show A.units+1+16 * k+200<_;lia,r.gd}
theorem Room.depth{k:Nat}{A:DJ}(r:Room k A):A.depth<recursionLimit:=by have:=r.dp;lia
theorem Room.units{k:Nat}{A:DJ}(r:Room k A):A.units+64<GQ:=by have:=r.un;lia
def yO:TA:=λ_ H Q=>Q [] H
def qM(ta:TE)(tr:TA):TA:=λσ H Q=>ta σ H λx H1=>tr σ H1 λxs H2=>Q (x::xs) H2
section
variable{t:TA}
theorem HU:PA X [] yO:=λ_ _ _ _ H Q I h=>aW {[],H,I,.nil,h}
theorem R8(ha:PE X e te)(hr:PA X es t)(hs:AO (e::es) X.env=(AD,eval e X.env)::AO es X.env:=by rfl):PA X (e::es) (qM te t):=by
 intro pos AE s σ H Q I h;rw[hs];show AZ _ _ (spliced ((AD,eval e X.env)::DH pos (AO es X.env))) _ _ s;refine O0 (GN (ha AE s σ H _ I h) λu s1 ⟨x,H1,I1,r1,q1⟩=>?_);exact GN (hr pos AE s1 σ H1 _ I1 q1) (λus s2 q0=>by obtain⟨xs,H2,I2,r2,q2⟩:=q0;exact{x::xs,H2,I2,.cons r1 r2,q2})
def yG4(t:TA):TE:=λσ H Q=>t σ H λxs H1=>xs.length<=sizeLine/\∀p,H1 p=AI->Q (.ref p) (DU H1 p (.tup xs))
def oA(t:TA):TE:=λσ H Q=>t σ H λxs H1=>xs.length<=sizeLine/\∀p,H1 p=AI->Q (.ref p) (DU H1 p (.lst xs))
theorem yA1{x1}(h:PA X es t):PE X (.Tuple es x1 pos) (yG4 t):=by
 intro AE s σ H Q I hq;refine wpAny_Tuple_spliced (GN (h pos AE s σ H _ I hq) λus s1 ⟨xs,H1,I1,r,z,q⟩=>{by rw[<-r.length];exact z,?_});have hf:H1 s1.heap.objs.size=AI:=I1.hok.fresh (AM _);refine{.ref s1.heap.objs.size,DU H1 s1.heap.objs.size (.tup xs),I1.laid (t':=s1.toks) (λb u e=>AF _ e) (AM _) ?_,rfl,q _ hf};exact{z,us,r,{_,AV _ rfl,rfl,rfl,_,rfl}}
theorem lP(h:PA X es t):PE X (.List es pos) (oA t):=by
 intro AE s σ H Q I hq;refine wpAny_List_spliced (GN (h pos AE s σ H _ I hq) λus s1 ⟨xs,H1,I1,r,z,q⟩=>{by rw[<-r.length];exact z,?_});have hf:H1 s1.heap.objs.size=AI:=I1.hok.fresh (AM _);refine{.ref s1.heap.objs.size,DU H1 s1.heap.objs.size (.lst xs),I1.laid (t':=s1.toks) (λb u e=>AF _ e) (AM _) ?_,rfl,q _ hf};exact{z,us,0,r,AV _ rfl}
end
abbrev Sp:=List V->Hp->VK->XK->Prop
abbrev CXT:=List WK->Hp->AT->XK->AH->AT->Prop
structure Env0(P:CI)(w:DY)(K:AC)(mg:CK->Option AH)(base:DZ)(A:DJ)(outer:List WK)(s:AT)(H:Hp):Prop where
 tab:∀T q,TB K T q->∃ps,H T=AA (.tbl q ps)
 frames:A.frames=AA outer
 mod:Mod K mg base
 bs:∀b o,base.get? b=AA o->s.heap.get? b=AA o/\H b=AI
 bsz:base.objs.size<=s.heap.objs.size
 funs:s.heap.FunFrames base outer
 frf:∀b∈QU outer,H b=AI
 hok:HOk P w H s.heap
 bare:M5 s.gens
def CE(outer:List WK)(P:CI)(w:DY)(H:Hp)(s:AT)(Q:VK)(u:AH)(s':AT):Prop :=
 ∃v H',s'.os=s.os/\M5 s'.gens/\Un (QU outer) [] H H' s.heap s'.heap/\HOk P w H' s'.heap/\RelV v u/\Q v H'
def CR(CX:CXT)(outer:List WK)(P:CI)(w:DY)(H:Hp)(s:AT)(Q:VK)(E:XK)(r:Result)(s':AT):Prop :=
 match r with
 |.ok (.ret u)=>CE outer P w H s Q u s'
 |.ok _=>False
 |.error e=>CX outer H s E e s'
structure FnOk(P:CI)(w:DY)(K:AC)(mg:CK->Option AH)(base:DZ)(CX:CXT)(k:Nat)(f:AQ)(fd:JN)(ps:List CK)(sp:Sp):Prop where
 len:∀vs H Q E,sp vs H Q E->vs.length=ps.length
 run:∀(A:DJ) (outer:List WK) (s:AT) (H:Hp) (args:Args) (us:List AH) (vs:List V) (Q:VK) (E:XK),Room k A->Env0 P w K mg base A outer s H->SU s fd args (ps.zip us)->Vals vs us->sp vs H Q E ->
  HG (A3 P w) A (.call (.ref f) args) (CR CX outer P w H s Q E) s
variable{CX:CXT}{sp:Sp}
theorem FnOk.imp{K:AC}{Vz:Sp}(F:FnOk P w K mg base CX k f fd ps sp)
  (h:∀vs H Q E,Vz vs H Q E->sp vs H Q E):FnOk P w K mg base CX k f fd ps Vz :=
 {λvs H Q E q=>F.len vs H Q E (h _ _ _ _ q),λA outer s H args us vs Q E hr he hb hv hs=>F.run A outer s H args us vs Q E hr he hb hv (h _ _ _ _ hs)}
theorem Inv.env0(I:Inv X AE σ H s):Env0 X.prog X.w X.K X.mg X.base X.A X.stack s H :=
 {I.tab,I.ok.frames,I.ok.mod,I.bs,AY I.ok.bsz I.sz,I.stack,I.stkFree,I.hok,I.bare}
theorem Inv.after{Q:VK}(I:Inv X AE σ H s)(h:CE X.stack X.prog X.w H s Q u s'):EP X AE σ Q u s':=by
 obtain⟨v,H',os,bare,un,hok,r,q⟩:=h;obtain⟨hh,g,d,t,Gs⟩:=s';obtain rfl:Gs=s.os:=os;exact{v,H',I.call (h':=hh) (g':=g) (d':=d) (t':=t) (ch:=[]) un hok bare (λb z=>absurd z 's'),r,q}
def qO(sp:Sp)(kE:List V)(E:XK)(t:TA):TE:=λσ H Q=>t σ H λvs H1=>sp (vs++kE) H1 Q E
def Binds(K:AC)(fd:JN)(ps:List CK)(ds:List AH):Prop :=
 ∀(s:AT) (us:List AH),K.In s.heap->(us++ds).length=ps.length->SU s fd {us,[]} (ps.zip (us++ds))
theorem Binds.all{K:AC}(h:∀us:List AH,us.length=ps.length->NU fd {us,[]}=pure (ps.zip us)):Binds K fd ps []:=λs us _ hl=>by
 rw[DC] at hl ⊢;exact .of_eq (h us hl)
def wH(CX:CXT)(X:Cx)(E:XK):Prop:=∀(AE:List (AQ×HL)) (σ:St) (H:Hp) (s:AT) (e:AH) (s':AT),Inv X AE σ H s->CX X.stack H s E e s'->X.xe e s'
variable{vs:List V}
section
variable{kE:List V}{ds:List AH}{E:XK}{m:CK}{o:CU}{t:TA}
theorem yA2{Q:VK}(F:FnOk X.prog X.w X.K X.mg X.base CX k f fd ps sp)(hr:Room k X.A)(hb:Binds X.K fd ps ds)(hd:Vals kE ds)(hx:wH CX X E)
  (I:Inv X AE σ H s) (r:Vals vs us) (h:sp (vs++kE) H Q E):AZ (A3 X.prog X.w) X.A (call (.ref f) us) (EP X AE σ Q) X.xe s:=by
 have r2:Vals (vs++kE) (us++ds):=r.append hd;have hl:(us++ds).length=ps.length:=by rw[<-r2.length];exact F.len _ _ _ _ h
 refine RP (LS (F.run X.A X.stack s H {us,[]} (us++ds) (vs++kE) Q E hr I.env0 (hb s us I.kIn hl) r2 h) λr s' hq=>?_)
 cases r with
 |error e=>exact hx AE σ H s e s' I hq
 |ok fl =>
  cases fl with
  |ret u=>exact I.after hq
  |next=>exact HF hq
  |brk=>exact HF hq
  |cont=>exact HF hq
theorem rM(F:FnOk X.prog X.w X.K X.mg X.base CX k f fd ps sp)(hr:Room k X.A)(hg:Gl X x)(hm:X.mg x=AA (.ref f))(hk:EJ X.K (.ref f)=AL)(hb:Binds X.K fd ps ds)(hd:Vals kE ds)(hx:wH CX X E)
  (ha:PA X (e::es) t) (RL:(x==("__debug__":CK))=AD:=by decide) (he:AO (e::es) X.env=(AD,eval e X.env)::AO es X.env:=by rfl) (JT:(DH pos (AO es X.env)).any (·.1)=AD:=by rfl) :
  PE X (.Call (.Name x p) (e::es) [] pos) (qO sp kE E t):=by
 intro AE s σ H Q I h;refine HW (oQ I hg hm ?_ RL);refine OB (h₀:=X.base) I.ok.mod.kin hk (GN (ha pos AE s σ H _ I h) λus s1 ⟨vs,H1,I1,r,q⟩=>{I1.kIn,?_}) he JT;exact yA2 F hr hb hd hx I1 r q
end
section
variable{ks:List CK}{E:XK}{m:CK}{o:CU}{kws:List OC}{t tk:TA}{nm:Option CK}{g:List AH->List AH->List AH}{gV:List V->List V->List V}
end
structure FnScope(N P:List CK)(sc:M1):Prop where
 kind:sc.kind=.function
 co:sc.isCoroutine=AD
 gen:sc.isGenerator=AD
 nd:N.Nodup
 pre:N.take P.length=P
 par:∀x∈P,sc.names.lookup x=AA .local\/sc.names.lookup x=AA .cell
 nofree:∀y∈sc.names,y.2≠.free
theorem Qt{kindOf:CK->Option SO}{x:CK}:∀{WG:List (CK×AH)} {m:CK->Option AH},(∀v,(x,v)∉WG)->aK kindOf WG m x=m x
 |[],_,_=>rfl
 |(n,v)::r,m,h=>by
  unfold aK;rw[Qt λw hw=>h w (A7 _ hw)];split
  .have:x≠n:=by rintro rfl;exact h v BB
   simp[this]
  .rfl
theorem Qs{kindOf:CK->Option SO}{x:CK}:∀{WG:List (CK×AH)} {m:CK->Option AH},(∀v,(x,v)∉WG)->aM kindOf WG m x=m x
 |[],_,_=>rfl
 |(n,v)::r,m,h=>by
  unfold aM;rw[Qs λw hw=>h w (A7 _ hw)];split
  .rfl
  .have:x≠n:=by rintro rfl;exact h v BB
   simp[this]
theorem Qr{kindOf:CK->Option SO}{x:CK}{v:AH}:∀{P:List CK} {vs:List AH} {i:Nat} {m:CK->Option AH},P.Nodup->P[i]?=AA x->vs[i]?=AA v->kindOf x=AA .local ->
  aK kindOf (P.zip vs) m x=AA v
 |[],_,_,_,_,h,_,_=>by simp at h
 |_::_,[],_,_,_,_,h,_=>by simp at h
 |p::P,w::vs,0,m,nd,h1,h2,hk=>by
  simp at h1 h2;subst h1;subst h2;show aK kindOf ((p,w)::P.zip vs) m p=_;unfold aK;rw[Qt λv hv=>(EM.mp nd).1 (IZ hv).1,if_pos hk];simp
 |p::P,w::vs,i+1,m,nd,h1,h2,hk=>by
  show aK kindOf ((p,w)::P.zip vs) m x=_;unfold aK;exact Qr (i:=i) (EM.mp nd).2 (by simpa using h1) (by simpa using h2) hk
theorem Qq{kindOf:CK->Option SO}{x:CK}{v:AH}:∀{P:List CK} {vs:List AH} {i:Nat} {m:CK->Option AH},P.Nodup->P[i]?=AA x->vs[i]?=AA v->kindOf x≠AA .local ->
  aM kindOf (P.zip vs) m x=AA v
 |[],_,_,_,_,h,_,_=>by simp at h
 |_::_,[],_,_,_,_,h,_=>by simp at h
 |p::P,w::vs,0,m,nd,h1,h2,hk=>by
  simp at h1 h2;subst h1;subst h2;show aM kindOf ((p,w)::P.zip vs) m p=_;unfold aM;rw[Qs λv hv=>(EM.mp nd).1 (IZ hv).1,if_neg hk];simp
 |p::P,w::vs,i+1,m,nd,h1,h2,hk=>by
  show aM kindOf ((p,w)::P.zip vs) m x=_;unfold aM;exact Qq (i:=i) (EM.mp nd).2 (by simpa using h1) (by simpa using h2) hk
noncomputable def start(N:List CK)(vs:List V):St:=vs.map AA++BG (N.length-vs.length) AI
noncomputable def OL(CX:CXT)(P:CI)(w:DY)(K:AC)(mg:CK->Option AH)(base:DZ)(N:List CK)(qual:CK)(scope:M1)(f:AQ)(cd:AH)(A:DJ)(outer:List WK)(s:AT)(H:Hp)(E:XK):Cx where
 prog:=P
 w:=w
 K:=K
 mg:=mg
 base:=base
 A:=A.deeper (FR qual scope s.heap.objs.size f cd)
 N:=N
 s₀:=s
 H₀:=H
 env:=FR qual scope s.heap.objs.size f cd
 outer:=outer
 stack:=FR qual scope s.heap.objs.size f cd::outer
 ex:=[]
 calm:=AL
 fn:=λ_=>AL
 pn:=[]
 xe:=λe s'=>AZ (A3 P w) (A.deeper (FR qual scope s.heap.objs.size f cd)) (leaving (FR qual scope s.heap.objs.size f cd) e) (λ_ eM=>CX outer H s E e eM) (λe' eM=>CX outer H s E e' eM) s'
theorem Pa{sc:M1}(h:sc.names.lookup x=AA .cell):∃c,(cellsFrom n sc.names []).lookup x=AA c:=by
 have q:=MK sc.names n [] (.inl h);exact Option.isSome_iff_exists.mp q
theorem Qp{K:AC}{s1:AT}{E:XK}
  (S:FnScope N ps scope) (hd:A.handled=AI) (e0:Env0 P w K mg base A outer s H) (hl:vs.length=ps.length) (r:Vals vs us)
  (x:InCallC s s.heap.objs.size (aK (FR qual scope s.heap.objs.size f cd).kindOf (ps.zip us) λ_=>AI) (cellsFrom (s.heap.objs.size+1) scope.names []) (aM (FR qual scope s.heap.objs.size f cd).kindOf (ps.zip us) λ_=>AI) s1) :
  Inv (OL CX P w K mg base N qual scope f cd A outer s H E) [] (start N vs) H s1:=by
 have JT:ps.length<=N.length:=by have:=congrArg LW S.pre;rw[ET] at this;lia
 obtain⟨h1,tk,rfl,hk⟩:=x.done;have tZ:∀b:AQ,b∉(OL CX P w K mg base N qual scope f cd A outer s H E).ex:=λb z=>absurd (show b∈([]:List AQ) from z) 's'
 refine{{e0.tab,e0.mod,S.kind,rfl,rfl,AM _,λy z c h1 h2=>?_,λy hy=>?_,λy c _ h=>?_,λ_=>hd,WY e0.frames,.inr {rfl,rfl},λb z=>absurd z (tZ b),e0.bs,e0.bsz,λb _ _=>tZ b,λb z=>absurd z (tZ b),e0.funs,e0.frf},
  rfl,e0.bare,Un.kept hk,{_,x.toInCall.ns,λi y v h1 h2 h3=>?_},λy c h=>{_,x.cell y c h},e0.hok.fresh (AM _),λy c h=>?_,λp hp=>absurd (show p∈([]:List (AQ×HL)) from hp) 's',e0.hok.kept hk,?_}
 .exact name_of_addr x.apart (IP h1) (IP h2)
 .have hy:scope.names.lookup y=AA .cell\/scope.names.lookup y=AA .free:=hy
  rcases hy with hy|hy
  .exact Pa hy
  .exact absurd rfl (S.nofree _ (IP hy))
 .exact CN (x.above y c (IP h))
 .have hi:i<vs.length:=by
   unfold start at h2
   by_cases hi:i<vs.length
   .exact hi
   .rw[BX (by simpa using hi)] at h2
    rw[DR] at h2;split at h2<;>cases h2
  have ha:vs[i]?=AA v:=by
   unfold start at h2;rw[B9 (by simpa using hi),AU] at h2
   cases e:vs[i]? with
   |none=>rw[e] at h2;cases h2
   |some a=>rw[e] at h2;cases h2;rfl
  obtain⟨u,hu,rv⟩:=r.get ha
  have hp:ps[i]?=AA y:=by
   rw[<-S.pre,VP (AN hi (CO hl))];exact h1
  have Wn:ps.Nodup:=by rw[<-S.pre];exact S.nd.sublist (QB _ _)
  refine{u,rv,?_};rcases S.par y (CT hp) with k|k
  .exact .inl {k,Qr Wn hp hu k}
  .obtain⟨c,e⟩:=Pa (n:=s.heap.objs.size+1) k
   refine .inr {.inl k,c,e,?_};have q:=x.cell y c e;rw[Qq Wn hp hu (by show scope.names.lookup y≠_;rw[k];decide)] at q;exact q
 .exact e0.hok.fresh (CN (x.above y c (IP h)))
 .unfold start
  show _=N.length;rw[BH,AJ,C2];lia
theorem At{K:AC}{dV kV RN G5:AH}
  {ZC:Array (Option AH)} {N ps:List CK} {sp:Sp} (lk:K.lookup f=AA {oc,od,.func (EX name qual ER body scope dV kV RN pm an G5 ct),ZC}) (LR:HZ K G5 qual=AL) (S:FnScope N ps scope)
  (len:∀vs H Q E,sp vs H Q E->vs.length=ps.length)
  (KO:∀(A:DJ) (outer:List WK) (s:AT) (H:Hp) (vs:List V) (Q:VK) (E:XK),Room k (A.deeper (FR qual scope s.heap.objs.size f G5))->sp vs H Q E ->
   ∃t,PSs (OL CX P w K mg base N qual scope f G5 A outer s H E) body t/\t { nx:=λ_ H'=>Q .non H',rt:=Q } (start N vs) H) :
  FnOk P w K mg base CX (k+1) f (EX name qual ER body scope dV kV RN pm an G5 ct) ps sp:=by
 refine{len,λA outer s H args us vs Q E hr e0 hb r aC=>?_};have hl:=len _ _ _ _ aC;have KX:K.In s.heap:=e0.mod.kin.keeps λb o e=>(e0.bs b o e).1;have Hm:s.heap.NoLimit:=e0.mod.nolimit.keeps λb o e=>(e0.bs b o e).1
 have uU:∀y∈ps.zip us,scope.names.lookup y.1=AA .local\/(scope.names.lookup y.1=AA .cell/\((cellsFrom (s.heap.objs.size+1) scope.names []).lookup y.1).isSome=AL):=λ⟨n,v⟩ hy=>by
  rcases S.par n (IZ hy).1 with q|q
  .exact .inl q
  .exact .inr {q,MK _ _ _ (.inl q)}
 refine fB hr.depth (KX _ _ lk) rfl S.co S.gen rfl (X2 KX LR) (hb _ _ _ _ ?_);refine XS S.kind uU λenv he s1 x=>?_;subst he;refine{Hm.keeps x.toInCall.keep,codeAny_func ?_};obtain⟨t,ht,hq⟩:=KO A outer s H vs Q E (hr.deeper _) aC;have I:Inv (OL CX P w K mg base N qual scope f G5 A outer s H E) [] (start N vs) H s1:=Qp S hr.hd e0 hl r x;refine CY (ht [] s1 (start N vs) H _ I hq) (λfl s' hs=>?_) λe s' hs=>hs
 have fin:∀{σ':St} {H':Hp} {v:V} {u:AH},Inv (OL CX P w K mg base N qual scope f G5 A outer s H E) [] σ' H' s'->RelV v u->Q v H'->CE outer P w H s Q u s' :=
  λ{σ' H' v u} J rv q=>{v,H',J.os,J.bare,J.base,J.hok,rv,q}
 cases fl with
 |ret u =>
  obtain⟨v,σ',H',J,rv,q⟩:=hs;exact fin J rv q
 |next =>
  obtain⟨σ',H',J,q⟩:=hs;exact fin (v:=V.non) (u:=GC) J rfl q
 |brk =>
  obtain⟨_,_,_,q⟩:=hs;exact HF q
 |cont =>
  obtain⟨_,_,_,q⟩:=hs;exact HF q
variable{r:List V->Hp->VK->Prop}
section
variable{t:TA}{id T:String}
def yU(r:List V->Hp->VK->Prop)(t:TA):TE:=λσ H Q=>t σ H λvs H1=>r vs H1 Q
theorem xF(hc:CallR X (.builtin id) r)(hg:Gl X x)(hm:X.mg x=AI)(hv:GD x=AA (.builtin id))(ha:PA X (e::es) t)(hn:x≠"__name__":=by decide)(RL:(x==("__debug__":CK))=AD:=by decide)
  (he:AO (e::es) X.env=(AD,eval e X.env)::AO es X.env:=by rfl) (JT:(DH pos (AO es X.env)).any (·.1)=AD:=by rfl):PE X (.Call (.Name x p) (e::es) [] pos) (yU r t):=by
 intro AE s σ H Q I h;refine HW (jC I hg hm hv ?_ hn RL);exact PyProof.Rows.callWith_builtin1 (GN (ha pos AE s σ H _ I h) (λus s1 q0=>by obtain⟨vs,H1,I1,r1,q1⟩:=q0;exact hc AE s1 σ H1 vs us Q I1 r1 q1)) he JT
theorem xQ(hc:CallR X (.type T) r)(hg:Gl X x)(hm:X.mg x=AI)(hv:GD x=AA (.type T))(ha:PA X (e::es) t)(hn:x≠"__name__":=by decide)(RL:(x==("__debug__":CK))=AD:=by decide)
  (he:AO (e::es) X.env=(AD,eval e X.env)::AO es X.env:=by rfl) (JT:(DH pos (AO es X.env)).any (·.1)=AD:=by rfl):PE X (.Call (.Name x p) (e::es) [] pos) (yU r t):=by
 intro AE s σ H Q I h;refine HW (jC I hg hm hv ?_ hn RL);exact FN (GN (ha pos AE s σ H _ I h) (λus s1 q0=>by obtain⟨vs,H1,I1,r1,q1⟩:=q0;exact hc AE s1 σ H1 vs us Q I1 r1 q1)) he JT
end
end L2
variable{l:AQ}{ns:List Int}{ws:List AH}{vl vu:AH}{hi:Option Int}{v:AH}
namespace HT
open PySem PyProof.Rows
noncomputable def lexLt:List Int->List Int->Bool
 |[],[]=>AD
 |[],_::_=>AL
 |_::_,[]=>AD
 |x::xs,y::ys=>if x=y then lexLt xs ys else decide (x<y)
theorem zOP(x y:Int)(xs ys:List Int):lexLt (x::xs) (y::ys)=if x=y then lexLt xs ys else decide (x<y):=rfl
theorem zII:lexLt [] []=AD:=rfl
theorem zG8(y:Int)(ys:List Int):lexLt [] (y::ys)=AL:=rfl
theorem zG9(x:Int)(xs:List Int):lexLt (x::xs) []=AD:=rfl
theorem zSZ(A:DJ)(s:AT)(a:Int)(t:kM)(c:Int)(u:kM):∃e,SeqAt.EqAt A s (.int a t) (.int c u) e/\(e=AL↔a=c) :=
 {(a==c),SeqAt.EqAt.int_int a t c u,by simp}
theorem zS0(A:DJ)(s:AT)(a:Int)(t:kM)(c:Int)(u:kM)(prog:CI)(w:DY)(E:AH->AT->Prop)(Q:AH->AT->Prop)(h:Q (.bool (decide (a<c))) s) :
  AZ (A3 prog w) A (richCompare .Lt (.int a t) (.int c u)) Q E s :=
 (PyProof.Rows.lt_int h:AZ (A3 prog w) A (EQ .Lt (.int a t) (.int c u)) Q E s)
section
open PySem.SeqAt
open PySem.AutoSeq1 (wpAny_loadPart')
open PySem.MeetsSeq PySem.MeetsSeq2 PySem.MeetsSeq3
theorem zIJ(l b:AQ)(items LG:Array AH)(n n2:Nat)(dd kG:Option AQ)(sl jP:Array (Option AH))(ns ms:List Int)(hi:GF items.toList ns)(hj:GF LG.toList ms) :
  Meets (E4.«tuple.__lt__» {[.ref l,.ref b],[]})
   (λ_ R s=>s.heap.get? l=AA { cls:=.type "tuple",dict:=dd,data:=.seq items n,slots:=sl }/\s.heap.get? b=AA { cls:=.type "tuple",dict:=kG,data:=.seq LG n2,slots:=jP } /\
    R (.ok (.ret (.bool (lexLt ns ms)))) s) :=
 .of_wp λprog w A R s h=>by
  obtain⟨hp,g,d,tk,os⟩:=s;obtain⟨hl,hb,h⟩:=h;have f2:=AutoSeq1.sub_tuple_tuple;have z1:items.size=ns.length:=by rw[<-hi.length];simp
  have z2:LG.size=ms.length:=by rw[<-hj.length];simp
  wp_walk using wpAny_loadPart' hl,wpAny_loadPart' hb,wpAny_forIn_list _ (λrest b s'=>b.1=AI/\s'={hp,g,d,tk,os}/\∃(vs ws:List AH) (pV pX:List Int),rest=vs.zip ws /\
   GF vs pV/\GF ws pX/\pV.length+LG.size=pX.length+items.size/\R (.ok (.ret (.bool (lexLt pV pX)))) {hp,g,d,tk,os}) _
  case turn =>
   rintro⟨y,x⟩ rest b s' ⟨cO,rfl,vs,ws,pV,pX,hz,Hz,zO,EW,hR⟩
   cases Hz with
   |nil=>rw[List.zip_nil_left] at hz;cases hz
   |cons a t hvi' =>
    cases zO with
    |nil=>rw[List.zip_nil_right] at hz;cases hz
    |cons c u hwi' =>
     rw[O7] at hz;injection hz with hyx hrest;injection hyx with hy hx;subst hy hx;rw[zOP] at hR;simp only[BC] at EW;obtain⟨e,he,uZ⟩:=zSZ A.in1 {hp,g,d,tk,os} a t c u;refine AB (he prog w _ _ ?_)
     cases e with
     |true =>
      rw[if_pos (uZ.mp rfl)] at hR
      wp_walk
      exact{rfl,rfl,_,_,_,_,hrest,hvi',hwi',by lia,hR}
     |false =>
      rw[if_neg (λq=>absurd (uZ.mpr q) CG)] at hR;have hri:=zS0 A.in1 {hp,g,d,tk,os} a t c u prog w
      wp_walk using hri
      exact{_,rfl,by simpa using hR}
  case fin =>
   rintro⟨b1,b2⟩ s' ⟨cO,rfl,vs,ws,pV,pX,hz,Hz,zO,EW,hR⟩;simp only at cO;subst cO
   have hv:lexLt pV pX=decide (items.size<LG.size):=by
    cases Hz with
    |nil =>
     cases zO with
     |nil =>
      simp only[I0] at EW;rw[zII];exact(decide_eq_false 'l').symm
     |cons c u hw =>
      simp only[I0,BC] at EW;rw[zG8];exact(decide_eq_true 'l').symm
    |cons a t hv =>
     cases zO with
     |nil =>
      simp only[I0,BC] at EW;rw[zG9];exact(decide_eq_false 'l').symm
     |cons c u hw =>
      rw[O7] at hz;cases hz
   rw[hv] at hR
   wp_walk
   exact{_,rfl,by simpa[Builtin.Tuple.tupleCompareSizes] using hR}
  case h =>
   exact{rfl,rfl,items.toList,LG.toList,ns,ms,rfl,hi,hj,by lia,h}
end
theorem lt_tupInts{b:AQ}{LG:Array AH}{ms:List Int}(hl:SR s.heap l items)(hb:SR s.heap b LG)(hi:GF items.toList ns)(hj:GF LG.toList ms)
  (hu:A.units<GQ) (h:Q (.bool (lexLt ns ms)) s):AZ (A3 prog w) A (EQ .Lt (.ref l) (.ref b)) Q E s:=by
 obtain⟨⟨cls,dd,data,sl⟩,ho,hc,n,hd⟩:=id hl;obtain⟨⟨vV,kG,data2,jP⟩,YF,cN,n2,eT⟩:=id hb;simp only at hc hd cN eT;subst hc hd cN eT
 exact richCompare_meets_room (op:=.Lt) {_,ho,rfl} {_,YF,rfl} PySem.F.slot_tuple_lt PySem.F.entry_tuple_lt (PySem.F.args_tuple_lt_2 _ _) (zIJ l b items LG n n2 dd kG sl jP ns ms hi hj)
  {ho,YF,show IX (lexLt ns ms)≠Value.notImplemented/\Q (.bool (lexLt ns ms)) s from{(λx=>nomatch x),h}} hu
theorem cat_tup{t b:AQ}{vs:List AH}(ht:SR s.heap t vs.toArray)(hb:SR s.heap b ws.toArray)(hv:vs≠[])
  (h1:ws=[]->Q (.ref t) s) (h2:ws≠[]->Q (.ref s.heap.objs.size) { s with heap:=s.heap.push { cls:=.type "tuple",data:=.seq (vs++ws).toArray } })
  (hsz:vs.length+ws.length<=sizeLine):AZ (A3 prog w) A (G8 .Add (.ref t) (.ref b)) Q E s:=by
 obtain⟨⟨cls,dd,data,sl⟩,ho,hc,n,hd⟩:=id ht;obtain⟨⟨vV,kG,data2,jP⟩,YF,cN,n2,eT⟩:=id hb;simp only at hc hd cN eT;subst hc hd cN eT;have e:vs.toArray++ws.toArray=(vs++ws).toArray:=by simp
 by_cases hw:ws=[]
 .exact SL {_,ho,rfl} {_,YF,rfl} UW ZO ML LU (LJ _ _)
   (tuple_addW1 t b vs.toArray ws.toArray n n2 dd kG sl jP (by simpa using hv) (by simp[hw])) {ho,YF,h1 hw}
 .refine SL {_,ho,rfl} {_,YF,rfl} UW ZO ML LU (LJ _ _)
   (tuple_addW2 t b vs.toArray ws.toArray n n2 dd kG sl jP (by simpa using hv) (by simpa using hw) (by rw[A0,A0];exact hsz)) {ho,YF,?_}
  rw[e];exact h2 hw
noncomputable def sIx(n d:Nat):Option Int->Nat
 |none=>d
 |some v=>if v<0 then(v+(n:Int)).toNat else min v.toNat n
theorem yA3(n d:Nat)(hd:d<=n)(o:Option Int):sIx n d o<=n:=by
 cases o with
 |none=>exact hd
 |some v =>
  show(if v<0 then(v+(n:Int)).toNat else min v.toNat n)<=n
  by_cases hv:v<0
  .rw[if_pos hv];lia
  .rw[if_neg hv];exact Nat.min_le_right _ _
theorem Od(v:Int)(n d:Nat):(if v<0 then max (v+(n:Int)) 0 else min v (n:Int))=((sIx n d (AA v):Nat):Int):=by
 show(if v<0 then max (v+(n:Int)) 0 else min v (n:Int))=(((if v<0 then(v+(n:Int)).toNat else min v.toNat n):Nat):Int)
 by_cases hv:v<0
 .simp only[if_pos hv];lia
 .simp only[if_neg hv];lia
theorem zOQ(lo hi:Option Int)(n:Nat):KC lo hi 1 (n:Int)=(((sIx n 0 lo:Nat):Int),((sIx n n hi:Nat):Int)):=by
 have h1:¬((1:Int)<0):=by lia
 unfold KC;simp only[h1,if_false];refine kN ?_ ?_
 .cases lo with
  |none=>rfl
  |some v=>exact Od v n 0
 .cases hi with
  |none=>rfl
  |some v=>exact Od v n n
theorem zOR(i j:Nat):HM (i:Int) (j:Int) 1=j-i:=by
 unfold HM;have h1:(1:Int)>0:=by lia
 simp only[h1,if_true,Int.ediv_one];split<;>lia
theorem Rn{o:Option Int}{Q:Option Int->AT->Prop}(p:P0 v o)(h:Q o s):AZ (A3 prog w) A (Builtin.Slice.slicePartIndex v) Q E s:=by
 cases p with
 |none=>exact slicePart_none h
 |int i t=>exact slicePart_int h
theorem sliceApplied_gen{sl:AQ}{lo:Option Int}{Q:Int×Int×Nat->AT->Prop}(hs:s.heap.IsSliceOf sl vl vu .none)(pl:P0 vl lo)(pu:P0 vu hi)
  (h:Q (((sIx n 0 lo:Nat):Int),1,sIx n n hi-sIx n 0 lo) s):AZ (A3 prog w) A (O3 (.ref sl) (pure (n:Int))) Q E s:=by
 obtain⟨os,mY,XN,XM⟩:=id hs;unfold O3 Builtin.Slice.sliceFields;refine AB (AB (C8 mY XM (x:=vl) rfl (AB (C8 mY XM (x:=vu) rfl (AB (C8 mY XM (x:=.none) rfl (wpAny_pure ?_)))))));refine AB (slicePart_none ?_);show AZ _ _ (if((1:Int)==0)=AL then _ else _) _ _ s;rw[if_neg 'd'];refine AB (Rn pl (AB (Rn pu (AB (wpAny_pure ?_)))));show AZ _ _ (match KC lo hi 1 (n:Int) with|(lo,hi)=>pure (lo,(1:Int),HM lo hi 1)) _ _ s;rw[zOQ lo hi n];show AZ _ _ (pure (((sIx n 0 lo:Nat):Int),(1:Int),HM ((sIx n 0 lo:Nat):Int) ((sIx n n hi:Nat):Int) 1)) _ _ s;rw[zOR];exact wpAny_pure h
theorem zS1(xs:Array AH)(i k:Nat):((C9 k).filterMap λ(m:Nat)=>xs[((i:Int)+(m:Int) * 1).toNat]?).toArray=((xs.toList.drop i).take k).toArray:=by
 have e:(λ(m:Nat)=>xs[((i:Int)+(m:Int) * 1).toNat]?)=λm=>xs[i+m]?:=by
  funext m
  have:((i:Int)+(m:Int) * 1).toNat=i+m:=by lia
  rw[this]
 rw[e];have:=pick_run xs i k;rw[O8] at this;have e2:((λx=>xs[x]?)∘λx=>i+x)=λm=>xs[i+m]?:=rfl;rw[e2] at this;rw[this]
theorem getItem_tuple_cut{t sl:AQ}{lo:Option Int}(ht:SR s.heap t items)(hs:s.heap.IsSliceOf sl vl vu .none)(pl:P0 vl lo)(pu:P0 vu hi)
  (hw:¬(sIx items.size 0 lo=0/\sIx items.size items.size hi=items.size))
  (h:Q (.ref s.heap.objs.size) { s with heap:=s.heap.push { cls:=.type "tuple",data:=.seq ((items.toList.drop (sIx items.size 0 lo)).take (sIx items.size items.size hi-sIx items.size 0 lo)).toArray } })
  (hsz:items.size<=sizeLine):AZ (A3 prog w) A (P6 (.ref t) (.ref sl)) Q E s:=by
 have YD:sizeOk (.seq ((items.toList.drop (sIx items.size 0 lo)).take (sIx items.size items.size hi-sIx items.size 0 lo)).toArray):=by
  show((items.toList.drop (sIx items.size 0 lo)).take (sIx items.size items.size hi-sIx items.size 0 lo)).toArray.size<=sizeLine;rw[A0,ET,Q3,KL];lia
 have hj:sIx items.size items.size hi<=items.size:=yA3 _ _ (AM _) hi;obtain⟨os,mY,XN,XM⟩:=id hs;have Kb:s.TypeIs (.ref sl) "slice":={os,mY,XN};unfold P6
 try with_reducible refine C7 ?_
 first|refine AB (wpAny_pure ?_)|skip
 refine AB (wpAny_sequenceKey ht.typeIs 'd' ?_)
 refine AB (C5 (name:=EN "__getitem__") ht.typeIs D6
  (DD D6 ht.typeIs kK ?_ (args_tuple_getitem _ _)))
 show AZ _ _ (O1 (.ref t) >>= _) _ _ s;refine AB (tupleItemsOf_ ht ?_);refine AB (cW Kb ?_);rw[if_pos 'd'];refine AB (sliceApplied_gen hs pl pu ?_)
 have hno:¬((((sIx items.size 0 lo:Nat):Int)==0&&(1:Int)==1&&(sIx items.size items.size hi-sIx items.size 0 lo)==items.size)=AL):=by
  intro q;rw[EU,EU] at q;have q1:((sIx items.size 0 lo:Nat):Int)=0:=eq_of_beq q.1.1;have q2:sIx items.size items.size hi-sIx items.size 0 lo=items.size:=eq_of_beq q.2;exact hw {by lia,by lia}
 show AZ _ _ (if(((sIx items.size 0 lo:Nat):Int)==0&&(1:Int)==1&&(sIx items.size items.size hi-sIx items.size 0 lo)==items.size)=AL then _ else _) _ _ s;rw[if_neg hno,zS1]
 first
  |exact AB (m:=IA _) (DN (wpAny_pure {_,rfl,wpAny_pure h}) YD)
  |exact AB (m:=IA _) (DN (AB (wpAny_pure (wpAny_pure {_,rfl,wpAny_pure h}))) YD)
  |exact AB (AB (m:=IA _) (DN (wpAny_pure (wpAny_pure {_,rfl,wpAny_pure h})) YD))
  |exact AB (AB (m:=IA _) (DN (wpAny_pure {_,rfl,wpAny_pure h}) YD))
end HT
variable{X:L2.Cx}{te ta tv:L2.TE}{p2 GO:fD}{xs ys zs:List L2.V}{σ:L2.St}{H H':L2.Hp}{r:List L2.V->L2.Hp->L2.VK->Prop}{y v:L2.V}{kvs:List (List L2.Key×L2.V)}{jN:List (L2.TE×L2.TE)}{tb:L2.TE}
namespace L2
open PySem PySem.Spec PyProof.Rows
abbrev TO:=St->Hp->(Option Int->Hp->Prop)->Prop
def PO(X:Cx)(e:Option CU)(t:TO):Prop :=
 ∀(AE:List (AQ×HL)) (s:AT) (σ:St) (H:Hp) (Q:Option Int->Hp->Prop),Inv X AE σ H s->t σ H Q ->
  AZ (A3 X.prog X.w) X.A (evalPart e X.env) (λu s'=>∃o H',Inv X AE σ H' s'/\P0 u o/\Q o H') X.xe s
def yEG(t:TE):TO:=λσ H Q=>t σ H λx H1=>∃i,x=.int i/\Q (AA i) H1
theorem pF:∀{us:List AH},Vals (ns.map V.int) us->GF us ns:=by
 induction ns with
 |nil=>intro us r;rw[M3] at r;cases r;exact .nil
 |cons n ns ih =>
  intro us r;rw[AX] at r
  cases r with
  |cons r1 r2 =>
   obtain⟨t,e⟩:=r1;subst e;exact .cons n t (ih r2)
section
variable{lo hi:Option CU}{tl th:TO}
theorem zW4(h:PE X e te):PO X (AA e) (yEG te):=by
 intro AE s σ H Q I hw;rw[evalPart_some];refine GN (h AE s σ H _ I hw) λu s1 q0=>?_;obtain⟨x,H1,I1,r1,q1⟩:=q0;obtain⟨i,rfl,q⟩:=q1;obtain⟨t,rfl⟩:=r1;exact{AA i,H1,I1,.int i t,q}
def SlR(X:Cx)(r:V->Option Int->Option Int->Hp->VK->Prop):Prop :=
 ∀(AE:List (AQ×HL)) (s:AT) (σ:St) (H:Hp) (x:V) (v vl vu:AH) (lo hi:Option Int) (sl:AQ) (Q:VK),Inv X AE σ H s->RelV x v->s.heap.IsSliceOf sl vl vu .none->P0 vl lo->P0 vu hi->r x lo hi H Q ->
  ∃T id,typeLookup (.type T) "__getitem__"=pure (AA (.builtin id))/\s.TypeIs v T/\AZ (A3 X.prog X.w) X.A (P6 v (.ref sl)) (EP X AE σ Q) X.xe s
theorem SlR.or{r r':V->Option Int->Option Int->Hp->VK->Prop}(h:SlR X r)(h':SlR X r'):SlR X (λx lo hi H Q=>r x lo hi H Q\/r' x lo hi H Q):=by
 intro AE s σ H x v vl vu lo hi sl Q I rx hs pl pu q;rcases q with q|q
 .exact h AE s σ H x v vl vu lo hi sl Q I rx hs pl pu q
 .exact h' AE s σ H x v vl vu lo hi sl Q I rx hs pl pu q
def tSl(r:V->Option Int->Option Int->Hp->VK->Prop)(te:TE)(tl th:TO):TE:=λσ H Q=>te σ H λx H1=>tl σ H1 λl H2=>th σ H2 λu H3=>r x l u H3 Q
theorem zS2{r:V->Option Int->Option Int->Hp->VK->Prop}(hr:SlR X r)(he:PE X e te)(hl:PO X lo tl)(hu:PO X hi th):PE X (.Subscript e (.Slice lo hi AI p2) pos) (tSl r te tl th):=by
 intro AE s σ H Q I h;refine Subscript_ (GN (he AE s σ H _ I h) λv s1 ⟨x,H1,I1,r1,q1⟩=>?_);refine wpAny_Slice (GN (hl AE s1 σ H1 _ I1 q1) λvl s2 ⟨l,H2,I2,pl,q2⟩=>GN (hu AE s2 σ H2 _ I2 q2) λvu s3 ⟨u,H3,I3,pu,q3⟩=>?_);rw[evalPart_none];refine wpAny_pure ?_;have I4:Inv X AE σ H3 { s3 with heap:=s3.heap.push { cls:=.type "slice",data:=.fields #[vl,vu,.none] } }:=I3.kept (t':=s3.toks) λb ob q=>AF _ q;obtain⟨T,id,hT,ht,hg⟩:=hr AE { s3 with heap:=s3.heap.push { cls:=.type "slice",data:=.fields #[vl,vu,.none] } } σ H3 x v vl vu l u s3.heap.objs.size Q I4 r1 (RZ ..) pl pu q3;show AZ (A3 X.prog X.w) X.A (ZM e (.Slice lo hi AI p2) v (.ref s3.heap.objs.size)) (EP X AE σ Q) X.xe { s3 with heap:=s3.heap.push { cls:=.type "slice",data:=.fields #[vl,vu,.none] } };exact iB (ops:=[.ref s3.heap.objs.size,v]) ht hT hg (by with_unfolding_all rfl)
noncomputable def X7(xs:List V)(lo hi:Option Int):List V:=(xs.drop (HT.sIx xs.length 0 lo)).take (HT.sIx xs.length xs.length hi-HT.sIx xs.length 0 lo)
theorem Rv(xs:List V)(lo hi:Option Int):(X7 xs lo hi).length<=xs.length:=by
 unfold X7;rw[ET,Q3];lia
def yG5(K:AC):V->Option Int->Option Int->Hp->VK->Prop:=λx lo hi H Q=>∃a xs,x=.ref a/\SqT K H a xs /\
 ¬(HT.sIx xs.length 0 lo=0/\HT.sIx xs.length xs.length hi=xs.length)/\∀p,H p=AI->Q (.ref p) (DU H p (.tup (X7 xs lo hi)))
theorem yA4:SlR X (yG5 X.K):=by
 intro AE s σ H x v vl vu lo hi sl Q I rx hs pl pu h;obtain⟨a,xs,rfl,hx,hw,q⟩:=h;cases rx;obtain⟨CA,r,ht,hz⟩:=I.tuple hx;have EW:CA.toArray.size=xs.length:=by rw[A0];exact r.length.symm
 refine{"tuple",_,D6.lookup,ht.typeIs,?_};refine HT.getItem_tuple_cut ht hs pl pu (by rw[EW];exact hw) ?_ (by rw[EW];exact hz);rw[EW];refine{.ref s.heap.objs.size,_,I.laid (t':=s.toks) (o:=.tup (X7 xs lo hi)) (λb ob q=>AF _ q) (AM _) ?_,rfl,q _ (I.hok.fresh (AM _))};exact{AY (Rv xs lo hi) hz,_,(r.drop (HT.sIx xs.length 0 lo)).take (HT.sIx xs.length xs.length hi-HT.sIx xs.length 0 lo),IsTupP.new _ _}
def Tl(K:AC):R2:=λx y H Q=>∃a b ns ms,x=.ref a/\y=.ref b/\SqT K H a (ns.map V.int)/\SqT K H b (ms.map V.int)/\Q (.bl (HT.lexLt ns ms)) H
theorem yA5(hu:X.A.units<GQ):OpR X (EQ .Lt) (Tl X.K):=by
 intro AE s σ H x y v u Q I rx ry h;obtain⟨a,b,ns,ms,rfl,rfl,ha,hb,q⟩:=h;cases rx;cases ry;obtain⟨CA,r1,p1,_⟩:=I.tuple ha;obtain⟨LP,r2,p2,_⟩:=I.tuple hb;have i1:GF CA.toArray.toList ns:=pF r1;have i2:GF LP.toArray.toList ms:=pF r2;exact HT.lt_tupInts p1 p2 i1 i2 hu {.bl (HT.lexLt ns ms),H,I,rfl,q}
theorem Vals.nil_iff(r:Vals xs us):us=[]↔xs=[]:=by
 cases r with
 |nil=>simp
 |cons _ _=>simp
end
noncomputable def WR(n:Nat)(i:Int):Option Nat:=if 0<=i then(if i<n then AA i.toNat else AI) else if -(n:Int)<=i then AA (i+n).toNat else AI
def atI(xs:List α)(i:Int):Option α:=(WR xs.length i).bind λj=>xs[j]?
theorem Oc{i:Int}(h:WR n i=AA j):seqIndex? i n=AA j/\j<n/\-(n:Int)<=i/\i<n:=by
 unfold WR at h
 by_cases h0:0<=i
 .rw[if_pos h0] at h
  by_cases h1:i<n
  .rw[if_pos h1] at h
   have e:i.toNat=j:=BK h;exact{by rw[VD h0 h1,e],by lia,by lia,h1}
  .rw[if_neg h1] at h;cases h
 .rw[if_neg h0] at h
  by_cases h1:-(n:Int)<=i
  .rw[if_pos h1] at h
   have e:(i+n).toNat=j:=BK h;exact{by rw[seqIndex_neg 'l' h1,e],by lia,h1,by lia}
  .rw[if_neg h1] at h;cases h
theorem Ce{xs:List α}{i:Int}{v:α}(h:atI xs i=AA v):∃j,seqIndex? i xs.length=AA j/\xs[j]?=AA v/\j<xs.length/\-(xs.length:Int)<=i/\i<xs.length:=by
 unfold atI at h
 cases e:WR xs.length i with
 |none=>rw[e] at h;cases h
 |some j =>
  rw[e] at h;obtain⟨h1,h2,h3,h4⟩:=Oc e;exact{j,h1,h,h2,h3,h4}
theorem Ob{xs:List α}{v:α}(h:xs[j]?=AA v):atI xs (j:Int)=AA v:=by
 have hj:j<xs.length:=(AR.mp h).1
 have e:WR xs.length (j:Int)=AA j:=by
  unfold WR;rw[if_pos (Int.natCast_nonneg _),if_pos 'l'];simp
 unfold atI;rw[e];exact h
theorem zS3(xs:List α)(v:α):atI (xs++[v]) (-1)=AA v:=by
 have hl:(xs++[v]).length=xs.length+1:=by simp
 have e:WR (xs++[v]).length (-1)=AA xs.length:=by
  unfold WR;rw[hl,if_neg 'd',if_pos 'l']
  congr 1
  lia
 unfold atI;rw[e];show(xs++[v])[xs.length]?=AA v;simp
def Oa(b:CU):Prop:=∀o i,subscripted b AD o i=operate [o,i] (P6 o i)
def IxR(X:Cx)(r:R2):Prop :=
 ∀(JO OP:CU) (AE:List (AQ×HL)) (s:AT) (σ:St) (H:Hp) (x y:V) (v u:AH) (Q:VK),Inv X AE σ H s->RelV x v->RelV y u->r x y H Q ->
  subscripted OP AD v u=operate [v,u] (P6 v u)->AZ (A3 X.prog X.w) X.A (ZM JO OP v u) (EP X AE σ Q) X.xe s
def Fo(X:Cx)(id:String)(r:V->List V->Hp->VK->Prop):Prop :=
 ∀(AE:List (AQ×HL)) (s:AT) (σ:St) (H:Hp) (x:V) (xs:List V) (v:AH) (us:List AH) (Q:VK),Inv X AE σ H s->RelV x v->Vals xs us->r x xs H Q ->
  AZ (A3 X.prog X.w) X.A (call (.builtin id) (v::us)) (EP X AE σ Q) X.xe s
section
variable{a b:CU}
theorem IxR.or{r r':R2}(h:IxR X r)(h':IxR X r'):IxR X (λx y H Q=>r x y H Q\/r' x y H Q):=by
 intro JO OP AE s σ H x y v u Q I rx ry q hs;rcases q with q|q
 .exact h JO OP AE s σ H x y v u Q I rx ry q hs
 .exact h' JO OP AE s σ H x y v u Q I rx ry q hs
theorem As{r:R2}(hr:IxR X r)(ha:PE X a ta)(hb:PE X b tb)(hs:Oa b):PE X (.Subscript a b pos) (jJ r ta tb):=by
 intro AE s σ H Q I h;exact Subscript_ (Er ha hb I h λv u s2 x y H2 I2 rx ry q=>hr a b AE s2 σ H2 x y v u Q I2 rx ry q (hs _ _))
def Tk(K:AC):R2:=λx y H Q=>∃p xs i v,x=.ref p/\y=.int i/\SqL K H p xs/\atI xs i=AA v/\Q v H
def Tj(K:AC):R2:=λx y H Q=>∃p xs i v,x=.ref p/\y=.int i/\SqT K H p xs/\atI xs i=AA v/\Q v H
def Th:R2:=λx y H Q=>∃z i c,x=.str z/\y=.int i/\z.length<=sizeLine/\atI z.cps.toList i=AA c/\Q (.str {#[c]}) H
theorem YA:IxR X (Tk X.K):=by
 intro JO OP AE s σ H x y v u Q I rx ry h hs;obtain⟨p,xs,i,z,rfl,rfl,hq,he,q⟩:=h;cases rx;obtain⟨t,rfl⟩:=ry;obtain⟨CA,r,pl,hz⟩:=I.list hq;obtain⟨j,h1,h2,h3,h4,h5⟩:=Ce he;obtain⟨w,ew,KH⟩:=r.get h2;have hl:=r.length;have hn:=jB;have fin:EP X AE σ Q w s:={z,H,I,KH,q}
 by_cases h0:0<=i
 .have hj:i.toNat=j:=by
   rw[VD h0 h5] at h1;exact BK h1
  exact item_listR pl.isList h0 'l' (by rw[hj];simpa using ew) fin hs
 .have hj:(i+(CA.toArray.size:Int)).toNat=j:=by
   rw[seqIndex_neg 'l' h4] at h1;rw[A0,<-hl];exact BK h1
  exact cX (x:=w) pl.isList.typeIs SJ.lookup
   (wpAny_getItem_list_neg (Q:=λr s'=>r=w/\EP X AE σ Q r s') pl.isList 'l' (by rw[A0]<;>lia) 'l' (by rw[hj];simpa using ew) {rfl,fin}) hs
theorem lY:IxR X (Tj X.K):=by
 intro JO OP AE s σ H x y v u Q I rx ry h hs;obtain⟨p,xs,i,z,rfl,rfl,hq,he,q⟩:=h;cases rx;obtain⟨t,rfl⟩:=ry;obtain⟨CA,r,pl,hz⟩:=I.tuple hq;obtain⟨j,h1,h2,h3,h4,h5⟩:=Ce he;obtain⟨w,ew,KH⟩:=r.get h2;have hl:=r.length;have hn:=jB;have fin:EP X AE σ Q w s:={z,H,I,KH,q}
 exact cX (x:=w) pl.typeIs slot_tuple_getitem.lookup
  (getItem_tuple (j:=j) (Q:=λr s'=>r=w/\EP X AE σ Q r s') pl 'l' 'l' (by rw[A0,<-hl];exact h1) (by simpa using ew) {rfl,fin}) hs
theorem yA6:IxR X Th:=by
 intro JO OP AE s σ H x y v u Q I rx ry h hs;obtain⟨z,i,c,rfl,rfl,hz,he,q⟩:=h;obtain⟨t,rfl⟩:=rx;obtain⟨t',rfl⟩:=ry;obtain⟨j,h1,h2,h3,h4,h5⟩:=Ce he;have hl:z.cps.toList.length=z.length:=by simp[Str.length]
 rw[hl] at h1 h4 h5;have hn:=jB
 exact iB (typeIs_str s z t) slot_str_getitem.lookup (getItem_str (c:=c) (by
  have e1:decide (i < -(2 ^ 63:Int))=AD:=decide_eq_false 'l';have e2:decide (i>=2 ^ 63)=AD:=decide_eq_false 'l'
  rw[e1,e2,Bool.or_false]) (by rw[h1];simpa using h2) {.str {#[c]},H,I.tok _,{_,rfl},q}) hs
def Uz(K:AC):R2:=λx y H Q=>Tk K x y H Q\/Tj K x y H Q\/Th x y H Q
theorem lZ:IxR X (Uz X.K):=YA.or (lY.or yA6)
theorem zOS(CA:List AH)(n j:Nat)(u:AH):C3 (·.setIfInBounds j u) { cls:=.type "list",data:=.seq CA.toArray n }={ cls:=.type "list",data:=.seq (CA.set j u).toArray n }:=by
 simp[C3]
theorem Inv.lst{AE:List (AQ×HL)}{σ:St}{H:Hp}{s:AT}{p:AQ}{xs:List V}(I:Inv X AE σ H s)(h:H p=AA (.lst xs)) :
  ∃(CA:List AH) (n:Nat),Vals xs CA/\s.heap.get? p=AA { cls:=.type "list",data:=.seq CA.toArray n }/\xs.length<=sizeLine:=by
 obtain⟨z,CA,n,r,e⟩:=I.hok p _ h;exact{CA,n,r,e,z}
theorem Inv.lstUpd{p:AQ}{NQ:List AH}{n':Nat}{f:HL->HL}(I:Inv X AE σ H s)(h:H p=AA (.lst xs))
  (ho:s.heap.get? p=AA { cls:=.type "list",data:=.seq CA.toArray n }) (hf:f { cls:=.type "list",data:=.seq CA.toArray n }={ cls:=.type "list",data:=.seq NQ.toArray n' }) (r:Vals ys NQ) (hz:ys.length<=sizeLine) (t:Nat) :
  Inv X AE σ (DU H p (.lst ys)) { s with heap:=s.heap.update p f,toks:=t }:=by
 have e:(s.heap.update p f).get? p=AA { cls:=.type "list",data:=.seq NQ.toArray n' }:=by
  rw[NN f ho (by rw[hf]<;>rfl),hf]
 refine I.write (x:=p) (e:=p) (by rw[h];trivial) (.inl rfl) (λb u hb q=>(WX _ _ (FH hb)).trans q) {_,e} ?_;exact{hz,NQ,n',r,e}
def yEH:V->V->V->Hp->(Hp->Prop)->Prop:=λo i v H Q=>∃p xs k j,o=.ref p/\i=.int k/\H p=AA (.lst xs)/\WR xs.length k=AA j/\Q (DU H p (.lst (xs.set j v)))
theorem zS4:Tq X yEH:=by
 intro AE s σ H o i v ov iv u Q I ro ri rv h;obtain⟨p,xs,k,j,rfl,rfl,hp,hj,q⟩:=h;cases ro;obtain⟨t,rfl⟩:=ri;obtain⟨CA,n,r,ho,hz⟩:=I.lst hp;obtain⟨h1,h2,h3,h4⟩:=Oc hj;have hl:=r.length;have hn:=jB
 have I':Inv X AE σ (DU H p (.lst (xs.set j v))) { s with heap:=s.heap.update p (C3 (·.setIfInBounds j u)) } :=
  I.lstUpd hp ho (zOS CA n j u) (r.set rv j) (by rw[BZ];exact hz) s.toks
 by_cases h0:0<=k
 .have hk:k.toNat=j:=by
   rw[VD h0 h4] at h1;exact BK h1
  exact PySem.W.ki_setAt ho h0 'l' (by rw[A0,<-hl];exact h4) (by rw[hk];exact{_,I',q})
 .have hk:(k+(CA.toArray.size:Int)).toNat=j:=by
   rw[seqIndex_neg 'l' h3] at h1;rw[A0,<-hl];exact BK h1
  exact PySem.W.ki_setBack ho 'l' (by rw[A0,<-hl];exact h3) 'l' (by rw[hk];exact{_,I',q})
theorem zKA(lo hi:Option Int)(n:Nat):(G7 lo hi AI n).1=((HT.sIx n 0 lo:Nat):Int)/\(G7 lo hi AI n).2.1=((HT.sIx n n hi:Nat):Int)/\(G7 lo hi AI n).2.2=1:=by
 refine{?_,?_,rfl}
 .cases lo with
  |none=>simp[G7,HT.sIx]
  |some i =>
   simp only[G7,HT.sIx,aR,show(1:Int)>0 by decide,if_true]
   by_cases h:i<0
   .simp only[h,if_true]<;>lia
   .simp only[h,if_false]<;>lia
 .cases hi with
  |none=>simp[G7,HT.sIx]
  |some i =>
   simp only[G7,HT.sIx,aR,show(1:Int)>0 by decide,if_true]
   by_cases h:i<0
   .simp only[h,if_true]<;>lia
   .simp only[h,if_false]<;>lia
theorem zIK(CA:List AH)(lo hi:Option Int):aH CA.toArray lo hi AI=((CA.drop (HT.sIx CA.length 0 lo)).take (HT.sIx CA.length CA.length hi-HT.sIx CA.length 0 lo)).toArray:=by
 obtain⟨h1,h2,h3⟩:=zKA lo hi CA.toArray.size;unfold aH;rw[h1,h2,h3];simp only[sliceRange_one,pick_run,A0]<;>rfl
def yG6(K:AC):V->Option Int->Option Int->Hp->VK->Prop:=λx lo hi H Q=>∃a xs,x=.ref a/\SqL K H a xs/\∀p,H p=AI->Q (.ref p) (DU H p (.lst (X7 xs lo hi)))
theorem zW6:SlR X (yG6 X.K):=by
 intro AE s σ H x v vl vu lo hi sl Q I rx hs pl pu h;obtain⟨a,xs,rfl,hx,q⟩:=h;cases rx;obtain⟨CA,r,ht,hz⟩:=I.list hx;have EW:=r.length;refine{"list",_,SJ.lookup,ht.isList.typeIs,?_};refine ZJ ht.isList hs pl pu .none 's' ?_ (by rw[A0]<;>lia);rw[zIK,<-EW];refine{.ref s.heap.objs.size,_,I.laid (t':=s.toks) (o:=.lst (X7 xs lo hi)) (λb ob q=>AF _ q) (AM _) ?_,rfl,q _ (I.hok.fresh (AM _))};exact{AY (Rv xs lo hi) hz,_,0,(r.drop (HT.sIx xs.length 0 lo)).take (HT.sIx xs.length xs.length hi-HT.sIx xs.length 0 lo),AV _ rfl}
theorem UF:CallR X (.builtin "len") (λxs H Q=>∃p ys,xs=[.ref p]/\(SqL X.K H p ys\/SqT X.K H p ys)/\Q (.int ys.length) H):=by
 intro AE s σ H xs us Q I r h;obtain⟨p,ys,rfl,hq,q⟩:=h;obtain⟨u,rfl,rx⟩:=Y1 r;cases rx;have hn:=jB;rcases hq with hq|hq
 .obtain⟨CA,r',pl,hz⟩:=I.list hq
  have EW:=r'.length;exact Calls.call_len_list pl.isList (by simp only[A0]<;>lia) {.int ys.length,H,I.tok _,{s.toks+1,by rw[A0,EW]},q}
 .obtain⟨CA,r',pl,hz⟩:=I.tuple hq
  have EW:=r'.length;exact len_tuple pl (by simp only[A0]<;>lia) {.int ys.length,H,I.tok _,{s.toks+1,by rw[A0,EW]},q}
theorem UE:CallR X (.builtin "len") (λxs H Q=>∃z,xs=[.str z]/\z.length<=sizeLine/\Q (.int z.length) H):=by
 intro AE s σ H xs us Q I r h;obtain⟨z,rfl,hz,q⟩:=h;obtain⟨u,rfl,t,rfl⟩:=Y1 r;have hn:=jB;exact len_str 'l' {.int z.length,H,I.tok _,{_,rfl},q}
theorem CallR.or{f:AH}{r':List V->Hp->VK->Prop}(h:CallR X f r)(h':CallR X f r'):CallR X f (λxs H Q=>r xs H Q\/r' xs H Q):=by
 intro AE s σ H xs us Q I rs q;rcases q with q|q
 .exact h AE s σ H xs us Q I rs q
 .exact h' AE s σ H xs us Q I rs q
theorem UD:CallR X (.type "list") (λxs H Q=>∃p ys,xs=[.ref p]/\(SqL X.K H p ys\/SqT X.K H p ys)/\∀l,H l=AI->Q (.ref l) (DU H l (.lst ys))):=by
 intro AE s σ H xs us Q I r h;obtain⟨p,ys,rfl,hq,q⟩:=h;obtain⟨u,rfl,rx⟩:=Y1 r;cases rx
 have fin:∀(CA:List AH),Vals ys CA->ys.length<=sizeLine->∀(h':DZ) (c':Nat),(∀b o',s.heap.get? b=AA o'->h'.get? b=AA o') ->
   h'.get? s.heap.objs.size=AA { cls:=.type "list",dict:=AI,data:=.seq CA.toArray c',slots:=#[] }->EP X AE σ Q (.ref s.heap.objs.size) { s with heap:=h' }:=λCA r' hz h' c' kp e =>
  {.ref s.heap.objs.size,_,I.laid (t':=s.toks) kp (AM _) (show ObjOk X.prog X.w _ h' _ (.lst ys) from{hz,CA,c',r',e}),rfl,q _ (I.hok.fresh (AM _))}
 rcases hq with hq|hq
 .obtain⟨CA,r',pl,hz⟩:=I.list hq
  have EW:=r'.length;obtain⟨o,ho,hc,n,hd⟩:=pl.isList;exact call_list_seq p (.inl rfl) ho hc hd (λh' c' kp e=>fin CA r' hz h' c' kp e) (by simp only[A0]<;>lia)
 .obtain⟨CA,r',pl,hz⟩:=I.tuple hq
  have EW:=r'.length;obtain⟨o,ho,hc,n,hd⟩:=pl;exact call_list_seq p (.inr rfl) ho hc hd (λh' c' kp e=>fin CA r' hz h' c' kp e) (by simp only[A0]<;>lia)
theorem zIL:CallR X (.type "tuple") (λxs H Q=>∃p ys,xs=[.ref p]/\((SqL X.K H p ys/\∀l,H l=AI->Q (.ref l) (DU H l (.tup ys)))\/(SqT X.K H p ys/\Q (.ref p) H))):=by
 intro AE s σ H xs us Q I r h;obtain⟨p,ys,rfl,h⟩:=h;obtain⟨u,rfl,rx⟩:=Y1 r;cases rx;rcases h with⟨hq,q⟩|⟨hq,q⟩
 .obtain⟨CA,r',pl,hz⟩:=I.list hq
  have EW:=r'.length;refine call_tuple_list pl.isList (λh' kp=>?_) (by simp only[A0]<;>lia);have I1:Inv X AE σ H { s with heap:=h' }:=I.kept (t':=s.toks) kp
  have I2:Inv X AE σ (DU H h'.objs.size (.tup ys)) { s with heap:=h'.push { cls:=.type "tuple",data:=.seq CA.toArray } } :=
   I1.laid (t':=s.toks) (λb o e=>AF _ e) (AM _) (show ObjOk X.prog X.w _ _ _ (.tup ys) from{hz,CA,r',IsTupP.new _ _})
  exact{.ref h'.objs.size,_,I2,rfl,q _ (I1.hok.fresh (AM _))}
 .obtain⟨CA,r',pl,hz⟩:=I.tuple hq
  exact call_tuple_same pl {.ref p,H,I,rfl,q}
def yQ(K:AC)(T:String)(x:V)(H:Hp):Prop:=match x with
 |.str _=>T="str"
 |.int _=>T="int"
 |.ref p=>(T="list"/\∃xs,SqL K H p xs)\/(T="tuple"/\∃o,K.lookup p=AA o/\o.cls=.type "tuple"/\o.dict=AI) \/
   (T="dict"/\((∃kvs,H p=AA (.dK kvs))\/∃kvs,H p=AA (.dT kvs)))\/(T="set"/\∃S n,H p=AA (.set S n))
 |_=>False
theorem Md{T:String}{x:V}{v:AH}(I:Inv X AE σ H s)(r:RelV x v)(ty:yQ X.K T x H) :
  s.TypeIs v T/\∀a,v=.ref a->∃ob,s.heap.get? a=AA ob/\ob.dict=AI:=by
 cases x with
 |str z =>
  obtain⟨t,rfl⟩:=r;cases(show T="str" from ty);exact{typeIs_str s z t,λ_ e=>nomatch e}
 |int i =>
  obtain⟨t,rfl⟩:=r;cases(show T="int" from ty);exact{typeIs_int s i t,λ_ e=>nomatch e}
 |ref p =>
  cases r;rcases ty with⟨rfl,xs,hq⟩|⟨rfl,o,hk,hc,hd⟩|⟨rfl,hk⟩|⟨rfl,S,n,hk⟩
  .obtain⟨CA,_,pl,_⟩:=I.list hq
   refine{pl.isList.typeIs,λa e=>?_};cases e;obtain⟨o,n,e,c,hd,_⟩:=pl;exact{o,e,hd}
  .refine{{o,I.kIn p o hk,hc},λa e=>?_}
   cases e;exact{o,I.kIn _ o hk,hd}
  .have z:∃o,s.heap.get? p=AA o/\o.ExactDict:=by
    rcases hk with⟨kvs,hk⟩|⟨kvs,hk⟩
    .obtain⟨_,_,_,_,o,_,_,e,ex,_⟩:=I.hok p _ hk
     exact{o,e,ex}
    .obtain⟨_,_,_,_,o,_,_,e,ex,_⟩:=I.hok p _ hk
     exact{o,e,ex}
   obtain⟨o,e,ex⟩:=z;refine{{o,e,ex.1},λa e2=>?_};cases e2;exact{o,e,ex.2.1}
  .obtain⟨o,_,_,_,e,ex,_⟩:=I.hok p _ hk
   refine{{o,e,ex.1},λa e2=>?_};cases e2;exact{o,e,ex.2.1}
 |_=>exact HF ty
def yG7(K:AC)(T:String)(r:V->List V->Hp->VK->Prop)(to:TE):TE:=λσ H Q=>to σ H λx H1=>yQ K T x H1/\r x [] H1 Q
def Uy(K:AC)(T:String)(r:V->List V->Hp->VK->Prop)(to:TE)(t:TA):TE:=λσ H Q=>to σ H λx H1=>yQ K T x H1/\t σ H1 λxs H2=>r x xs H2 Q
variable{o:CU}{to:TE}{t:TA}{T id:String}{r:V->List V->Hp->VK->Prop}
theorem yA7(pa:PlainAttrs T)(slot:Slot T name id)(Ie:typeOf (.builtin id)=pure (.type "method_descriptor"))(hm:Fo X id r)(ho:PE X o to)
  (OT:K1 o name X.env (eval o X.env)=eval o X.env:=by rfl) (OQ:(ME.endLine==GO.line)=AL:=by rfl):PE X (.Call (.Attribute o name ME) [] [] GO) (yG7 X.K T r to):=by
 intro AE s σ H Q I h;refine wpAny_Call_method0_late OT OQ (GN (ho AE s σ H _ I h) λv s1 ⟨x,H1,I1,r1,ty,q1⟩=>?_);obtain⟨h1,h2⟩:=Md I1 r1 ty;exact{T,id,pa,slot,Ie,h1,h2,MV rfl (PySem.evalArgs_none (hm AE s1 σ H1 x [] v [] Q I1 r1 .nil q1))}
theorem wE(pa:PlainAttrs T)(slot:Slot T name id)(Ie:typeOf (.builtin id)=pure (.type "method_descriptor"))(hm:Fo X id r)(ho:PE X o to)(ha:PA X (e::es) t)
  (OT:K1 o name X.env (eval o X.env)=eval o X.env:=by rfl)
  (cL:((DH GO (AO (e::es) X.env)).all (λx=>!x.1)&&(iH GO (VH [] X.env)).all (λx=>x.1.isSome)
   && decide ((e::es).length+([]:List OC).length+(if([]:List OC).isEmpty then 0 else 1)<30))=AL:=by rfl)
  (OQ:(ME.endLine==GO.line)=AL:=by rfl) (hs:AO (e::es) X.env=(AD,eval e X.env)::AO es X.env:=by rfl) (RJ:(DH GO (AO es X.env)).any (·.1)=AD:=by rfl) :
  PE X (.Call (.Attribute o name ME) (e::es) [] GO) (Uy X.K T r to t):=by
 intro AE s σ H Q I h;refine wpAny_Call_method_late OT cL OQ rfl (GN (ho AE s σ H _ I h) λv s1 ⟨x,H1,I1,r1,ty,q1⟩=>?_);obtain⟨h1,h2⟩:=Md I1 r1 ty;refine{T,id,pa,slot,Ie,h1,h2,?_};have hA:=ha GO AE s1 σ H1 _ I1 q1;rw[hs] at hA ⊢;refine MV (by show(AD||(DH GO (AO es X.env)).any (·.1))=AD;rw[RJ]<;>rfl) (NW ?_);exact GN hA (λus s2 q0=>by obtain⟨vs,H2,I2,r2,q2⟩:=q0;exact hm AE s2 σ H2 x vs v us Q I2 r1 r2 q2)
/- xs.append(e),list.index on a module's tuple .. are Fo facts of 06m -/
end
def zE(X:Cx)(id:String)(r:V->List V->Hp->VK->Prop):Prop :=
 ∀(AE:List (AQ×HL)) (s:AT) (σ:St) (H:Hp) (x:V) (xs:List V) (v:AH) (us:List AH) (Q:VK),Inv X AE σ H s->RelV x v->Vals xs us->r x xs H Q ->
  AZ (A3 X.prog X.w) X.A (call (.builtin id) (v::us)) (EP X AE σ Q) X.xe s
theorem Vals.one:∀{x:V} {us:List AH},Vals [x] us->∃u,us=[u]/\RelV x u
 |_,_,.cons r .nil=>{_,rfl,r}
theorem Vals.zero:∀{us:List AH},Vals [] us->us=[]
 |_,.nil=>rfl
theorem Vals.dropLast{xs:List V}{us:List AH}(h:Vals xs us):Vals xs.dropLast us.dropLast:=by
 induction h with
 |nil=>exact .nil
 |cons r t ih =>
  cases t with
  |nil=>exact .nil
  |cons q t'=>exact .cons r ih
theorem Vals.eraseIdx:∀{xs:List V} {us:List AH} (i:Nat),Vals xs us->Vals (xs.eraseIdx i) (us.eraseIdx i)
 |_,_,_,.nil=>.nil
 |_,_,0,.cons _ t=>t
 |_,_,i+1,.cons r t=>.cons r (Vals.eraseIdx i t)
theorem Vals.reverse{xs:List V}{us:List AH}(h:Vals xs us):Vals xs.reverse us.reverse:=by
 induction h with
 |nil=>exact .nil
 |cons r t ih=>rw[H9,H9];exact Vals.append ih (.cons r .nil)
theorem Vals.rep{xs:List V}{us:List AH}(h:Vals xs us):∀k:Nat,Vals (BG k xs).flatten (BG k us).flatten
 |0=>.nil
 |k+1=>by
  rw[EH,EH,GV,GV];exact Vals.append h (Vals.rep h k)
theorem zOT(l:List α):l.eraseIdx (l.length-1)=l.dropLast:=by
 induction l with
 |nil=>rfl
 |cons a r ih =>
  cases r with
  |nil=>rfl
  |cons b r =>
   have e:(a::b::r).length-1=((b::r).length-1)+1:=by
    have h1:(a::b::r).length=r.length+2:=rfl;have h2:(b::r).length=r.length+1:=rfl;lia
   rw[e,WJ,ih]
   all_goals rfl
theorem Ql{α:Type}:∀(l:List α) (i:Nat),(l.eraseIdx i).length<=l.length
 |[],_=>AM _
 |_::_,0=>KI _
 |_::r,i+1=>Nat.succ_le_succ (Ql r i)
theorem Qk(CA:List AH):∀(k:Nat) (acc:List AH),
  aS (λx1 x2=>x1++x2) acc.toArray (BG k CA.toArray)=(acc++(BG k CA).flatten).toArray
 |0,acc=>by simp
 |k+1,acc=>by
  have e:acc.toArray++CA.toArray=(acc++CA).toArray:=by simp
  have e2:(acc++CA)++(BG k CA).flatten=acc++(BG (k+1) CA).flatten:=by
   rw[EH,GV,CF]
  rw[<-e2,<-Qk CA k (acc++CA),<-e,EH,RY]
section
variable{b:AQ}
theorem Inv.lset{NQ:List AH}{f:Array AH->Array AH}(I:Inv X AE σ H s)(hH:H l=AA (.lst xs))
  (e:s.heap.get? l=AA { cls:=.type "list",data:=.seq CA.toArray n }) (hf:f CA.toArray=NQ.toArray) (hv:Vals ys NQ) (hz:ys.length<=sizeLine) :
  Inv X AE σ (DU H l (.lst ys)) { s with heap:=s.heap.update l (C3 f),toks:=t' }:=by
 have q:=PySem.IsL.update e f;rw[hf] at q;refine I.write (x:=l) (e:=l) (by rw[hH];exact trivial) (.inl rfl) (λb' u hb hu=>(WX s.heap (C3 f) (FH hb)).trans hu) {_,q} ?_;exact{hz,NQ,_,hv,q}
theorem Inv.lnew(I:Inv X AE σ H s)(hv:Vals ys CA)(hz:ys.length<=sizeLine) :
  Inv X AE σ (DU H s.heap.objs.size (.lst ys)) { s with heap:=s.heap.push { cls:=.type "list",data:=.seq CA.toArray },toks:=t' } :=
 I.laid (λ_ _ q=>AF _ q) (AM _) {hz,CA,0,hv,AV _ rfl}
theorem Inv.fresh(I:Inv X AE σ H s):H s.heap.objs.size=AI:=I.hok.fresh (AM _)
theorem Inv.lstM(I:Inv X AE σ H s)(hH:H l=AA (.lst xs)):xs.length<=sizeLine/\∃(CA:List AH) (n:Nat),Vals xs CA/\xs.length=CA.length/\s.heap.get? l=AA { cls:=.type "list",data:=.seq CA.toArray n }:=by
 obtain⟨z,CA,n,r,e⟩:=I.hok l _ hH;exact{z,CA,n,r,r.length,e}
theorem Oz(h:n<=sizeLine):IC n=AD:=by
 unfold IC;exact decide_eq_false (iI h)
end
def Cd:V->List V->Hp->VK->Prop:=λx vs H Q=>∃l xs y,x=.ref l/\vs=[y]/\H l=AA (.lst xs)/\xs.length<sizeLine/\Q .non (DU H l (.lst (xs++[y])))
theorem xP:zE X "list.append" Cd:=by
 intro AE s σ H x vs v us Q I rx rv h;obtain⟨l,xs,y,rfl,rfl,hH,hz,q⟩:=h;cases rx;obtain⟨u,rfl,ru⟩:=rv.one;obtain⟨z,CA,n,r,hl,e⟩:=I.lstM hH;refine OA F.slot_list_append {_,e,rfl} F.entry_list_append (F.args_list_append_2 _ _) (PySem.list_append l CA.toArray n u (by rw[A0];lia)) {e,?_};refine{.non,_,I.lset (NQ:=CA++[u]) hH e 's' (r.append (.cons ru .nil)) ?_,rfl,q};rw[BH,EK];exact L8 hz
def zW7:V->List V->Hp->VK->Prop:=λx vs H Q=>∃l b xs zs,x=.ref l/\vs=[.ref b]/\H l=AA (.lst xs)/\H b=AA (.lst zs)/\xs.length+zs.length<=sizeLine/\Q .non (DU H l (.lst (xs++zs)))
theorem yA8:zE X "list.extend" zW7:=by
 intro AE s σ H x vs v us Q I rx rv h;obtain⟨l,b,xs,zs,rfl,rfl,hH,hB,hz,q⟩:=h;cases rx;obtain⟨u,rfl,ru⟩:=rv.one;cases ru;obtain⟨z,CA,n,r,hl,e⟩:=I.lstM hH;obtain⟨z2,LP,n2,r2,aF,e2⟩:=I.lstM hB;have hsz:CA.toArray.size+LP.toArray.size<=sizeLine:=by rw[A0,A0];lia
 have cF:¬(!CA.toArray.isEmpty&&IC (CA.toArray.size+LP.toArray.size))=AL:=by
  rw[Oz hsz,kR];exact CG
 refine OA F.slot_list_extend {_,e,rfl} F.entry_list_extend (F.args_list_extend_2 _ _)
  (AutoSeq1.list_extend_list_list_0 l CA.toArray n b LP.toArray n2 cF (by rw[A0];lia) (AY hsz (A2 _ _))) {e,e2,?_}
 refine{.non,_,I.lset (NQ:=CA++LP) hH e 's' (r.append r2) ?_,rfl,q};rw[BH];exact hz
def Tf:V->List V->Hp->VK->Prop:=λx vs H Q=>∃l xs y,x=.ref l/\vs=[]/\H l=AA (.lst xs)/\xs[xs.length-1]?=AA y/\Q y (DU H l (.lst xs.dropLast))
theorem yA9:zE X "list.pop" Tf:=by
 intro AE s σ H x vs v us Q I rx rv h;obtain⟨l,xs,y,rfl,rfl,hH,hy,q⟩:=h;cases rx;have hus:=rv.zero;subst hus;obtain⟨z,CA,n,r,hl,e⟩:=I.lstM hH;obtain⟨u,hu,ru⟩:=r.get hy
 have hy':CA.toArray[CA.toArray.size-1]?=AA u:=by
  show CA.toArray[CA.length-1]?=AA u;rw[<-C0,<-hl];exact hu
 refine OA F.slot_list_pop {_,e,rfl} F.entry_list_pop (F.args_list_pop_1 _) (MeetsSeq.list_pop_last l CA.toArray n u hy' (by rw[A0];lia)) {e,?_};refine{y,_,I.lset (NQ:=CA.dropLast) hH e ?_ r.dropLast ?_,ru,q}
 .show CA.toArray.eraseIdxIfInBounds (CA.toArray.size-1)=CA.dropLast.toArray
  rw[A0,QP,zOT]
 .rw[List.length_dropLast]
  exact AY (C4 _ _) z
def Mc:V->List V->Hp->VK->Prop:=λx vs H Q=>∃l xs i k y,x=.ref l/\vs=[.int i]/\H l=AA (.lst xs)/\-(2 ^ 63)<=i/\i<2 ^ 63/\seqIndex? i xs.length=AA k/\xs[k]?=AA y/\Q y (DU H l (.lst (xs.eraseIdx k)))
theorem zS6:zE X "list.pop" Mc:=by
 intro AE s σ H x vs v us Q I rx rv h;obtain⟨l,xs,i,k,y,rfl,rfl,hH,h1,h2,hk,hy,q⟩:=h;cases rx;obtain⟨u,rfl,ru⟩:=rv.one;obtain⟨t,rfl⟩:=ru;obtain⟨z,CA,n,r,hl,e⟩:=I.lstM hH;obtain⟨w,hw,KH⟩:=r.get hy
 refine OA F.slot_list_pop {_,e,rfl} F.entry_list_pop (F.args_list_pop_2 _ _)
  (MeetsSeq.list_pop_at l CA.toArray n i t k w (fitsIndex_both h1 h2) (by rw[A0,<-hl];exact hk) (by rw[<-C0];exact hw) (by rw[A0];lia)) {e,?_}
 refine{y,_,I.lset (NQ:=CA.eraseIdx k) hH e ?_ (r.eraseIdx k) ?_,KH,q}
 .show CA.toArray.eraseIdxIfInBounds k=(CA.eraseIdx k).toArray
  rw[QP]
 .have:=Ql xs k
  exact AY this z
def En:R2:=λx y H Q=>∃l b xs zs,x=.ref l/\y=.ref b/\H l=AA (.lst xs)/\H b=AA (.lst zs)/\xs.length+zs.length<=sizeLine/\∀p,H p=AI->Q (.ref p) (DU H p (.lst (xs++zs)))
theorem Mb:OpR X (G8 .Add) En:=by
 intro AE s σ H x y v u Q I rx ry h;obtain⟨l,b,xs,zs,rfl,rfl,hH,hB,hz,q⟩:=h;cases rx;cases ry;obtain⟨z,CA,n,r,hl,e⟩:=I.lstM hH;obtain⟨z2,LP,n2,r2,aF,e2⟩:=I.lstM hB;refine PySem.P.add_list e e2 ?_ (by rw[A0,A0];lia);have ea:CA.toArray++LP.toArray=(CA++LP).toArray:=by simp
 rw[ea];exact{.ref _,_,I.lnew (t':=s.toks) (r.append r2) (by rw[BH];lia),rfl,q _ I.fresh}
def yG8:R2:=λx y H Q=>∃l k xs,x=.ref l/\y=.int k/\H l=AA (.lst xs)/\-(2 ^ 63)<=k/\k<2 ^ 63/\xs.length * k.toNat<=sizeLine /\
 ∀p,H p=AI->Q (.ref p) (DU H p (.lst (BG k.toNat xs).flatten))
theorem zW8(xs:List α)(k:Nat):(BG k xs).flatten.length=k * xs.length:=by
 induction k with
 |zero=>simp
 |succ k ih=>rw[EH,GV,BH,ih,Nat.succ_mul,Nat.add_comm]
theorem yBA:OpR X (G8 .Mult) yG8:=by
 intro AE s σ H x y v u Q I rx ry h;obtain⟨l,k,xs,rfl,rfl,hH,h1,h2,hz,q⟩:=h;cases rx;obtain⟨t,rfl⟩:=ry;obtain⟨z,CA,n,r,hl,e⟩:=I.lstM hH;have EW:CA.toArray.size * k.toNat<=sizeLine:=by rw[A0,<-hl];exact hz
 have nI:¬CA.toArray.size * k.toNat>(2 ^ 63-1) / 8:=by
  have:(sizeLine:Nat)<=(2 ^ 63-1) / 8:=by decide
  exact iI (AY EW this)
 have Jn:¬(!Builtin.List.listFitsIndex k)=AL:=by
  rw[fitsIndex_both h1 h2];exact CG
 have cF:¬IC (CA.toArray.size * k.toNat)=AL:=by
  rw[Oz EW];exact CG
 have nA:aS (λx1 x2=>x1++x2) #[] (BG (if CA.toArray.isEmpty=AL then 0 else k.toNat) CA.toArray)=(BG k.toNat CA).flatten.toArray:=by
  have f0:∀m:Nat,aS (λx1 x2=>x1++x2) #[] (BG m CA.toArray)=(BG m CA).flatten.toArray:=λm=>by
   have:=Qk CA m [];rw[FX] at this;exact this
  rw[f0]
  cases CA with
  |nil=>simp
  |cons a r'=>rw[if_neg 's']
 refine wpAny_binaryOp_repeat_ref (T:="list") (U:="int") 'd' {_,e,rfl} (λs'=>typeIs_int s' k t) noFill_list_mul F.fills_int_mul F.slot_int_rmul repeat_list F.slot_int_index.lookup
  (OA F.slot_int_rmul (typeIs_int s k t) F.entry_int_rmul (F.args_int_rmul_2 _ _) (int___rmul___int_list k t l CA.toArray n)
   {e,rfl,{_,e,rfl},OA F.slot_list_mul {_,e,rfl} F.entry_list_mul (F.args_list_mul_2 _ _) (AutoListH.list___mul___list_int_3 l CA.toArray n k t Jn nI cF) {e,?_}})
 rw[nA];exact{.ref _,_,I.lnew (t':=s.toks) (r.rep k.toNat) (by rw[zW8,Nat.mul_comm];exact hz),rfl,q _ I.fresh}
section
variable[DecidableEq κ]
noncomputable def P3(kvs:List (κ×V))(k:κ):Option V:=(kvs.find? λkv=>decide (kv.1=k)).map (·.2)
noncomputable def QE(kvs:List (κ×V))(k:κ)(v:V):List (κ×V) :=
 if(kvs.any λkv=>decide (kv.1=k))=AL then kvs.map (λkv=>if kv.1=k then(kv.1,v) else kv) else kvs++[(k,v)]
theorem Cv{p:κ×V}{r:List (κ×V)}{k:κ}(e:p.1=k):P3 (p::r) k=AA p.2:=by simp[P3,DQ,e]
theorem Cu{p:κ×V}{r:List (κ×V)}{k:κ}(e:¬p.1=k):P3 (p::r) k=P3 r k:=by simp[P3,DQ,e]
theorem Oy(k:κ):∀kvs:List (κ×V),(kvs.any λkv=>decide (kv.1=k))=(P3 kvs k).isSome
 |[]=>rfl
 |p::r=>by
  rw[FK]
  by_cases e:p.1=k
  .simp only[Cv e,decide_eq_true e,Bool.true_or,Option.isSome_some]
  .rw[Cu e,decide_eq_false e,Bool.false_or];exact Oy k r
theorem yB(kvs:List (κ×V))(k:κ)(v:V):(QE kvs k v).length<=kvs.length+1:=by
 unfold QE;split
 .rw[AJ];lia
 .rw[BH,BC,I0];lia
theorem RelO.isSome_eq{o:Option V}{u:Option AH}(r:RelO o u):o.isSome=u.isSome:=by
 cases o with
 |none=>cases u with
  |none=>rfl
  |some _=>exact(show False from r).elim
 |some _=>cases u with
  |none=>exact(show False from r).elim
  |some _=>rfl
theorem RelO.getD{o:Option V}{u:Option AH}{d:V}{d':AH}(r:RelO o u)(rd:RelV d d'):RelV (o.getD d) (u.getD d'):=by
 cases o with
 |none=>cases u with
  |none=>exact rd
  |some _=>exact(show False from r).elim
 |some _=>cases u with
  |none=>exact(show False from r).elim
  |some _=>exact r
theorem KV.val{kvs:List (κ×V)}{vs:List (κ×AH)}(r:KV kvs vs)(k:κ):RelO (P3 kvs k) (SI vs k):=by
 unfold KV at r
 induction r with
 |nil=>exact GZ
 |@cons p q ps qs h t ih =>
  obtain⟨h1,h2⟩:=h
  by_cases e:p.1=k
  .have e':q.1=k:=h1.symm.trans e
   have b:SI (q::qs) k=AA q.2:=by simp[SI,DQ,e']
   rw[Cv e,b];exact h2
  .have e':¬q.1=k:=λz=>e (h1.trans z)
   have b:SI (q::qs) k=SI qs k:=by simp[SI,DQ,e']
   rw[Cu e,b];exact ih
theorem KV.any{kvs:List (κ×V)}{vs:List (κ×AH)}(r:KV kvs vs)(k:κ):(kvs.any λkv=>decide (kv.1=k))=vs.any λkv=>decide (kv.1=k):=by
 unfold KV at r
 induction r with
 |nil=>rfl
 |cons h t ih=>rw[FK,FK,ih,h.1]
theorem KV.repl{kvs:List (κ×V)}{vs:List (κ×AH)}(r:KV kvs vs)(k:κ)(ry:RelV y u) :
  KV (kvs.map λkv=>if kv.1=k then(kv.1,y) else kv) (vs.map λkv=>if kv.1=k then(kv.1,u) else kv):=by
 unfold KV at r ⊢
 induction r with
 |nil=>exact .nil
 |@cons p q ps qs h t ih =>
  rw[AX,AX];refine .cons ?_ ih;obtain⟨h1,h2⟩:=h
  by_cases e:p.1=k
  .rw[if_pos e,if_pos (h1.symm.trans e)];exact{h1,ry}
  .rw[if_neg e,if_neg (λz=>e (h1.trans z))];exact{h1,h2}
theorem KV.put{kvs:List (κ×V)}{vs:List (κ×AH)}(r:KV kvs vs)(k:κ)(ry:RelV y u):KV (QE kvs k y) (stored vs k u):=by
 unfold QE stored;rw[r.any k]
 by_cases e:(vs.any λkv=>decide (kv.1=k))=AL
 .rw[if_pos e,if_pos e];exact r.repl k ry
 .rw[if_neg e,if_neg e];exact Paired.snoc r {rfl,ry}
theorem KV.keys{kvs:List (κ×V)}{vs:List (κ×AH)}(r:KV kvs vs):kvs.map (·.1)=vs.map (·.1):=by
 unfold KV at r
 induction r with
 |nil=>rfl
 |cons h t ih=>rw[AX,AX,ih,h.1]
theorem KV.length{kvs:List (κ×V)}{vs:List (κ×AH)}(r:KV kvs vs):kvs.length=vs.length:=Paired.length r
end
theorem iZ{k:Key}(r:RelV (kV k) u):(R9 P w).is k u=AL:=by
 cases k with
 |inl i=>obtain⟨t,e⟩:=(show ∃t,u=MI i t from r);subst e;exact zL6 P w i t
 |inr x=>obtain⟨t,e⟩:=(show ∃t,u=VJ x t from r);subst e;exact zL7 P w x t
theorem Qj{P:CI}{w:DY}:∀{ks:List Key} {us:List AH},Vals (ks.map kV) us->ItemsAre (R9 P w) ks us
 |[],_,r=>by rw[M3] at r;cases r;exact .nil
 |k::ks,_,r=>by
  rw[AX] at r
  cases r with
  |cons h t=>exact .cons (iZ h) (Qj t)
abbrev KT(H:Hp):List (List Key×V)->List (List Key×AQ×AH)->Prop:=Paired λp q=>p.1=q.1/\H q.2.1=AA (.tup (p.1.map kV))/\RelV p.2 q.2.2
theorem KT.val{xs:List (List Key×AQ×AH)}(r:KT H kvs xs)(k:List Key):RelO (P3 kvs k) ((XX xs k).map (·.2)):=by
 induction r with
 |nil=>exact GZ
 |@cons p q ps qs h t ih =>
  obtain⟨h1,_,h2⟩:=h
  by_cases e:p.1=k
  .have e':q.1=k:=h1.symm.trans e
   have b:XX (q::qs) k=AA q.2:=by simp[XX,DQ,e']
   rw[Cv e,b];exact h2
  .have e':¬q.1=k:=λz=>e (h1.trans z)
   have b:XX (q::qs) k=XX qs k:=by simp[XX,DQ,e']
   rw[Cu e,b];exact ih
theorem KT.repl{xs:List (List Key×AQ×AH)}(r:KT H kvs xs)(k:List Key)(ry:RelV y u) :
  KT H (kvs.map λkv=>if kv.1=k then(kv.1,y) else kv) (xs.map (putAt k u)):=by
 induction r with
 |nil=>exact .nil
 |@cons p q ps qs h t ih =>
  rw[AX,AX];refine .cons ?_ ih;obtain⟨h1,h2,h3⟩:=h;unfold putAt
  by_cases e:p.1=k
  .rw[if_pos e,if_pos (h1.symm.trans e)];exact{h1,h2,ry}
  .rw[if_neg e,if_neg (λz=>e (h1.trans z))];exact{h1,h2,h3}
theorem KT.put{xs:List (List Key×AQ×AH)}(r:KT H kvs xs)(k:List Key){b:AQ}(hb:H b=AA (.tup (k.map kV)))(ry:RelV y u) :
  KT H (QE kvs k y) (storedH xs k b u):=by
 have e:(kvs.any λkv=>decide (kv.1=k))=(XX xs k).isSome:=by
  rw[Oy,(r.val k).isSome_eq,O6]
 unfold QE storedH;rw[e]
 by_cases q:(XX xs k).isSome=AL
 .rw[if_pos q,if_pos q];exact r.repl k ry
 .rw[if_neg q,if_neg q];exact Paired.snoc r {rfl,hb,ry}
theorem KT.keeps{xs:List (List Key×AQ×AH)}(r:KT H kvs xs)(ht:∀b ys,H b=AA (.tup ys)->H' b=AA (.tup ys)):KT H' kvs xs :=
 pA0 r λ_ _ z=>{z.1,ht _ _ z.2.1,z.2.2}
theorem Ul{u:HO}(ok:HOk P w H h)(e:Rd H a u):ObjOk P w H h a u:=e.ok ok
theorem fS{kvs:List (Key×V)}(ok:HOk P w H h)(e:Rd H a (.dK kvs)):kvs.length<=sizeLine/\(a==GP)=AD/\∃vs,KV kvs vs/\h.DictOf (R9 P w) a vs :=
 show ObjOk P w H h a (.dK kvs) from Ul ok e
theorem Ar{kvs:List (Key×V)}(ok:HOk P w H h)(e:H a=AA (.dK kvs)):kvs.length<=sizeLine/\(a==GP)=AD/\∃vs,KV kvs vs/\h.DictOf (R9 P w) a vs:=fS ok (.inl e)
theorem oI{ks:List Key}(ok:HOk P w H h)(e:H a=AA (.tup (ks.map kV))):(NS (R9 P w)).is h ks a:=by
 obtain⟨_,CA,r,o,h1,h2,_,n,h3⟩:=(show ObjOk P w H h a (.tup (ks.map kV)) from ok a _ e);exact{o,CA.toArray,n,h1,h2,h3,by simpa using Qj r}
theorem lH(ok:HOk P w H h)(e:Rd H a (.dT kvs)):kvs.length<=sizeLine/\(a==GP)=AD /\
  ∃xs,KT H kvs xs/\h.DictOfH (NS (R9 P w)) a xs:=by
 obtain⟨z,y,xs,r,o,es,ep,h1,h2,h3,h4,h5⟩:=(show ObjOk P w H h a (.dT kvs) from Ul ok e);refine{z,y,xs,r,o,es,ep,h1,h2,h3,h4,λx hx=>?_,h5}
 have all:∀{l:List (List Key×V)} {m:List (List Key×AQ×AH)},KT H l m->∀x∈m,(NS (R9 P w)).is h x.1 x.2.1:=by
  intro l m q
  induction q with
  |nil=>intro x hx;exact nomatch hx
  |@cons p q ps qs hq t ih =>
   intro x hx;rcases BD.mp hx with e|hx
   .subst e
    exact oI ok (by rw[<-hq.1];exact hq.2.1)
   .exact ih x hx
 exact all r x hx
theorem yEJ(ok:HOk P w H h)(e:H a=AA (.dT kvs)):kvs.length<=sizeLine/\(a==GP)=AD /\
  ∃xs,KT H kvs xs/\h.DictOfH (NS (R9 P w)) a xs:=lH ok (.inl e)
def fO(H:Hp)(a:AQ)(y:V)(r:Option V):Prop :=
 (∃kvs k,Rd H a (.dK kvs)/\y=kV k/\r=P3 kvs k)\/∃kvs k b,Rd H a (.dT kvs)/\y=.ref b/\H b=AA (.tup (k.map kV))/\r=P3 kvs k
def DPut(H:Hp)(a:AQ)(y v:V)(H':Hp):Prop :=
 (∃kvs k,H a=AA (.dK kvs)/\y=kV k/\kvs.length<sizeLine/\H'=DU H a (.dK (QE kvs k v))) \/
 ∃kvs k b,H a=AA (.dT kvs)/\y=.ref b/\H b=AA (.tup (k.map kV))/\kvs.length<sizeLine/\H'=DU H a (.dT (QE kvs k v))
theorem DPut.kk{kvs:List (Key×V)}{k:Key}(e:H a=AA (.dK kvs))(hl:kvs.length<sizeLine):DPut H a (kV k) v (DU H a (.dK (QE kvs k v))):=.inl {kvs,k,e,rfl,hl,rfl}
theorem DPut.t{b:AQ}{k:List Key}(e:H a=AA (.dT kvs))(eb:H b=AA (.tup (k.map kV)))(hl:kvs.length<sizeLine) :
  DPut H a (.ref b) v (DU H a (.dT (QE kvs k v))):=.inr {kvs,k,b,e,rfl,eb,hl,rfl}
section
variable{r:AH}{o:Option V}
theorem Inv.big(I:Inv X AE σ H s):GP<s.heap.objs.size:=by
 have h:BL<s.heap.objs.size:=(I.mod.glob.keeps I.bk).lt;exact C1 'd' h
theorem zP5(hu:A.units+1<GQ)(I:Inv X AE σ H s)(g:fO H a y (AA v))(ry:RelV y u)(h:∀w' s',Inv X AE σ H s'->RelV v w'->Q w' s') :
  AZ (A3 X.prog X.w) A (P6 (.ref a) u) Q E s:=by
 rcases g with⟨kvs,k,e,ey,l⟩|⟨kvs,k,b,e,ey,eb,l⟩
 .subst ey
  obtain⟨z,hd,vs,MY,dd⟩:=fS I.hok e;obtain⟨w',hw,KH⟩:=RelO.some_of (v:=v) (o:=SI vs k) (by rw[l];exact MY.val k);exact wpAny_getItem_of (iZ ry) dd.mapOf hw (h w' _ (I.tok _) KH)
 .subst ey
  cases(show u=DI b from ry);obtain⟨z,hd,xs,MY,dd⟩:=lH I.hok e;obtain⟨w',hw,KH⟩:=RelO.some_of (v:=v) (o:=(XX xs k).map (·.2)) (by rw[l];exact MY.val k);obtain⟨p,hp,XI⟩:=BQ.mp hw;refine wpAny_getItem_heap (JU hu) (oI I.hok eb) dd hp ?_;rw[XI];exact h w' _ (I.tok _) KH
theorem yG9(hu:A.units+1<GQ)(I:Inv X AE σ H s)(g:fO H a y o)(ry:RelV y u)(h:∀s',Inv X AE σ H s'->Q (.bool o.isSome) s') :
  AZ (A3 X.prog X.w) A (EQ .In u (.ref a)) Q E s:=by
 rcases g with⟨kvs,k,e,ey,l⟩|⟨kvs,k,b,e,ey,eb,l⟩
 .subst ey
  obtain⟨z,hd,vs,MY,dd⟩:=fS I.hok e;refine wpAny_in_of (iZ ry) hd dd.mapOf ?_;rw[<-(MY.val k).isSome_eq,<-l];exact h _ (I.tok _)
 .subst ey
  cases(show u=DI b from ry);obtain⟨z,hd,xs,MY,dd⟩:=lH I.hok e;refine wpAny_in_heap (JU hu) (oI I.hok eb) hd dd ?_;have q:=(MY.val k).isSome_eq;rw[O6] at q;rw[<-q,<-l];exact h _ (I.tok _)
theorem zXA(hu:A.units+1<GQ)(I:Inv X AE σ H s)(g:fO H a y o)(ry:RelV y u)(h:∀s',Inv X AE σ H s'->Q (.bool (!o.isSome)) s') :
  AZ (A3 X.prog X.w) A (EQ .NotIn u (.ref a)) Q E s:=by
 rcases g with⟨kvs,k,e,ey,l⟩|⟨kvs,k,b,e,ey,eb,l⟩
 .subst ey
  obtain⟨z,hd,vs,MY,dd⟩:=fS I.hok e;refine wpAny_notIn_of (iZ ry) hd dd.mapOf ?_;rw[<-(MY.val k).isSome_eq,<-l];exact h _ (I.tok _)
 .subst ey
  cases(show u=DI b from ry);obtain⟨z,hd,xs,MY,dd⟩:=lH I.hok e;refine wpAny_notIn_heap (JU hu) (oI I.hok eb) hd dd ?_;have q:=(MY.val k).isSome_eq;rw[O6] at q;rw[<-q,<-l];exact h _ (I.tok _)
theorem wW{ob:HO}(I:Inv X AE σ H s)(mu:sL (H a))(hs:DG a s.heap h')(he:∃q,h'.get? a=AA q)(new:ObjOk X.prog X.w (DU H a ob) h' a ob) :
  Inv X AE σ (DU H a ob) { s with heap:=h',toks:=t' } :=
 I.write (x:=a) (e:=a) mu (.inl rfl) (λb q hb z=>(hs.2 b hb).trans z) he new
theorem Bn{kvs:List (Key×V)}{vs:List (Key×AH)}(z:kvs.length<=sizeLine)(hd:(a==GP)=AD)(MY:KV kvs vs)(dd:h'.DictOf (R9 P w) a vs) :
  ObjOk P w H' h' a (.dK kvs):={z,hd,vs,MY,dd}
theorem zP7{Q:Unit->AT->Prop}(hu:A.units+1<GQ)(I:Inv X AE σ H s)(g:DPut H a y v H')(ry:RelV y u)(rv:RelV v r)(h:∀s',Inv X AE σ H' s'->Q () s') :
  AZ (A3 X.prog X.w) A (setItem (.ref a) u r) Q E s:=by
 rcases g with⟨kvs,k,e,ey,l,eH⟩|⟨kvs,k,b,e,ey,eb,l,eH⟩
 .subst ey eH
  obtain⟨z,hd,vs,MY,dd⟩:=Ar I.hok e;have hz:vs.length<=sizeLine:=by rw[<-MY.length];exact z
  have hl:(QE kvs k v).length<=sizeLine:=by have:=yB kvs k v;lia
  refine wpAny_setItem_pairs (hsz:=hz) (iZ ry) dd λh' eY hs=>h _ ?_;have he:∃q,h'.get? a=AA q:=let ⟨q,_,_,hq,_⟩:=eY;{q,hq};exact wW I (by rw[e];exact GZ) hs he (Bn hl hd (MY.put k rv) eY)
 .subst ey eH
  cases(show u=DI b from ry);obtain⟨z,hd,xs,MY,dd⟩:=yEJ I.hok e;have hz:xs.length<=sizeLine:=by rw[<-Paired.length MY];exact z
  have hl:(QE kvs k v).length<=sizeLine:=by have:=yB kvs k v;lia
  refine wpAny_setItem_heap (hsz:=hz) (JU hu) (oI I.hok eb) dd λh' eY hs=>h _ ?_;obtain⟨q,es,ep,hq,h2,h3,h4,_,h5⟩:=eY;refine wW I (by rw[e];exact GZ) hs {q,hq} {hl,hd,_,(MY.put k eb rv).keeps λc ys ec=>?_,q,es,ep,hq,h2,h3,h4,h5};rw[EL (yDZ ec e (λz=>nomatch z))];exact ec
end
section
variable{kvs:List (Key×V)}{k:Key}
theorem yEK(I:Inv X AE σ H s)(e:Rd H a (.dK kvs))(h:∀t s',Inv X AE σ H s'->Q (.int kvs.length t) s'):AZ (A3 X.prog X.w) A (call (.builtin "len") [.ref a]) Q E s:=by
 obtain⟨z,hd,vs,MY,dd⟩:=fS I.hok e;refine call_len_dict hd dd (by rw[<-MY.length];rw[FZ] at z;lia) ?_;rw[<-MY.length];exact h _ _ (I.tok _)
end
theorem zMD{o:Option V}(I:Inv X AE σ H s)(g:fO H a y o):s.TypeIs (.ref a) "dict":=by
 rcases g with⟨kvs,k,e,_,_⟩|⟨kvs,k,b,e,_,_,_⟩
 .obtain⟨_,_,vs,_,dd⟩:=fS I.hok e
  exact dd.typeIs
 .obtain⟨_,_,xs,_,dd⟩:=lH I.hok e
  exact dd.typeIs
def Uk(td ty tv:TE):TS:=λD σ H=>tv σ H λv H1=>td σ H1 λx H2=>ty σ H2 λy H3=>∃a H4,x=.ref a/\DPut H3 a y v H4/\D.nx σ H4
section
variable{o i:CU}{td ty:TE}
theorem Cc(hu:X.A.units+1<GQ)(ho:PE X o td)(hi:PE X i ty)(hv:PE X JO tv)(hs:IH JO (AA (.Subscript o i NP)) pos.line X.env=pure AD) :
  PS X (.Assign [.Subscript o i NP] JO pos) (Uk td ty tv):=by
 intro AE s σ H D I h;refine wpAny_Assign_Subscript (GN (hv AE s σ H _ I h) λr s1 ⟨v,H1,I1,rv,q1⟩=>GN (ho AE s1 σ H1 _ I1 q1) λu s2 ⟨x,H2,I2,rx,q2⟩=>GN (hi AE s2 σ H2 _ I2 q2) λiv s3 ⟨y,H3,I3,ry,a,H4,ex,g,q3⟩=>?_) hs;subst ex;obtain rfl:u=DI a:=rx;exact zP7 hu I3 g ry rv λs4 I4=>{σ,H4,I4,q3}
end
theorem Ct(h:DZ)(hb:GP<h.objs.size):ObjOk P w H (h.push { cls:=.type "dict",data:=.dict #[] }) h.objs.size (.dK []) :=
 {BR _,beq_eq_false_iff_ne.mpr (FH (B0 hb)),[],.nil,Heap.DictOf.new h}
theorem zS8(h:DZ)(hb:GP<h.objs.size):ObjOk P w H (h.push { cls:=.type "dict",data:=.dict #[] }) h.objs.size (.dT []) :=
 {BR _,beq_eq_false_iff_ne.mpr (FH (B0 hb)),[],.nil,_,#[],0,AV _ rfl,{rfl,rfl,rfl},rfl,rfl,FP}
def yBD:TE:=λ_ H Q=>∀p,H p=AI->Q (.ref p) (DU H p (.dK []))
def yBE:TE:=λ_ H Q=>∀p,H p=AI->Q (.ref p) (DU H p (.dT []))
theorem bM:PE X (.Dict [] [] pos) yBD:=λAE s σ H Q I h =>
 wpAny_Dict_empty {.ref s.heap.objs.size,_,I.laid (a:=s.heap.objs.size) (o:=.dK []) (t':=s.toks) (λ_ _ q=>AF _ q) (AM _) (Ct s.heap I.big),rfl,h _ (I.hok.fresh (AM _))}
theorem bL:PE X (.Dict [] [] pos) yBE:=λAE s σ H Q I h =>
 wpAny_Dict_empty {.ref s.heap.objs.size,_,I.laid (a:=s.heap.objs.size) (o:=.dT []) (t':=s.toks) (λ_ _ q=>AF _ q) (AM _) (zS8 s.heap I.big),rfl,h _ (I.hok.fresh (AM _))}
def Bm:List (TE×TE)->St->Hp->(List (V×V)->Hp->Prop)->Prop
 |[],_,H,Q=>Q [] H
 |(tk,tv)::r,σ,H,Q=>tk σ H λx H1=>tv σ H1 λy H2=>Bm r σ H2 λps H3=>Q ((x,y)::ps) H3
abbrev VV:List (V×V)->List (AH×AH)->Prop:=Paired λp q=>RelV p.1 q.1/\RelV p.2 q.2
def zD(X:Cx)(pos:fD)(V7:List (Option CU))(RC:List CU)(jN:List (TE×TE)):Prop :=
 ∀(AE:List (AQ×HL)) (s:AT) (σ:St) (H:Hp) (Q:List (V×V)->Hp->Prop),Inv X AE σ H s->Bm jN σ H Q ->
  AZ (A3 X.prog X.w) X.A (evalPairs (pairTrees V7 RC X.env pos)) (λvs s'=>∃ps H',Inv X AE σ H' s'/\VV ps vs/\Q ps H') X.xe s
theorem zXB:zD X pos [] [] []:=λAE s σ H Q I h=>pairTrees_nil_walk {[],H,I,.nil,h}
theorem zS9{k v:CU}{ks:List (Option CU)}{vs:List CU}{tk:TE}(hk:PE X k tk)(hv:PE X v tv)(hr:zD X pos ks vs jN) :
  zD X pos (AA k::ks) (v::vs) ((tk,tv)::jN):=λAE s σ H Q I h =>
 pairTrees_cons_walk (GN (hk AE s σ H _ I h) λu s1 ⟨x,H1,I1,rx,q1⟩=>GN (hv AE s1 σ H1 _ I1 q1) λw2 s2 ⟨y,H2,I2,ry,q2⟩ =>
  GN (hr AE s2 σ H2 _ I2 q2) (λws s3 q0=>by obtain⟨ps,H3,I3,MY,q3⟩:=q0;exact{(x,y)::ps,H3,I3,.cons {rx,ry} MY,q3}))
def qW(kvs QH:List (Key×V)):List (Key×V):=QH.foldl (λacc kv=>QE acc kv.1 kv.2) kvs
theorem KV.merge:∀{QH:List (Key×V)} {rs:List (Key×AH)} {kvs:List (Key×V)} {vs:List (Key×AH)},KV QH rs->KV kvs vs->KV (qW kvs QH) (merged vs rs):=by
 intro QH rs kvs vs r;unfold KV at r
 induction r generalizing kvs vs with
 |nil=>intro q;exact q
 |@cons p q ps qs h t ih =>
  intro r0
  have e:KV (QE kvs p.1 p.2) (stored vs q.1 q.2):=by
   have:=r0.put p.1 h.2;rw[<-h.1];exact this
  exact ih e
theorem Sg:∀(QH kvs:List (Key×V)),(qW kvs QH).length<=kvs.length+QH.length
 |[],kvs=>by show kvs.length<=kvs.length+0;lia
 |p::r,kvs=>by
  have h1:=Sg r (QE kvs p.1 p.2);have h2:=yB kvs p.1 p.2;show(qW (QE kvs p.1 p.2) r).length<=_;rw[BC];lia
theorem Rm{P:CI}{w:DY}:∀{kvs:List (Key×V)} {ws:List (AH×AH)},VV (kvs.map λkv=>(kV kv.1,kv.2)) ws->∃rs,Carries (R9 P w) ws rs/\KV kvs rs
 |[],_,r=>by rw[M3] at r;cases r;exact{[],GZ,.nil}
 |p::kvs,_,r=>by
  rw[AX] at r
  cases r with
  |@cons a b as bs h t =>
   obtain⟨rs,c,q⟩:=Rm (P:=P) (w:=w) t;obtain⟨b1,b2⟩:=b;exact{(p.1,b2)::rs,{iZ h.1,rfl,c},.cons {rfl,h.2} q}
def yEL(jN:List (TE×TE)):TE:=λσ H Q=>∀p,H p=AI->Bm jN σ (DU H p (.dK [])) λps H2=>H2 p=AA (.dK [])/\∃kvs:List (Key×V),ps=kvs.map (λkv=>(kV kv.1,kv.2))/\kvs.length<=15/\Q (.ref p) (DU H2 p (.dK (qW [] kvs)))
theorem zXC{V7:List (Option CU)}{RC:List CU}(h:zD X pos V7 RC jN)(PK:V7.all (·.isSome)=AL)(hl:V7.length=RC.length)(h0:V7≠[])
  (h15:V7.length<=15):PE X (.Dict V7 RC pos) (yEL jN):=by
 intro AE s σ H Q I q;have hn:=I.hok.fresh (AM s.heap.objs.size);have I1:=I.laid (a:=s.heap.objs.size) (o:=.dK []) (h':=s.heap.push { cls:=.type "dict",data:=.dict #[] }) (t':=s.toks) (λ_ _ q=>AF _ q) (AM _) (Ct s.heap I.big);refine wpAny_Dict_walk (knd:=R9 X.prog X.w) PK hl h0 h15 (GN (h AE _ σ _ _ I1 (q _ hn)) λws s2 ⟨ps,H2,I2,MY,e,kvs,ep,lk,q2⟩=>?_);subst ep;obtain⟨rs,c,rk⟩:=Rm (P:=X.prog) (w:=X.w) MY;obtain⟨z,hd,Vs,r0,dd⟩:=Ar I2.hok e;cases r0;refine{rs,c,dd,λh' eY hs=>{.ref s.heap.objs.size,_,?_,rfl,q2}}
 have hz:(qW [] kvs).length<=sizeLine:=by
  have h1:=Sg kvs [];rw[I0] at h1;rw[FZ];lia
 have he:∃q,h'.get? s.heap.objs.size=AA q:=let ⟨q,_,_,hq,_⟩:=eY;{q,hq};exact wW I2 (by rw[e];exact GZ) hs he (Bn hz hd (rk.merge .nil) eY)
structure M2(X:Cx)(o:CU)(m:CK)(ME:fD)(e f:CU)(GO:fD):Prop where
 base:K1 o m X.env (eval o X.env)=eval o X.env
 few:((DH GO (AO [e,f] X.env)).all (λx=>!x.1)&&(iH GO (VH [] X.env)).all (λx=>x.1.isSome)
  && decide (([e,f]:List CU).length+([]:List OC).length+(if([]:List OC).isEmpty then 0 else 1)<30))=AL
 line:(ME.endLine==GO.line)=AL
 trees:DH GO (AO [e,f] X.env)=[(AD,eval e X.env),(AD,eval f X.env)]
def Fp(H:Hp)(a:AQ):Prop:=(∃kvs,Rd H a (.dK kvs))\/∃kvs,Rd H a (.dT kvs)
theorem yBF(I:Inv X AE σ H s)(d:Fp H a) :
  s.TypeIs (.ref a) "dict"/\(∀b,DI a=.ref b->∃ob,s.heap.get? b=AA ob/\ob.dict=AI)/\(a==GP)=AD:=by
 rcases d with⟨kvs,e⟩|⟨kvs,e⟩
 .obtain⟨_,hd,vs,_,dd⟩:=fS I.hok e
  refine{dd.typeIs,λb q=>?_,hd};cases q;obtain⟨ob,_,_,h1,h2,_⟩:=dd;exact{ob,h1,h2.2.1}
 .obtain⟨_,hd,xs,_,dd⟩:=lH I.hok e
  refine{dd.typeIs,λb q=>?_,hd};cases q;obtain⟨ob,_,_,h1,h2,_⟩:=dd;exact{ob,h1,h2.2.1}
section
variable{d:V}{r:AH}{o:Option V}
theorem yBG(hu:A.units+1<GQ)(I:Inv X AE σ H s)(g:fO H a y o)(ry:RelV y u)(rd:RelV d r)(h:∀w' s',Inv X AE σ H s'->RelV (o.getD d) w'->Q w' s') :
  AZ (A3 X.prog X.w) A (call (.builtin "dict.get") [.ref a,u,r]) Q E s:=by
 rcases g with⟨kvs,k,e,ey,l⟩|⟨kvs,k,b,e,ey,eb,l⟩
 .subst ey
  obtain⟨z,hd,vs,MY,dd⟩:=fS I.hok e;refine call_meetsIn MS dd.typeIs UY (TJ _ _ _) (meets_dict_get_default (R9 X.prog X.w) a (iZ ry) hd r) {_,dd.mapOf,h _ _ (I.tok _) ?_};rw[l];exact(MY.val k).getD rd
 .subst ey
  cases(show u=DI b from ry);obtain⟨z,hd,xs,MY,dd⟩:=lH I.hok e;refine call_meetsIn MS dd.typeIs UY (TJ _ _ _) (meetsH_dict_get_default (NS (R9 X.prog X.w)) a b hd r) {JU hu,k,xs,oI I.hok eb,dd,h _ _ (I.tok _) ?_};rw[l];exact(MY.val k).getD rd
end
def yBH(td ty tx:TE):TE:=λσ H Q=>td σ H λx H1=>∃a,x=.ref a/\Fp H1 a/\ty σ H1 λy H2=>tx σ H2 λz H3=>∃o,fO H3 a y o/\Q (o.getD z) H3
section
variable{o f:CU}{td ty tx:TE}
theorem zTA(hu:X.A.units+1<GQ)(ho:PE X o td)(he:PE X e ty)(hf:PE X f tx)(m:M2 X o "get" ME e f GO):PE X (.Call (.Attribute o "get" ME) [e,f] [] GO) (yBH td ty tx):=by
 intro AE s σ H Q I h;refine wpAny_Call_method m.base m.few m.line PySem.F.plainAttrs_dict MS PySem.F.type_dict_get (GN (ho AE s σ H _ I h) λu s1 ⟨x,H1,I1,rx,a,ex,d,q1⟩=>?_);subst ex;obtain rfl:u=DI a:=rx;obtain⟨t1,t2,_⟩:=yBF I1 d;refine{t1,t2,?_};rw[m.trees]
 refine MV rfl (NW (O0 (GN (he AE s1 σ H1 _ I1 q1) λiv s2 ⟨y,H2,I2,ry,q2⟩ =>
  O0 (GN (hf AE s2 σ H2 _ I2 q2) λfv s3 ⟨z,H3,I3,rz,ov,g,q3⟩=>aW ?_))))
 exact yBG hu I3 g ry rz λw' s4 I4 KH=>{_,H3,I4,KH,q3}
end
section
variable{kvs:List (Key×V)}
end
end L2
variable{YC:List CK}{XP:(CK->Option AH)->DZ->Prop}{YP:DY->DZ->Prop}{q:CI}
namespace Att
open PySem PySem.W PySem.Calls PyProof.Rows
theorem zGB{P:Params}:∀(ns:List Int) (vs:List AH),WellAll P h vs (ns.map WData.int)->GF vs ns:=by
 intro ns
 induction ns with
 |nil =>
  intro vs w;rw[M3] at w;cases w;exact .nil
 |cons n ns ih =>
  intro vs w;rw[AX] at w
  cases w with
  |cons a b =>
   cases a;exact .cons _ _ (ih _ b)
theorem zP9{l:OpenLaw}(hn:l.most=AA n){P:Params}{args:List WData}{l9:List AH}
  (SE:l.row.toRowW.claim.pre args=AL) (Hw:WellAll P h l9 args) :
  ∃a vs ns,l9=[DI a]/\args=[WData.list (ns.map WData.int)]/\h.get? a=AA { cls:=.type "list",data:=.seq vs.toArray }/\GF vs ns/\ns.length<=n:=by
 have hsh:WShape.hasAll [] args [.list .int]=AL:=(pre_splitW SE).1;have hc:l.pre.holds [] { args:=args }=AL:=(pre_splitW SE).2;obtain⟨d,r,rfl,h1,h2⟩:=hasAllW_cons hsh;obtain rfl:=hasAllW_nil h2;obtain⟨xs,rfl,h3⟩:=hasW_list h1;obtain⟨ns,rfl⟩:=items_int h3
 have EW:ns.length<=n:=by
  unfold OpenLaw.pre at hc
  have h4:(WTm.not (.lt (.lit (.int (n:Int))) (.len (.arg 0)))).holds [] { args:=[.list (ns.map .int)] }=AL:=by
   have h4:=(holds_andW hc).1;rw[hn] at h4;exact h4
  have h5:=condW_of h4 (w_not (w_lt w_lit (w_len_list (w_arg rfl))));rw[AJ] at h5;refine EV λq=>?_;have q':(n:Int)<((ns.length:Nat):Int):=by lia
  first
   |(rw[decide_eq_true q'] at h5;exact absurd h5 'd')
   |(simp at h5;lia)
 cases Hw with
 |cons w1 w2 =>
  cases w2
  cases w1 with
  |list ho PK=>exact{_,_,ns,rfl,rfl,ho,zGB ns _ PK,EW}
theorem zQA(l:OpenLaw)(args:List WData):l.row.toRowW.claim.post args (.bool AL) args=AL :=
 postW_of (r:=l.row.toRowW) (X:=(AL==AL))
  (show WShape.has [] (.bool AL) .bool=AL by first|rfl|decide|simp[WShape.has,WShape.arms,WShape.armsAll])
  (show(WTm.eq .res (.lit (.bool AL))).value [] { args:=args,res:=AA (.bool AL),after:=args }=AA (.bool (AL==AL)) from w_eq_bool (w_res rfl) w_lit) rfl
theorem attach_call{l:OpenLaw}{d:DefRec}
  (hn:l.most=AA n) (vD:d.params.defaults=[])
  (call:∀(w:DY) (s₀ EY:AT) (mg mb:CK->Option AH) (fa:AQ) (o:HL) (pm cd RN:AH) (a:AQ) (vs:List AH) (ns:List Int),
   Ground q YC [] XP w s₀ mg mb EY.heap->YP w EY.heap ->
   EY.heap.get? fa=AA o->o.data=.func (docDef d.name d.params d.body d.scope pm cd RN)->EY.heap.CodeRec cd d.name->mg d.name=AA (.ref fa) ->
   EY.heap.get? a=AA { cls:=.type "list",data:=.seq vs.toArray }->GF vs ns->ns.length<=n->EY.gens=#[] ->
   HG (A3 l.prog w) P8 (.call (.ref fa) {[.ref a],[]}) (λr s'=>r=.ok (.ret (.bool AL))/\OldK EY.heap s'.heap/\s'.os=EY.os/\M5 s'.gens) EY) :
  WalkO q YC XP YP l.row.toRowW d [] (λf vs=>ZP f vs):=by
 intro w s₀ EY mg mb G Y fa o pm cd RN dV kV ho hd LR hD uS hg args l9 as SE hlay hrd Hw hlo;obtain rfl:dV=.none:=Dflts.none hD vD;obtain rfl:kV=.none:=Dflts.noKw hD;obtain⟨a,vs,ns,rfl,rfl,cE,cI,EW⟩:=zP9 hn SE Hw;refine enter_call (LS (call w s₀ EY mg mb fa o pm cd RN a vs ns G Y ho (fd_plain hd) LR uS cE cI EW hg) λr s' hq=>?_);obtain⟨rfl,h2,h3,h4⟩:=hq;exact{.inl {.bool AL,.bool AL,[],rfl,λ_=>rfl,.bool AL,zQA l _,λ_=>{NJ,λ_ hm=>(nomatch hm)}},h2,h3,h4}
section
variable{K:Frag}
noncomputable def yGC(h:DZ)(L d:AQ):List (AQ×HL):=(C9 h.objs.size).filterMap λa=>if a=L\/a=d then AI else(h.get? a).map λo=>(a,o)
end
end Att
variable{CX:L2.CXT}{sp:L2.Sp}{B:Prop}
namespace L2
open PySem PySem.Spec PyProof.Rows
theorem Qi:∀{vs:List AH} {ns:List Int},GF vs ns->Vals (ns.map V.int) vs
 |_,_,.nil=>.nil
 |_,_,.cons n t h=>.cons {t,rfl} (Qi h)
def Em(H:Hp):Prop:=∀b,H b=AI\/(∃o xs,H b=AA (.frz o (.lst xs)))\/∃q,H b=AA (.tbl q #[])
structure Tabs(K:AC)(q:CI):Prop where
 rcs:∀x∈gD,∀c T,EI K x=AA (c,T)->∃d,(PyProof.Rows.recsOf q).find? (λe=>e.name==x)=AA d
 out:∀x∈gD,∀c T,EI K x=AA (c,T)->K.lookup T=AI
 uni:∀x∈gD,∀y∈gD,∀c c' T,EI K x=AA (c,T)->EI K y=AA (c',T)->x=y
def CB(K:AC)(base:DZ):Prop:=∀x∈gD,∀c T,EI K x=AA (c,T)->JE base c T
theorem Tabs.uq{K:AC}(t:Tabs K q){T:AQ}{u v:CK}(a:TB K T u)(b:TB K T v):u=v:=by
 obtain⟨x,c,h1,h2,rfl⟩:=a;obtain⟨y,c',g1,g2,rfl⟩:=b;rw[t.uni x h1 y g1 c c' T h2 g2]
open Classical in
noncomputable def iY(K:AC)(H:Hp):Hp:=λb=>if h:∃q,TB K b q then AA (.tbl h.choose #[]) else H b
theorem zXD{K:AC}(t:Tabs K q){T:AQ}{u:CK}(a:TB K T u):iY K H T=AA (.tbl u #[]):=by
 have h:∃q,TB K T q:={u,a};unfold iY;rw[dif_pos h,t.uq h.choose_spec a]
theorem zXE{K:AC}{b:AQ}(a:∀q,¬TB K b q):iY K H b=H b:=by
 unfold iY;rw[dif_neg (λq0=>by obtain⟨q,z⟩:=q0;exact a q z)]
theorem zTB{K:AC}{mb:CK->Option AH}{fa:AQ}{EY:AT}{vs:List AH}
  (KX:K.In EY.heap) (g8:EY.heap.Ns BL mg) (hb:EY.heap.Ns MH mb) (hbb:∀x:CK,x≠"__name__"->mb x=GD x) (Ja:EY.heap.NoLimit) (zY:∃bm ob,mg "__builtins__"=AA (.ref bm)/\bm≠MH/\EY.heap.get? bm=AA ob/\ob.cls=.type "module"/\ob.dict=AA MH/\ob.data=.plain) (hg:EY.gens=#[])
  (tK:Tabs K q) (tT:∀x∈gD,∀c T,EI K x=AA (c,T)->JE EY.heap c T/\EY.heap.get? T=AA (KS #[]))
  (ha:EY.heap.get? a=AA { cls:=.type "list",data:=.seq vs.toArray }) (hi:GF vs ns) (hl:ns.length<=sizeLine) (hr:Room k P8)
  (F:∀base:DZ,K.In base->base.Ns BL mg->CB K base->FnOk P w K mg base CX k fa fd [x] sp) (OS:∀(s:AT) (u:AH),SU s fd {[u],[]} [(x,u)])
  (aC:∀H:Hp,Em H->SqL K H a (ns.map V.int)->sp [.ref a] H (λv _=>v=.bl AL) λ_ _ _=>False)
  (Kc:∀H e s',CX [] H EY (λ_ _ _=>False) e s'->False) :
  HG (A3 P w) P8 (.call (.ref fa) {[.ref a],[]}) (λr s'=>r=.ok (.ret (.bool AL))/\OldK EY.heap s'.heap/\s'.os=EY.os/\M5 s'.gens) EY:=by
 have rv:=Qi hi;have Hn:=hi.length
 have V4:∀{T u},TB K T u->EY.heap.get? T=AA (KS #[])/\aO EY.heap T/\K.lookup T=AI:=λ{T u} h=>by
  obtain⟨x,c,h1,h2,_⟩:=h;obtain⟨z1,z2⟩:=tT x h1 c T h2;exact{z2,(z1.tab z2).isCodeTable,tK.out x h1 c T h2}
 have pR:∀{u},¬TB K a u:=λ{u} h=>by
  have e:=(V4 h).1;rw[ha] at e;cases e
 -- from an abstract heap in which nothing but the script and the tables is UJ
 have vT:∀H0:Hp,(∀b,H0 b=AI\/∃o xs,H0 b=AA (.frz o (.lst xs)))->SqL K H0 a (ns.map V.int)->HOk P w H0 EY.heap->(∀b,H0 b≠AI->b=a)->(H0 a≠AI->K.lookup a=AI) ->
   HG (A3 P w) P8 (.call (.ref fa) {[.ref a],[]}) (λr s'=>r=.ok (.ret (.bool AL))/\OldK EY.heap s'.heap/\s'.os=EY.os/\M5 s'.gens) EY:=by
  intro H0 Xn hS0 Ir Xq hK0;have hT:∀{T u},TB K T u->iY K H0 T=AA (.tbl u #[]):=λh=>zXD tK h;have hN:∀b,(∀u,¬TB K b u)->iY K H0 b=H0 b:=λb h=>zXE h
  have gr:∀b u,H0 b=AA u->iY K H0 b=AA u:=λb u e=>by
   have:b=a:=Xq b (by rw[e];simp);rw[hN b λu=>by rw[this];exact pR,e]
  generalize hH:iY K H0=H at hT hN gr
  have hO:Em H:=λb=>by
   by_cases h:∃u,TB K b u
   .obtain⟨u,h⟩:=h;exact .inr (.inr {u,hT h})
   .rw[hN b λu z=>h {u,z}]
    exact(Xn b).imp_right .inl
  have hS:SqL K H a (ns.map V.int):=hS0.imp (λz=>z.imp (gr _ _) (λq0=>by obtain⟨o,z⟩:=q0;exact{o,gr _ _ z})) id
  have hok:HOk P w H EY.heap:=λb u e=>by
   by_cases h:∃u,TB K b u
   .obtain⟨v,h⟩:=h
    rw[hT h] at e;cases e;exact{(V4 h).1,trivial,λpos cv z=>by cases z}
   .rw[hN b λu z=>h {u,z}] at e
    refine(Ir b u e).stay (λc v _ q=>q) (λc q=>gr _ _ q) (λc xs q=>gr _ _ q) λc o x q=>gr _ _ q
  have hA:∀b,H b≠AI->b=a\/∃u,TB K b u:=λb z=>by
   by_cases h:∃u,TB K b u
   .exact .inr h
   .rw[hN b λu z=>h {u,z}] at z
    exact .inl (Xq b z)
  have hK:H a≠AI->K.lookup a=AI:=λz=>hK0 (by rw[<-hN a λu=>pR];exact z);have QX:∀{b:AQ} {o:HL},EY.heap.get? b=AA o->H b=AI->(dP EY.heap H).get? b=AA o:=λe n=>zSU e n
  have tZ:∀{b:AQ} {o:HL} {es:Array JY} {ep:Nat},EY.heap.get? b=AA o->o.data=.dict es ep->H b=AI:=λ{b o es ep} e d=>by
   cases q:H b with
   |none=>rfl
   |some u =>
    rcases hA b (by rw[q];simp) with e'|⟨v,h⟩
    .subst e'
     rw[ha] at e;cases e;have d':kQ vs.toArray _=Data.dict es ep:=d;cases d'
    .rw[(V4 h).1] at e;cases e
     have d':RT #[]=Data.dict es ep:=d;cases d'
  have zL:∀{b:AQ} {m:CK->Option AH},EY.heap.Ns b m->(dP EY.heap H).Ns b m:=λ{b m} ⟨o,es,ep,e,d,r⟩=>{o,es,ep,QX e (tZ e d),d,r}
  have Xo:K.In (dP EY.heap H):=λb o e=>QX (KX b o e) (by
   cases q:H b with
   |none=>rfl
   |some u =>
    rcases hA b (by rw[q];simp) with e'|⟨v,h⟩
    .subst e'
     rw[hK (by rw[q];simp)] at e;cases e
    .rw[(V4 h).2.2] at e;cases e)
  have hM:Mod K mg (dP EY.heap H):={Xo,zL g8,{mb,zL hb,hbb},let ⟨mc,h1,h2⟩:=Ja;{mc,zL h1,h2},by
   obtain⟨bm,ob,b1,b2,b3,b4,b5,b6⟩:=zY;refine{bm,ob,b1,b2,QX b3 ?_,b4,b5,b6}
   cases q:H bm with
   |none=>rfl
   |some u =>
    rcases hA bm (by rw[q];simp) with e'|⟨v,h⟩
    .subst e';rw[ha] at b3;cases b3;injection b4 with z;exact absurd z 'd'
    .rw[(V4 h).1] at b3;cases b3;cases b4}
  have e0:Env0 P w K mg (dP EY.heap H) P8 [] EY H:={λT u h=>{_,hT h},rfl,hM,λb o e=>zWU e,CO (zPO _ _),trivial,λb hb=>absurd (show b∈([]:List AQ) from hb) 's',hok,.of_eq hg}
  have hCB:CB K (dP EY.heap H):=λx hx c T e=>by
   obtain⟨⟨o,jM,Kf,tf,vM,tg,inF,Gc,tt,e1,e2,r⟩,_⟩:=tT x hx c T e;refine{o,jM,Kf,tf,vM,tg,inF,Gc,tt,QX e1 ?_,e2,r}
   cases q:H c with
   |none=>rfl
   |some u =>
    rcases hA c (by rw[q];simp) with e'|⟨v,h⟩
    .subst e';rw[ha] at e1;cases e1;injection e2 with z;exact absurd z 'd'
    .rw[(V4 h).1] at e1;cases e1;cases e2
  refine LS ((F _ Xo (zL g8) hCB).run P8 [] EY H {[.ref a],[]} [.ref a] [.ref a] _ _ hr e0 (OS EY (.ref a)) (.cons rfl .nil) (aC H hO hS)) λr s' h=>?_
  cases r with
  |error e=>exact(Kc H e s' h).elim
  |ok fl =>
   cases fl with
   |next=>exact HF h
   |brk=>exact HF h
   |cont=>exact HF h
   |ret u =>
    obtain⟨v,H',os,bare,un,uQ,r',q⟩:=h;have q':v=.bl AL:=q;subst q';obtain rfl:u=IX AL:=r'
    have HV:∀b o,EY.heap.get? b=AA o->s'.heap.get? b=AA o\/(aO EY.heap b/\o=KS #[]/\∃ps,s'.heap.get? b=AA (KS ps)):=λb o e=>by
     cases q:H b with
     |none=>exact .inl (un.keep b o e q (by intro z;exact absurd (show b∈([]:List AQ) from z) 's') 's')
     |some u =>
      rcases hO b with z|⟨ob,xs,z⟩|⟨v,z⟩
      .rw[q] at z;cases z
      .have z2:=un.frzs b ob _ z
       obtain⟨e1,_⟩:=hok b _ z;obtain⟨e2,_⟩:=uQ b _ z2;rw[e] at e1;cases e1;exact .inl e2
      .obtain⟨m,z2⟩:=un.tbls b v _ z
       obtain⟨e2,_⟩:=uQ b _ z2
       by_cases h:∃u,TB K b u
       .obtain⟨w',h⟩:=h
        rw[(V4 h).1] at e;cases e;exact .inr {(V4 h).2.1,rfl,_,e2}
       .rw[hN b λu z=>h {u,z}] at z
        rcases Xn b with y|⟨ob,xs,y⟩
        .rw[z] at y;cases y
        .rw[z] at y;cases y
    refine{rfl,{λb o e=>?_,λb o e=>?_},os,bare}
    .rcases HV b o e with z|⟨ht,rfl,ps,hP⟩
     .exact .inl z
     .exact .inr (.inl {ht,rfl,#[],ps,rfl,by rw[Array.empty_append];exact hP})
    .rcases HV b o e with z|⟨_,_,ps,hP⟩
     .exact{o,z}
     .exact{_,hP}
 cases hk:K.lookup a with
 |some o =>
  -- the script is LF of the module's own objects
  have e:=KX a o hk;rw[ha] at e;cases e;refine vT (λ_=>AI) (λ_=>.inl rfl) (.inr {_,vs.toArray,_,hk,rfl,rfl,rfl,by rw[A0,Hn];exact hl,by simpa using rv}) (λb u z=>by have z':(AI:Option HO)=AA u:=z;cases z') (λb z=>absurd rfl z) λz=>absurd rfl z
 |none =>
  refine vT (λb=>if b=a then AA (.frz { cls:=.type "list",data:=.seq vs.toArray } (.lst (ns.map V.int))) else AI) (λb=>?_) (.inl (.inr {{ cls:=.type "list",data:=.seq vs.toArray },if_pos rfl})) (λb u z=>?_) (λb z=>?_) λ_=>hk
  .by_cases hb:b=a
   .exact .inr {_,_,if_pos hb}
   .exact .inl (if_neg hb)
  .by_cases hb:b=a
   .have z':=(if_pos hb).symm.trans z
    cases z';subst hb;exact{ha,by rw[AJ];exact hl,vs,_,rv,ha}
   .have z':=(if_neg hb).symm.trans z
    cases z'
  .by_cases hb:b=a
   .exact hb
   .exact absurd (if_neg hb) z
theorem walk_of{l:QM}{d:DefRec}{K:Params->AC}{CX:DY->CXT}{sp:DY->Sp}
  (hn:l.most=AA n) (ZE:n<=sizeLine) (vD:d.params.defaults=[]) (hr:Room k P8)
  (hY:∀(w:DY) (h:DZ),YP w h->(K w.params).In h) (tK:∀w:DY,Tabs (K w.params) q)
  (F:∀(w:DY) (mg:CK->Option AH) (fa:AQ) (h:DZ),(K w.params).In h->h.Ns BL mg->mg d.name=AA (.ref fa) ->
   ∃fd:JN,(∀(s:AT) (u:AH),SU s fd {[u],[]} [(x,u)]) /\
    ∀base:DZ,(K w.params).In base->base.Ns BL mg->CB (K w.params) base->FnOk l.prog w (K w.params) mg base (CX w) k fa fd [x] (sp w))
  (aC:∀(w:DY) (H:Hp) (a:AQ) (ns:List Int),ns.length<=n->Em H->SqL (K w.params) H a (ns.map V.int)->sp w [.ref a] H (λv _=>v=.bl AL) λ_ _ _=>False)
  (Kc:∀(w:DY) (H:Hp) (s:AT) (e:AH) (s':AT),CX w [] H s (λ_ _ _=>False) e s'->False) :
  fC q YC XP YP l.row.toRowW d [] (λf vs=>ZP f vs):=by
 refine Att.attach_call hn vD λw s₀ EY mg mb fa o pm cd RN a vs ns G Y ho hd LR uS cE cI EW hg=>?_;have KX:=hY w _ Y;obtain⟨fd,hb,hF⟩:=F w mg fa _ KX G.T.g uS;exact zTB KX G.T.g G.T.b G.T.builtins G.T.nolimit G.T.bmain hg (tK w) (λx hx c T e=>let ⟨d,hd⟩:=(tK w).rcs x hx c T e;PySem.W.tab_of G.T KX hd e) cE cI (AY EW ZE) hr hF hb (λH hO hS=>aC w H a ns EW hO hS) λH e s'=>Kc w H EY e s'
noncomputable def bF(s:E6):Arguments:=match s with
 |.FunctionDef _ a _ _ _ _ _ _ _ _=>a
 |_=>{ posonlyargs:=[],args:=[],vararg:=AI,kwonlyargs:=[],kw_defaults:=[],kwarg:=AI,defaults:=[] }
noncomputable def U7(s:E6):List E6:=match s with
 |.FunctionDef _ _ b _ _ _ _ _ _ _=>b
 |_=>[]
noncomputable def J5(s:E6):M1:=match s with
 |.FunctionDef _ _ _ _ _ _ sc _ _ _=>sc
 |_=>{ kind:=.function,names:=[],isGenerator:=AD,isCoroutine:=AD }
abbrev LO:CXT:=λ_ _ _ _ _ _=>False
abbrev E0:XK:=λ_ _ _=>False
theorem wA:wH LO X E0:=λ_ _ _ _ _ _ _ h=>h.elim
structure Fun(K:AC)(x qual:CK)(st:E6)(f:AQ)(fd:JN):Prop where
 ex:∃(oc:AH) (od:Option AQ) (kV RN pm:AH) (an:Option AQ) (G5 ct:AH) (ZC:Array (Option AH)),
  fd=EX x qual (bF st) (U7 st) (J5 st) .none kV RN pm an G5 ct/\K.lookup f=AA {oc,od,.func fd,ZC}/\HZ K G5 qual=AL
 kp:EJ K (.ref f)=AL
section
variable{K:AC}
theorem Fun.ok{st:E6}(F:Fun K x qual st f fd)(S:FnScope N ps (J5 st))(len:∀vs H Q E,sp vs H Q E->vs.length=ps.length)
  (KO:∀(G5:AH) (A:DJ) (outer:List WK) (s:AT) (H:Hp) (vs:List V) (Q:VK) (E:XK),Room k (A.deeper (FR qual (J5 st) s.heap.objs.size f G5))->sp vs H Q E ->
   ∃t,PSs (OL LO P w K mg base N qual (J5 st) f G5 A outer s H E).nox (U7 st) t/\t { nx:=λ_ H'=>Q .non H',rt:=Q } (start N vs) H):FnOk P w K mg base LO (k+1) f fd ps sp:=by
 obtain⟨oc,od,kV,RN,pm,an,G5,ct,ZC,rfl,lk,LR⟩:=F.ex;refine At lk LR S len λA outer s H vs Q E hr aC=>?_;obtain⟨t,h,q⟩:=KO G5 A outer s H vs Q E hr aC;exact{t,h.nox,q}
theorem Fun.binds{st:E6}(F:Fun K x qual st f fd)
  (h:∀(kV RN pm:AH) (an:Option AQ) (G5 ct:AH) (us:List AH),us.length=ps.length->NU (EX x qual (bF st) (U7 st) (J5 st) .none kV RN pm an G5 ct) {us,[]}=pure (ps.zip us)):Binds K fd ps []:=by
 obtain⟨oc,od,kV,RN,pm,an,G5,ct,ZC,rfl,lk,LR⟩:=F.ex;exact .all (h kV RN pm an G5 ct)
theorem wG{st:E6}{ZC:Array (Option AH)}{kV RN G5:AH}(l:K.lookup f=AA {oc,od,.func (EX x qual (bF st) (U7 st) (J5 st) .none kV RN pm an G5 ct),ZC})
  (c:HZ K G5 qual=AL) (k:EJ K (.ref f)=AL):Fun K x qual st f (EX x qual (bF st) (U7 st) (J5 st) .none kV RN pm an G5 ct):={{oc,od,kV,RN,pm,an,G5,ct,ZC,rfl,l,c},k}
end
theorem Db(h:n<=1000):n<sizeLine:=AS h 'd'
theorem pv(i:Nat)(hN:X.N[i]?=AA x:=by rfl)(hv:ZA X.env.scope x:=by first|exact BN rfl|exact D9 (BN rfl)|exact D9 (D9 rfl))(hd:(x==("__debug__":CK))=AD:=by decide)
  (LR:(x==("__classdict__":CK))=AD:=by decide):PE X (.Name x pos) (ZY i):=fY hN hv hd LR
theorem Te{A:Prop}(h:B):if AD=AL then A else B:=by
 rw[if_neg CG];exact h
theorem Td{A:Prop}(h:A):if AL=AL then A else B:=by
 rw[if_pos rfl];exact h
end L2
namespace TS
open PySem PyProof.Rows
section
variable{prog:CI}{w:DY}{A:DJ}{E:AH->AT->Prop}{s:AT}{BS:Array A9}{kd:FC}
structure SB(BS:Array A9)(kd:FC)(st:BO):Prop where
 perm:(AW st).Perm BS
 kind:kindOf st=kd
 failed:iD st=AI
theorem SB.size{st:BO}(h:SB BS kd st):(AW st).size=BS.size:=h.perm.size_eq
theorem SB.setArr{st:BO}(h:SB BS kd st){xs:Array A9}(hp:xs.Perm (AW st)):SB BS kd (setArr st xs):={hp.trans h.perm,h.kind,h.failed}
theorem SB.mem{st:BO}(h:SB BS kd st){i:Nat}(hi:i<(AW st).size):(AW st)[i]∈BS:=h.perm.mem_iff.mp (AG hi)
theorem oV{st:BO}{G6:Array A9}{i:Nat}{Q:A9->BO->Prop}(hi:i<G6.size)(h:Q G6[i] st):NE (A3 prog w) A E s (elem' G6 i) Q st:=by
 rw[elem'_eq,getElem?_pos G6 i hi];exact BE h
theorem LC{α:Type}{c:Prop}[Decidable c]{x y:StateT BO RQ α}{Q:α->BO->Prop}{st:BO}(h1:c->NE (A3 prog w) A E s x Q st)(h2:¬c->NE (A3 prog w) A E s y Q st) :
  NE (A3 prog w) A E s (if c then x else y) Q st:=by
 by_cases h:c
 .rw[if_pos h];exact h1 h
 .rw[if_neg h];exact h2 h
end
section
variable{prog:CI}{w:DY}{A:DJ}{E:AH->AT->Prop}{s:AT}{BS:Array A9}{kd:FC}
theorem wV{st:BO}{i j:Nat}{Q:PUnit->BO->Prop}(h:Q ⟨⟩ (setArr st (N8 (AW st) i j ((j-i) / 2)))):NE (A3 prog w) A E s (reverseSlice' i j) Q st:=by
 rw[reverseSlice'_eq];exact MF h
def Kp(BS:Array A9)(kd:FC)(st CM:BO):Prop:=SB BS kd CM/\DE CM=DE st
theorem Kp.rev{st CM:BO}{i j d:Nat}(h:Kp BS kd st CM):Kp BS kd st (setArr CM (N8 (AW CM) i j d)):={h.1.setArr (mirror_perm _ _ _ _),h.2}
end
noncomputable def rL:Bool->A9->Array A9->Nat->Nat->Nat->StateT BO RQ (Option Nat):=sortPriv% PySem.Builtin.gallop
section
variable{prog:CI}{w:DY}{A:DJ}{E:AH->AT->Prop}{s:AT}{BS:Array A9}{kd:FC}
end
noncomputable def Dx:Nat->StateT BO RQ Unit:=sortPriv% PySem.Builtin.setMinGallop
abbrev qV(st:BO)(g:Nat):BO:=RX (kindOf st) (AW st) (DE st) g (iD st)
theorem zFR(g:Nat):Dx g=modify λs=>qV s g:=rfl
noncomputable def zTD:Array A9->Array A9->StateT BO RQ (Array A9):=sortPriv% PySem.Builtin.mergeLo
noncomputable def zTE:Array A9->Array A9->StateT BO RQ (Array A9):=sortPriv% PySem.Builtin.mergeHi
structure Mid(a b out:Array A9)(ia ib:Nat):Prop where
 perm:(out.toList++a.toList.drop ia++b.toList.drop ib).Perm (a.toList++b.toList)
 la:ia<=a.size
 lb:ib<=b.size
 sz:out.size=ia+ib
theorem Mid.pushB{a b out:Array A9}{ia ib:Nat}(m:Mid a b out ia ib)(h:ib<b.size):Mid a b (out.push b[ib]) ia (ib+1):=by
 refine{?_,m.la,h,by rw[EB,m.sz];lia}
 have e:b.toList.drop ib=b[ib]::b.toList.drop (ib+1):=by
  rw[FD (by simpa using h)];simp
 have p:=m.perm;rw[e] at p;refine J3 ?_ p;rw[EZ];simp only[CF,J2];exact JJ _ (fI.symm)
theorem Mid.pushA{a b out:Array A9}{ia ib:Nat}(m:Mid a b out ia ib)(h:ia<a.size):Mid a b (out.push a[ia]) (ia+1) ib:=by
 refine{?_,h,m.lb,by rw[EB,m.sz];lia}
 have e:a.toList.drop ia=a[ia]::a.toList.drop (ia+1):=by
  rw[FD (by simpa using h)];simp
 have p:=m.perm;rw[e] at p;refine J3 ?_ p;rw[EZ];simp only[CF,J2,MO];exact GY _
theorem Nq(a:Array A9)(i:Nat):(a.extract i a.size).toList=a.toList.drop i:=by
 rw[KD];exact JQ 's'
theorem Mid.done{a b out:Array A9}{ia ib:Nat}(m:Mid a b out ia ib):(out++a.extract ia a.size++b.extract ib b.size).Perm (a++b):=by
 rw[EA];simp only[EG,Nq];exact m.perm
theorem Mid.lastA{a b out:Array A9}{ia ib:Nat}(m:Mid a b out ia ib):(out++b.extract ib b.size++a.extract ia a.size).Perm (a++b):=by
 rw[EA];simp only[EG,Nq];refine J3 ?_ m.perm;simp only[CF];exact JJ _ X3
section
variable{prog:CI}{w:DY}{A:DJ}{E:AH->AT->Prop}{s:AT}{BS:Array A9}{kd:FC}
def Gal(st CM:BO):Prop:=∃g,CM=qV st g
theorem Gal.refl(st:BO):Gal st st:={gallopOf st,rfl}
theorem Gal.set{st CM:BO}(h:Gal st CM)(g:Nat):Gal st (qV CM g):=by
 obtain⟨g',rfl⟩:=h;exact{g,rfl}
theorem Gal.kind{st CM:BO}(h:Gal st CM)(hk:kindOf st=kd):kindOf CM=kd:=by
 obtain⟨g',rfl⟩:=h;exact hk
theorem zXF{st:BO}{g:Nat}{Q:Unit->BO->Prop}(h:Q () (qV st g)):NE (A3 prog w) A E s (Dx g) Q st:=by
 rw[zFR];exact MF h
end
structure MidH(a b out:Array A9)(na nb:Nat):Prop where
 perm:(a.toList.take na++b.toList.take nb++out.toList.reverse).Perm (a.toList++b.toList)
 la:na<=a.size
 lb:nb<=b.size
 sz:out.size+na+nb=a.size+b.size
theorem Qh(a:Array A9)(n:Nat)(h:n-1<a.size)(h0:1<=n):a.toList.take n=a.toList.take (n-1)++[a[n-1]]:=by
 obtain⟨m,rfl⟩:∃m,n=m+1:={n-1,by lia};have h':m<a.toList.length:=by simpa using h
 simp only[Nat.add_sub_cancel];rw[BJ h'];simp
theorem MidH.pushA{a b out:Array A9}{na nb:Nat}(m:MidH a b out na nb)(h0:1<=na)(h:na-1<a.size):MidH a b (out.push a[na-1]) (na-1) nb:=by
 refine{?_,CN h,m.lb,by rw[EB];have:=m.sz;lia};have p:=m.perm;rw[Qh a na h h0] at p;refine J3 ?_ p;rw[EZ,ZS];simp only[CF,J2,H9,fH,FX,MO];exact JJ _ fI
theorem MidH.pushB{a b out:Array A9}{na nb:Nat}(m:MidH a b out na nb)(h0:1<=nb)(h:nb-1<b.size):MidH a b (out.push b[nb-1]) na (nb-1):=by
 refine{?_,m.la,CN h,by rw[EB];have:=m.sz;lia};have p:=m.perm;rw[Qh b nb h h0] at p;rw[EZ,ZS];simpa only[CF,J2,H9,fH,FX,MO] using p
theorem Cb(a:Array A9)(i n:Nat)(h:i<=n):a.toList.take i++(a.extract i n).toList=a.toList.take n:=by
 rw[KD];show a.toList.take i++(a.toList.drop i).take (n-i)=_
 conv=>rhs;rw[show n=i+(n-i) by lia]
 rw[List.take_add]
theorem Ox(a:Array A9)(i:Nat):(a.extract 0 i).toList=a.toList.take i:=by
 have:=Cb a 0 i (BR _);simpa using this
theorem MidH.done{a b out:Array A9}{na nb:Nat}(m:MidH a b out na nb):(a.extract 0 na++b.extract 0 nb++out.reverse).Perm (a++b):=by
 rw[EA];simp only[EG,Ox,NX];exact m.perm
theorem MidH.firstB{a b out:Array A9}{na nb:Nat}(m:MidH a b out na nb):(b.extract 0 nb++a.extract 0 na++out.reverse).Perm (a++b):=by
 rw[EA];simp only[EG,Ox,NX];refine J3 ?_ m.perm;exact SQ _ X3
section
variable{prog:CI}{w:DY}{A:DJ}{E:AH->AT->Prop}{s:AT}{BS:Array A9}{kd:FC}
end
theorem Np(c:List A9):∀(a:Array A9) (sa k:Nat),sa+k+c.length<=a.size ->
  ((c.zipIdx k).foldl (λa (p:A9×Nat)=>a.setIfInBounds (sa+p.2) p.1) a).toList=a.toList.take (sa+k)++c++a.toList.drop (sa+k+c.length):=by
 induction c with
 |nil=>intro a sa k h;simp
 |cons x r ih =>
  intro a sa k h;rw[J7,RY];have hl:(x::r).length=r.length+1:=rfl;rw[ih (a.setIfInBounds (sa+k) x) sa (k+1) (by rw[L6];lia)];have JI:sa+k<a.toList.length:=by simp;lia
  rw[SV];rw[show sa+(k+1)=(sa+k)+1 by lia];rw[BJ (by simpa using JI),List.take_set_of_le (AM _),List.getElem_set_self,List.drop_set_of_lt (FW (A2 _ _))];rw[show sa+k+1+r.length=sa+k+(x::r).length by rw[hl];lia];simp
theorem zQD{a c:Array A9}{sa sb nb:Nat}(h1:sa<=sb)(h2:sb+nb<=a.size)(hp:c.Perm (a.extract sa sb++a.extract sb (sb+nb))) :
  (c.toList.zipIdx.foldl (λa (p:A9×Nat)=>a.setIfInBounds (sa+p.2) p.1) a).Perm a:=by
 have hl:c.toList.length=(sb-sa)+nb:=by
  have:=hp.size_eq;rw[HR,JA,JA] at this;simp;lia
 rw[EA,Np c.toList a sa 0 'l'];have aE:=EA.mp hp;rw[EG] at aE;have e1:=Cb a sa sb h1;have e2:=Cb a sb (sb+nb) (A2 _ _);have e3:=List.take_append_drop (sb+nb) a.toList
 have q:(a.toList.take (sa+0)++c.toList++a.toList.drop (sa+0+c.toList.length)).Perm (a.toList.take sa++((a.extract sa sb).toList++(a.extract sb (sb+nb)).toList)++a.toList.drop (sb+nb)):=by
  rw[show sa+0=sa from Nat.add_zero _,show sa+c.toList.length=sb+nb by lia];exact SQ _ (JJ _ aE)
 refine q.trans ?_;rw[<-CF,e1,e2,e3]
section
variable{prog:CI}{w:DY}{A:DJ}{E:AH->AT->Prop}{s:AT}{BS:Array A9}{kd:FC}
theorem zXG{st st2:BO}{Q:PUnit->BO->Prop}(h:Q ⟨⟩ st2):NE (A3 prog w) A E s (set st2:StateT BO RQ PUnit) Q st:=by
 unfold NE;rw[StateT.run_set];exact wpAny_pure {rfl,h}
end
abbrev Run:=Nat×Nat×Nat
section
variable{prog:CI}{w:DY}{A:DJ}{E:AH->AT->Prop}{s:AT}{BS:Array A9}{kd:FC}
theorem yBI{c:Prop}[Decidable c]{a b n:Nat}(h1:a<=n)(h2:b<=n):(if c then a else b)<=n:=by
 split
 .exact h1
 .exact h2
end
end TS
variable{cl:List (CK×AQ)}{own CP:List CK}{js:List Nat}{JC:DZ}{ifs:List CU}{pp V6:fD}{J:L2.It}{R:Result->AT->Prop}{H1:L2.Hp}{o:L2.HO}{NR kx vx:CU}{wi:L2.TI}
namespace L2
open PySem PySem.Spec PyProof.Rows
def PTs(X:Cx)(ifs:List CU)(t:TT):Prop :=
 ∀(AE:List (AQ×HL)) (s:AT) (σ:St) (H:Hp) (Q:Bool->Hp->Prop),Inv X AE σ H s->t σ H Q ->
  AZ (A3 X.prog X.w) X.A (forIn ifs AL λc r=>if r=AL then do let ok <-UX c X.env (eval c X.env);pure (P1 ok) else pure (P1 r)) (TP X AE σ Q) X.xe s
def Tc:TT:=λ_ H Q=>Q AL H
theorem X9:PTs X [] Tc:=λ_ _ _ H _ I h=>wpAny_tests_nil {H,I,h}
theorem zXH{t:TT}(h:PT X c t):PTs X [c] t:=λAE s σ H Q I hw=>wpAny_tests_one (h AE s σ H Q I hw)
noncomputable def L7(X:Cx)(scope:M1)(cl:List (CK×AQ))(nm:List CK)(C:AQ)(s:AT)(H:Hp)(fp:List AQ):Cx where
 prog:=X.prog
 w:=X.w
 K:=X.K
 mg:=X.mg
 base:=X.base
 A:=X.A
 N:=nm
 s₀:=s
 H₀:=H
 env:=iF scope cl C X.env
 outer:=X.stack
 stack:=X.stack
 ex:=fp
 fn:=λ_=>AD
 calm:=X.calm
 pn:=[]
 xe:=λ_ _=>False
noncomputable def U6(k:Nat)(js:List Nat)(σ:St):St:=BG k AI++js.map λj=>(σ[j]?).getD AI
structure CompNm(X:Cx)(scope:M1)(cl:List (CK×AQ))(own CP:List CK)(js:List Nat):Prop where
 clos:XW scope X.env=pure cl
 kind:scope.kind=.function
 nocell:∀y∈scope.names,y.2≠.cell
 loc:∀y∈scope.names,y.2=.local->scope.names.lookup y.1=AA .local
 dom:∀y∈scope.names,y.2=.free->y.1∈CP
 nm:cl.map (·.1)=CP
 cells:∀p∈cl,X.env.cells.lookup p.1=AA p.2
 slot:CP.map AA=js.map λj=>X.N[j]?
 vis:∀x∈CP,X.env.kindOf x=AA .cell\/X.env.kindOf x=AA .free
 fr:∀x∈CP,(SK scope X.env).names.lookup x=AA .cell\/(SK scope X.env).names.lookup x=AA .free
 no:∀x∈own,x∉CP
 dis:∀x∈own,scope.names.lookup x=AA .local
theorem rT{α β:Type}[BEq α][LawfulBEq α]:∀{l:List (α×β)} {x:α} {c:β},l.lookup x=AA c->(x,c)∈l
 |[],_,_,h=>by simp at h
 |(a,b)::r,x,c,h=>by
  rw[MN] at h
  cases e:x==a with
  |true=>rw[e] at h;cases h;have:=eq_of_beq e;subst this;exact BB
  |false=>rw[e] at h;exact A7 _ (rT h)
theorem Du{α β:Type}[BEq α][LawfulBEq α]:∀{l:List (α×β)} {x:α},x∈l.map (·.1)->∃c,l.lookup x=AA c
 |[],_,h=>by simp at h
 |(a,b)::r,x,h=>by
  rw[MN]
  cases e:x==a with
  |true=>exact{b,rfl}
  |false =>
   refine Du ?_;rcases BD.mp h with q|q
   .have q:x=a:=q
    subst q;simp at e
   .exact q
theorem xZ{env:WK}:∀{names:List (CK×SO)} {x:CK} {k:SO},(names.map λ(n,k)=>if(k==dD&&env.scope.kind==.function&&env.kindOf n==AA .cell) then(n,NameKind.cell) else(n,k)).lookup x=AA k ->
  (k=.cell\/k=.free)->∃k',(x,k')∈names/\(k'=.cell\/k'=.free)
 |[],_,_,h,_=>by simp at h
 |(n,k0)::r,x,k,h,hk=>by
  rw[AX,MN] at h
  by_cases hc:(k0==dD&&env.scope.kind==.function&&env.kindOf n==AA .cell)=AL
  .simp only[hc,if_true] at h
   cases e:x==n with
   |true =>
    have:=eq_of_beq e;subst this
    have hf:k0=.free:=by
     have:=(YV.mp (YV.mp hc).1).1;exact eq_of_beq this
    exact{k0,BB,.inr hf}
   |false =>
    rw[e] at h;obtain⟨k',h1,h2⟩:=xZ h hk;exact{k',A7 _ h1,h2}
  .simp only[hc,if_false,D3] at h
   cases e:x==n with
   |true =>
    rw[e] at h;have:=eq_of_beq e;subst this;cases h;exact{k0,BB,hk}
   |false =>
    rw[e] at h;obtain⟨k',h1,h2⟩:=xZ h hk;exact{k',A7 _ h1,h2}
theorem CompNm.cl_of(n:CompNm X scope cl own CP js){c:AQ}(h:cl.lookup x=AA c):X.env.cells.lookup x=AA c:=n.cells _ (rT h)
theorem CompNm.has(n:CompNm X scope cl own CP js)(h:x∈CP):∃c,cl.lookup x=AA c:=Du (by rw[n.nm];exact h)
theorem Inv.stk_of{b:AQ}(I:Inv X AE σ H s)(hf:FpOk X AE H b):b∉QU X.stack:=λz=>by
 rcases BD.mp (I.stkSub b z) with e|e
 .exact hf.2.1 e
 .exact hf.2.2.1 e
theorem zOU{m:CK->Option AH}{tk:Nat}{own':List CK}(n:CompNm X scope cl own CP js)(I:Inv X AE σ H s)(hf:∀b∈fp,FpOk X AE H b)
  (JI:∀b∈fp,b<s.heap.objs.size) (g8:JC.Ns s.heap.objs.size m) (HV:∀b o,s.heap.get? b=AA o->JC.get? b=AA o) :
  Inv (L7 X scope cl (own++CP) s.heap.objs.size s H fp) [] (U6 own.length js σ) H { s with heap:=JC,toks:=tk }:=by
 have hl:js.length=CP.length:=by
  have:=congrArg LW n.slot;simpa using this.symm
 refine{{I.tab,I.ok.mod,n.kind,I.ok.glob,I.ok.blt,AM _,λx y c h1 h2=>I.ok.inj x y c (n.cl_of h1) (n.cl_of h2),λx hx=>?_,(λx c h=>nomatch h),I.ok.hd,I.ok.frames,.inl rfl,λb hb=>{B0 (JI b hb),λx c e=>(hf b hb).2.2.2.2.1 x c (n.cl_of e)},
   I.bs,AY I.ok.bsz I.sz,λb o e hb=>?_,λb hb=>I.stk_of (hf b hb),I.stack,I.stkFree},
  rfl,I.bare,Un.kept HV,{m,g8,λi x v e1 e2 e3=>?_},λx c e=>?_,I.hok.fresh (AM _),λx c e=>I.freeC x c (n.cl_of e),(λp hp=>nomatch hp),I.hok.kept HV,?_}
 .have hx:(SK scope X.env).names.lookup x=AA .cell\/(SK scope X.env).names.lookup x=AA .free:=hx
  have J6:∃k',(x,k')∈scope.names/\(k'=.cell\/k'=.free):=by
   rcases hx with h|h
   .exact xZ h (.inl rfl)
   .exact xZ h (.inr rfl)
  obtain⟨k',h1,h2⟩:=J6;rcases h2 with h2|h2
  .exact absurd h2 (n.nocell _ h1)
  .exact n.has (n.dom _ h1 h2)
 .obtain⟨_,_,_,h4,_⟩:=hf b hb
  rcases h4 with h4|h4
  .exact I.ok.noex b o e h4
  .exact absurd (AN (A8 e) I.ok.bsz) (U0.mpr h4)
 ·-- a captured name
  have hi:own.length<=i:=by
   rcases Nat.lt_or_ge i own.length with h|h
   .unfold U6 at e2
    rw[B9 (by simpa using h),DR,if_pos h] at e2;cases e2
   .exact h
  have e1:(own++CP)[i]?=AA x:=e1;rw[BX hi] at e1;unfold U6 at e2;rw[BX (by simpa using hi),C2,AU] at e2
  cases ej:js[i-own.length]? with
  |none=>rw[ej] at e2;cases e2
  |some j =>
   rw[ej] at e2;have e2:AA ((σ[j]?).getD AI)=AA (AA v):=e2
   have hj:X.N[j]?=AA x:=by
    have q:=congrArg (λl=>l[i-own.length]?) n.slot;simp only[AU,e1,ej,GK] at q;exact(BK q).symm
   have hv:σ[j]?=AA (AA v):=by
    cases es:σ[j]? with
    |none=>rw[es] at e2;cases e2
    |some o=>rw[es] at e2;exact e2
   have aA:x∈CP:=CT e1;obtain⟨m0,hn0,p8⟩:=I.loc
   have vis:ZA X.env.scope x:=by
    rcases n.vis x aA with k|k
    .exact .inr (.inl k)
    .exact .inr (.inr k)
   obtain⟨u,r,lk⟩:=p8 j x v hj hv vis;refine{u,r,.inr {n.fr x aA,?_}};obtain⟨c,hc⟩:=n.has aA;refine{c,hc,?_};rcases lk with⟨k,_⟩|⟨_,c',YL,z⟩
   .rcases n.vis x aA with k'|k'
    .rw[k] at k';cases k'
    .rw[k] at k';cases k'
   .rw[n.cl_of hc] at YL
    cases YL;obtain⟨o,ho,hd⟩:=z;exact{o,HV _ _ ho,hd}
 .obtain⟨v,o,ho,hd⟩:=I.cell x c (n.cl_of e)
  exact{v,o,HV _ _ ho,hd}
 .show(U6 own.length js σ).length=(own++CP).length
  unfold U6;rw[BH,BH,C2,AJ,hl]
abbrev TM:=St->Hp->(St->Hp->Prop)->Prop
def PM(X:Cx)(m:RQ Unit)(t:TM):Prop :=
 ∀(AE:List (AQ×HL)) (s:AT) (σ:St) (H:Hp) (N:St->Hp->Prop),Inv X AE σ H s->t σ H N->AZ (A3 X.prog X.w) X.A m (λ_ s'=>∃σ' H',Inv X AE σ' H' s'/\N σ' H') (λ_ _=>False) s
def tWalkC(J:It)(g:TG)(tt:TT)(tm:TM):TM:=λσ H N=>∃W:Nat->Nat->St->Hp->Prop,(∃m,W 0 m σ H)/\∀i m σ H,W i m σ H ->
 (J.stop i H/\N σ H)\/(J.go i H/\∀x H',J.yld i H x H'->g x σ H' λσ2 H2=>tt σ2 H2 λb H3 =>
  if b=AL then tm σ2 H3 (λσ4 H4=>∃m',m'<m/\W (i+1) m' σ4 H4) else ∃m',m'<m/\W (i+1) m' σ2 H3)
theorem Ma{Y:Cx}{d:Nat}{acc:AH}{m:RQ Unit}{g:TG}{tt:TT}{tm:TM}{tn:Nat->DZ->Prop}{N:St->Hp->Prop}
  (mK:Y.A.under (.compLoop e d (.ref it) acc Y.env)=Y.A) (nE:(A3 Y.prog Y.w).den (.compLoop e d (.ref it) acc Y.env)=(XV e d (.ref it) acc Y.env).onRaise (λx=>do aJ x Y.env;theTreesLotGoes x))
  (b9:XV e d (.ref it) acc Y.env=(do
   IV pp
   match <-JV (.ref it) with
   |none=>pure (.done .next)
   |some v =>
    FJ tg (.ref it) v
    KR tg Y.env v
    let mut ok:=AL
    for c in ifs do
     if ok then ok <-UX c Y.env (eval c Y.env)
    if ok then m
    XY (.compLoop e d (.ref it) acc Y.env)))
  (hx:Y.xe=λ_ _=>False) (hc:Y.calm=AL) (hg:PG Y tg g) (ht:PTs Y ifs tt) (hm:PM Y m tm) (T:Turn Y.prog Y.w Y.K tg J fp it tn)
  {AE:List (AQ×HL)} {σ:St} {H:Hp} {s:AT} (I:Inv Y AE σ H s) (st:tn 0 s.heap) (f:∀b∈fp,FpOk Y AE H b) (h:tWalkC J g tt tm σ H N)
  (hR:∀σ' H' s',Inv Y AE σ' H' s'->N σ' H'->R (.ok .next) s') :
  HG (A3 Y.prog Y.w) Y.A (.compLoop e d (.ref it) acc Y.env) R s:=by
 obtain⟨W,⟨m0,w0⟩,turn⟩:=h;have UL:∀{H':Hp},(∀b∈fp,H' b=AI)->∀b∈fp,FpOk Y AE H' b:=λhn b hb=>{hn b hb,(f b hb).2};have uK:∀{α:Type} {t:RQ α} {Q:α->AT->Prop} {s:AT} {E:AH->AT->Prop},AZ (A3 Y.prog Y.w) Y.A t Q Y.xe s->AZ (A3 Y.prog Y.w) Y.A t Q E s:=λh=>CY h (λ_ _ q=>q) λ_ _ z=>by rw[hx] at z;exact z.elim
 refine codeAny_loop rfl (λk s'=>∃i σ' H',Inv Y AE σ' H' s'/\tn i s'.heap/\(∀b∈fp,H' b=AI)/\W i k σ' H') (λn s3 hI=>?_) m0 {0,σ,H,I,st,λb hb=>(f b hb).1,w0};obtain⟨i,σ3,H3,I3,KJ,vL,w3⟩:=hI;rw[mK,nE];refine wpAny_noted ?_;rw[b9];refine AB (IG (AB ?_));rcases turn i n σ3 H3 w3 with⟨stop,qn⟩|⟨go,step⟩
 .refine GN (T.done Y rfl rfl rfl hc i AE s3 σ3 H3 _ I3 (UL vL) KJ stop) λr s4 q0=>?_;obtain⟨hr,I4⟩:=q0
  subst hr;exact wpAny_pure (hR _ _ _ I4 qn)
 .refine GN (T.item Y rfl rfl rfl hc i AE s3 σ3 H3 _ I3 (UL vL) KJ go) λr s4 q0=>?_;obtain⟨u,hr,h4⟩:=q0
  subst hr;refine AB (GN h4 λ_ s5 ⟨x,H5,I5,r5,y5,gS,Kd⟩=>?_);have Ky:=I5.pinned (UL Kd) (T.obj _ _ gS);refine AB (GN (uK (hg _ s5 σ3 H5 x u _ Ky r5 (step x H5 y5))) λ_ s6 ⟨σ6,H6,I6,q6⟩=>?_)
  have XY:∀{σ7:St} {H7:Hp} {s7:AT},Inv Y (AE++qZ fp s5.heap) σ7 H7 s7->(∃m',m'<n/\W (i+1) m' σ7 H7)->∃m,m<n/\∃i σ' H',Inv Y AE σ' H' s7/\tn i s7.heap/\(∀b∈fp,H' b=AI)/\W i m σ' H':=λ{σ7 H7 s7} I7 ⟨m',hm,w7⟩=>by
   refine{m',hm,i+1,σ7,H7,I7.unpinned,T.keep _ _ _ gS λb hb o e=>(I7.pin (b,o) (BM _ (BM _ (xU hb e)))).1,λb hb=>?_,w7};obtain⟨o,e,d⟩:=T.obj _ _ gS b hb;exact(I7.pin (b,o) (BM _ (BM _ (xU hb e)))).2.1
  refine AB (GN (uK (ht _ s6 σ6 H6 _ I6 q6)) λb s7 ⟨H7,I7,q7⟩=>?_)
  cases b with
  |false=>exact wpAny_pure {rfl,XY I7 q7}
  |true =>
   exact AB (CY (hm _ s7 σ6 H7 _ I7 q7) ((λ_ s8 q0=>by obtain⟨σ8,H8,I8,q8⟩:=q0;exact wpAny_pure {rfl,XY I8 q8})) λ_ _ z=>z.elim)
def oH(wi:TI)(k:Nat)(js:List Nat)(o:HO)(g:Hp->TG)(tt:Hp->TT)(tm:Hp->AQ->TM):TE:=λσ H Q=>wi σ H λJ H1=>∀acc,H1 acc=AI ->
 tWalkC J (g (DU H1 acc o)) (tt (DU H1 acc o)) (tm (DU H1 acc o) acc) (U6 k js σ) (DU H1 acc o) λ_ H'=>Q (.ref acc) H'
theorem xT{s2:AT}{bR:RQ AH}{obj:HL}{m:AQ->WK->RQ Unit}{g:Hp->TG}{tt:Hp->TT}{tm:Hp->AQ->TM}{tn:Nat->DZ->Prop}{Q:VK}
  {RR:AH->AQ->Result->AT->Prop}
  (nA:∀{Q:AH->AT->Prop} {s:AT},Q (.ref s.heap.objs.size) { s with heap:=s.heap.push obj }->AZ (A3 X.prog X.w) X.A bR Q E s)
  (cE:ObjOk X.prog X.w (DU H1 s2.heap.objs.size o) (s2.heap.push obj) s2.heap.objs.size o)
  (mK:∀acc env,X.A.under (.compLoop e 0 (.ref it) acc env)=X.A) (nE:∀acc env,(A3 X.prog X.w).den (.compLoop e 0 (.ref it) acc env)=(XV e 0 (.ref it) acc env).onRaise (λx=>do aJ x env;theTreesLotGoes x))
  (b9:∀acc env,XV e 0 (.ref it) (.ref acc) env=(do
   IV pp
   match <-JV (.ref it) with
   |none=>pure (.done .next)
   |some v =>
    FJ tg (.ref it) v
    KR tg env v
    let mut ok:=AL
    for c in ifs do
     if ok then ok <-UX c env (eval c env)
    if ok then m acc env
    XY (.compLoop e 0 (.ref it) (.ref acc) env)))
  (mP:∀{acc:AH} {env:WK} {R:Result->AT->Prop} {s:AT},HG (A3 X.prog X.w) X.A (.compLoop e 0 (.ref it) acc env) R s->AZ (A3 X.prog X.w) X.A (N7 (.ref it)) (λuF s'=>HG (A3 X.prog X.w) X.A (.compLoop e 0 uF acc env) R s')
   (notedBy (A3 X.prog X.w) X.A env λx s'=>R (.error x) s') s->HG (A3 X.prog X.w) X.A (.compStart e 0 (.ref it) acc env) R s)
  (n:CompNm X scope cl own CP js) (hc:X.calm=AL) (hg:∀C s H fp,PG (L7 X scope cl (own++CP) C s H fp) tg (g H)) (ht:∀C s H fp,PTs (L7 X scope cl (own++CP) C s H fp) ifs (tt H))
  (hm:∀C s H fp acc,PM (L7 X scope cl (own++CP) C s H fp) (m acc (iF scope cl C X.env)) (tm H acc))
  (I2:Inv X AE σ H1 s2) (T:Turn X.prog X.w X.K tg J fp it tn) (st2:tn 0 s2.heap) (f2:∀b∈fp,FpOk X AE H1 b)
  (hW:∀acc,H1 acc=AI->tWalkC J (g (DU H1 acc o)) (tt (DU H1 acc o)) (tm (DU H1 acc o) acc) (U6 own.length js σ) (DU H1 acc o) λ_ H'=>Q (.ref acc) H')
  (hRR:∀acc C H' s' m,Inv X AE σ H' s'->H' C=AI->C≠X.env.locals->X.s₀.heap.objs.size<=C->(∀x c,X.env.cells.lookup x=AA c->c≠C)->(∀p∈X.pn++AE,p.1≠C)->s'.heap.Ns C m->Q (.ref acc) H'->RR (.ref acc) C (.ok .next) s') :
  AZ (A3 X.prog X.w) X.A bR (λacc UK=>AZ (A3 X.prog X.w) X.A (newFunctionEnv scope X.env.globals cl [] X.env.qual AI .none (AA X.env)) (λvW Gd =>
   HG (A3 X.prog X.w) X.A (.compStart e 0 (.ref it) acc { vW with scope:=SK scope X.env }) (RR acc vW.locals) Gd) E UK) E s2:=by
 refine nA (hZ n.nocell (by intro y hy;simp at hy) (λJC XJ XG=>?_) n.kind);dsimp only at XJ XG ⊢;have uR:H1 s2.heap.objs.size=AI:=I2.hok.fresh (AM _)
 have I3:Inv X AE σ (DU H1 s2.heap.objs.size o) { s2 with heap:=s2.heap.push obj } :=
  I2.laid (t':=s2.toks) (λb u e=>AF _ e) (AM _) cE
 have hWa:=hW s2.heap.objs.size uR;generalize zQ:({ s2 with heap:=s2.heap.push obj }:AT)=s3 at I3;have Ji:s2.heap.push obj=s3.heap:=by rw[<-zQ]
 have Gw:∀b o,s2.heap.get? b=AA o->s3.heap.get? b=AA o:=λb o e=>by rw[<-Ji];exact AF _ e
 rw[Ji] at XJ XG ⊢;have nB:∀b∈fp,b<s2.heap.objs.size:=λb hb=>by obtain⟨o,ho,_⟩:=T.obj _ _ st2 b hb;exact A8 ho
 have hsz:s3.heap.objs.size=s2.heap.objs.size+1:=by rw[<-Ji,FQ]
 have f3:∀b∈fp,FpOk X AE (DU H1 s2.heap.objs.size o) b:=λb hb=>by
  obtain⟨q,r⟩:=f2 b hb;exact{by rw[EL (B0 (nB b hb))];exact q,r}
 have tU:∀b o,s3.heap.get? b=AA o->JC.get? b=AA o:=λb o e=>XG.extBut b o (B0 (A8 e)) (AF _ e);have e4:({ s2 with heap:=JC,toks:=s2.toks+([]:List (CK×AH)).length }:AT)={ s3 with heap:=JC,toks:=s2.toks+([]:List (CK×AH)).length }:=by rw[<-zQ]
 have IY:=zOU (own':=[]) (tk:=s2.toks+([]:List (CK×AH)).length) n I3 f3 (λb hb=>by rw[hsz];exact JW (nB b hb)) XJ tU;have Vy:tn 0 JC:=T.keep _ _ _ st2 λb hb o e=>tU b o (Gw b o e)
 have UL:∀b∈fp,FpOk (L7 X scope cl (own++CP) s3.heap.objs.size s3 (DU H1 s2.heap.objs.size o) fp) [] (DU H1 s2.heap.objs.size o) b:=λb hb =>
   {(f3 b hb).1,B0 (by show b<s3.heap.objs.size;rw[hsz];exact JW (nB b hb)),I3.stk_of (f3 b hb),.inl hb,λx c e=>(f3 b hb).2.2.2.2.1 x c (n.cl_of e),(λp hp=>nomatch hp)}
 have mG:∀s4:AT,s4={ s3 with heap:=JC,toks:=s2.toks+([]:List (CK×AH)).length } ->
   HG (A3 X.prog X.w) X.A (.compLoop e 0 (.ref it) (.ref s2.heap.objs.size) (iF scope cl s3.heap.objs.size X.env)) (RR (.ref s2.heap.objs.size) s3.heap.objs.size) s4:=by
  rintro s4 rfl;refine Ma (Y:=L7 X scope cl (own++CP) s3.heap.objs.size s3 (DU H1 s2.heap.objs.size o) fp) (mK _ _) (nE _ _) (b9 _ _) rfl hc (hg _ _ _ _) (ht _ _ _ _) (hm _ _ _ _ _) T IY Vy UL hWa ?_;intro σ6 H6 s6 I6 q
  have I7:Inv X AE σ H6 s6:=I3.call' I6.os I6.base I6.hok I6.bare λb hb=>by
   obtain⟨_,g1,_,g3,g4,g5⟩:=f3 b hb;exact{g3,g1,g4,g5}
  obtain⟨mC,hnC,_⟩:=I6.loc
  exact hRR _ _ H6 s6 mC I7 I6.free (FM I3.lt) I3.sz (λx c e z=>by
    obtain⟨v,zc⟩:=I3.cell x c e
    exact absurd zc.lt (by rw[z];exact GB _))
   (λp hp z=>absurd (A8 (I3.pin p hp).1) (by rw[z];exact GB _)) hnC q
 rw[e4];exact mP (mG _ rfl) (T.self _ 0 _ _ _ Vy (mG _ rfl))
def iX(acc:AQ)(te:TE):TM:=λσ H N=>te σ H λy H4=>∃ys,H4 acc=AA (.lst ys)/\ys.length<sizeLine/\N σ (DU H4 acc (.lst (ys++[y])))
theorem Ca{acc:AQ}(hx:X.xe=λ_ _=>False)(he:PE X NR te):PM X (do let _ <-call (.builtin "list.append") [.ref acc,<-eval NR X.env]) (iX acc te):=by
 intro AE s σ H N I h;have h1:=he AE s σ H _ I h;rw[hx] at h1;refine AB (GN h1 λyv Gn ⟨y,Yh,vY,r10,ys,ha,hz,q⟩=>?_);have:=xP (X:=X) _ Gn σ Yh (.ref acc) [y] (.ref acc) [yv] (λv H'=>v=.non/\H'=DU Yh acc (.lst (ys++[y]))) vY rfl (.cons r10 .nil) {_,ys,y,rfl,rfl,ha,hz,rfl,rfl};refine AB (CY this (λ_ s11 ⟨v,H11,I11,_,_,eH⟩=>wpAny_pure {σ,H11,I11,?_}) λ_ _ z=>by rw[hx] at z;exact z);subst eH;exact q
theorem zQE{k:Key}{r:AH}{kvs:List (Key×V)}{Q:Unit->AT->Prop}(I:Inv X AE σ H s)(e:H a=AA (.dK kvs))(l:kvs.length<sizeLine)(ry:RelV (kV k) u)(rv:RelV v r)
  (h:∀s',Inv X AE σ (DU H a (.dK (QE kvs k v))) s'->Q () s'):AZ (A3 X.prog X.w) A (dictSet a u r) Q E s:=by
 obtain⟨z,hd,vs,MY,dd⟩:=Ar I.hok e;have hz:vs.length<=sizeLine:=by rw[<-MY.length];exact z
 have hl:(QE kvs k v).length<=sizeLine:=by have:=yB kvs k v;lia
 refine wpAny_dictSet_pairs (hsz:=hz) (iZ ry) dd λh' eY hs=>h _ ?_;have he:∃q,h'.get? a=AA q:=let ⟨q,_,_,hq,_⟩:=eY;{q,hq};exact wW I (by rw[e];exact GZ) hs he (Bn hl hd (MY.put k rv) eY)
def Bh(acc:AQ)(tk tv:TE):TM:=λσ H N=>tk σ H λx H3=>tv σ H3 λy H4=>∃kvs k,H4 acc=AA (.dK kvs)/\x=kV k/\kvs.length<sizeLine/\N σ (DU H4 acc (.dK (QE kvs k y)))
theorem zTF{acc:AQ}{tk:TE}(hx:X.xe=λ_ _=>False)(hk:PE X kx tk)(hv:PE X vx tv):PM X (do
 let kv <-eval kx X.env
 let vv <-IW [kv] (eval vx X.env)
 IV pp
 IW [kv,vv] (dictSet acc kv vv)) (Bh acc tk tv):=by
 intro AE s σ H N I h;have h1:=hk AE s σ H _ I h;rw[hx] at h1;refine AB (GN h1 λkv s3 ⟨x,H3,I3,r3,q3⟩=>?_);have h2:=hv AE s3 σ H3 _ I3 q3;rw[hx] at h2;refine AB (C7 (GN h2 λvv s4 ⟨y,H4,I4,r4,kvs,k,e,ek,hz,q⟩=>?_));subst ek;exact AB (IG (C7 (zQE I4 e hz r3 r4 λs' I'=>{σ,_,I',q})))
def Lz(wi:TI)(g:TG)(tt:TT)(tm:TM):TM:=λσ H N=>wi σ H λJ H1=>tWalkC J g tt tm σ H1 N
theorem zC2{NR g0 PH iter ifs rest scope pos it acc env}
  (h0:HG (A3 prog w) A (.compLoop (.ListComp NR (g0::{PH,iter,ifs,0}::rest) scope pos) 1 it acc env) R s)
  (h:AZ (A3 prog w) A (N7 it) (λuF s'=>HG (A3 prog w) A (.compLoop (.ListComp NR (g0::{PH,iter,ifs,0}::rest) scope pos) 1 uF acc env) R s')
   (notedBy (A3 prog w) A env λx s'=>R (.error x) s') s) :
  HG (A3 prog w) A (.compStart (.ListComp NR (g0::{PH,iter,ifs,0}::rest) scope pos) 1 it acc env) R s:=by
 refine codeAny_of_tree ?_;show AZ _ A ((compStart (.ListComp NR (g0::{PH,iter,ifs,0}::rest) scope pos) 1 it acc env).onRaise (λx=>do aJ x env;IV theWindowsPlace)) _ _ s;refine wpAny_notedAt ?_;unfold compStart;show AZ _ A (ask >>= _) _ _ s;refine AB (wpAny_askSetting (wpAny_ite ?_));split
 .first
   |exact AB (wpAny_pure (wpAny_pure (WZ rfl h0)))
   |exact wpAny_pure (WZ rfl h0)
 .first
   |exact AB (E8 (AB (IG (AB (CY h (λuF s' h'=>wpAny_pure (WZ rfl h')) λ_ _ x=>x)))))
   |(refine AB (E8 ?_);show AZ _ _ (IV iter.pos >>= _) _ _ s;exact AB (IG (AB (CY h (λuF s' h'=>wpAny_pure (WZ rfl h')) λ_ _ x=>x))))
theorem zXI{acc:AQ}{iter:CU}{g0:Comprehension}{g:TG}{tt:TT}{sc:M1}(hx:X.xe=λ_ _=>False)(hc:X.calm=AL)(hi:PI X tg iter wi)(hg:PG X tg g)(ht:PTs X ifs tt)(he:PE X NR te)
  (hs:∀x,C6 iter X.env x=pure x):PM X (do
    let x <-eval iter X.env
    IV iter.pos
    let x <-C6 iter X.env x
    let _ <-runOwn (.compStart (.ListComp NR [g0,⟨tg,iter,ifs,0⟩] sc pos) 1 (<-IW [x] (N7 x)) (.ref acc) X.env) X.env) (Lz wi g tt (iX acc te)):=by
 intro AE s σ H N I h;have h1:=hi AE s σ H _ I h;rw[hx] at h1;refine AB (GN h1 λv s1 h2=>AB (IG (AB (hV (hs v) (AB (C7 (GN h2 λmH s2 h3=>?_)))))));obtain⟨it,fp,tn,J,H2,e,I2,T,st2,f2,hW⟩:=h3;subst e;refine AB (wpAny_runOwn (zC2 ?_ (T.self _ 0 _ _ _ st2 ?_)))
 all_goals
  refine Ma (Y:=X) (pp:=iter.pos) (m:=(do let _ <-call (.builtin "list.append") [.ref acc,<-eval NR X.env])) rfl rfl rfl hx hc hg ht (Ca hx he) T I2 st2 f2 hW ?_;intro σ' H' s' I' n';exact wpAny_pure {σ',H',I',n'}
theorem zKL(NR tg iter jO K8:CU)(ifs XE:List CU)(scope:M1)(pos:fD)(it acc:AH)(env:WK) :
  XV (.ListComp NR [{tg,iter,ifs,0},{jO,K8,XE,0}] scope pos) 0 it acc env=(do
   IV iter.pos
   match <-JV it with
   |none=>pure (.done .next)
   |some v =>
    FJ tg it v
    KR tg env v
    let mut ok:=AL
    for c in ifs do
     if ok then ok <-UX c env (eval c env)
    if ok then(do
     let x <-eval K8 env
     IV K8.pos
     let x <-C6 K8 env x
     let _ <-runOwn (.compStart (.ListComp NR [⟨tg,iter,ifs,0⟩,⟨jO,K8,XE,0⟩] scope pos) 1 (<-IW [x] (N7 x)) acc env) env)
    XY (.compLoop (.ListComp NR [{tg,iter,ifs,0},{jO,K8,XE,0}] scope pos) 0 it acc env)):=by
 simp only[bind_assoc,pure_bind]
 rfl
theorem yDO{iter jO K8:CU}{XE:List CU}{Vp:Hp->TI}{g g2:Hp->TG}{tt Vu:Hp->TT}{te:Hp->TE}(n:CompNm X scope cl own CP js)(hc:X.calm=AL)(hi:PI X tg iter wi)
  (hg:∀C s H fp,PG (L7 X scope cl (own++CP) C s H fp) tg (g H)) (ht:∀C s H fp,PTs (L7 X scope cl (own++CP) C s H fp) ifs (tt H))
  (hi2:∀C s H fp,PI (L7 X scope cl (own++CP) C s H fp) jO K8 (Vp H)) (hg2:∀C s H fp,PG (L7 X scope cl (own++CP) C s H fp) jO (g2 H)) (ht2:∀C s H fp,PTs (L7 X scope cl (own++CP) C s H fp) XE (Vu H))
  (he:∀C s H fp,PE (L7 X scope cl (own++CP) C s H fp) NR (te H))
  (hs:∀x,C6 iter X.env x=pure x:=by intro _;rfl) (MR:∀C x,C6 K8 (iF scope cl C X.env) x=pure x:=by intro _ _;rfl) :
  PE X (.ListComp NR [{tg,iter,ifs,0},{jO,K8,XE,0}] scope pos) (oH wi own.length js (.lst []) g tt λH acc=>Lz (Vp H) (g2 H) (Vu H) (iX acc (te H))):=by
 intro AE s σ H Q I h;rw[eval_ListComp];refine JM (use:=AI) rfl hs n.clos n.kind n.loc (CY (hi AE s σ H _ I h) (λxv EY JC=>CY JC (λmH ON LQ=>?_) λ_ _ e=>e) λ_ _ e=>e);obtain⟨it,fp,tn,J,H2,e,I2,T,st2,f2,hW⟩:=LQ;subst e
 refine xT (obj:={ cls:=.type "list",dict:=AI,data:=.seq ([]:List AH).toArray }) (pp:=iter.pos) (ifs:=ifs) (tg:=tg) (RR:=λacc C=>iE (A3 X.prog X.w) X.A X.xe AI (EP X AE σ Q) acc C)
  (m:=λacc env=>(do
    let x <-eval K8 env
    IV K8.pos
    let x <-C6 K8 env x
    let _ <-runOwn (.compStart (.ListComp NR [⟨tg,iter,ifs,0⟩,⟨jO,K8,XE,0⟩] scope pos) 1 (<-IW [x] (N7 x)) (.ref acc) env) env))
  (o:=.lst []) (λ{Q s} h=>DN h) (show ObjOk _ _ _ _ _ (.lst []) from{BR _,[],0,.nil,AV _ rfl}) (λ_ _=>rfl) (λ_ _=>rfl) (λ_ _=>zKL _ _ _ _ _ _ _ _ _ _ _ _) (λh0 h1=>N9 h0 h1) n hc hg ht
  (λC s H fp acc=>zXI (X:=L7 X scope cl (own++CP) C s H fp) rfl hc (hi2 C s H fp) (hg2 C s H fp) (ht2 C s H fp) (he C s H fp) (MR C)) I2 T st2 f2 hW ?_
 intro acc C H' s' m I' hC h1 h2 h3 h4 hn q;exact{m,hn,λh' sb=>{.ref acc,H',I'.turned (t':=s'.toks) (λb o hb e=>sb.extBut b o hb e) hC h1 (.inr h2) h3 h4,rfl,q}}
theorem zTG{iter:CU}{g:Hp->TG}{tt:Hp->TT}{tk tv:Hp->TE}(n:CompNm X scope cl own CP js)(hc:X.calm=AL)(hi:PI X tg iter wi)
  (hg:∀C s H fp,PG (L7 X scope cl (own++CP) C s H fp) tg (g H)) (ht:∀C s H fp,PTs (L7 X scope cl (own++CP) C s H fp) ifs (tt H))
  (hk:∀C s H fp,PE (L7 X scope cl (own++CP) C s H fp) kx (tk H)) (hv:∀C s H fp,PE (L7 X scope cl (own++CP) C s H fp) vx (tv H))
  (hs:∀x,C6 iter X.env x=pure x:=by intro _;rfl) :
  PE X (.DictComp kx vx [{tg,iter,ifs,0}] scope pos) (oH wi own.length js (.dK []) g tt λH acc=>Bh acc (tk H) (tv H)):=by
 intro AE s σ H Q I h;rw[arm_eval_DictComp];refine JM (use:=AI) rfl hs n.clos n.kind n.loc (CY (hi AE s σ H _ I h) (λxv EY JC=>CY JC (λmH ON LQ=>?_) λ_ _ e=>e) λ_ _ e=>e);obtain⟨it,fp,tn,J,H2,e,I2,T,st2,f2,hW⟩:=LQ;subst e
 refine xT (obj:={ cls:=.type "dict",dict:=AI,data:=.dict #[] }) (pp:=iter.pos) (ifs:=ifs) (tg:=tg) (RR:=λacc C=>iE (A3 X.prog X.w) X.A X.xe AI (EP X AE σ Q) acc C)
  (m:=λacc env=>(do
   let kv <-eval kx env
   let vv <-IW [kv] (eval vx env)
   IV { kx.pos with endLine:=vx.pos.endLine,endCol:=vx.pos.endCol }
   IW [kv,vv] (dictSet acc kv vv)))
  (λ{Q s} h=>DN h) (Ct ON.heap I2.big) (λ_ _=>rfl) (λ_ _=>rfl) (λ_ _=>rfl) (λh0 h1=>codeAny_compStart_dict h0 h1) n hc hg ht
  (λC s H fp acc=>zTF (X:=L7 X scope cl (own++CP) C s H fp) rfl (hk C s H fp) (hv C s H fp)) I2 T st2 f2 hW ?_
 intro acc C H' s' m I' hC h1 h2 h3 h4 hn q;exact{m,hn,λh' sb=>{.ref acc,H',I'.turned (t':=s'.toks) (λb o hb e=>sb.extBut b o hb e) hC h1 (.inr h2) h3 h4,rfl,q}}
theorem zXJ{iter:CU}{g:Hp->TG}{tt:Hp->TT}{te:Hp->TE}(n:CompNm X scope cl own CP js)(hc:X.calm=AL)(hi:PI X tg iter wi)
  (hg:∀C s H fp,PG (L7 X scope cl (own++CP) C s H fp) tg (g H)) (ht:∀C s H fp,PTs (L7 X scope cl (own++CP) C s H fp) ifs (tt H)) (he:∀C s H fp,PE (L7 X scope cl (own++CP) C s H fp) NR (te H))
  (hs:∀x,C6 iter X.env x=pure x:=by intro _;rfl):PE X (.ListComp NR [{tg,iter,ifs,0}] scope pos) (oH wi own.length js (.lst []) g tt λH acc=>iX acc (te H)):=by
 intro AE s σ H Q I h;rw[eval_ListComp];refine JM (use:=AI) rfl hs n.clos n.kind n.loc (CY (hi AE s σ H _ I h) (λxv EY JC=>CY JC (λmH ON LQ=>?_) λ_ _ e=>e) λ_ _ e=>e);obtain⟨it,fp,tn,J,H2,e,I2,T,st2,f2,hW⟩:=LQ;subst e
 refine xT (obj:={ cls:=.type "list",dict:=AI,data:=.seq ([]:List AH).toArray }) (pp:=iter.pos) (ifs:=ifs) (tg:=tg) (RR:=λacc C=>iE (A3 X.prog X.w) X.A X.xe AI (EP X AE σ Q) acc C)
  (m:=λacc env=>(do let _ <-call (.builtin "list.append") [.ref acc,<-eval NR env]))
  (o:=.lst []) (λ{Q s} h=>DN h) (show ObjOk _ _ _ _ _ (.lst []) from{BR _,[],0,.nil,AV _ rfl}) (λ_ _=>rfl) (λ_ _=>rfl) (λ_ _=>rfl) (λh0 h1=>N9 h0 h1) n hc hg ht
  (λC s H fp acc=>Ca (X:=L7 X scope cl (own++CP) C s H fp) rfl (he C s H fp)) I2 T st2 f2 hW ?_
 intro acc C H' s' m I' hC h1 h2 h3 h4 hn q;exact{m,hn,λh' sb=>{.ref acc,H',I'.turned (t':=s'.toks) (λb o hb e=>sb.extBut b o hb e) hC h1 (.inr h2) h3 h4,rfl,q}}
theorem Rl{iter:CU}{g:Hp->TG}{tt:Hp->TT}{te:Hp->TE}(n:CompNm X scope cl own CP js)(hc:X.calm=AL)(hi:PI X tg iter wi)
  (hg:∀C s H fp,PG (L7 X scope cl (own++CP) C s H fp) tg (g H)) (ht:∀C s H fp,PTs (L7 X scope cl (own++CP) C s H fp) ifs (tt H)) (he:∀C s H fp,PE (L7 X scope cl (own++CP) C s H fp) NR (te H))
  (hN:X.N.Nodup) (hx:X.N[i]?=AA x) (hl:X.env.scope.names.lookup x=AA .local)
  (mO:IH (.ListComp NR [{tg,iter,ifs,0}] scope pos) (AA (.Name x NP)) V6.line X.env=pure AL)
  (hs:∀x,C6 iter X.env x=pure x:=by intro _;rfl):PS X (.Assign [.Name x NP] (.ListComp NR [{tg,iter,ifs,0}] scope pos) V6) (iP (oH wi own.length js (.lst []) g tt λH acc=>iX acc (te H)) (Z1 i)):=by
 intro AE s σ H D I h;rw[exec_Assign_Name_used _ _ _ _ mO];refine AB (IG (AB ?_));show AZ _ X.A (do let _ <-comprehension (.ListComp NR [⟨tg,iter,ifs,0⟩] scope pos) scope X.env _ (newList []) AD (eval iter X.env) (AA (KR (.Name x NP) X.env))) _ _ s
 refine AB (CY (JM (use:=AA (KR (.Name x NP) X.env)) (Q:=λ_ s'=>SP X AE D .next s') rfl hs n.clos n.kind n.loc
  (CY (hi AE s σ H _ I h) (λxv EY JC=>CY JC (λmH ON LQ=>?_) λ_ _ e=>e) λ_ _ e=>e)) (λ_ s' hq=>wpAny_pure (wpAny_pure hq)) λ_ _ e=>e)
 obtain⟨it,fp,tn,J,H2,e,I2,T,st2,f2,hW⟩:=LQ;subst e
 refine xT (obj:={ cls:=.type "list",dict:=AI,data:=.seq ([]:List AH).toArray }) (pp:=iter.pos) (ifs:=ifs) (tg:=tg) (Q:=λx H1=>Z1 i x σ H1 D.nx) (RR:=λacc C=>iE (A3 X.prog X.w) X.A X.xe (AA (KR (.Name x NP) X.env)) (λ_ s'=>SP X AE D .next s') acc C)
  (m:=λacc env=>(do let _ <-call (.builtin "list.append") [.ref acc,<-eval NR env]))
  (o:=.lst []) (λ{Q s} h=>DN h) (show ObjOk _ _ _ _ _ (.lst []) from{BR _,[],0,.nil,AV _ rfl}) (λ_ _=>rfl) (λ_ _=>rfl) (λ_ _=>rfl) (λh0 h1=>N9 h0 h1) n hc hg ht
  (λC s H fp acc=>Ca (X:=L7 X scope cl (own++CP) C s H fp) rfl (he C s H fp)) I2 T st2 f2 hW ?_
 intro acc C H' s' m I' hC h1 h2 h3 h4 hn q;show AZ _ X.A (KR (.Name x NP) X.env (.ref acc)) _ _ _;refine wpAny_assign_Name (Df I' hN hx (.inl hl) (v:=.ref acc) rfl (λeM I'' sb=>?_) (.inr hl));obtain⟨a,sb,ha⟩:=sb
 have hCa:C≠a:=by
  rcases ha with ha|ha
  .rw[ha];exact h1
  .exact λz=>h3 x a ha z.symm
 exact{m,hn.sameBut sb hCa,λh' Gm=>{_,H',I''.turned (t':=eM.toks) (λb o hb e=>Gm.extBut b o hb e) hC h1 (.inr h2) h3 h4,q}}
end L2
namespace TS
open PySem PySem.W PyProof.Rows
section
variable{prog:CI}{w:DY}{A:DJ}{E:AH->AT->Prop}{s:AT}
theorem zKM{vs:List AH}{xs:Array A9}(h:xs.Perm (HX vs)):(xs.map (·.2)).toList.Perm vs:=by
 have p:=(EA.mp h).map (·.2);rw[PY] at p;have e:(vs.zip vs).map (·.2)=vs:=List.map_snd_zip (AM _);rw[e] at p;simpa using p
end
end TS
variable{ep:Nat}{l1 l2:AQ}{H2:L2.Hp}{tl:L2.TE}
namespace L2
open PySem PySem.Spec PyProof.Rows
theorem Vals.perm(p:ws.Perm us):∀{xs:List V},Vals xs us->∃ys,ys.Perm xs/\Vals ys ws:=by
 induction p with
 |nil=>intro xs r;cases r;exact{[],GY _,.nil}
 |cons a _ ih =>
  intro xs r
  cases r with
  |cons h t =>
   obtain⟨ys,q,r'⟩:=ih t;exact{_::ys,q.cons _,.cons h r'}
 |swap a b l =>
  intro xs r
  cases r with
  |cons h t =>
   cases t with
   |cons h' t'=>exact{_::_::_,HN _ _ _,.cons h' (.cons h t')}
 |trans _ _ Z9 ih2 =>
  intro xs r;obtain⟨ys,q,r'⟩:=ih2 r;obtain⟨zs,q',tH⟩:=Z9 r';exact{zs,q'.trans q,tH}
def Ly(H:Hp)(y:V):Prop:=∃(p:AQ) (n:Int) (ns:List Int),y=.ref p/\H p=AA (.tup ((n::ns).map V.int))
theorem No{X:Cx}{AE:List (AQ×HL)}{σ:St}{H:Hp}{s:AT}(I:Inv X AE σ H s):∀{ys:List V} {us:List AH},Vals ys us->(∀y∈ys,Ly H y) ->
  ∃fs:List AH,fs.length=us.length/\QN s.heap us fs/\(∀v∈fs,∃n t,v=.int n t)/\∀u∈us,∃(p:AQ) (CA:List AH) (ns:List Int),u=.ref p/\SR s.heap p CA.toArray/\GF CA ns
 |_,_,.nil,_=>{[],rfl,Q0,(λv hv=>nomatch hv),(λu hu=>nomatch hu)}
 |_,_,.cons r t,h=>by
  obtain⟨fs,e1,e2,e3,e4⟩:=No I t λy hy=>h y (A7 _ hy);obtain⟨p,n,ns,ey,hp⟩:=h _ BB;subst ey;cases r;obtain⟨CA,rv,tp,_⟩:=I.tuple (SqT.of (K:=X.K) hp);have hi:GF CA (n::ns):=pF rv;have Jh:=hi
  cases hi with
  |cons _ tk r' =>
   obtain⟨o,ho,hc,k,hd⟩:=id tp;refine{.int n tk::fs,by rw[BC,BC,e1],PySem.W.KatTups.cons ho hc hd 's' e2,λv hv=>?_,λu hu=>?_}
   .rcases BD.mp hv with rfl|hv
    .exact{_,_,rfl}
    .exact e3 v hv
   .rcases BD.mp hu with rfl|hu
    .exact{p,_,n::ns,rfl,tp,Jh}
    .exact e4 u hu
theorem Qg{h h':DZ}(k:∀b o,h.get? b=AA o->h'.get? b=AA o):∀{us fs:List AH},QN h us fs->QN h' us fs
 |[],[],_=>Q0
 |[],_::_,t=>t.elim
 |_::_,[],t=>t.elim
 |_::_,_::_,t=>by
  obtain⟨⟨a,o,xs,n,e,ho,r⟩,t⟩:=t;exact{{a,o,xs,n,e,k _ _ ho,r},Qg k t}
structure RawD(h:DZ)(d:AQ)(es:Array JY)(ep:Nat):Prop where
 ex:∃o,h.get? d=AA o/\o.ExactDict/\o.data=.dict es ep
 ns:(d==GP)=AD
theorem RawD.ty{d:AQ}{es:Array JY}(r:RawD s.heap d es ep):s.TypeIs (.ref d) "dict":=let ⟨o,h1,h2,_⟩:=r.ex;{o,h1,h2.1}
theorem zXK{d:AQ}{es:Array JY}(r:RawD s.heap d es ep)(hf:(es.size:Int)<2 ^ 63)(h:∀t tk,Q (.int es.size t) { s with toks:=tk }) :
  AZ (A3 prog w) A (call (.builtin "len") [.ref d]) Q E s:=by
 obtain⟨o,ho,hc,hd⟩:=r.ex;refine TN kind_len plain_len entry_len (args_len1 _) ?_;unfold E4.«len»;refine AB (m:=oneArg "len" _) (wpAny_pure ?_);refine AB (m:=callSpecial? (.ref d) (EN "__len__")) (C5 (name:=EN "__len__") r.ty F.slot_dict_len (DD F.slot_dict_len r.ty F.entry_dict_len ?_ (F.args_dict_len_1 _)));show AZ _ _ (dictSize d >>= _) _ _ s;unfold dictSize;refine AB (AB (M0 ho hd (wpAny_pure ?_)));show AZ _ _ (Builtin.Dict.pendingCount d >>= _) _ _ s;refine AB (wpAny_pendingCount_other r.ns ?_);refine AB (iA (wpAny_pure {_,rfl,?_}));refine AB (C7 (wpAny_pure (AB (PV ?_))));show AZ _ _ (if((es.size:Int)+((0:Nat):Int))<0 then _ else _) _ _ _;rw[if_neg 'l'];show AZ _ _ (if((es.size:Int)+((0:Nat):Int))>=2 ^ 63 then _ else _) _ _ _;rw[if_neg 'l'];have e0:((es.size:Int)+((0:Nat):Int))=(es.size:Int):=by simp
 show AZ _ _ (retInt ((es.size:Int)+((0:Nat):Int))) _ _ _;rw[e0];exact AB (iA (wpAny_pure {_,rfl,h _ _}))
theorem oU{d:AQ}{es:Array JY}(r:RawD s.heap d es ep)
  (h:∀h',(∀b o,s.heap.get? b=AA o->h'.get? b=AA o)->h'.IsKeyIter s.heap.objs.size d 0 es.size ep->Q (.ref s.heap.objs.size) { s with heap:=h' }):AZ (A3 prog w) A (N7 (.ref d)) Q E s:=by
 obtain⟨o,ho,hc,hd⟩:=r.ex;refine SG r.ty F.slot_dict_iter (DD F.slot_dict_iter r.ty F.entry_dict_iter ?_ (F.args_dict_iter_1 _));unfold E4.«dict.__iter__» Builtin.Dict.dictSlotNone;refine AB (AB (wpAny_notOrdered_dict r.ty (wpAny_pure ?_)));unfold Builtin.Dict.showsAll;show AZ _ _ ((if _ then _ else _) >>= _) _ _ s;rw[if_neg (by rw[r.ns];exact CG)];refine AB (wpAny_pure (AB (M0 ho hd (AB (WH ho hd ?_)))));refine AB (DN (wpAny_pure {_,rfl,"dict_keyiterator",_,{_,AV _ rfl,rfl},F.slot_dict_keyiterator_next.lookup,?_}));exact h _ (λb o e=>AF _ e) {_,AV _ rfl,rfl,by simp[ES]}
theorem Ow{d:AQ}{es:Array JY}{Q:Option AH->AT->Prop}(k:s.heap.IsKeyIter it d i es.size ep)(r:RawD s.heap d es ep)(hi:i<es.size)
  (h:∀h',h'.IsKeyIter it d (i+1) es.size ep->DG it s.heap h'->Q (AA es[i].key) { s with heap:=h' }):AZ (A3 prog w) A (JV (.ref it)) Q E s:=by
 obtain⟨oi,jY,Xk,hG⟩:=id k;obtain⟨o,ho,hc,hd⟩:=r.ex;unfold JV;refine AB (GH (C5 (name:=EN "__next__") k.typeIs F.slot_dict_keyiterator_next (DD F.slot_dict_keyiterator_next k.typeIs F.entry_dict_keyiterator_next ?_ (F.args_dict_keyiterator_next_1 _))));refine AB (wpAny_pure (AB (AB ?_)))
 first
  |refine AB (HP k.typeIs (wpAny_pure (AB (PX jY hG ?_))))
  |refine AB (JL k.typeIs (wpAny_pure (AB (PX jY hG ?_))))
 simp only[show M4 "dict_keyiterator"=AD by decide,D3,if_false];show AZ _ _ (if(DI d==GC)=AL then _ else _) _ _ s;rw[if_neg (show ¬((DI d==GC)=AL) from CG)];refine AB (wpAny_pure (AB (M0 ho hd ?_)));rw[if_neg 's'];refine AB (wpAny_pure (AB (WH ho hd ?_)));rw[if_neg 's'];refine wpAny_pure ?_;simp only[show ¬((i:Int)<0) from by lia,if_false,L9,Array.getElem?_eq_getElem hi];refine AB ?_
 first
  |refine AB (HP k.typeIs (wpAny_pure (AB (OW k.typeIs ?_))))
  |refine AB (JL k.typeIs (wpAny_pure (AB (OW k.typeIs ?_))))
 show AZ _ _ (NT (.ref it) 1 (ES ((i:Int)+1)) >>= _) _ _ s;refine AB (PU jY hG 's' ?_)
 have k':(s.heap.update it (Obj.mapFields (·.setIfInBounds 1 (ES ((i:Int)+1))))).IsKeyIter it d (i+1) es.size ep :=
  {_,NN _ jY (YQ (LK hG _)),(fE ..).trans Xk,by rw[LK hG];simp[ES]}
 refine AB (C7 (AB (OW (s:={ s with heap:=s.heap.update it (Obj.mapFields (·.setIfInBounds 1 (ES ((i:Int)+1)))) }) k'.typeIs ?_)));show AZ _ _ (pure es[i].key) _ _ _;exact wpAny_pure (wpAny_pure {_,rfl,wpAny_pure (h _ k' (GL ..))})
theorem Nm{d:AQ}{es:Array JY}{Q:Option AH->AT->Prop}(hh:A.handled=AI)(k:s.heap.IsKeyIter it d i es.size ep)(r:RawD s.heap d es ep)(hi:es.size<=i)
  (h:∀h',YU it s.heap h'->Q AI { s with heap:=h' }):AZ (A3 prog w) A (JV (.ref it)) Q E s:=by
 obtain⟨oi,jY,Xk,hG⟩:=id k;obtain⟨o,ho,hc,hd⟩:=r.ex;unfold JV;refine AB (GH (C5 (name:=EN "__next__") k.typeIs F.slot_dict_keyiterator_next (DD F.slot_dict_keyiterator_next k.typeIs F.entry_dict_keyiterator_next ?_ (F.args_dict_keyiterator_next_1 _))));refine AB (wpAny_pure (AB (AB ?_)))
 first
  |refine AB (HP k.typeIs (wpAny_pure (AB (PX jY hG ?_))))
  |refine AB (JL k.typeIs (wpAny_pure (AB (PX jY hG ?_))))
 simp only[show M4 "dict_keyiterator"=AD by decide,D3,if_false];show AZ _ _ (if(DI d==GC)=AL then _ else _) _ _ s;rw[if_neg (show ¬((DI d==GC)=AL) from CG)];refine AB (wpAny_pure (AB (M0 ho hd ?_)));rw[if_neg 's'];refine AB (wpAny_pure (AB (WH ho hd ?_)));rw[if_neg 's'];refine wpAny_pure ?_;simp only[show ¬((i:Int)<0) from by lia,if_false,L9,Array.getElem?_eq_none hi];refine AB ?_
 first
  |refine AB (HP k.typeIs (wpAny_pure ?_))
  |refine AB (JL k.typeIs (wpAny_pure ?_))
 show AZ _ _ (NT (.ref it) 0 .none >>= _) _ _ s;refine AB (PU jY hG 's' ?_);show AZ _ _ (newExc (.type "StopIteration") [] >>= _) _ _ _;refine AB ?_;simp only[newExc,newTuple];refine AB (DN ?_ (by size_fits));refine AB (m:=PZ _ _) (hV (a:=GC) (by first|rfl|(simp only[PZ];rfl)) (DN ?_ (by size_fits)));simp only[raiseNew];refine AB (wpAny_handled ?_);rw[show A.in1.handled=AI from hh];refine AB (wpAny_pure (wpAny_throw ?_));refine AB (UU (T:="StopIteration") (b:=AL) {_,AV _ rfl,rfl} XU ?_);exact wpAny_pure (h _ (((GL ..).extBut.push _).push _))
theorem oG(x:ObjOk P w H h a (.dT kvs)):∃es ep,RawD h a es ep/\es.size=kvs.length/\kvs.length<=sizeLine /\
  ∀(i:Nat) (hi:i<es.size),∃(p:AQ) (k:List Key),es[i].key=.ref p/\(kvs.map (·.1))[i]?=AA k/\H p=AA (.tup (k.map kV)):=by
 obtain⟨z,y,xs,r,o,es,ep,h1,h2,h3,h4,h5⟩:=x
 have hl:es.size=xs.length:=by
  have:=congrArg LW h4;simpa using this
 have aF:kvs.length=xs.length:=Paired.length r;refine{es,ep,{{o,h1,h2,h3},y},by lia,z,λi hi=>?_}
 have J6:∀{l:List (List Key×V)} {m:List (List Key×AQ×AH)},Paired (λ(p:List Key×V) (q:List Key×AQ×AH)=>p.1=q.1/\H q.2.1=AA (.tup (p.1.map kV))/\RelV p.2 q.2.2) l m ->
   ∀(i:Nat) q,m[i]?=AA q->∃k,(l.map (·.1))[i]?=AA k/\H q.2.1=AA (.tup (k.map kV)):=by
  intro l m q
  induction q with
  |nil=>intro i q e;simp at e
  |@cons p q ps qs hq t ih =>
   intro i z e
   cases i with
   |zero=>simp at e;subst e;exact{p.1,by simp,hq.2.1}
   |succ i=>obtain⟨k,e1,e2⟩:=ih i z (by simpa using e);exact{k,by simpa using e1,e2}
 have RV:i<xs.length:=AN hi (CO hl);obtain⟨k,e1,e2⟩:=J6 r i xs[i] (by simp[RV])
 have e3:es[i]=entryOfKey (NS (R9 P w)) xs[i]:=by
  have q:es.toList[i]?=AA es[i]:=by simp[hi]
  rw[h4] at q;simp[RV] at q;exact q.symm
 exact{xs[i].2.1,k,by rw[e3];rfl,e1,e2}
def Vk(d:AQ)(o:HL)(kvs:List (List Key×V)):It :=
 {λi H=>i<kvs.length/\H d=AA (.frz o (.dT kvs)),λi H x H'=>H'=H/\∃p k,x=.ref p/\(kvs.map (·.1))[i]?=AA k/\H p=AA (.tup (k.map kV)),λi H=>kvs.length<=i/\H d=AA (.frz o (.dT kvs))}
theorem Qf{K:AC}(d it:AQ)(o:HL)(kvs:List (List Key×V))(es:Array JY)(ep:Nat)(hd:o.data=.dict es ep)(hz:es.size=kvs.length) :
  Turn P w K tg (Vk d o kvs) [it] it (λi h=>h.IsKeyIter it d i es.size ep) where
 mem:=by simp
 obj:=λi h st b hb=>by
  have e:b=it:=by simpa using hb
  subst e;obtain⟨o,e,c,d⟩:=st;exact{o,e,λv z=>by rw[d] at z;cases z}
 keep:=λi h h' st k=>let ⟨o,e,r⟩:=st;{o,k it 's' o e,r}
 item:=by
  intro X hP hw hK hc i AE s σ H E I hf st hg;subst hP hw hK;obtain⟨hi,hk⟩:=hg;obtain⟨ho,hx⟩:=I.hok d _ hk;obtain⟨kC,kD,KH,e1,e2,e3⟩:=oG hx;obtain⟨o',q1,q2,q3⟩:=KH.ex;rw[ho] at q1;cases q1;rw[hd] at q3;injection q3 with q4 q5;subst q4;subst q5;obtain⟨f0,f1,f2,f3,f4,f5⟩:=hf it 's';refine Ow st KH 'l' λh' CM sb=>?_;obtain⟨p,k,p1,p2,p3⟩:=e3 i 'l';have I1:Inv X AE σ H { s with heap:=h' }:=I.turned (t':=s.toks) (λb ob hb e=>(sb.2 b hb).trans e) f0 f1 f3 f4 f5;obtain⟨oi,e,c,dd⟩:=id CM;refine{_,rfl,qN (s:={ s with heap:=h' }) e c dd 'd' {.ref p,H,I1,p1,{rfl,p,k,rfl,p2,p3},CM,λb hb=>(hf b hb).1}}
 done:=by
  intro X hP hw hK hc i AE s σ H E I hf st hg;subst hP hw hK;obtain⟨hi,hk⟩:=hg;obtain⟨ho,hx⟩:=I.hok d _ hk;obtain⟨kC,kD,KH,e1,e2,e3⟩:=oG hx;obtain⟨o',q1,q2,q3⟩:=KH.ex;rw[ho] at q1;cases q1;rw[hd] at q3;injection q3 with q4 q5;subst q4;subst q5;obtain⟨f0,f1,f2,f3,f4,f5⟩:=hf it 's';exact Nm (I.ok.hd hc) st KH (AY (CO hz) hi) λh' eb=>{rfl,I.turned (t':=s.toks) (λb ob hb e=>eb b ob hb e) f0 f1 f3 f4 f5}
 self:=λ_ _ _ _ _ st h=>hU st h
theorem Inv.freeze(I:Inv X AE σ H s)(ha:H a=AA (.dT kvs)) :
  ∃o,s.heap.get? a=AA o/\Inv X AE σ (DU H a (.frz o (.dT kvs))) s:=by
 have x:=I.hok a _ ha;obtain⟨es,ep,⟨⟨o,h1,h2,h3⟩,_⟩,_⟩:=oG x;have kt:∀b ys,H b=AA (.tup ys)->b≠a:=λb ys e z=>by rw[z,ha] at e;cases e
 have ko:∀b y,H b=AA (.own y)->b≠a:=λb y e z=>by rw[z,ha] at e;cases e
 have kf:∀b ob u,H b=AA (.frz ob u)->b≠a:=λb ob u e z=>by rw[z,ha] at e;cases e
 have kb:∀b t ps,H b=AA (.tbl t ps)->b≠a:=λb t ps e z=>by rw[z,ha] at e;cases e
 have kn:∀b,H b=AI->b≠a:=λb e z=>by rw[z,ha] at e;cases e
 refine{o,h1,I.un (t':=s.toks) (h':=s.heap) {λb ob e _ _ _=>e,λb ob e _ _ _=>{ob.slots,e},λb ob e n _=>by rw[EL (kn b n)];exact n,λb ob e _=>{ob,e},λb ys e=>by rw[EL (kt b ys e)];exact e,λb ob u e=>by rw[EL (kf b ob u e)];exact e,λb t ps e=>{#[],by rw[EL (kb b t ps e),e];simp}} λb u e=>?_}
 by_cases hb:b=a
 .subst hb
  rw[G3] at e;cases e;exact{h1,x.stay (λc v _ q=>q) (λc q=>by rw[EL (ko c _ q)];exact q) (λc ys q=>by rw[EL (kt c ys q)];exact q) λc ob x q=>by rw[EL (kf c ob _ q)];exact q}
 .rw[EL hb] at e
  exact(I.hok b u e).stay (λc v _ q=>q) (λc q=>by rw[EL (ko c _ q)];exact q) (λc ys q=>by rw[EL (kt c ys q)];exact q) λc ob x q=>by rw[EL (kf c ob _ q)];exact q
theorem zTH:CallR X (.type "range") (λxs H Q=>∃j:Int,xs=[.int j]/\∀p,H p=AI->Q (.ref p) (DU H p (.rng 0 j))):=by
 intro AE s σ H xs us Q I r h;obtain⟨j,rfl,q⟩:=h;obtain⟨u,rfl,ru⟩:=Y1 r;obtain⟨t,rfl⟩:=ru;exact call_range_1 {.ref s.heap.objs.size,_,I.laid (o:=.rng 0 j) (λb o e=>AF _ e) (AM _) {_,_,_,AV _ rfl},rfl,q _ I.fresh}
theorem zOV:∀(n:Nat) (us:List AH),us.length=n->(∀(i:Nat) v,us[i]?=AA v->∃t,v=MI (i:Int) t)->Vals ((C9 n).map λi:Nat=>V.int (i:Int)) us:=by
 intro n
 induction n with
 |zero=>intro us hl _;have:=List.length_eq_zero_iff.mp hl;subst this;exact .nil
 |succ n ih =>
  intro us hl h
  have e:us=us.take n++[us[n]'(by lia)]:=by
   rw[<-BJ 'l',JQ (CO hl)]
  rw[e,iL,FY];refine Vals.append (ih _ (by rw[ET];lia) λi v hv=>?_) (.cons ?_ .nil)
  .rw[List.getElem?_take] at hv
   split at hv
   .exact h i v hv
   .cases hv
  .obtain⟨t,et⟩:=h n (us[n]'(by lia)) 's'
   exact{t,et}
theorem zIS(hc:X.calm=AL):CallR X (.type "list") (λxs H Q=>∃(p:AQ) (n:Nat),xs=[.ref p]/\H p=AA (.rng 0 (n:Int))/\n<=1000/\∀l,H l=AI->Q (.ref l) (DU H l (.lst ((C9 n).map λi:Nat=>V.int (i:Int))))):=by
 intro AE s σ H xs us Q I r h;obtain⟨p,n,rfl,hp,hn,q⟩:=h;obtain⟨u,rfl,ru⟩:=Y1 r;cases ru;obtain⟨t,u,v,e⟩:=(show ObjOk X.prog X.w H s.heap p (.rng 0 (n:Int)) from I.hok p _ hp);refine call_list_range (I.ok.hd hc) (show IsRange s.heap p 0 (n:Int) 1 t u v from e) (small_one 'd' 'd' 'l' 'l') (n:=n) (by rw[rangeSize_one];first|lia|(split<;>lia)) (AY hn (DK _ _)) λh' tk acc c k hS hI=>?_;obtain⟨hz,hi⟩:=hI
 have rv:Vals ((C9 n).map λi:Nat=>V.int (i:Int)) acc.toList:=zOV n _ (by simpa using hz) λi v hv=>by
  obtain⟨t,et⟩:=hi i v (by rw[<-C0];exact hv);exact{t,by rw[et];simp}
 refine{.ref s.heap.objs.size,_,I.laid (o:=.lst ((C9 n).map λi:Nat=>V.int (i:Int))) k (AM _) {?_,acc.toList,c,rv,by simpa using hS},rfl,q _ I.fresh};rw[AJ,JR,FZ];exact AY hn (DK _ _)
theorem Qe{Q:Option HL->AT->Prop}(h:Q (s.heap.get? a) s):AZ (A3 prog w) A (iC a) Q E s:=λΓ p hΓ=>by
 show Sem.wp _ Γ (.loadIfAlive a .pure) _ _ p s;rw[Sem.wp_loadIfAlive];exact(wpAny_pure h:AZ (A3 prog w) A (pure _) Q E s) Γ p hΓ
theorem oP{t:AQ}{x:AH}(k:s.heap.IsTupleIter it t i)(ht:s.heap.IsTuple t items)(hx:items[i]?=AA x)
  (h:∀h',h'.IsTupleIter it t (i+1)->DG it s.heap h'->Q x { s with heap:=h' }):AZ (A3 prog w) A (CC (.ref it)) Q E s:=by
 obtain⟨o,ho,hc,hd⟩:=id k;obtain⟨ol,Iq,_,nl,Jt⟩:=ht;unfold CC;refine AB (C5 (name:=EN "__next__") k.typeIs F.slot_tuple_iterator_next (DD F.slot_tuple_iterator_next k.typeIs F.entry_tuple_iterator_next ?_ (F.args_tuple_iterator_next_1 _)));show AZ _ _ (QZ (.ref it) 0 >>= _) _ _ s;refine AB (C8 ho hd (x:=.ref t) rfl ?_);show AZ _ _ (if(DI t==GC)=AL then _ else _) _ _ s;rw[if_neg (show ¬((DI t==GC)=AL) from CG)];show AZ _ _ (QZ (.ref it) 1 >>= _) _ _ s;refine AB (C8 ho hd (x:=.int i 0) rfl ?_);show AZ _ _ (seqItems? (.ref t) >>= _) _ _ s;refine AB (HI Iq Jt ?_);simp only[L9,hx];refine AB (PU ho hd 's' (wpAny_pure {x,rfl,wpAny_pure (h _ ?_ (GL ..))}));exact{_,NN _ ho (YQ (LK hd _)),(fE ..).trans hc,by rw[LK hd];simp[ES]}
theorem wU{t:AQ}(hh:A.handled=AI)(k:s.heap.IsTupleIter it t i)(ht:s.heap.IsTuple t items)(hx:items[i]?=AI)
  (h:∀h' e,YU it s.heap h'->(∃o,h'.get? e=AA o/\o.cls=.type "StopIteration")->E (.ref e) { s with heap:=h' }):AZ (A3 prog w) A (CC (.ref it)) Q E s:=by
 obtain⟨o,ho,hc,hd⟩:=id k;obtain⟨ol,Iq,_,nl,Jt⟩:=ht;unfold CC;refine AB (C5 (name:=EN "__next__") k.typeIs F.slot_tuple_iterator_next (DD F.slot_tuple_iterator_next k.typeIs F.entry_tuple_iterator_next ?_ (F.args_tuple_iterator_next_1 _)));show AZ _ _ (QZ (.ref it) 0 >>= _) _ _ s;refine AB (C8 ho hd (x:=.ref t) rfl ?_);show AZ _ _ (if(DI t==GC)=AL then _ else _) _ _ s;rw[if_neg (show ¬((DI t==GC)=AL) from CG)];show AZ _ _ (QZ (.ref it) 1 >>= _) _ _ s;refine AB (C8 ho hd (x:=.int i 0) rfl ?_);show AZ _ _ (seqItems? (.ref t) >>= _) _ _ s;refine AB (HI Iq Jt ?_);simp only[L9,hx];refine AB (E8 (AB (PU ho hd 's' ?_)));show AZ _ _ (newExc (.type "StopIteration") [] >>= _) _ _ _;refine AB ?_;simp only[newExc,newTuple];refine AB (DN ?_ (by size_fits));refine AB (m:=PZ _ _) (hV (a:=GC) (by first|rfl|(simp only[PZ];rfl)) (DN ?_ (by size_fits)));simp only[raiseNew];refine AB (wpAny_handled ?_)
 first|rw[show A.in1.handled=AI from hh]|rw[hh]
 exact AB (wpAny_pure (wpAny_throw (h _ _ (((GL ..).extBut.push _).push _) {_,AV _ rfl,rfl})))
structure ZipSt(h:DZ)(n l1 l2:AQ)(i:Nat):Prop where
 zo:∃f0 f1,h.get? (n+4)=AA { cls:=.type "zip",dict:=AI,data:=.fields #[f0,.bool f1,.bool AD,.ref (n+2),.ref (n+3)],slots:=#[] }/\(f0=.none\/∃T:Nat,f0=ES T)
 ti:KB h (n+2) (.ref n) (.ref (n+1))
 to:∃a b,KB h (n+3) a b
 k1:h.IsTupleIter n l1 i
 k2:h.IsTupleIter (n+1) l2 i
theorem qU{t:AQ}(x:h.IsTupleIter it t i)(k:∀o,h.get? it=AA o->h'.get? it=AA o):h'.IsTupleIter it t i:=let ⟨o,e,r⟩:=x;{o,k o e,r}
theorem Lx{t:AQ}{CA:Array AH}(x:h.IsTuple t CA)(k:∀o,h.get? t=AA o->h'.get? t=AA o):h'.IsTuple t CA:=let ⟨o,e,r⟩:=x;{o,k o e,r}
theorem ZipSt.keep{n:AQ}(z:ZipSt h n l1 l2 i)(k:∀b∈[n,n+1,n+2,n+3,n+4],∀o,h.get? b=AA o->h'.get? b=AA o):ZipSt h' n l1 l2 i:=by
 obtain⟨f0,f1,e,r⟩:=z.zo;obtain⟨a,b,to⟩:=z.to;exact{{f0,f1,k _ 's' _ e,r},k _ 's' _ z.ti,{a,b,k _ 's' _ to},qU z.k1 (k _ 's'),qU z.k2 (k _ 's')}
def Bz(n:AQ)(h h':DZ):Prop:=∀c o,c≠n->c≠n+1->c≠n+3->c≠n+4->h.get? c=AA o->h'.get? c=AA o
abbrev eK(h:DZ)(n:AQ)(f0:AH)(f1:Bool):Prop:=h.get? (n+4)=AA { cls:=.type "zip",dict:=AI,data:=.fields #[f0,.bool f1,.bool AD,.ref (n+2),.ref (n+3)],slots:=#[] }
def F0(f0:AH):Prop:=f0=.none\/∃T:Nat,f0=ES T
theorem jF(a:AQ)(h:DZ):DG a h h:={rfl,λ_ _=>rfl}
theorem Rk{n:AQ}{f0:AH}{f1:Bool}{Q:Bool->AT->Prop}(hz:eK s.heap n f0 f1)(hf:F0 f0)
  (h:∀b h' f1,eK h' n f0 f1->DG (n+4) s.heap h'->Q b { s with heap:=h' }):AZ (A3 prog w) A (CW (.ref (n+4))) Q E s:=by
 unfold CW;rcases hf with rfl|⟨T,rfl⟩
 .exact AB (C8 hz rfl (x:=.none) rfl (wpAny_pure (h AL s.heap f1 hz (jF _ _))))
 .refine AB (C8 hz rfl (x:=ES T) rfl ?_)
  show AZ _ _ (iC (T:Int).toNat >>= _) _ _ _;refine AB (Qe ?_)
  cases e:(s.heap.get? (T:Int).toNat).isNone with
  |true=>exact wpAny_pure (h AL s.heap f1 hz (jF _ _))
  |false =>
   simp only[D3,if_false];refine AB (C8 hz rfl (x:=.bool f1) rfl ?_)
   cases f1 with
   |true =>
    exact wpAny_pure (h AD s.heap AL hz (jF _ _))
   |false =>
    show AZ _ _ (NT (.ref (n+4)) 1 (.bool AL) >>= _) _ _ _;exact AB (CS hz 's' λh' eN RI=>wpAny_pure (h AD h' AL eN RI))
def sB(n l:AQ):Prop:=l≠n/\l≠n+1/\l≠n+3/\l≠n+4
theorem W7{t:AQ}{CA:Array AH}(k:h.IsTuple t CA)(hs:DG a h h')(ne:t≠a):h'.IsTuple t CA:=Lx k λo e=>hs.extBut _ _ ne e
theorem RU{t:AQ}(k:h.IsTupleIter t l i)(hs:DG a h h')(ne:t≠a):h'.IsTupleIter t l i:=qU k λo e=>hs.extBut _ _ ne e
theorem Y6(h:j≠k):n+j≠n+k:=by lia
theorem eA(h:k≠0):n≠n+k:=by lia
theorem zTI{n:AQ}{xs ys:Array AH}{x y:AH}{Q:Option AH->AT->Prop}(z:ZipSt s.heap n l1 l2 i)(o1:sB n l1)(o2:sB n l2)
  (cG:s.heap.IsTuple l1 xs) (aF:s.heap.IsTuple l2 ys) (hx:xs[i]?=AA x) (hy:ys[i]?=AA y)
  (hQ:∀h',ZipSt h' n l1 l2 (i+1)->KB h' s.heap.objs.size x y->h'.objs.size=s.heap.objs.size+1->Bz n s.heap h'->Q (AA (.ref s.heap.objs.size)) { s with heap:=h' }) :
  AZ (A3 prog w) A (JV (.ref (n+4))) Q E s:=by
 obtain⟨f0,f1,hz,hf⟩:=z.zo;obtain⟨a,b,qA⟩:=z.to;have qB:=z.ti;have k1:=z.k1;have k2:=z.k2;obtain⟨p1,p2,p3,p4⟩:=o1;obtain⟨q1,q2,q3,q4⟩:=o2;have hT:s.TypeIs (.ref (n+4)) "zip":={_,hz,rfl};have eZ:n+3≠n+4:=Y6 'd';have vQ:n+2≠n+4:=Y6 'd';have cT:n+1≠n+4:=Y6 'd';have cU:n≠n+4:=eA 'd';have kH:n+1≠n+3:=Y6 'd';have qD:n≠n+3:=eA 'd';have ZH:n≠n+1:=eA 'd';have d23:n+2≠n+3:=Y6 'd';have Xz:n+2≠n+1:=Y6 'd';have Ya:n+2≠n:=(eA 'd').symm;unfold JV;refine AB (GH (C5 (name:=EN "__next__") hT F.slot_zip_next (DD F.slot_zip_next hT F.entry_zip_next ?_ (F.args_zip_next_1 _))));show AZ _ _ (QZ (.ref (n+4)) 2 >>= _) _ _ _;refine AB (C8 hz rfl (x:=.bool AD) rfl ?_);show AZ _ _ (QZ (.ref (n+4)) 3 >>= _) _ _ _;refine AB (C8 hz rfl (x:=.ref (n+2)) rfl ?_);refine AB (HI qB rfl ?_);show AZ _ _ (CW (.ref (n+4)) >>= _) _ _ _;refine AB (Rk hz hf λfr h₀ g1 TD IU=>?_);have XO:KB h₀ (n+3) a b:=IU.extBut _ _ eZ qA;have RF:=RU k1 IU cU;have V8:=RU k2 IU cT;have RD:=W7 cG IU p4;have V5:=W7 aF IU q4;have hTI₀:KB h₀ (n+2) (.ref n) (.ref (n+1)):=IU.extBut _ _ vQ qB
 cases fr with
 |true =>
  simp only[if_true];refine AB (E8 ?_);refine AB (C8 TD rfl (x:=.ref (n+3)) rfl ?_);refine AB (CS TD 's' λJC P4 J1=>?_);replace P4:eK JC n .ellipsis g1:=P4;refine AB ?_;simp only[J7,iK,NI,NZ];refine AB (AB (NF ?_));show AZ _ _ (CC (.ref n) >>= _) _ _ _;refine AB (oP (RU RF J1 cU) (W7 RD J1 p4) hx λLQ V9 G0=>wpAny_pure ?_);have RM:KB LQ (n+3) a b:=G0.extBut _ _ qD.symm (J1.extBut _ _ eZ XO);refine AB (HI RM rfl ?_);refine AB (PR RM λN6 UP K9=>?_);replace UP:KB N6 (n+3) x b:=UP;refine AB (PV (wpAny_pure ?_));refine AB (AB (NF ?_));show AZ _ _ (CC (.ref (n+1)) >>= _) _ _ _;refine AB (oP (RU (RU (RU V8 J1 cT) G0 ZH.symm) K9 kH) (W7 (W7 (W7 V5 J1 q4) G0 q1) K9 q3) hy λM9 bV KN=>wpAny_pure ?_);have cR:KB M9 (n+3) x b:=KN.extBut _ _ kH.symm UP;refine AB (HI cR rfl ?_);refine AB (PR cR λKM UO P5=>?_);replace UO:KB KM (n+3) x y:=UO;refine AB (PV (wpAny_pure (wpAny_pure ?_)));refine AB (HI UO rfl ?_);refine AB (MG ?_);have hsz:KM.objs.size=s.heap.objs.size:=by rw[P5.1,KN.1,K9.1,G0.1,J1.1,IU.1]
  have jT:eK KM n .ellipsis g1:=P5.extBut _ _ eZ.symm (KN.extBut _ _ cT.symm (K9.extBut _ _ eZ.symm (G0.extBut _ _ cU.symm P4)))
  have j2:∀c o,c≠n+4->c≠n+3->c≠n->c≠n+1->s.heap.get? c=AA o->KM.get? c=AA o:=λc o c1 c2 c3 c4 e =>
   P5.extBut _ _ c2 (KN.extBut _ _ c4 (K9.extBut _ _ c2 (G0.extBut _ _ c3 (J1.extBut _ _ c1 (IU.extBut _ _ c1 e)))))
  have uE:KM.IsTupleIter n l1 (i+1):=RU (RU (RU V9 K9 qD) KN ZH) P5 qD;have uD:KM.IsTupleIter (n+1) l2 (i+1):=RU bV P5 kH;have uH:n+4<KM.objs.size:=A8 jT;show AZ _ _ (HE (.ref (n+4)) (.ref KM.objs.size) >>= _) _ _ _;refine AB ?_;unfold HE;have uG:eK (KM.push { cls:=.type "tuple",data:=.seq #[x,y] }) n .ellipsis g1:=AF _ jT;refine AB (CS uG 's' λbX bZ cB=>?_);replace bZ:eK bX n (ES KM.objs.size) g1:=bZ;refine CS bZ 's' λRG bY cA=>?_;replace bY:eK RG n (ES KM.objs.size) AD:=bY;have up:∀c o,c≠n+4->KM.get? c=AA o->RG.get? c=AA o:=λc o c1 e=>cA.extBut _ _ c1 (cB.extBut _ _ c1 (AF _ e));have j8:KB RG KM.objs.size x y:=cA.extBut _ _ (FM uH) (cB.extBut _ _ (FM uH) (AV _ rfl));have Wt:RG.objs.size=KM.objs.size+1:=by rw[cA.1,cB.1,FQ]
  have zs:ZipSt RG n l1 l2 (i+1):={{_,_,bY,.inr {_,rfl}},up _ _ vQ (j2 _ _ vQ d23 Ya Xz qB),{x,y,up _ _ eZ UO},qU uE λo e=>up _ o cU e,qU uD λo e=>up _ o cT e};rw[hsz] at j8 Wt;refine wpAny_pure {_,rfl,wpAny_pure ?_};show Q (AA (.ref KM.objs.size)) _;rw[hsz];exact hQ RG zs j8 Wt λc o c1 c2 c3 c4 e=>up c o c4 (j2 c o c4 c3 c1 c2 e)
 |false =>
  simp only[D3,if_false];refine AB ?_;rw[<-K6];simp only[NI,NZ];refine AB (AB (C7 ?_));show AZ _ _ (CC (.ref n) >>= _) _ _ _;refine AB (oP RF RD hx λLQ V9 G0=>wpAny_pure (wpAny_pure ?_));refine AB (AB (C7 ?_));show AZ _ _ (CC (.ref (n+1)) >>= _) _ _ _;refine AB (oP (RU V8 G0 ZH.symm) (W7 V5 G0 q1) hy λM9 bV KN=>wpAny_pure (wpAny_pure (wpAny_pure ?_)));refine AB (MG (items:=[x,y]) ?_);have hsz:M9.objs.size=s.heap.objs.size:=by rw[KN.1,G0.1,IU.1]
  have cH:∀c o,c≠n+4->c≠n->c≠n+1->s.heap.get? c=AA o->M9.get? c=AA o:=λc o c1 c3 c4 e=>KN.extBut _ _ c4 (G0.extBut _ _ c3 (IU.extBut _ _ c1 e))
  have zs:ZipSt (M9.push { cls:=.type "tuple",data:=.seq #[x,y] }) n l1 l2 (i+1):=ZipSt.keep (h:=M9) {{f0,g1,KN.extBut _ _ cT.symm (G0.extBut _ _ cU.symm TD),hf},cH _ _ vQ Ya Xz qB,{a,b,cH _ _ eZ qD.symm kH.symm qA},RU V9 KN ZH,bV}
   λb _ o e=>AF _ e
  refine wpAny_pure {_,rfl,wpAny_pure ?_};show Q (AA (.ref M9.objs.size)) _;have hP:KB (M9.push { cls:=.type "tuple",data:=.seq #[x,y] }) M9.objs.size x y:=AV _ rfl;have RI:(M9.push { cls:=.type "tuple",data:=.seq #[x,y] }).objs.size=M9.objs.size+1:=FQ ..;rw[hsz] at hP RI ⊢;exact hQ _ zs hP RI λc o c1 c2 c3 c4 e=>AF _ (cH c o c4 c1 c2 e)
theorem zXL{n:AQ}{xs ys:Array AH}{Q:Option AH->AT->Prop}(hh:A.handled=AI)(z:ZipSt s.heap n l1 l2 i)(o1:sB n l1)(o2:sB n l2)
  (cG:s.heap.IsTuple l1 xs) (aF:s.heap.IsTuple l2 ys) (g9:xs[i]?=AI\/ys[i]?=AI)
  (hQ:∀h',Bz n s.heap h'->Q AI { s with heap:=h' }):AZ (A3 prog w) A (JV (.ref (n+4))) Q E s:=by
 obtain⟨f0,f1,hz,hf⟩:=z.zo;obtain⟨a,b,qA⟩:=z.to;have qB:=z.ti;have k1:=z.k1;have k2:=z.k2;obtain⟨p1,p2,p3,p4⟩:=o1;obtain⟨q1,q2,q3,q4⟩:=o2;have hT:s.TypeIs (.ref (n+4)) "zip":={_,hz,rfl};have eZ:n+3≠n+4:=Y6 'd';have vQ:n+2≠n+4:=Y6 'd';have cT:n+1≠n+4:=Y6 'd';have cU:n≠n+4:=eA 'd';have kH:n+1≠n+3:=Y6 'd';have qD:n≠n+3:=eA 'd';have ZH:n≠n+1:=eA 'd'
 have fin:∀{h':DZ} {e:AQ},(∃o,h'.get? e=AA o/\o.cls=.type "StopIteration")->Bz n s.heap h' ->
   AZ (A3 prog w) A (isInstance (.ref e) (.type "StopIteration") >>= λb=>if b=AL then pure AI else throw (.ref e)) Q E { s with heap:=h' }:=λ{h' e} he hk=>by
  obtain⟨o,ho,hc⟩:=he;exact AB (UU (T:="StopIteration") (b:=AL) {o,ho,hc} XU (wpAny_pure (hQ _ hk)))
 unfold JV;refine AB (GH (C5 (name:=EN "__next__") hT F.slot_zip_next (DD F.slot_zip_next hT F.entry_zip_next ?_ (F.args_zip_next_1 _))));show AZ _ _ (QZ (.ref (n+4)) 2 >>= _) _ _ _;refine AB (C8 hz rfl (x:=.bool AD) rfl ?_);show AZ _ _ (QZ (.ref (n+4)) 3 >>= _) _ _ _;refine AB (C8 hz rfl (x:=.ref (n+2)) rfl ?_);refine AB (HI qB rfl ?_);show AZ _ _ (CW (.ref (n+4)) >>= _) _ _ _;refine AB (Rk hz hf λfr h₀ g1 TD IU=>?_);have XO:KB h₀ (n+3) a b:=IU.extBut _ _ eZ qA;have RF:=RU k1 IU cU;have V8:=RU k2 IU cT;have RD:=W7 cG IU p4;have V5:=W7 aF IU q4
 cases fr with
 |true =>
  simp only[if_true];refine AB (E8 ?_);refine AB (C8 TD rfl (x:=.ref (n+3)) rfl ?_);refine AB (CS TD 's' λJC P4 J1=>?_);replace P4:eK JC n .ellipsis g1:=P4;refine AB ?_;simp only[J7,iK,NI,NZ];refine AB (AB (NF ?_));show AZ _ _ (CC (.ref n) >>= _) _ _ _
  cases hx:xs[i]? with
  |none =>
   refine AB (wU hh (RU RF J1 cU) (W7 RD J1 p4) hx λLQ e G0 he=>?_);obtain⟨oe,mZ,vG⟩:=he;have jV:eK LQ n .ellipsis g1:=G0 _ _ cU.symm P4;have Jp:e≠n+4:=λx=>by subst x;rw[jV] at mZ;cases mZ;simp at vG
   exact CS jV 's' λN6 _ K9=>fin {oe,K9.extBut _ _ Jp mZ,vG} λc o c1 c2 c3 c4 x=>K9.extBut _ _ c4 (G0 _ _ c1 (J1.extBut _ _ c4 (IU.extBut _ _ c4 x)))
  |some x =>
   have hy:ys[i]?=AI:=by rcases g9 with h|h;rw[hx] at h;cases h;exact h
   refine AB (oP (RU RF J1 cU) (W7 RD J1 p4) hx λLQ V9 G0=>wpAny_pure ?_);have RM:KB LQ (n+3) a b:=G0.extBut _ _ qD.symm (J1.extBut _ _ eZ XO);refine AB (HI RM rfl ?_);refine AB (PR RM λN6 UP K9=>?_);refine AB (PV (wpAny_pure ?_));refine AB (AB (NF ?_));show AZ _ _ (CC (.ref (n+1)) >>= _) _ _ _;refine AB (wU hh (RU (RU (RU V8 J1 cT) G0 ZH.symm) K9 kH) (W7 (W7 (W7 V5 J1 q4) G0 q1) K9 q3) hy λM9 e KN he=>?_);obtain⟨oe,mZ,vG⟩:=he;have jU:eK M9 n .ellipsis g1:=KN _ _ cT.symm (K9.extBut _ _ eZ.symm (G0.extBut _ _ cU.symm P4));have Jp:e≠n+4:=λx=>by subst x;rw[jU] at mZ;cases mZ;simp at vG
   exact CS jU 's' λKM _ P5=>fin {oe,P5.extBut _ _ Jp mZ,vG} λc o c1 c2 c3 c4 x=>P5.extBut _ _ c4 (KN _ _ c2 (K9.extBut _ _ c3 (G0.extBut _ _ c1 (J1.extBut _ _ c4 (IU.extBut _ _ c4 x)))))
 |false =>
  simp only[D3,if_false];refine AB ?_;rw[<-K6];simp only[NI,NZ];refine AB (AB (C7 ?_));show AZ _ _ (CC (.ref n) >>= _) _ _ _
  cases hx:xs[i]? with
  |none =>
   refine AB (wU hh RF RD hx λLQ e G0 he=>?_);exact fin he λc o c1 c2 c3 c4 x=>G0 _ _ c1 (IU.extBut _ _ c4 x)
  |some x =>
   have hy:ys[i]?=AI:=by rcases g9 with h|h;rw[hx] at h;cases h;exact h
   refine AB (oP RF RD hx λLQ V9 G0=>wpAny_pure (wpAny_pure ?_));refine AB (AB (C7 ?_));show AZ _ _ (CC (.ref (n+1)) >>= _) _ _ _;refine AB (wU hh (RU V8 G0 ZH.symm) (W7 V5 G0 q1) hy λM9 e KN he=>?_);exact fin he λc o c1 c2 c3 c4 x=>KN _ _ c2 (G0.extBut _ _ c1 (IU.extBut _ _ c4 x))
theorem Inv.turnedL(I:Inv X AE σ H s)(hf:∀b∈fp,FpOk X AE H b)(k:∀b o,b∉fp->s.heap.get? b=AA o->h'.get? b=AA o):Inv X AE σ H { s with heap:=h',toks:=t' }:=by
 have t7:∀b u,H b=AA u->b∉fp:=λb u e z=>by rw[(hf b z).1] at e;cases e
 refine I.step (g':=s.gens) (d':=s.drawn) (ch:=fp) (λb hb=>?_) (λb o _ _ hc e _=>k b o hc e) (λb o _ _ hc e _=>{o.slots,k b o hc e}) (λ_ _ _ _ n=>n)
  (λb o hc e=>{o,k b o hc e}) (λ_ _ e=>e) (λ_ _ _ e=>e) (λb t ps e=>{#[],by rw[e];simp}) (λm hm=>?_) (λb u e=>?_) I.bare
 .obtain⟨f0,f1,f2,f3,f4,f5⟩:=hf b hb
  exact{f3,f1,f4,f5}
 .obtain⟨o,es,ep,ho,r⟩:=hm
  exact{o,es,ep,k _ o (λz=>(hf _ z).2.1 rfl) ho,r}
 .refine(I.hok b u e).stay (λc v hc q=>k c v ?_ q) (λ_ q=>q) (λ_ _ q=>q) λ_ _ _ q=>q
  rcases hc with z|z
  .rw[z];exact t7 b u e
  .exact t7 c _ z
theorem FpOk.off(I:Inv X AE σ H s)(hf:∀b∈fp,FpOk X AE H b)(h:SqT X.K H a xs):a∉fp:=λz=>by
 obtain⟨f0,f1,f2,f3,f4,f5⟩:=hf a z;rcases h with h|⟨o,CA,n,hk,_⟩
 .rcases h with h|⟨o,h⟩
  .rw[f0] at h;cases h
  .rw[f0] at h;cases h
 .have hb:=I.ok.mod.kin a o hk
  rcases f3 with f3|f3
  .exact I.ok.noex a o hb f3
  .exact absurd (AN (A8 hb) I.ok.bsz) (U0.mpr f3)
theorem yBK{n:AQ}{Q:Unit → AT → Prop}(z : ZipSt s.heap n l1 l2 i)(h : ∀ h', ZipSt h' n l1 l2 i → DG (n + 4) s.heap h' → Q () { s with heap := h' }) :
    AZ (A3 prog w) A (FJ tg (.ref (n + 4)) u) Q E s := by
  have hz := h s.heap z (jF _ _);obtain ⟨f0, f1, e, hf⟩ := id z.zo;unfold FJ
  cases tg <;> first
    | exact wpAny_pure hz
    | (cases u <;> first
        | exact wpAny_pure hz
        | (
          refine AB (wpAny_load e ?_);dsimp only;split
          · refine AB (E8 ?_)
            show AZ _ _ (NT (.ref (n + 4)) 0 .none) Q E s;refine CS e 's' fun h' eN RI => h h' ?_ RI
            obtain ⟨a, b, qA⟩ := z.to;exact {{.none, f1, eN, .inl rfl}, RI.extBut _ _ (Y6 'd') z.ti, {a, b, RI.extBut _ _ (Y6 'd') qA}, RU z.k1 RI (eA 'd'), RU z.k2 RI (Y6 'd')}
          · exact wpAny_pure hz))
theorem Ov{n:AQ}(z:ZipSt s.heap n l1 l2 i)(h:Q (.ref (n+4)) s):AZ (A3 prog w) A (N7 (.ref (n+4))) Q E s:=by
 obtain⟨f0,f1,e,hf⟩:=z.zo;have hT:s.TypeIs (.ref (n+4)) "zip":={_,e,rfl};refine SG hT F.slot_zip_iter (DD F.slot_zip_iter hT F.entry_zip_iter ?_ (F.args_zip_iter_1 _));show AZ _ _ (ret (.ref (n+4))) _ _ s;exact wpAny_pure {_,rfl,"zip",_,hT,F.slot_zip_next.lookup,h}
noncomputable abbrev xD(h:DZ)(l1:AQ):DZ:=h.push { cls:=.type "tuple_iterator",data:=.fields #[.ref l1,.int 0 0] }
abbrev xC(h:DZ)(l1 l2:AQ):DZ:=(xD h l1).push { cls:=.type "tuple_iterator",data:=.fields #[.ref l2,.int 0 0] }
abbrev xB(h:DZ)(l1 l2:AQ):DZ:=(xC h l1 l2).push { cls:=.type "tuple",data:=.seq #[.ref h.objs.size,.ref (xD h l1).objs.size] }
abbrev xA(h:DZ)(l1 l2:AQ):DZ:=(xB h l1 l2).push { cls:=.type "tuple",data:=.seq #[.none,.none] }
abbrev lK(h:DZ)(l1 l2:AQ):DZ:=(xA h l1 l2).push { cls:=.type "zip",data:=.fields #[.none,.bool AD,.bool AD,.ref (xC h l1 l2).objs.size,.ref (xB h l1 l2).objs.size] }
theorem zOW(l1 l2:AQ)(xs ys:Array AH) :
  Meets (E4.«zip.__new__» {[.type "zip",.ref l1,.ref l2],[]}) (λ_ R s=>s.heap.IsTuple l1 xs/\s.heap.IsTuple l2 ys /\
   R (.ok (.ret (.ref (xA s.heap l1 l2).objs.size))) { s with heap:=lK s.heap l1 l2 }) :=
 .of_wp λprog w A R s h=>by
  obtain⟨hp,g,d,tk,os⟩:=s;obtain⟨cG,aF,h⟩:=h;have Ig:=sub_zip;have hL1:Heap.IsTuple (WV {hp,g,d,tk,os}) l1 xs:=cG;have hL2:Heap.IsTuple (WV {hp.push { cls:=.type "tuple_iterator",data:=.fields #[.ref l1,.int 0 0] },g,d,tk,os}) l2 ys:=Lx aF λo e=>AF _ e
  wp_walk using RO hL1,RO hL2
  exact{_,rfl,h}
theorem zQI{xs ys:Array AH}(cG:s.heap.IsTuple l1 xs)(aF:s.heap.IsTuple l2 ys)
  (h:∀h',ZipSt h' s.heap.objs.size l1 l2 0->h'.objs.size=s.heap.objs.size+5->(∀c o,s.heap.get? c=AA o->h'.get? c=AA o)->Q (.ref (s.heap.objs.size+4)) { s with heap:=h' }) :
  AZ (A3 prog w) A (call (.type "zip") [.ref l1,.ref l2]) Q E s:=by
 refine callType_new F.called_zip 'd' (F.typeCall_zip_2 _ _) (F.newCall_zip_2 _ _) (λobj=>F.args_object_init_3 obj _ _) F.entry_zip_new
  (zOW l1 l2 xs ys) {cG,aF,?_}
 have z1:(xD s.heap l1).objs.size=s.heap.objs.size+1:=FQ ..;have z2:(xC s.heap l1 l2).objs.size=s.heap.objs.size+2:=by rw[FQ,z1]
 have z3:(xB s.heap l1 l2).objs.size=s.heap.objs.size+3:=by rw[FQ,z2]
 have z4:(xA s.heap l1 l2).objs.size=s.heap.objs.size+4:=by rw[FQ,z3]
 have z5:(lK s.heap l1 l2).objs.size=s.heap.objs.size+5:=by rw[FQ,z4]
 have g5:(lK s.heap l1 l2).get? (xA s.heap l1 l2).objs.size=AA _:=AV _ rfl;have g4:(lK s.heap l1 l2).get? (xB s.heap l1 l2).objs.size=AA _:=AF _ (AV _ rfl);have g3:(lK s.heap l1 l2).get? (xC s.heap l1 l2).objs.size=AA _:=AF _ (AF _ (AV _ rfl));have g2:(lK s.heap l1 l2).get? (xD s.heap l1).objs.size=AA _:=AF _ (AF _ (AF _ (AV _ rfl)));have g1:(lK s.heap l1 l2).get? s.heap.objs.size=AA _:=AF _ (AF _ (AF _ (AF _ (AV _ rfl))));show _/\_;rw[z2,z3,z4] at g5;rw[z1,z2] at g3;rw[z3] at g4;rw[z1] at g2;rw[z4]
 exact{{_,g5,rfl},h _ {{.none,AD,g5,.inl rfl},g3,{_,_,g4},{_,g1,rfl,rfl},{_,g2,rfl,rfl}} z5 λc o x =>
  AF _ (AF _ (AF _ (AF _ (AF _ x))))}
def Vj(K:AC)(a b:AQ):It :=
 {λi H=>∃xs ys x y,SqT K H a xs/\SqT K H b ys/\xs[i]?=AA x/\ys[i]?=AA y,
  λi H v H'=>∃p x y,v=.ref p/\H p=AI/\H'=DU H p (.tup [x,y])/\(∀xs,SqT K H a xs->xs[i]?=AA x)/\(∀ys,SqT K H b ys->ys[i]?=AA y),
  λi H=>∃xs ys,SqT K H a xs/\SqT K H b ys/\(xs.length<=i\/ys.length<=i)}
abbrev gI(n:AQ):List AQ:=[n,n+1,n+2,n+3,n+4]
theorem lt5{c S:Nat}(h:c∈[n,n+1,n+2,n+3,n+4])(JI:n+4<S):c<S:=by
 simp only[BD,CZ,or_false] at h;lia
theorem Vc{c:Nat}(h:c∈[n,n+1,n+2,n+3,n+4]):n<=c:=by
 simp only[BD,CZ,or_false] at h;lia
theorem n9{n:AQ}(h:a∉gI n):sB n a:=by
 simp only[gI,BD,CZ,or_false,not_or] at h;exact{h.1,h.2.1,h.2.2.2.1,h.2.2.2.2}
theorem zTJ{K:AC}(a b n:AQ):Turn P w K tg (Vj K a b) (gI n) (n+4) (λi h=>ZipSt h n a b i) where
 mem:=by simp
 obj:=λi h st c hc=>by
  obtain⟨f0,f1,e,_⟩:=st.zo;obtain⟨u,v,e3⟩:=st.to;obtain⟨o0,e0,_,d0⟩:=st.k1;obtain⟨o1,e1,_,d1⟩:=st.k2;simp only[gI,BD,CZ,or_false] at hc;rcases hc with rfl|rfl|rfl|rfl|rfl
  .exact{_,e0,λv z=>by rw[d0] at z;cases z}
  .exact{_,e1,λv z=>by rw[d1] at z;cases z}
  .exact{_,st.ti,λv z=>by have z':kQ _ _=Q4 v:=z;cases z'}
  .exact{_,e3,λv z=>by have z':kQ _ _=Q4 v:=z;cases z'}
  .exact{_,e,λv z=>by have z':RT _=Q4 v:=z;cases z'}
 keep:=λi h h' st k=>st.keep k
 item:=by
  intro X hP hw hK hc i AE s σ H E I hf st hg;subst hP hw hK;obtain⟨xs,ys,x,y,WT,aD,hx,hy⟩:=hg;obtain⟨XD,tB,p1,jW⟩:=I.tuple WT;obtain⟨LP,zJ,p2,XF⟩:=I.tuple aD;obtain⟨u1,sI,ru1⟩:=tB.get hx;obtain⟨u2,hu2,ru2⟩:=zJ.get hy;refine zTI st (n9 (FpOk.off I hf WT)) (n9 (FpOk.off I hf aD)) (show s.heap.IsTuple a XD.toArray from p1) (show s.heap.IsTuple b LP.toArray from p2) (x:=u1) (y:=u2) (by simpa using sI) (by simpa using hu2) λh' CM hp hsz hk=>?_;refine{_,rfl,yBK (s:={ s with heap:=h' }) CM λh2 st2 MR=>?_};obtain⟨f0,f1,e4,_⟩:=id st.zo;have JI:∀c∈gI n,c<s.heap.objs.size:=λc hc=>lt5 hc (A8 e4);have nin:s.heap.objs.size∉gI n:=λz=>GB _ (JI _ z)
  have I1:Inv X AE σ (DU H s.heap.objs.size (.tup [x,y])) { s with heap:=s.heap.push { cls:=.type "tuple",data:=.seq #[u1,u2] } } :=
   I.laid (t':=s.toks) (λb u e=>AF _ e) (AM _) {by show 2<=sizeLine;decide,[u1,u2],.cons ru1 (.cons ru2 .nil),{_,AV _ rfl,rfl,rfl,0,rfl}}
  have vA:∀c∈gI n,FpOk X AE (DU H s.heap.objs.size (.tup [x,y])) c:=λc hc=>{by rw[EL (B0 (JI c hc))];exact(hf c hc).1,(hf c hc).2};have n4:n+4∈gI n:=by simp
  have I2:Inv X AE σ (DU H s.heap.objs.size (.tup [x,y])) { s with heap:=h2 }:=I1.turnedL (t':=s.toks) vA λc o hc e=>by
   have c4:c≠n+4:=λz=>hc (by rw[z];exact n4);refine MR.extBut _ _ c4 ?_
   by_cases XN:c=s.heap.objs.size
   .subst XN
    rw[AV _ rfl] at e;cases e;exact hp
   .have e':s.heap.get? c=AA o:=by
     rw[LY _ _ _ XN] at e;exact e
    obtain⟨q0,q1,q3,q4⟩:=n9 hc;exact hk c o q0 q1 q3 q4 e'
  exact{.ref s.heap.objs.size,_,I2,rfl,{_,x,y,rfl,I.fresh,rfl,λzs hz=>by rw[I.tuple_inj hz WT];exact hx,λzs hz=>by rw[I.tuple_inj hz aD];exact hy},st2,λc hc=>(vA c hc).1}
 done:=by
  intro X hP hw hK hc i AE s σ H E I hf st hg;subst hP hw hK;obtain⟨xs,ys,WT,aD,hx⟩:=hg;obtain⟨XD,tB,p1,jW⟩:=I.tuple WT;obtain⟨LP,zJ,p2,XF⟩:=I.tuple aD;have l1:=tB.length;have l2:=zJ.length;refine zXL (I.ok.hd hc) st (n9 (FpOk.off I hf WT)) (n9 (FpOk.off I hf aD)) (show s.heap.IsTuple a XD.toArray from p1) (show s.heap.IsTuple b LP.toArray from p2) (hx.imp (λh=>by simp;lia) (λh=>by simp;lia)) λh' hk=>{rfl,I.turnedL (t':=s.toks) hf λc o hc e=>?_};obtain⟨q0,q1,q3,q4⟩:=n9 hc;exact hk c o q0 q1 q3 q4 e
 self:=λ_ _ _ _ _ st h=>Ov st h
def yHA(K:AC)(ta:TA):TI:=λσ H R=>ta σ H λvs H1=>∃a b,vs=[.ref a,.ref b]/\(∃xs,SqT K H1 a xs)/\(∃ys,SqT K H1 b ys)/\R (Vj K a b) H1
theorem yBL{a b:CU}{ta:TA}(hg:Gl X "zip")(hm:X.mg "zip"=AI)(ha:PA X [a,b] ta)(hs:AO [a,b] X.env=[(AD,eval a X.env),(AD,eval b X.env)]:=by rfl)(MR:AO [b] X.env=[(AD,eval b X.env)]:=by rfl) :
  PI X tg (.Call (.Name "zip" p) [a,b] [] pos) (yHA X.K ta):=by
 intro AE s σ H R I h;refine Call_ (jC I hg hm (u:=.type "zip") (by decide +kernel) (FN (GN (ha pos AE s σ H _ I h) λus s1 ⟨vs,H1,I1,r1,q1⟩=>?_) (by rw[hs,MR]) (by rw[MR];rfl)));obtain⟨c,d,e,⟨xs,WT⟩,⟨ys,aD⟩,q⟩:=q1;subst e
 cases r1 with
 |cons r rr =>
  cases rr with
  |cons r' rr =>
   cases rr;cases r;cases r';obtain⟨XD,tB,p1,jW⟩:=I1.tuple WT;obtain⟨LP,zJ,p2,XF⟩:=I1.tuple aD;refine zQI (show s1.heap.IsTuple c XD.toArray from p1) (show s1.heap.IsTuple d LP.toArray from p2) λh' st hsz k=>?_;refine Ov (s:={ s1 with heap:=h' }) st ?_;refine{s1.heap.objs.size+4,gI s1.heap.objs.size,_,_,H1,rfl,I1.kept (t':=s1.toks) k,zTJ c d _,st,λb hb=>?_,q};exact I1.fpOk (Vc hb) (I1.hok.fresh (Vc hb))
mutual
inductive DV(K:AC)(H:Hp):V->G2->Prop
 |non:DV K H .non .none
 |bl (b:Bool):DV K H (.bl b) (.bool b)
 |int (i:Int):DV K H (.int i) (.int i)
 |str (x:CK):K2 (.str x)=AL->DV K H (.str x) (.str x)
 |tup {a:AQ} {xs:List V} {ds:List G2}:SqT K H a xs->DVs K H xs ds->DV K H (.ref a) (.tuple ds)
 |lst {a:AQ} {xs:List V} {ds:List G2}:SqL K H a xs->DVs K H xs ds->DV K H (.ref a) (.list ds)
inductive DVs(K:AC)(H:Hp):List V->List G2->Prop
 |nil:DVs K H [] []
 |cons {x:V} {d:G2} {xs:List V} {ds:List G2}:DV K H x d->DVs K H xs ds->DVs K H (x::xs) (d::ds)
end
theorem DV.ind{K:AC}{P:V->G2->Prop}{Q:List V->List G2->Prop}(h1:P .non .none)(h2:∀b,P (.bl b) (.bool b))(h3:∀i,P (.int i) (.int i))(h4:∀x,K2 (.str x)=AL->P (.str x) (.str x))
  (h5:∀{a xs ds},SqT K H a xs->DVs K H xs ds->Q xs ds->P (.ref a) (.tuple ds)) (h6:∀{a xs ds},SqL K H a xs->DVs K H xs ds->Q xs ds->P (.ref a) (.list ds))
  (q1:Q [] []) (q2:∀{x d xs ds},DV K H x d->DVs K H xs ds->P x d->Q xs ds->Q (x::xs) (d::ds)):(∀{v d},DV K H v d->P v d)/\∀{v d},DVs K H v d->Q v d :=
 {λh=>DV.rec (motive_1:=λv d _=>P v d) (motive_2:=λv d _=>Q v d) h1 h2 h3 h4 h5 h6 q1 q2 h,λh=>DVs.rec (motive_1:=λv d _=>P v d) (motive_2:=λv d _=>Q v d) h1 h2 h3 h4 h5 h6 q1 q2 h}
theorem pA1{K:AC}:(∀{v d},DV K H v d->d.canLay0=AL)/\∀{v d},DVs K H v d->FS d=AL :=
 DV.ind (P:=λ_ d=>d.canLay0=AL) (Q:=λ_ d=>FS d=AL) rfl (λ_=>rfl) (λ_=>rfl) (λ_ h=>h) (λ_ _ h=>by rw[K2];exact h) (λ_ _ h=>by rw[K2];exact h) rfl (λ_ _ h t=>by rw[FS,h,t];rfl)
theorem DV.can{K:AC}{d:G2}(h:DV K H v d):d.canLay0=AL:=pA1.1 h
theorem DVs.can{K:AC}{v:List V}{d:List G2}(h:DVs K H v d):FS d=AL:=pA1.2 h
theorem pA2(I:Inv X AE σ H s):(∀{v d},DV X.K H v d->∀u,RelV v u->∃as,aN s.heap u d as)/\∀{v d},DVs X.K H v d->∀u,Vals v u->∃as,XZ s.heap u d as:=by
 refine DV.ind (P:=λv d=>∀u,RelV v u->∃as,aN s.heap u d as) (Q:=λv d=>∀u,Vals v u->∃as,XZ s.heap u d as) ?_ ?_ ?_ ?_ ?_ ?_ ?_ ?_
 .intro _ r;cases r;exact{_,.none}
 .intro b _ r;cases r;exact{_,.bool b}
 .intro i _ r;obtain⟨t,rfl⟩:=r;exact{_,.int i t}
 .intro x _ _ r;obtain⟨t,rfl⟩:=r;exact{_,.str x t}
 .intro a xs ds hq _ ih _ r
  cases r;obtain⟨CA,rv,⟨o,ho,hc,n,hd⟩,hz⟩:=I.tuple hq;obtain⟨as,ra⟩:=ih _ rv;exact{as,.tuple ho hc hd (by simpa using ra)}
 .intro a xs ds hq _ ih _ r
  cases r;obtain⟨CA,rv,pl,hz⟩:=I.list hq;obtain⟨o,ho,hc,n,hd⟩:=pl.isList;obtain⟨as,ra⟩:=ih _ rv;exact{_,.list ho hc hd (by simpa using ra)}
 .intro _ r;cases r;exact{_,.nil}
 .intro x d xs ds _ _ h t _ r
  cases r with
  |cons r1 r2 =>
   obtain⟨as,ra⟩:=h _ r1;obtain⟨bs,rb⟩:=t _ r2;exact{_,.cons ra rb}
theorem DV.reads(I:Inv X AE σ H s){d:G2}(h:DV X.K H v d)(r:RelV v u):∃as,aN s.heap u d as:=(pA2 I).1 h u r
theorem DVs.reads(I:Inv X AE σ H s){v:List V}{d:List G2}(h:DVs X.K H v d){u:List AH}(r:Vals v u):∃as,XZ s.heap u d as:=(pA2 I).2 h u r
def yN(K:AC)(bS:Bool):R2:=λx y H Q=>∃d e,DV K H x d/\DV K H y e/\min d.depth e.depth<=60/\Q (.bl (if bS then !EE d e else EE d e)) H
theorem Lw(hu:X.A.units+64<GQ):OpR X (EQ .Eq) (yN X.K AD):=by
 intro AE s σ H x y v u Q I rx ry h;obtain⟨d,e,hd,he,hm,q⟩:=h;obtain⟨as,ra⟩:=hd.reads I rx;obtain⟨bs,rb⟩:=he.reads I ry;exact SeqAt.compareEq_reads ra rb hd.can he.can 'l' {.bl _,H,I,rfl,q}
theorem yBM(hu:X.A.units+64<GQ):OpR X (EQ .NotEq) (yN X.K AL):=by
 intro AE s σ H x y v u Q I rx ry h;obtain⟨d,e,hd,he,hm,q⟩:=h;obtain⟨as,ra⟩:=hd.reads I rx;obtain⟨bs,rb⟩:=he.reads I ry;exact SeqAt.compareNe_reads ra rb hd.can he.can 'l' {.bl _,H,I,rfl,q}
open Classical in
noncomputable def W8(h:DZ)(e:G2)(y:AH):Bool:=if z:∃(d:G2) (as:List AQ),aN h y d as then EE z.choose e else AD
theorem qT{e d:G2}{y:AH}{as:List AQ}(r:aN h y d as):W8 h e y=EE d e:=by
 have z:∃(d:G2) (as:List AQ),aN h y d as:={d,as,r};unfold W8;rw[dif_pos z];obtain⟨as',r'⟩:=z.choose_spec;rw[(aN.unique r _ _ r').1]
theorem xY:∀{us:List AH} {ds:List G2} {as:List AQ},XZ h us ds as->∀u∈us,∃d∈ds,∃bs,aN h u d bs:=by
 intro us
 induction us with
 |nil=>intro _ _ _ u hu;cases hu
 |cons v us ih =>
  intro ds as h u hu
  cases h with
  |cons r t =>
  rcases BD.mp hu with rfl|hu
  .exact{_,BB,_,r}
  .obtain⟨d,hd,bs,q⟩:=ih t u hu
   exact{d,A7 _ hd,bs,q}
theorem xX{e:G2}:∀{us:List AH} {ds:List G2} {as:List AQ},XZ h us ds as->us.any (W8 h e)=ds.any λd=>EE d e:=by
 intro us
 induction us with
 |nil=>intro ds as h;cases h;rfl
 |cons v us ih =>
  intro ds as h
  cases h with
  |cons r t=>rw[FK,FK,qT r,ih t]
theorem rK:∀{ds:List G2},FS ds=AL->∀d∈ds,d.canLay0=AL
 |[],_,d,hd=>by cases hd
 |x::ds,h,d,hd=>by
  rw[FS,EU] at h;rcases BD.mp hd with rfl|hd
  .exact h.1
  .exact rK h.2 d hd
def pM(K:AC)(bS:Bool):R2:=λx y H Q=>∃p xs ds e,y=.ref p/\(SqL K H p xs\/SqT K H p xs)/\DVs K H xs ds/\DV K H x e/\e.depth<=60 /\
 Q (.bl (if bS then !(ds.any λd=>EE d e) else ds.any λd=>EE d e)) H
theorem Mn(hu:X.A.units+64<GQ):OpR X (EQ .In) (pM X.K AD):=by
 intro AE s σ H x y v u Q I rx ry h;obtain⟨p,xs,ds,e,rfl,hq,XM,hx,hm,q⟩:=h;cases ry;obtain⟨bs,rb⟩:=hx.reads I rx
 have sI:X.A.in1.units+61<GQ:=by
  have:X.A.in1.units<=X.A.units+1:=by first|exact AM _|simp[Around.in1]
  lia
 rcases hq with hq|hq
 .obtain⟨CA,r,pl,hz⟩:=I.list hq
  obtain⟨as,ra⟩:=XM.reads I r;refine SeqAt.in_listAt (W8 s.heap e) pl.isList (λw hw=>?_) {.bl _,H,I,rfl,?_}
  .obtain⟨d,hd,cs,rd⟩:=xY ra w (by simpa using hw)
   rw[qT rd];exact MJ d e _ s w v cs bs rd rb (rK XM.can d hd) hx.can 'l'
  .rw[show CA.toArray.any (W8 s.heap e)=CA.any (W8 s.heap e) by simp,xX ra]
   exact q
 .obtain⟨CA,r,pl,hz⟩:=I.tuple hq
  obtain⟨as,ra⟩:=XM.reads I r;refine SeqAt.in_tupleAt (W8 s.heap e) pl (λw hw=>?_) {.bl _,H,I,rfl,?_}
  .obtain⟨d,hd,cs,rd⟩:=xY ra w (by simpa using hw)
   rw[qT rd];exact MJ d e _ s w v cs bs rd rb (rK XM.can d hd) hx.can 'l'
  .rw[show CA.toArray.any (W8 s.heap e)=CA.any (W8 s.heap e) by simp,xX ra]
   exact q
theorem zQJ(hu:X.A.units+64<GQ):OpR X (EQ .NotIn) (pM X.K AL):=by
 intro AE s σ H x y v u Q I rx ry h;obtain⟨p,xs,ds,e,rfl,hq,XM,hx,hm,q⟩:=h;cases ry;obtain⟨bs,rb⟩:=hx.reads I rx
 have sI:X.A.in1.units+61<GQ:=by
  have:X.A.in1.units<=X.A.units+1:=by first|exact AM _|simp[Around.in1]
  lia
 rcases hq with hq|hq
 .obtain⟨CA,r,pl,hz⟩:=I.list hq
  obtain⟨as,ra⟩:=XM.reads I r;refine SeqAt.notIn_listAt (W8 s.heap e) pl.isList (λw hw=>?_) {.bl _,H,I,rfl,?_}
  .obtain⟨d,hd,cs,rd⟩:=xY ra w (by simpa using hw)
   rw[qT rd];exact MJ d e _ s w v cs bs rd rb (rK XM.can d hd) hx.can 'l'
  .rw[show CA.toArray.any (W8 s.heap e)=CA.any (W8 s.heap e) by simp,xX ra]
   exact q
 .obtain⟨CA,r,pl,hz⟩:=I.tuple hq
  obtain⟨as,ra⟩:=XM.reads I r;refine SeqAt.notIn_tupleAt (W8 s.heap e) pl (λw hw=>?_) {.bl _,H,I,rfl,?_}
  .obtain⟨d,hd,cs,rd⟩:=xY ra w (by simpa using hw)
   rw[qT rd];exact MJ d e _ s w v cs bs rd rb (rK XM.can d hd) hx.can 'l'
  .rw[show CA.toArray.any (W8 s.heap e)=CA.any (W8 s.heap e) by simp,xX ra]
   exact q
theorem DVs.ints{K:AC}{H:Hp}:∀ns:List Int,DVs K H (ns.map V.int) (ns.map YO)
 |[]=>.nil
 |n::ns=>.cons (.int n) (DVs.ints ns)
theorem Cs(x:Int):∀ns:List Int,((ns.map YO).any λd=>EE d (.int x))=decide (x∈ns)
 |[]=>rfl
 |n::ns=>by
  rw[AX,FK,Cs x ns,EE]
  by_cases h:n=x
  .subst h;simp
  .have h':¬x=n:=λz=>h z.symm
   simp[h,h']
def Gr(H H':Hp):Prop:=∀b u,H b=AA u->H' b=AA u
theorem Gr.trans(g:Gr H H1)(g':Gr H1 H2):Gr H H2:=λb u e=>g' b u (g b u e)
theorem Gr.new{p:AQ}(hp:H p=AI):Gr H (DU H p o):=λb u e=>by rw[EL (T4 e hp)];exact e
theorem SqT.gr{K:AC}(h:SqT K H a xs)(g:Gr H H'):SqT K H' a xs:=by
 rcases h with h|h
 .rcases h with h|⟨o,h⟩
  .exact .inl (.inl (g _ _ h))
  .exact .inl (.inr {o,g _ _ h})
 .exact .inr h
theorem zD3{t sl:AQ}{lo:Option Int}(ht:SR s.heap t items)(hs:s.heap.IsSliceOf sl vl vu .none)(pl:P0 vl lo)(pu:P0 vu hi)
  (hw:HT.sIx items.size 0 lo=0/\HT.sIx items.size items.size hi=items.size) (h:Q (.ref t) s):AZ (A3 prog w) A (P6 (.ref t) (.ref sl)) Q E s:=by
 obtain⟨os,mY,XN,XM⟩:=id hs;have Kb:s.TypeIs (.ref sl) "slice":={os,mY,XN};unfold P6
 try with_reducible refine C7 ?_
 first|refine AB (wpAny_pure ?_)|skip
 refine AB (wpAny_sequenceKey ht.typeIs 'd' ?_)
 refine AB (C5 (name:=EN "__getitem__") ht.typeIs D6
  (DD D6 ht.typeIs kK ?_ (args_tuple_getitem _ _)))
 show AZ _ _ (O1 (.ref t) >>= _) _ _ s;refine AB (tupleItemsOf_ ht ?_);refine AB (cW Kb ?_);rw[if_pos 'd'];refine AB (HT.sliceApplied_gen hs pl pu ?_);rw[hw.1,hw.2];have e:(((0:Nat):Int)==0&&(1:Int)==1&&(items.size-0)==items.size)=AL:=by simp
 show AZ _ _ (if(((0:Nat):Int)==0&&(1:Int)==1&&(items.size-0)==items.size)=AL then _ else _) _ _ s;rw[if_pos e];show AZ _ _ (O2 (.ref t) >>= _) _ _ s;unfold O2;refine AB (AB (cW ht.typeIs (wpAny_pure ?_)));show AZ _ _ (if(SM "tuple"==SM "tuple")=AL then _ else _) _ _ s;rw[if_pos 'd'];exact AB (E8 (wpAny_pure {_,rfl,wpAny_pure h}))
theorem zXM{t b:AQ}{vs:List AH}(ht:SR s.heap t vs.toArray)(hb:SR s.heap b ws.toArray)
  (h0:vs=[]->Q (.ref b) s) (h1:vs≠[]->ws=[]->Q (.ref t) s) (h2:vs≠[]->ws≠[]->Q (.ref s.heap.objs.size) { s with heap:=s.heap.push { cls:=.type "tuple",data:=.seq (vs++ws).toArray } })
  (hsz:vs.length+ws.length<=sizeLine):AZ (A3 prog w) A (G8 .Add (.ref t) (.ref b)) Q E s:=by
 by_cases hv:vs=[]
 .obtain⟨⟨cls,dd,data,sl⟩,ho,hc,n,hd⟩:=id ht
  obtain⟨⟨vV,kG,data2,jP⟩,YF,cN,n2,eT⟩:=id hb;simp only at hc hd cN eT;subst hc hd cN eT
  exact SL {_,ho,rfl} {_,YF,rfl} UW ZO ML LU (LJ _ _)
   (tuple_addW0 t b vs.toArray ws.toArray n n2 dd kG sl jP (by simp[hv])) {ho,YF,h0 hv}
 .exact HT.cat_tup ht hb hv (h1 hv) (h2 hv) hsz
theorem zQK{lo:Option Int}(h:HT.sIx xs.length 0 lo=0/\HT.sIx xs.length xs.length hi=xs.length):X7 xs lo hi=xs:=by
 unfold X7;rw[h.1,h.2,N0,Nat.sub_zero,D5]
section
variable(K:AC)
end
theorem zTK{c:AH}{b:Bool}(I:Inv X AE σ H s)(ha:SqT X.K H a xs)
  (e:BP X.K (.type "tuple") c=AA b) (h:∀tk,Q (.bool b) { s with toks:=tk }):AZ (A3 X.prog X.w) A (call (.builtin "isinstance") [.ref a,c]) Q E s:=by
 obtain⟨CA,r,p,_⟩:=I.tuple ha;obtain⟨o,h1,h2,_⟩:=p;exact DA X1 I.kIn {o,h1,h2} e (λz=>nomatch z) h
theorem zXN{bs:List Bool}:∀{us:List AH},Vals (bs.map V.bl) us->us=bs.map IX:=by
 induction bs with
 |nil=>intro us r;rw[M3] at r;cases r;rfl
 |cons b bs ih =>
  intro us r;rw[AX] at r
  cases r with
  |cons r1 r2=>cases r1;rw[ih r2];rfl
theorem zQL(bs:List Bool):(C9 bs.length).all (λi=>bs.getD i AD)=bs.all id:=by
 rw[Bool.eq_iff_iff,fJ,fJ];constructor
 .intro h b hb
  obtain⟨i,hi,e⟩:=YR.mp hb;have:=h i (HA.mpr hi);rw[LB,BU hi] at this;rw[<-e];exact this
 .intro h i hi
  have hi:=HA.mp hi;rw[LB,BU hi];exact h _ (HB hi)
theorem zTL(bs:List Bool):TruthOf prog w A (λi v=>(bs.map IX).toArray[i]?=AA v) (λi=>bs.getD i AD):=by
 intro i v s Q E hP hQ;have hP:(bs.map IX)[i]?=AA v:=by simpa using hP
 rw[AU] at hP
 cases e:bs[i]? with
 |none=>rw[e] at hP;cases hP
 |some b =>
  rw[e] at hP;cases hP;refine IL ?_;have e3:bs.getD i AD=b:=by rw[LB,e];rfl
  have hQ:Q (bs.getD i AD) s:=hQ;rw[e3] at hQ;exact hQ
def Ta(K:AC):List V->Hp->VK->Prop:=λxs H Q=>∃(p:AQ) (bs:List Bool),xs=[.ref p]/\SqL K H p (bs.map V.bl)/\Q (.bl (bs.all id)) H
theorem zTM(hc:X.calm=AL):CallR X (.builtin "all") (Ta X.K):=by
 intro AE s σ H xs us Q I r h;obtain⟨p,bs,rfl,hp,q⟩:=h;obtain⟨u,rfl,ru⟩:=Y1 r;cases ru;obtain⟨CA,rv,pl,hz⟩:=I.list hp;have e:=zXN rv;subst e;have JI:p<s.heap.objs.size:=by obtain⟨o,ho,_⟩:=pl.isList;exact A8 ho
 refine call_all_walk (KA pl.isList ?_);refine{_,_,_,_,_,_,λi=>bs.getD i AD,rfl,Walks.list (by have:=I.ok.hd hc;simp[this]) _ p (B0 JI) (bs.map IX).toArray,{{_,AV _ rfl,rfl,rfl},pl.isList.push _},zTL bs,λh' tk hk=>?_};have e2:(C9 (bs.map IX).toArray.size).all (λi=>bs.getD i AD)=bs.all id:=by simpa using zQL bs
 refine{.bl (bs.all id),H,I.kept (t':=tk) λb o e=>hk b o ?_ (AF _ e),by rw[e2];rfl,q};simp only[A5];exact B0 (A8 e)
abbrev dO(h:DZ)(n:AQ)(f0:AH)(f1:Bool)(i:Int)(HV:AH):Prop :=
 h.get? (n+1)=AA { cls:=.type "enumerate",dict:=AI,data:=.fields #[f0,.bool f1,.ref n,ES i,.none,HV],slots:=#[] }
theorem zQM{n:AQ}{f0 HV:AH}{f1:Bool}{i:Int}{Q:Bool->AT->Prop}(hz:dO s.heap n f0 f1 i HV)(hf:F0 f0)
  (h:∀b h' f1,dO h' n f0 f1 i HV->DG (n+1) s.heap h'->Q b { s with heap:=h' }):AZ (A3 prog w) A (CW (.ref (n+1))) Q E s:=by
 unfold CW;rcases hf with rfl|⟨T,rfl⟩
 .exact AB (C8 hz rfl (x:=.none) rfl (wpAny_pure (h AL s.heap f1 hz (jF _ _))))
 .refine AB (C8 hz rfl (x:=ES T) rfl ?_)
  show AZ _ _ (iC (T:Int).toNat >>= _) _ _ _;refine AB (Qe ?_)
  cases e:(s.heap.get? (T:Int).toNat).isNone with
  |true=>exact wpAny_pure (h AL s.heap f1 hz (jF _ _))
  |false =>
   simp only[D3,if_false];refine AB (C8 hz rfl (x:=.bool f1) rfl ?_)
   cases f1 with
   |true=>exact wpAny_pure (h AD s.heap AL hz (jF _ _))
   |false =>
    show AZ _ _ (NT (.ref (n+1)) 1 (.bool AL) >>= _) _ _ _;exact AB (CS hz 's' λh' eN RI=>wpAny_pure (h AD h' AL eN RI))
theorem lt2{c S:Nat}(h:c∈[n,n+1])(JI:n+1<S):c<S:=by
 simp only[BD,CZ,or_false] at h;lia
theorem Vd{c:Nat}(h:c∈[n,n+1]):n<=c:=by
 simp only[BD,CZ,or_false] at h;lia
def PairsAt(K:AC)(H:Hp)(zs:List V)(ps:List (Int×Int)):Prop:=Paired (λ(z:V) (p:Int×Int)=>∃q,z=.ref q/\SqT K H q [.int p.1,.int p.2]) zs ps
theorem PairsAt.gr{K:AC}{H H':Hp}{zs:List V}{ps:List (Int×Int)}(h:PairsAt K H zs ps)(g:Gr H H'):PairsAt K H' zs ps:=pA0 h (λ_ _ q0=>by obtain⟨q,e,k⟩:=q0;exact{q,e,k.gr g})
section
variable{a b x:AH}{T I S:AQ}
end
theorem zQN{l1 l2:List V}(pp:l1.Perm l2):∀ns:List Int,l2=ns.map V.int->∃ms:List Int,l1=ms.map V.int/\ms.Perm ns:=by
 induction pp with
 |nil=>intro ns e;cases ns with|nil=>exact{[],rfl,GY _}|cons _ _=>cases e
 |cons a _ ih =>
  intro ns e
  cases ns with
  |nil=>cases e
  |cons b ns =>
   rw[AX] at e;injection e with e1 e2;obtain⟨ms,h1,h2⟩:=ih ns e2;exact{b::ms,by rw[AX,e1,h1],h2.cons b}
 |swap a b l =>
  intro ns e
  match ns,e with
  |c::d::ns,e =>
   rw[AX,AX] at e;injection e with e1 e2;injection e2 with e2 e3;exact{d::c::ns,by rw[AX,AX,e1,e2,e3],HN _ _ _}
 |trans _ _ Z9 ih2 =>
  intro ns e;obtain⟨ms,h1,h2⟩:=ih2 ns e;obtain⟨ks,h3,h4⟩:=Z9 ms h1;exact{ks,h3,h4.trans h2}
theorem lR{kvs:List (Key×V)}(x:ObjOk P w H h a (.dK kvs)):∃es ep,RawD h a es ep/\es.size=kvs.length/\kvs.length<=sizeLine /\
  ∀(i:Nat) (hi:i<es.size),∃k:Key,(kvs.map (·.1))[i]?=AA k/\RelV (kV k) es[i].key:=by
 obtain⟨z,y,vs,r,o,es,ep,h1,h2,h3,h4,h5,h6⟩:=x;have hl:es.size=vs.length:=by rw[<-h5.length];simp
 have aF:kvs.length=vs.length:=r.length;refine{es,ep,{{o,h1,h2,h3},y},by lia,z,λi hi=>?_};have RV:i<vs.length:=AN hi (CO hl);obtain⟨e1,_⟩:=h5.get? (i:=i) (e:=es[i]) (k:=vs[i].1) (v:=vs[i].2) (by simp[hi]) (by simp[RV]);refine{vs[i].1,by rw[r.keys];simp[RV],?_};rw[Rp] at e1;rcases bG e1 with⟨j,t,z1,z2⟩|⟨y,t,z1,z2⟩
 .rw[z1,z2];exact{t,rfl}
 .rw[z1,z2];exact{t,rfl}
def zF(d:AQ)(o:HL)(kvs:List (Key×V)):It :=
 {λi H=>i<kvs.length/\H d=AA (.frz o (.dK kvs)),λi H x H'=>H'=H/\∃k,x=kV k/\(kvs.map (·.1))[i]?=AA k,λi H=>kvs.length<=i/\H d=AA (.frz o (.dK kvs))}
theorem xS{K:AC}(d it:AQ)(o:HL)(kvs:List (Key×V))(es:Array JY)(ep:Nat)(hd:o.data=.dict es ep)(hz:es.size=kvs.length) :
  Turn P w K tg (zF d o kvs) [it] it (λi h=>h.IsKeyIter it d i es.size ep) where
 mem:=by simp
 obj:=λi h st b hb=>by
  have e:b=it:=by simpa using hb
  subst e;obtain⟨o,e,c,d⟩:=st;exact{o,e,λv z=>by rw[d] at z;cases z}
 keep:=λi h h' st k=>let ⟨o,e,r⟩:=st;{o,k it 's' o e,r}
 item:=by
  intro X hP hw hK hc i AE s σ H E I hf st hg;subst hP hw hK;obtain⟨hi,hk⟩:=hg;obtain⟨ho,hx⟩:=I.hok d _ hk;obtain⟨kC,kD,KH,e1,e2,e3⟩:=lR hx;obtain⟨o',q1,q2,q3⟩:=KH.ex;rw[ho] at q1;cases q1;rw[hd] at q3;injection q3 with q4 q5;subst q4;subst q5;obtain⟨f0,f1,f2,f3,f4,f5⟩:=hf it 's';refine Ow st KH 'l' λh' CM sb=>?_;obtain⟨k,p2,p3⟩:=e3 i 'l';have I1:Inv X AE σ H { s with heap:=h' }:=I.turned (t':=s.toks) (λb ob hb e=>(sb.2 b hb).trans e) f0 f1 f3 f4 f5;obtain⟨oi,e,c,dd⟩:=id CM;refine{_,rfl,qN (s:={ s with heap:=h' }) e c dd 'd' {kV k,H,I1,p3,{rfl,k,rfl,p2},CM,λb hb=>(hf b hb).1}}
 done:=by
  intro X hP hw hK hc i AE s σ H E I hf st hg;subst hP hw hK;obtain⟨hi,hk⟩:=hg;obtain⟨ho,hx⟩:=I.hok d _ hk;obtain⟨kC,kD,KH,e1,e2,e3⟩:=lR hx;obtain⟨o',q1,q2,q3⟩:=KH.ex;rw[ho] at q1;cases q1;rw[hd] at q3;injection q3 with q4 q5;subst q4;subst q5;obtain⟨f0,f1,f2,f3,f4,f5⟩:=hf it 's';exact Nm (I.ok.hd hc) st KH (AY (CO hz) hi) λh' eb=>{rfl,I.turned (t':=s.toks) (λb ob hb e=>eb b ob hb e) f0 f1 f3 f4 f5}
 self:=λ_ _ _ _ _ st h=>hU st h
theorem Inv.freezeK{kvs:List (Key×V)}(I:Inv X AE σ H s)(ha:H a=AA (.dK kvs)) :
  ∃o,s.heap.get? a=AA o/\Inv X AE σ (DU H a (.frz o (.dK kvs))) s:=by
 have x:=I.hok a _ ha;obtain⟨es,ep,⟨⟨o,h1,h2,h3⟩,_⟩,_⟩:=lR x;have kt:∀b ys,H b=AA (.tup ys)->b≠a:=λb ys e z=>by rw[z,ha] at e;cases e
 have ko:∀b y,H b=AA (.own y)->b≠a:=λb y e z=>by rw[z,ha] at e;cases e
 have kf:∀b ob u,H b=AA (.frz ob u)->b≠a:=λb ob u e z=>by rw[z,ha] at e;cases e
 have kb:∀b t ps,H b=AA (.tbl t ps)->b≠a:=λb t ps e z=>by rw[z,ha] at e;cases e
 have kn:∀b,H b=AI->b≠a:=λb e z=>by rw[z,ha] at e;cases e
 refine{o,h1,I.un (t':=s.toks) (h':=s.heap) {λb ob e _ _ _=>e,λb ob e _ _ _=>{ob.slots,e},λb ob e n _=>by rw[EL (kn b n)];exact n,λb ob e _=>{ob,e},λb ys e=>by rw[EL (kt b ys e)];exact e,λb ob u e=>by rw[EL (kf b ob u e)];exact e,λb t ps e=>{#[],by rw[EL (kb b t ps e),e];simp}} λb u e=>?_}
 by_cases hb:b=a
 .subst hb
  rw[G3] at e;cases e;exact{h1,x.stay (λc v _ q=>q) (λc q=>by rw[EL (ko c _ q)];exact q) (λc ys q=>by rw[EL (kt c ys q)];exact q) λc ob x q=>by rw[EL (kf c ob _ q)];exact q}
 .rw[EL hb] at e
  exact(I.hok b u e).stay (λc v _ q=>q) (λc q=>by rw[EL (ko c _ q)];exact q) (λc ys q=>by rw[EL (kt c ys q)];exact q) λc ob x q=>by rw[EL (kf c ob _ q)];exact q
def Mm(tl:TE):TI:=λσ H R=>tl σ H λx H1=>∃a kvs,x=.ref a/\H1 a=AA (.dK kvs)/\∀o,R (zF a o kvs) (DU H1 a (.frz o (.dK kvs)))
theorem zTN{l:CU}(hl:PE X l tl):PI X tg l (Mm tl):=by
 intro AE s σ H R I h;refine GN (hl AE s σ H _ I h) λv s1 q0=>?_;obtain⟨x,H1,I1,r1,a,kvs,e,ha,q⟩:=q0;subst e;cases r1;obtain⟨o,ho,I2⟩:=I1.freezeK ha;obtain⟨es,ep,KH,e1,e2,e3⟩:=lR (I1.hok a _ ha);obtain⟨o',q1,q2,q3⟩:=id KH.ex;rw[ho] at q1;cases q1;refine oU KH λh' k ki=>?_;refine{s1.heap.objs.size,[s1.heap.objs.size],_,_,_,rfl,I2.kept (t':=s1.toks) k,xS a _ o kvs es ep q3 e1,ki,λb hb=>?_,q o};have e:b=s1.heap.objs.size:=by simpa using hb
 subst e;exact I2.fpOk (AM _) (I2.hok.fresh (AM _))
end L2
namespace TS
open PySem PyProof.Rows
section
variable{prog:CI}{w:DY}{A:DJ}{E:AH->AT->Prop}{s:AT}{BS:Array A9}{kd:FC}{L:A9->A9->Bool}
def VR(prog:CI)(w:DY)(A:DJ)(s:AT)(kd:FC)(BS:Array A9)(L:A9->A9->Bool):Prop :=
 ∀x y:A9,x∈BS->y∈BS->∀(Q:Bool->AT->Prop) (E:AH->AT->Prop),Q (L x y) s->AZ (A3 prog w) A (keyLt' kd x.1 y.1) Q E s
theorem wT{st:BO}{x y:A9}{Q:Option Bool->BO->Prop}(hA:VR prog w A s kd BS L)(hk:kindOf st=kd)(hx:x∈BS)(hy:y∈BS)(h:Q (AA (L x y)) st) :
  NE (A3 prog w) A E s (lt' x y) Q st:=by
 rw[lt'_eq];refine BI (MZ ?_);rw[hk];refine BI (PQ (GH (hA x y hx hy _ _ {rfl,?_})));exact BE h
def Vm(B:Nat->Bool)(n k:Nat):Prop:=k<=n/\(∀i<k,B i=AL)/\∀i,k<=i->i<n->B i=AD
theorem Et{α β γ:Type}{T:β->γ->StateT BO RQ α}{M:Model}{A:DJ}{E:AH->AT->Prop}{s:AT}{Q:α->BO->Prop}{st:BO}{NC:Prop}(P:β->γ->Prop)(h1:(∀x y,P x y->NE M A E s (T x y) Q st)->NC)(h2:∀x y,P x y->NE M A E s (T x y) Q st):NC:=h1 h2
theorem Rj{st:BO}{left:Bool}{J6:A9}{G6:Array A9}{base n FL:Nat}{Q:Option Nat->BO->Prop}{B:Nat->Bool}(hA:VR prog w A s kd BS L)(hk:kindOf st=kd)(NB:J6∈BS)(PJ:∀x∈G6,x∈BS)
  (hb:base+n<=G6.size) (hh:FL<n) (hB:∀i (hi:base+i<G6.size),B i=if left then L G6[base+i] J6 else !L J6 G6[base+i]) (mono:∀i j,i<=j->j<n->B j=AL->B i=AL)
  (h:∀k,Vm B n k->Q (AA k) st):NE (A3 prog w) A E s (rL left J6 G6 base n FL) Q st:=by
 have hm:∀(i:Nat) (hi:base+i<G6.size),G6[base+i]∈BS:=λi hi=>PJ _ (AG hi)
 have n6:∀i j,i<=j->j<n->B i=AD->B j=AD:=λi j LL hj hi=>by
  cases e:B j with
  |false=>rfl
  |true=>rw[mono i j LL hj e] at hi;cases hi
 have Aa:∀(i:Nat) (hi:i<n) {Q:Option Bool->BO->Prop},Q (AA (B i)) st->NE (A3 prog w) A E s (do let x <-elem' G6 (base+i);if left=AL then lt' x J6 else return (<-lt' J6 x).map (!·)) Q st:=λi hi {Q} q=>by
  have RV:base+i<G6.size:=AN (A6 hi _) hb;have eB:=hB i RV;refine BI (oV RV (LC (λhl=>wT hA hk (hm _ RV) NB ?_) λhl=>BI (wT hA hk NB (hm _ RV) (BE ?_))))
  .rw[if_pos hl] at eB;rw[<-eB];exact q
  .rw[if_neg hl] at eB;show Q (AA (!_)) st;rw[<-eB];exact q
 clear hB
 refine Et (M:=A3 prog w) (A:=A) (E:=E) (s:=s) (λlo hi:Nat=>lo<=hi/\hi<=n/\(∀i<lo,B i=AL)/\∀i,hi<=i->i<n->B i=AD) (λK=>by
  refine BI (Aa FL hh ?_)
  cases e:B FL with
  |true =>
   refine BI (JK (FT (I:=λx c CM=>CM=st/\∃l o,c=(AI,l,o)/\B (FL+l)=AL/\FL+l<n/\l<o/\x+1<=o)
    (Q:=λc CM=>CM=st/\∃l o,c=(AI,l,o)/\B (FL+l)=AL/\FL+l<n/\l<o/\(n-FL<=o\/FL+o<n/\B (FL+o)=AD)) ?step ((λc CM q0=>by obtain⟨e,l,o,e1,e2,e3,e4,e5⟩:=q0;exact{e,l,o,e1,e2,e3,e4,.inl 'o'})) {rfl,0,1,rfl,e,hh,DS _,AM _}) ?post)
   case step =>
    rintro x c CM _ _ ⟨rfl,l,o,rfl,h1,h2,h3,h4⟩
    try dsimp only
    refine LC (λq=>BE {rfl,l,o,rfl,h1,h2,h3,.inl q}) (λq=>?_);refine BI (Aa (FL+o) 'o' ?_)
    cases e:B (FL+o) with
    |true=>exact BE {rfl,o,2 * o+1,rfl,e,by omega,by omega,by omega}
    |false=>exact BE {rfl,l,o,rfl,h1,h2,h3,.inr {by omega,e}}
   case post =>
    rintro c CM ⟨rfl,l,o,rfl,h1,h2,h3,h4⟩
    have hP:FL+l+1<=FL+min o (n-FL)/\FL+min o (n-FL)<=n/\(∀i<FL+l+1,B i=AL)/\∀i,FL+min o (n-FL)<=i->i<n->B i=AD:={by omega,by omega,λi hi=>mono i (FL+l) (IB hi) h2 h1,λi hi hn=>by
     rcases h4 with h4|⟨h4,h5⟩
     .omega
     .exact n6 (FL+o) i 'o' hn h5}
    revert hP
    dsimp only;generalize FL+l+1=lo',FL+min o (n-FL)=RV;exact λhP=>K lo' RV hP
  |false =>
   refine BI (JK (FT (I:=λx c CM=>CM=st/\∃l o,c=(AI,l,o)/\B (FL-l)=AD/\l<=FL/\l<o/\x+1<=o)
    (Q:=λc CM=>CM=st/\∃l o,c=(AI,l,o)/\B (FL-l)=AD/\l<=FL/\l<o/\(FL+1<=o\/o<=FL/\B (FL-o)=AL)) ?step ((λc CM q0=>by obtain⟨e,l,o,e1,e2,e3,e4,e5⟩:=q0;exact{e,l,o,e1,e2,e3,e4,.inl 'o'})) {rfl,0,1,rfl,e,BR _,DS _,AM _}) ?post)
   case step =>
    rintro x c CM _ _ ⟨rfl,l,o,rfl,h1,h2,h3,h4⟩
    try dsimp only
    refine LC (λq=>BE {rfl,l,o,rfl,h1,h2,h3,.inl q}) (λq=>?_);refine BI (Aa (FL-o) (AS (C4 _ _) hh) ?_)
    cases e:B (FL-o) with
    |true=>exact BE {rfl,l,o,rfl,h1,h2,h3,.inr {IB (iJ q),e}}
    |false=>exact BE {rfl,o,2 * o+1,rfl,e,IB (iJ q),by omega,by omega}
   case post =>
    rintro c CM ⟨rfl,l,o,rfl,h1,h2,h3,h4⟩
    exact K (FL+1-min o (FL+1)) (FL-l) {by omega,CN (AS (C4 _ _) hh),λi hi=>by
     rcases h4 with h4|⟨h4,h5⟩
     .omega
     .exact mono i (FL-o) 'o' (AS (C4 _ _) hh) h5,λi hi hn=>n6 (FL-l) i hi hn h1}) ?_
 rintro lo hi ⟨p1,p2,p3,p4⟩
 refine BI (JK (FT (I:=λx c st2=>st2=st/\∃l r,c=(AI,l,r)/\l<=r/\r<=n/\(∀i<l,B i=AL)/\(∀i,r<=i->i<n->B i=AD)/\r-l+x<=n)
  (Q:=λc st2=>st2=st/\∃l r,c=(AI,l,r)/\Vm B n r) ?st2 ((λc st2 q0=>by obtain⟨e,l,r,e1,e2,e3,e4,e5,e6⟩:=q0;exact{e,l,r,e1,e3,λi hi=>e4 i 'o',e5})) {rfl,lo,hi,rfl,p1,p2,p3,p4,by omega}) ?po2)
 case po2 =>
  rintro c st2 ⟨rfl,l,r,rfl,hr⟩;exact BE (h r hr)
 case st2 =>
  rintro x c st2 _ _ ⟨rfl,l,r,rfl,q1,q2,q3,q4,q5⟩
  try dsimp only
  refine LC (λq=>BE {rfl,l,r,rfl,q2,λi hi=>q3 i 'o',q4}) (λq=>?_);refine BI (Aa (l+(r-l) / 2) 'o' ?_)
  cases e:B (l+(r-l) / 2) with
  |true=>exact BE {rfl,l+(r-l) / 2+1,r,rfl,by omega,q2,λi hi=>mono i (l+(r-l) / 2) (IB hi) 'o' e,q4,by omega}
  |false=>exact BE {rfl,l,l+(r-l) / 2,rfl,A2 _ _,by omega,q3,λi hi hn=>n6 (l+(r-l) / 2) i hi hn e,by omega}
end
structure Ord(L:A9->A9->Bool)(BS:Array A9):Prop where
 asym:∀x y,x∈BS->y∈BS->L x y=AL->L y x=AD
 trans:∀x y z,x∈BS->y∈BS->z∈BS->L y x=AD->L z y=AD->L z x=AD
def SA(L:A9->A9->Bool)(a:Array A9):Prop:=∀(i j:Nat) (hj:j<a.size) (LL:i<j),L a[j] (a[i]'(C1 LL hj))=AD
theorem Ord.refl{L:A9->A9->Bool}{BS:Array A9}(O:Ord L BS){x:A9}(hx:x∈BS):L x x=AD:=by
 cases e:L x x with
 |false=>rfl
 |true=>rw[O.asym x x hx hx e] at e;cases e
theorem SA.le{L:A9->A9->Bool}{BS a:Array A9}(O:Ord L BS)(ha:∀x∈a,x∈BS)(s:SA L a){i j:Nat}(hj:j<a.size)(LL:i<=j):L a[j] (a[i]'(AS LL hj))=AD:=by
 rcases DF LL with h|h
 .exact s i j hj h
 .subst h;exact O.refl (ha _ (AG _))
section
variable{prog:CI}{w:DY}{A:DJ}{E:AH->AT->Prop}{s:AT}{BS:Array A9}{kd:FC}{L:A9->A9->Bool}
theorem Qd{st:BO}{J6:A9}{G6:Array A9}{base n FL:Nat}{Q:Option Nat->BO->Prop}(hA:VR prog w A s kd BS L)(O:Ord L BS)(hk:kindOf st=kd)(NB:J6∈BS)(PJ:∀x∈G6,x∈BS)
  (hb:base+n<=G6.size) (hh:FL<n) (sl:∀(i j:Nat) (hj:base+j<G6.size) (LL:i<j),j<n->L G6[base+j] (G6[base+i]'(C1 (A6 LL _) hj))=AD)
  (h:∀k,k<=n->(∀(i:Nat) (hi:base+i<G6.size),i<k->L J6 G6[base+i]=AD)->(∀(i:Nat) (hi:base+i<G6.size),k<=i->i<n->L J6 G6[base+i]=AL)->Q (AA k) st):NE (A3 prog w) A E s (rL AD J6 G6 base n FL) Q st:=by
 refine Rj (B:=λi=>if hi:base+i<G6.size then !L J6 G6[base+i] else AD) hA hk NB PJ hb hh (λi hi=>by simp[hi]) (λi j LL hj e=>?_) λk ⟨c1,c2,c3⟩=>h k c1 (λi hi cJ=>?_) (λi hi Je WU=>?_)
 .rcases DF LL with h'|h'
  .have aG:base+j<G6.size:=AN (A6 hj _) hb
   have RV:base+i<G6.size:=AS (EC (AM _) LL) aG;rw[dif_pos aG] at e;show(if hi:base+i<G6.size then !L J6 G6[base+i] else AD)=AL;rw[dif_pos RV];have e':L J6 G6[base+j]=AD:=by simpa using e
   rw[O.trans _ _ _ (PJ _ (AG RV)) (PJ _ (AG aG)) NB (sl i j aG h' hj) e']
   rfl
  .subst h';exact e
 .have:=c2 i cJ
  simpa[hi] using this
 .have:=c3 i Je WU
  simpa[hi] using this
theorem Qc{st:BO}{J6:A9}{G6:Array A9}{base n FL:Nat}{Q:Option Nat->BO->Prop}(hA:VR prog w A s kd BS L)(O:Ord L BS)(hk:kindOf st=kd)(NB:J6∈BS)(PJ:∀x∈G6,x∈BS)
  (hb:base+n<=G6.size) (hh:FL<n) (sl:∀(i j:Nat) (hj:base+j<G6.size) (LL:i<j),j<n->L G6[base+j] (G6[base+i]'(C1 (A6 LL _) hj))=AD)
  (h:∀k,k<=n->(∀(i:Nat) (hi:base+i<G6.size),i<k->L G6[base+i] J6=AL)->(∀(i:Nat) (hi:base+i<G6.size),k<=i->i<n->L G6[base+i] J6=AD)->Q (AA k) st):NE (A3 prog w) A E s (rL AL J6 G6 base n FL) Q st:=by
 refine Rj (B:=λi=>if hi:base+i<G6.size then L G6[base+i] J6 else AD) hA hk NB PJ hb hh (λi hi=>by simp[hi]) (λi j LL hj e=>?_) λk ⟨c1,c2,c3⟩=>h k c1 (λi hi cJ=>?_) (λi hi Je WU=>?_)
 .rcases DF LL with h'|h'
  .have aG:base+j<G6.size:=AN (A6 hj _) hb
   have RV:base+i<G6.size:=AS (EC (AM _) LL) aG;rw[dif_pos aG] at e;show(if hi:base+i<G6.size then L G6[base+i] J6 else AD)=AL;rw[dif_pos RV]
   cases ei:L G6[base+i] J6 with
   |true=>rfl
   |false =>
    rw[O.trans _ _ _ NB (PJ _ (AG RV)) (PJ _ (AG aG)) ei (sl i j aG h' hj)] at e;cases e
  .subst h';exact e
 .have:=c2 i cJ
  simpa[hi] using this
 .have:=c3 i Je WU
  simpa[hi] using this
end
structure MidO(L:A9->A9->Bool)(a b out:Array A9)(ia ib:Nat):Prop where
 m:Mid a b out ia ib
 so:out.toList.Pairwise λx y=>L y x=AD
 oa:∀x∈out,∀(i:Nat) (hi:i<a.size),ia<=i->L a[i] x=AD
 ob:∀x∈out,∀(i:Nat) (hi:i<b.size),ib<=i->L b[i] x=AD
section
variable{L:A9->A9->Bool}{a b out:Array A9}{ia ib:Nat}
theorem Nl{x:A9}(h:out.toList.Pairwise λx y=>L y x=AD)(hx:∀y∈out,L x y=AD):(out.push x).toList.Pairwise λx y=>L y x=AD:=by
 rw[EZ,GT];refine{h,JF _ _,λy hy z hz=>?_};rw[A5.mp hz];exact hx y (GR.mp hy)
theorem MidO.pushB(m:MidO L a b out ia ib)(sb:SA L b)(h:ib<b.size)(TF:∀(i:Nat) (hi:i<a.size),ia<=i->L a[i] b[ib]=AD):MidO L a b (out.push b[ib]) ia (ib+1) where
 m:=m.m.pushB h
 so:=Nl m.so λy hy=>m.ob y hy ib h (AM _)
 oa:=λx hx i hi OR=>by
  rcases G9.mp hx with hx|rfl
  .exact m.oa x hx i hi OR
  .exact TF i hi OR
 ob:=λx hx i hi QV=>by
  rcases G9.mp hx with hx|rfl
  .exact m.ob x hx i hi (AY (A2 _ _) QV)
  .exact sb ib i hi (FW QV)
theorem MidO.pushA(m:MidO L a b out ia ib)(sa:SA L a)(h:ia<a.size)(TF:∀(i:Nat) (hi:i<b.size),ib<=i->L b[i] a[ia]=AD):MidO L a b (out.push a[ia]) (ia+1) ib where
 m:=m.m.pushA h
 so:=Nl m.so λy hy=>m.oa y hy ia h (AM _)
 oa:=λx hx i hi OR=>by
  rcases G9.mp hx with hx|rfl
  .exact m.oa x hx i hi (AY (A2 _ _) OR)
  .exact sa ia i hi (FW OR)
 ob:=λx hx i hi QV=>by
  rcases G9.mp hx with hx|rfl
  .exact m.ob x hx i hi QV
  .exact TF i hi QV
theorem Cr(a:Array A9){i k:Nat}(h:i+k<a.size):out++a.extract i (i+(k+1))=(out++a.extract i (i+k)).push a[i+k]:=by
 apply Array.ext'
 rw[EG,EZ,EG,KD,KD,CF]
 congr 1
 show(a.toList.drop i).take (i+(k+1)-i)=(a.toList.drop i).take (i+k-i)++[a[i+k]];rw[show i+(k+1)-i=k+1 from MU _ _,show i+k-i=k from MU _ _,BJ (by simp;lia)];simp
theorem MidO.manyA(sa:SA L a):∀{k:Nat},MidO L a b out ia ib->ia+k<=a.size->(∀(i:Nat) (hi:i<a.size),ia<=i->i<ia+k->∀(j:Nat) (hj:j<b.size),ib<=j->L b[j] a[i]=AD)->MidO L a b (out++a.extract ia (ia+k)) (ia+k) ib
 |0,m,_,_=>by
  have e:out++a.extract ia (ia+0)=out:=by simp<;>lia
  rw[e];exact m
 |k+1,m,h,TF=>by
  have z:=MidO.manyA sa (k:=k) m 'l' λi hi h1 h2=>TF i hi h1 (C1 h2 (A6 (DS _) _));rw[Cr a (show ia+k<a.size from AN (A6 (DS _) _) h)];exact z.pushA sa (AN (A6 (DS _) _) h) λj hj uW=>TF (ia+k) (AN (A6 (DS _) _) h) (A2 _ _) (A6 (DS _) _) j hj uW
theorem MidO.manyB(sb:SA L b):∀{k:Nat},MidO L a b out ia ib->ib+k<=b.size->(∀(i:Nat) (hi:i<b.size),ib<=i->i<ib+k->∀(j:Nat) (hj:j<a.size),ia<=j->L a[j] b[i]=AD)->MidO L a b (out++b.extract ib (ib+k)) ia (ib+k)
 |0,m,_,_=>by
  have e:out++b.extract ib (ib+0)=out:=by simp<;>lia
  rw[e];exact m
 |k+1,m,h,TF=>by
  have z:=MidO.manyB sb (k:=k) m 'l' λi hi h1 h2=>TF i hi h1 (C1 h2 (A6 (DS _) _));rw[Cr b (show ib+k<b.size from AN (A6 (DS _) _) h)];exact z.pushB sb (AN (A6 (DS _) _) h) λj hj uX=>TF (ib+k) (AN (A6 (DS _) _) h) (A2 _ _) (A6 (DS _) _) j hj uX
theorem MidO.doneB(m:MidO L a b out ia ib)(sa:SA L a)(h:ib=b.size):(out++a.extract ia a.size++b.extract ib b.size).toList.Pairwise λx y=>L y x=AD:=by
 have la:=m.m.la;have z:=m.manyA sa (k:=a.size-ia) 'l' λi hi h1 h2 j hj uW=>by lia
 rw[show ia+(a.size-ia)=a.size by lia] at z;have e:b.extract ib b.size=#[]:=by rw[h];simp
 rw[e,ZU];exact z.so
theorem MidO.doneA(m:MidO L a b out ia ib)(sb:SA L b)(h:ia=a.size):(out++a.extract ia a.size++b.extract ib b.size).toList.Pairwise λx y=>L y x=AD:=by
 have lb:=m.m.lb;have z:=m.manyB sb (k:=b.size-ib) 'l' λi hi h1 h2 j hj uX=>by lia
 rw[show ib+(b.size-ib)=b.size by lia] at z;have e:a.extract ia a.size=#[]:=by rw[h];simp
 rw[e,ZU];exact z.so
theorem MidO.lastA(m:MidO L a b out ia ib)(sa:SA L a)(sb:SA L b)(h:ia+1=a.size)(hl:∀(j:Nat) (hj:j<b.size),L (a[a.size-1]'(by lia)) b[j]=AD):(out++b.extract ib b.size++a.extract ia a.size).toList.Pairwise λx y=>L y x=AD:=by
 have lb:=m.m.lb
 have z:=m.manyB sb (k:=b.size-ib) 'l' λi hi h1 h2 j hj uX=>by
  have e:j=a.size-1:=by lia
  subst e;exact hl i hi
 rw[show ib+(b.size-ib)=b.size by lia] at z;have z2:=z.manyA sa (k:=1) (CO h) λi hi h1 h2 j hj uW=>by lia
 rw[h] at z2;exact z2.so
end
@[elab_as_elim] theorem yM{K:Prop}{α0 α1 α2 α3 γ:Type}{f:α0->α1->α2->α3->γ}{P:α0->α1->α2->α3->Prop}{G:γ->Prop}{c:γ}(H:K/\∃x0 x1 x2 x3,c=f x0 x1 x2 x3/\P x0 x1 x2 x3)(k:K->∀x0 x1 x2 x3,P x0 x1 x2 x3->G (f x0 x1 x2 x3)):G c:=by
 obtain⟨g,x0,x1,x2,x3,rfl,p⟩:=H;exact k g x0 x1 x2 x3 p
@[elab_as_elim] theorem pL{K:Prop}{α0 α1 α2 α3 α4 γ:Type}{f:α0->α1->α2->α3->α4->γ}{P:α0->α1->α2->α3->α4->Prop}{G:γ->Prop}{c:γ}(H:K/\∃x0 x1 x2 x3 x4,c=f x0 x1 x2 x3 x4/\P x0 x1 x2 x3 x4)(k:K->∀x0 x1 x2 x3 x4,P x0 x1 x2 x3 x4->G (f x0 x1 x2 x3 x4)):G c:=by
 obtain⟨g,x0,x1,x2,x3,x4,rfl,p⟩:=H;exact k g x0 x1 x2 x3 x4 p
@[elab_as_elim] theorem pK{K:Prop}{α0 α1 α2 α3 α4 α5 γ:Type}{f:α0->α1->α2->α3->α4->α5->γ}{P:α0->α1->α2->α3->α4->α5->Prop}{G:γ->Prop}{c:γ}(H:K/\∃x0 x1 x2 x3 x4 x5,c=f x0 x1 x2 x3 x4 x5/\P x0 x1 x2 x3 x4 x5)(k:K->∀x0 x1 x2 x3 x4 x5,P x0 x1 x2 x3 x4 x5->G (f x0 x1 x2 x3 x4 x5)):G c:=by
 obtain⟨g,x0,x1,x2,x3,x4,x5,rfl,p⟩:=H;exact k g x0 x1 x2 x3 x4 x5 p
@[elab_as_elim] theorem Sz{K:Prop}{α0 α1 α2 α3 α4 α5 α6 γ:Type}{f:α0->α1->α2->α3->α4->α5->α6->γ}{P:α0->α1->α2->α3->α4->α5->α6->Prop}{G:γ->Prop}{c:γ}(H:K/\∃x0 x1 x2 x3 x4 x5 x6,c=f x0 x1 x2 x3 x4 x5 x6/\P x0 x1 x2 x3 x4 x5 x6)(k:K->∀x0 x1 x2 x3 x4 x5 x6,P x0 x1 x2 x3 x4 x5 x6->G (f x0 x1 x2 x3 x4 x5 x6)):G c:=by
 obtain⟨g,x0,x1,x2,x3,x4,x5,x6,rfl,p⟩:=H;exact k g x0 x1 x2 x3 x4 x5 x6 p
section
variable{prog:CI}{w:DY}{A:DJ}{E:AH->AT->Prop}{s:AT}{BS:Array A9}{kd:FC}{L:A9->A9->Bool}{β:Type}{Q:β->BO->Prop}{st:BO}
theorem U5{G6:Array A9}{i:Nat}{f:A9->StateT BO RQ β}(hi:i<G6.size)(h:NE (A3 prog w) A E s (f G6[i]) Q st):NE (A3 prog w) A E s (elem' G6 i >>= f) Q st:=BI (oV hi h)
theorem yL{g:Nat}{f:Unit->StateT BO RQ β}(h:NE (A3 prog w) A E s (f ()) Q (qV st g)):NE (A3 prog w) A E s (Dx g >>= f) Q st:=BI (zXF h)
theorem Sy{x y:A9}{f:Option Bool->StateT BO RQ β}(hA:VR prog w A s kd BS L)(hk:kindOf st=kd)(hx:x∈BS)(hy:y∈BS)(h:NE (A3 prog w) A E s (f (AA (L x y))) Q st):NE (A3 prog w) A E s (lt' x y >>= f) Q st:=BI (wT hA hk hx hy h)
theorem oF{γ:Type}{a b:Nat}{f:Nat->γ->StateT BO RQ (ForInStep γ)}{k:γ->StateT BO RQ β}(I:Nat->γ->BO->Prop)(R:γ->BO->Prop)
  (uL:∀i c st,a<=i->i<b->I i c st->NE (A3 prog w) A E s (f i c) (λr CM=>match r with|.done c'=>R c' CM|.yield c'=>I (i+1) c' CM) st)
  (g9:∀c st,I (max a b) c st->R c st) {c:γ} (h:I a c st) (hp:∀c CM,R c CM->NE (A3 prog w) A E s (k c) Q CM):NE (A3 prog w) A E s (forIn [a:b] c f >>= k) Q st:=BI (JK (FT I uL g9 h) hp)
theorem Sx{J6:A9}{G6:Array A9}{base n FL:Nat}{f:Option Nat->StateT BO RQ β}(hA:VR prog w A s kd BS L)(O:Ord L BS)(hk:kindOf st=kd)(NB:J6∈BS)(PJ:∀x∈G6,x∈BS)
  (hb:base+n<=G6.size) (hh:FL<n) (sl:∀(i j:Nat) (hj:base+j<G6.size) (LL:i<j),j<n->L G6[base+j] (G6[base+i]'(C1 (A6 LL _) hj))=AD)
  (h:∀k,k<=n->(∀(i:Nat) (hi:base+i<G6.size),i<k->L J6 G6[base+i]=AD)->(∀(i:Nat) (hi:base+i<G6.size),k<=i->i<n->L J6 G6[base+i]=AL)->NE (A3 prog w) A E s (f (AA k)) Q st):NE (A3 prog w) A E s (rL AD J6 G6 base n FL >>= f) Q st:=BI (Qd hA O hk NB PJ hb hh sl h)
theorem Sw{J6:A9}{G6:Array A9}{base n FL:Nat}{f:Option Nat->StateT BO RQ β}(hA:VR prog w A s kd BS L)(O:Ord L BS)(hk:kindOf st=kd)(NB:J6∈BS)(PJ:∀x∈G6,x∈BS)
  (hb:base+n<=G6.size) (hh:FL<n) (sl:∀(i j:Nat) (hj:base+j<G6.size) (LL:i<j),j<n->L G6[base+j] (G6[base+i]'(C1 (A6 LL _) hj))=AD)
  (h:∀k,k<=n->(∀(i:Nat) (hi:base+i<G6.size),i<k->L G6[base+i] J6=AL)->(∀(i:Nat) (hi:base+i<G6.size),k<=i->i<n->L G6[base+i] J6=AD)->NE (A3 prog w) A E s (f (AA k)) Q st):NE (A3 prog w) A E s (rL AL J6 G6 base n FL >>= f) Q st:=BI (Qc hA O hk NB PJ hb hh sl h)
end
section
variable{prog:CI}{w:DY}{A:DJ}{E:AH->AT->Prop}{s:AT}{BS:Array A9}{kd:FC}{L:A9->A9->Bool}
theorem Sv{α β:Type}{T:β->StateT BO RQ α}{M:Model}{A:DJ}{E:AH->AT->Prop}{s:AT}{Q:α->BO->Prop}{st:BO}{NC:Prop}(h1:(∀x,NE M A E s (T x) Q st)->NC)(h2:∀x,NE M A E s (T x) Q st):NC:=h1 h2
theorem zMI{st:BO}{a b:Array A9}{Q:Array A9->BO->Prop}(hA:VR prog w A s kd BS L)(O:Ord L BS)(hk:kindOf st=kd)(ha:∀x∈a,x∈BS)(hb:∀x∈b,x∈BS)(na:1<=a.size)(nb:1<=b.size)(sa:SA L a)(sb:SA L b)(hf:∀(i:Nat) (hi:i<a.size),L a[i] (b[0]'(FW nb))=AD)(hl:∀(j:Nat) (hj:j<b.size),L (a[a.size-1]'(by lia)) b[j]=AD)
  (h:∀c CM,Gal st CM->c.Perm (a++b)->(c.toList.Pairwise λx y=>L y x=AD)->Q c CM):NE (A3 prog w) A E s (zTD a b) Q st:=by
 refine BI (PQ (E8 {rfl,?_}));dsimp only;refine U5 (FW nb) ?_
 have m0:MidO L a b #[b[0]] 0 1:=by
  have z:MidO L a b #[] 0 0:={{by simp,BR _,BR _,rfl},NJ,λx hx=>by simp at hx,λx hx=>by simp at hx};exact z.pushB sb (FW nb) λi hi _=>hf i hi
 refine LC (λe1=>BE (h _ _ (Gal.refl st) m0.m.done (m0.doneB sa (beq_iff_eq.mp e1)))) (λe1=>?_);replace e1:¬1=b.size:=λz=>e1 (beq_iff_eq.mpr z);refine LC (λe2=>BE (h _ _ (Gal.refl st) m0.m.lastA (m0.lastA sa sb (beq_iff_eq.mp e2) hl))) (λe2=>?_);replace e2:¬0+1=a.size:=λz=>e2 (beq_iff_eq.mpr z);refine BI (MZ ?_)
 refine oF
  (I:=λi c CM=>Gal st CM/\∃out ia ib g,c=(AI,out,ia,ib,g)/\MidO L a b out ia ib/\ia+1<a.size/\ib<b.size/\i+1<=out.size)
  (R:=λc CM=>Gal st CM/\∃r out ia ib g,c=(AA r,out,ia,ib,g)/\(r.Perm (a++b)/\r.toList.Pairwise λx y=>L y x=AD)) ?step ?fin ?init ?post
 case init=>exact{Gal.refl st,_,_,_,_,rfl,m0,GE na e2,GE nb e1,by simp}
 case post =>
  intro c CM H;refine pL (c:=c) H λg r out ia ib gg p=>?_;clear H;exact BE (h _ _ g p.1 p.2)
 case fin =>
  intro c CM H;refine yM (c:=c) H λg out ia ib gg P=>?_;clear H;have m:=P.1;have h1:=P.2.1;have h2:=P.2.2.1;have h3:=P.2.2.2;clear P;exfalso;have:=m.m.sz;lia
 case step =>
  intro i c CM _ hi H;refine yM (c:=c) H λg out ia ib gg P=>?_;clear H;have m:=P.1;have h1:=P.2.1;have h2:=P.2.2.1;have h3:=P.2.2.2;clear P;dsimp only;have Gb:0<a.size+b.size:=AS (BR _) hi
  -- LF by LF
  refine oF
   (I:=λ_ c st2=>Gal st st2/\∃out ia ib ac bc,c=(AI,out,ia,ib,ac,bc)/\MidO L a b out ia ib/\ia+1<a.size/\ib<b.size/\i+1<=out.size)
   (R:=λc st2=>Gal st st2/\∃r out ia ib ac bc,c=(r,out,ia,ib,ac,bc)/\(match r with
    |some r=>(r.Perm (a++b)/\r.toList.Pairwise λx y=>L y x=AD)
    |none=>MidO L a b out ia ib/\ia+1<a.size/\ib<b.size/\i+1<=out.size)) ?step1 ?fin1 {g,_,_,_,_,_,rfl,m,h1,h2,h3} ?post1
  case fin1 =>
   intro c st2 H;refine pL (c:=c) H λg2 out ia ib ac bc P=>?_;clear H;have m:=P.1;have h1:=P.2.1;have h2:=P.2.2.1;have h3:=P.2.2.2;clear P;exact{g2,AI,_,_,_,_,_,rfl,m,h1,h2,h3}
  case step1 =>
   intro j c st2 _ hj H;refine pL (c:=c) H λg2 out ia ib ac bc P=>?_;clear H;have m:=P.1;have h1:=P.2.1;have h2:=P.2.2.1;have h3:=P.2.2.2;clear P;dsimp only;refine U5 h2 (U5 (AS (A2 _ _) h1) (Sy hA (g2.kind hk) (hb _ (AG h2)) (ha _ (AG _)) ?_));have OR:ia<a.size:=AS (A2 _ _) h1;refine LC (λew=>?_) (λew=>?_)
   .refine U5 h2 ?_
    have m2:=m.pushB sb h2 λi hi uY=>O.trans _ _ _ (hb _ (AG h2)) (ha _ (AG OR)) (ha _ (AG hi)) (O.asym _ _ (hb _ (AG h2)) (ha _ (AG OR)) ew) (sa.le O ha hi uY);have MR:i+1<=(out.push b[ib]).size:=by rw[EB];lia
    refine LC (λq=>BE {g2,AA _,_,_,_,_,_,rfl,m2.m.done,m2.doneB sa (beq_iff_eq.mp q)}) (λq=>?_);have UQ:ib+1<b.size:=GE h2 λz=>q (beq_iff_eq.mpr z);refine LC (λ_=>?_) (λ_=>?_)
    .exact BE {g2,AI,_,_,_,_,_,rfl,m2,h1,UQ,MR}
    .exact BE {g2,_,_,_,_,_,rfl,m2,h1,UQ,MR}
   .refine U5 OR ?_
    have m2:=m.pushA sa OR λi hi uY=>O.trans _ _ _ (ha _ (AG OR)) (hb _ (AG h2)) (hb _ (AG hi)) (QC.mpr ew) (sb.le O hb hi uY);have MR:i+1<=(out.push a[ia]).size:=by rw[EB];lia
    refine LC (λq=>BE {g2,AA _,_,_,_,_,_,rfl,m2.m.lastA,m2.lastA sa sb (beq_iff_eq.mp q) hl}) (λq=>?_);have XQ:ia+1+1<a.size:=GE h1 λz=>q (beq_iff_eq.mpr z);refine LC (λ_=>?_) (λ_=>?_)
    .exact BE {g2,AI,_,_,_,_,_,rfl,m2,XQ,h2,MR}
    .exact BE {g2,_,_,_,_,_,rfl,m2,XQ,h2,MR}
  case post1 =>
   intro c st2 H;refine pK (c:=c) H λg2 r out ia ib ac bc hr=>?_;clear H
   cases r with
   |some r=>exact BE {g2,r,_,_,_,_,rfl,hr}
   |none =>
    have m:=hr.1;have h1:=hr.2.1;have h2:=hr.2.2.1;have h3:=hr.2.2.2;clear hr;dsimp only;refine BI (PQ (E8 {rfl,?_}))
    refine oF
     (I:=λj c KJ=>Gal st KJ/\∃out ia ib gg ac bc,c=(AI,out,ia,ib,gg,ac,bc)/\MidO L a b out ia ib/\ia+1<a.size/\ib<b.size/\i+1+(if j=0 then 0 else 1)<=out.size)
     (R:=λc KJ=>Gal st KJ/\∃r out ia ib gg ac bc,c=(r,out,ia,ib,gg,ac,bc)/\(match r with
      |some r=>(r.Perm (a++b)/\r.toList.Pairwise λx y=>L y x=AD)
      |none=>MidO L a b out ia ib/\ia+1<a.size/\ib<b.size/\i+2<=out.size)) ?step2 ?fin2 {g2,_,_,_,_,_,_,rfl,m,h1,h2,by simpa using h3} ?post2
    case fin2 =>
     intro c KJ H;refine pK (c:=c) H λg3 out ia ib gg ac bc P=>?_;clear H;have m:=P.1;have h1:=P.2.1;have h2:=P.2.2.1;have h3:=P.2.2.2;clear P;rw[if_neg (FM (AN Gb (MT _ _)))] at h3;exact{g3,AI,_,_,_,_,_,_,rfl,m,h1,h2,h3}
    case step2 =>
     intro j c KJ _ hj H;refine pK (c:=c) H λg3 out ia ib gg ac bc P=>?_;clear H;have m:=P.1;have h1:=P.2.1;have h2:=P.2.2.1;have h3:=P.2.2.2;clear P
     replace h3:i+1<=out.size:=by
      split at h3<;>lia
     dsimp only
     refine Sv (M:=A3 prog w) (A:=A) (E:=E) (s:=s) (λK=>by
      refine LC (λhg=>?gpos) (λhg=>?gneg)
      case gneg =>
       generalize gg=g';exact K g'
      case gpos=>exact K (gg-1)) (λgg=>?_)
     refine yL ?_;refine U5 h2 (Sx hA O ((g3.set _).kind hk) (hb _ (AG h2)) ha 'l' 'l' (λi j hj LL _=>sa (ia+i) (ia+j) hj (A6 LL _)) λk YJ c1 c2=>?_)
     have kJ:∀(i:Nat) (hi:i<a.size),ia+k<=i->L a[i] b[ib]=AD:=λi hi cJ=>O.asym _ _ (hb _ (AG h2)) (ha _ (AG hi)) (by
      have z:=c2 (i-ia) 'l' 'l' 'l'
      simpa[show ia+(i-ia)=i by lia] using z)
     dsimp only
     refine Et (λ(out:Array A9) (ia:Nat)=>MidO L a b out ia ib/\ia+1<a.size/\i+1<=out.size/\∀(i:Nat) (hi:i<a.size),ia<=i->L a[i] b[ib]=AD) (λK=>by
      by_cases eS:¬(k>0)
      .rw[if_neg eS]
       have hP:MidO L a b out ia ib/\ia+1<a.size/\i+1<=out.size/\∀(i:Nat) (hi:i<a.size),ia<=i->L a[i] b[ib]=AD:={m,h1,h3,λi hi cJ=>kJ i hi 'l'}
       revert hP
       generalize out=XC,ia=ia';exact λhP=>K XC ia' hP
      .rw[if_pos (K3.mp eS)]
       replace m:=m.manyA sa (k:=k) 'l' λi hi XQ UQ j hj uW=>O.trans _ _ _ (ha _ (AG hi)) (hb _ (AG h2)) (hb _ (AG hj)) (by
        have z:=c1 (i-ia) 'l' 'l'
        simpa[show ia+(i-ia)=i by lia] using z) (sb.le O hb hj uW)
       refine LC (λq1=>BE {g3.set _,AA _,_,_,_,_,_,_,rfl,m.m.lastA,m.lastA sa sb (beq_iff_eq.mp q1) hl}) (λq1=>?_);replace q1:¬(ia+k+1=a.size):=λz=>q1 (beq_iff_eq.mpr z);refine LC (λq2=>BE {g3.set _,AA _,_,_,_,_,_,_,rfl,m.m.done,m.doneA sb (beq_iff_eq.mp q2)}) (λq2=>?_);replace q2:¬(ia+k=a.size):=λz=>q2 (beq_iff_eq.mpr z)
       exact K _ _ {m,by lia,by rw[HR];lia,kJ}) ?_
     clear c1 c2 kJ m h1 h3 YJ;intro out ia P;have m:=P.1;have h1:=P.2.1;have h3:=P.2.2.1;have kJ:=P.2.2.2;clear P;refine U5 h2 ?_;have YE:=m.m.sz;replace m:=m.pushB sb h2 kJ;have hs:=m.m.sz;refine LC (λq3=>BE {g3.set _,AA _,_,_,_,_,_,_,rfl,m.m.done,m.doneB sa (beq_iff_eq.mp q3)}) (λq3=>?_);replace q3:¬(ib+1=b.size):=λz=>q3 (beq_iff_eq.mpr z);refine U5 (AS (A2 _ _) h1) (Sw hA O ((g3.set _).kind hk) (ha _ (AG _)) hb 'l' 'l' (λi j hj LL _=>sb (ib+1+i) (ib+1+j) hj (A6 LL _)) λk2 j3 d1 d2=>?_);dsimp only
     refine Et (λ(out:Array A9) (ib:Nat)=>MidO L a b out ia ib/\ib<b.size/\i+2<=out.size/\∀(i:Nat) (hi:i<b.size),ib<=i->L b[i] (a[ia]'(AS (A2 _ _) h1))=AD) (λK=>by
      by_cases uV:¬(k2>0)
      .rw[if_neg uV]
       have hP:MidO L a b (out.push b[ib]) ia (ib+1)/\ib+1<b.size/\i+2<=(out.push b[ib]).size/\∀(i:Nat) (hi:i<b.size),ib+1<=i->L b[i] (a[ia]'(AS (A2 _ _) h1))=AD:={m,GE (L8 h2) q3,by rw[EB];lia,λi hi uY=>by
        have z:=d2 (i-(ib+1)) 'l' 'l' 'l'
        simpa[show ib+1+(i-(ib+1))=i by lia] using z}
       revert hP
       generalize out.push b[ib]=XC,ib+1=ib';exact λhP=>K XC ib' hP
      .rw[if_pos (K3.mp uV)]
       replace m:=m.manyB sb (k:=k2) 'l' λi hi XQ UQ j hj uX=>O.trans _ _ _ (hb _ (AG hi)) (ha _ (AG _)) (ha _ (AG hj)) (O.asym _ _ (hb _ (AG hi)) (ha _ (AG _)) (by
        have z:=d1 (i-(ib+1)) 'l' 'l'
        simpa[show ib+1+(i-(ib+1))=i by lia] using z)) (sa.le O ha hj uX)
       refine LC (λq4=>BE {g3.set _,AA _,_,_,_,_,_,_,rfl,m.m.done,m.doneB sa (beq_iff_eq.mp q4)}) (λq4=>?_);replace q4:¬(ib+1+k2=b.size):=λz=>q4 (beq_iff_eq.mpr z)
       exact K _ _ {m,by lia,by rw[HR];lia,λi hi uY=>by
        have z:=d2 (i-(ib+1)) 'l' 'l' 'l'
        simpa[show ib+1+(i-(ib+1))=i by lia] using z}) ?_
     clear d1 d2 j3 m q3 hs YE h3 kJ;intro out ib P;have m:=P.1;have h2:=P.2.1;have h3:=P.2.2.1;have d2:=P.2.2.2;clear P;refine U5 (AS (A2 _ _) h1) ?_;have MR:=m.m.sz;replace m:=m.pushA sa (AS (A2 _ _) h1) d2;have zQ:=m.m.sz;refine LC (λq5=>?_) (λq5=>?_)
     .exact BE {g3.set _,AA _,_,_,_,_,_,_,rfl,m.m.lastA,m.lastA sa sb (beq_iff_eq.mp q5) hl}
     .have We:¬(_=_):=λz=>q5 (beq_iff_eq.mpr z)
      refine LC (λq6=>?_) (λq6=>?_)
      .exact BE {g3.set _,AI,_,_,_,_,_,_,rfl,m,GE (L8 h1) We,h2,by lia}
      .exact BE {g3.set _,_,_,_,_,_,_,rfl,m,GE (L8 h1) We,h2,by rw[if_neg (FM (Nat.succ_pos _))];lia}
    case post2 =>
     intro c KJ H;refine Sz (c:=c) H λg3 r out ia ib gg ac bc hr=>?_;clear H
     cases r with
     |some r=>exact BE {g3,r,_,_,_,_,rfl,hr}
     |none =>
      have m:=hr.1;have h1:=hr.2.1;have h2:=hr.2.2.1;have h3:=hr.2.2.2;clear hr;exact yL (BE {g3.set _,_,_,_,_,rfl,m,h1,h2,h3})
end
structure MidHO(L:A9->A9->Bool)(a b out:Array A9)(na nb:Nat):Prop where
 m:MidH a b out na nb
 so:out.toList.Pairwise λx y=>L x y=AD
 oa:∀x∈out,∀(i:Nat) (hi:i<a.size),i<na->L x a[i]=AD
 ob:∀x∈out,∀(i:Nat) (hi:i<b.size),i<nb->L x b[i]=AD
section
variable{L:A9->A9->Bool}{a b out:Array A9}{na nb:Nat}
theorem Ou{x:A9}(h:out.toList.Pairwise λx y=>L x y=AD)(hx:∀y∈out,L y x=AD):(out.push x).toList.Pairwise λx y=>L x y=AD:=by
 rw[EZ,GT];refine{h,JF _ _,λy hy z hz=>?_};rw[A5.mp hz];exact hx y (GR.mp hy)
theorem MidHO.pushA(m:MidHO L a b out na nb)(sa:SA L a)(h0:1<=na)(h:na-1<a.size)(TF:∀(j:Nat) (hj:j<b.size),j<nb->L a[na-1] b[j]=AD):MidHO L a b (out.push a[na-1]) (na-1) nb where
 m:=m.m.pushA h0 h
 so:=Ou m.so λy hy=>m.oa y hy (na-1) h 'l'
 oa:=λx hx i hi OR=>by
  rcases G9.mp hx with hx|rfl
  .exact m.oa x hx i hi (AN OR (C4 _ _))
  .exact sa i (na-1) h (OR)
 ob:=λx hx i hi QV=>by
  rcases G9.mp hx with hx|rfl
  .exact m.ob x hx i hi QV
  .exact TF i hi QV
theorem MidHO.pushB(m:MidHO L a b out na nb)(sb:SA L b)(h0:1<=nb)(h:nb-1<b.size)(TF:∀(j:Nat) (hj:j<a.size),j<na->L b[nb-1] a[j]=AD):MidHO L a b (out.push b[nb-1]) na (nb-1) where
 m:=m.m.pushB h0 h
 so:=Ou m.so λy hy=>m.ob y hy (nb-1) h 'l'
 oa:=λx hx i hi OR=>by
  rcases G9.mp hx with hx|rfl
  .exact m.oa x hx i hi OR
  .exact TF i hi OR
 ob:=λx hx i hi QV=>by
  rcases G9.mp hx with hx|rfl
  .exact m.ob x hx i hi (AN QV (C4 _ _))
  .exact sb i (nb-1) h (QV)
theorem Nk(a:Array A9){i n:Nat}(h:i<n)(hn:n-1<a.size):out++(a.extract i n).reverse=(out.push a[n-1])++(a.extract i (n-1)).reverse:=by
 have e:a.extract i n=(a.extract i (n-1)).push a[n-1]:=by
  have z:=Cr (out:=#[]) a (i:=i) (k:=n-1-i) 'l';rw[show i+(n-1-i+1)=n by lia] at z;simpa[show i+(n-1-i)=n-1 by lia] using z
 rw[e];generalize a.extract i (n-1)=x;generalize a[n-1]=y
 apply Array.ext'
 simp
theorem MidHO.manyA(sa:SA L a){i0:Nat}(m:MidHO L a b out na nb)(h:i0<=na)(TF:∀(i:Nat) (hi:i<a.size),i0<=i->i<na->∀(j:Nat) (hj:j<b.size),j<nb->L a[i] b[j]=AD):MidHO L a b (out++(a.extract i0 na).reverse) i0 nb:=by
 obtain⟨d,hd⟩:∃d,na=i0+d:={na-i0,by lia}
 induction d generalizing na out with
 |zero =>
  have e0:na=i0:=by lia
  subst e0
  have e:out++(a.extract na na).reverse=out:=by
   have:a.extract na na=#[]:=by simp<;>lia
   rw[this];simp
  rw[e];exact m
 |succ d ih =>
  have la:=m.m.la;rw[Nk a (show i0<na by lia) 'l'];exact ih (m.pushA sa 'l' 'l' λj hj RK=>TF (na-1) 'l' 'l' 'l' j hj RK) 'l' (λi hi h1 h2=>TF i hi h1 (AN h2 (C4 _ _))) 'l'
theorem MidHO.manyB(sb:SA L b){i0:Nat}(m:MidHO L a b out na nb)(h:i0<=nb)(TF:∀(i:Nat) (hi:i<b.size),i0<=i->i<nb->∀(j:Nat) (hj:j<a.size),j<na->L b[i] a[j]=AD):MidHO L a b (out++(b.extract i0 nb).reverse) na i0:=by
 obtain⟨d,hd⟩:∃d,nb=i0+d:={nb-i0,by lia}
 induction d generalizing nb out with
 |zero =>
  have e0:nb=i0:=by lia
  subst e0
  have e:out++(b.extract nb nb).reverse=out:=by
   have:b.extract nb nb=#[]:=by simp<;>lia
   rw[this];simp
  rw[e];exact m
 |succ d ih =>
  have lb:=m.m.lb;rw[Nk b (show i0<nb by lia) 'l'];exact ih (m.pushB sb 'l' 'l' λj hj RK=>TF (nb-1) 'l' 'l' 'l' j hj RK) 'l' (λi hi h1 h2=>TF i hi h1 (AN h2 (C4 _ _))) 'l'
theorem Bg(h:out.toList.Pairwise λx y=>L x y=AD):out.reverse.toList.Pairwise λx y=>L y x=AD:=by
 rw[NX,List.pairwise_reverse];exact h
theorem MidHO.doneA(m:MidHO L a b out na nb)(sb:SA L b)(h:na=0):(a.extract 0 na++b.extract 0 nb++out.reverse).toList.Pairwise λx y=>L y x=AD:=by
 have z:=Bg (m.manyB sb (i0:=0) (BR _) λi hi h1 h2 j hj RK=>by lia).so;subst h;simpa using z
theorem MidHO.doneB(m:MidHO L a b out na nb)(sa:SA L a)(h:nb=0):(a.extract 0 na++b.extract 0 nb++out.reverse).toList.Pairwise λx y=>L y x=AD:=by
 have z:=Bg (m.manyA sa (i0:=0) (BR _) λi hi h1 h2 j hj RK=>by lia).so;subst h;simpa using z
theorem MidHO.firstB(m:MidHO L a b out na nb)(sa:SA L a)(sb:SA L b)(h:nb=1)(hf:∀(i:Nat) (hi:i<a.size),L a[i] (b[0]'(by have:=m.m.lb;lia))=AD):(b.extract 0 nb++a.extract 0 na++out.reverse).toList.Pairwise λx y=>L y x=AD:=by
 have z1:=m.manyA sa (i0:=0) (BR _) λi hi h1 h2 j hj RK=>by
  have e:j=0:=by lia
  subst e;exact hf i hi
 have z:=Bg (z1.manyB sb (i0:=0) (BR _) λi hi h1 h2 j hj RK=>by lia).so;simpa using z
end
section
variable{prog:CI}{w:DY}{A:DJ}{E:AH->AT->Prop}{s:AT}{BS:Array A9}{kd:FC}{L:A9->A9->Bool}
theorem Su{α β γ δ:Type}{T:β->γ->δ->StateT BO RQ α}{M:Model}{A:DJ}{E:AH->AT->Prop}{s:AT}{Q:α->BO->Prop}{st:BO}{NC:Prop}(P:β->γ->Prop)(h1:(∀x y z,P x y->NE M A E s (T x y z) Q st)->NC)(h2:∀x y z,P x y->NE M A E s (T x y z) Q st):NC:=h1 h2
theorem zMJ{st:BO}{a b:Array A9}{Q:Array A9->BO->Prop}(hA:VR prog w A s kd BS L)(O:Ord L BS)(hk:kindOf st=kd)(ha:∀x∈a,x∈BS)(hb:∀x∈b,x∈BS)(na:1<=a.size)(nb:1<=b.size)(sa:SA L a)(sb:SA L b)(hf:∀(i:Nat) (hi:i<a.size),L a[i] (b[0]'(FW nb))=AD)(hl:∀(j:Nat) (hj:j<b.size),L (a[a.size-1]'(by lia)) b[j]=AD)
  (h:∀c CM,Gal st CM->c.Perm (a++b)->(c.toList.Pairwise λx y=>L y x=AD)->Q c CM):NE (A3 prog w) A E s (zTE a b) Q st:=by
 refine BI (PQ (E8 {rfl,?_}));dsimp only;refine U5 'l' ?_
 have m0:MidHO L a b #[a[a.size-1]] (a.size-1) b.size:=by
  have z:MidHO L a b #[] a.size b.size:={{by rw[JQ 's',JQ 's'];simp,AM _,AM _,by simp},NJ,λx hx=>by simp at hx,λx hx=>by simp at hx};exact z.pushA sa (na) 'l' λj hj _=>hl j hj
 refine LC (λe1=>?_) (λe1=>?_)
 .exact BE (h _ _ (Gal.refl st) m0.m.done (m0.doneA sb (beq_iff_eq.mp e1)))
 refine LC (λe2=>?_) (λe2=>?_)
 .exact BE (h _ _ (Gal.refl st) m0.m.firstB (m0.firstB sa sb (beq_iff_eq.mp e2) hf))
 have Kk:¬(a.size-1=0):=λz=>e1 (beq_iff_eq.mpr z);have Kj:¬(b.size=1):=λz=>e2 (beq_iff_eq.mpr z);refine BI (MZ ?_)
 refine oF
  (I:=λi c CM=>Gal st CM/\∃na nb out g,c=(AI,na,nb,out,g)/\MidHO L a b out na nb/\1<=na/\2<=nb/\i+1<=out.size)
  (R:=λc CM=>Gal st CM/\∃r na nb out g,c=(AA r,na,nb,out,g)/\(r.Perm (a++b)/\r.toList.Pairwise λx y=>L y x=AD)) ?step ?fin ?init ?post
 case init=>exact{Gal.refl st,_,_,_,_,rfl,m0,by lia,by lia,by simp}
 case post =>
  intro c CM H;refine pL (c:=c) H λg r ia ib out gg p=>?_;clear H;exact BE (h _ _ g p.1 p.2)
 case fin =>
  intro c CM H;refine yM (c:=c) H λg na nb out gg P=>?_;clear H;have m:=P.1;have h1:=P.2.1;have h2:=P.2.2.1;have h3:=P.2.2.2;clear P;exfalso;have:=m.m.sz;lia
 case step =>
  intro i c CM _ hi H;refine yM (c:=c) H λg na nb out gg P=>?_;clear H;have m:=P.1;have h1:=P.2.1;have h2:=P.2.2.1;have h3:=P.2.2.2;clear P;dsimp only;have Gb:0<a.size+b.size:=AS (BR _) hi
  refine oF
   (I:=λ_ c st2=>Gal st st2/\∃na nb out ac bc,c=(AI,na,nb,out,ac,bc)/\MidHO L a b out na nb/\1<=na/\2<=nb/\i+1<=out.size)
   (R:=λc st2=>Gal st st2/\∃r na nb out ac bc,c=(r,na,nb,out,ac,bc)/\(match r with
    |some r=>(r.Perm (a++b)/\r.toList.Pairwise λx y=>L y x=AD)
    |none=>MidHO L a b out na nb/\1<=na/\2<=nb/\i+1<=out.size)) ?step1 ?fin1 {g,_,_,_,_,_,rfl,m,h1,h2,h3} ?post1
  case fin1 =>
   intro c st2 H;refine pL (c:=c) H λg2 na nb out ac bc P=>?_;clear H;have m:=P.1;have h1:=P.2.1;have h2:=P.2.2.1;have h3:=P.2.2.2;clear P;exact{g2,AI,_,_,_,_,_,rfl,m,h1,h2,h3}
  case step1 =>
   intro j c st2 _ hj H;refine pL (c:=c) H λg2 na nb out ac bc P=>?_;clear H;have m:=P.1;have h1:=P.2.1;have h2:=P.2.2.1;have h3:=P.2.2.2;clear P;dsimp only;have la:=m.m.la;have lb:=m.m.lb;refine U5 'l' (U5 'l' (Sy hA (g2.kind hk) (hb _ (AG _)) (ha _ (AG _)) ?_));have OR:na-1<a.size:=by lia
   have QV:nb-1<b.size:=by lia
   refine LC (λew=>?_) (λew=>?_)
   .refine U5 OR ?_
    have m2:=m.pushA sa h1 OR λj hj RK=>O.trans _ _ _ (hb _ (AG hj)) (hb _ (AG QV)) (ha _ (AG OR)) (sb.le O hb QV 'l') (O.asym _ _ (hb _ (AG QV)) (ha _ (AG OR)) ew);have MR:i+1<=(out.push a[na-1]).size:=by rw[EB];lia
    refine LC (λq=>BE {g2,AA _,_,_,_,_,_,rfl,m2.m.done,m2.doneA sb (beq_iff_eq.mp q)}) (λq=>?_);have XQ:1<=na-1:=Nat.pos_of_ne_zero λz=>q (beq_iff_eq.mpr z);refine LC (λq=>?_) (λq=>?_)
    .exact BE {g2,AI,_,_,_,_,_,rfl,m2,XQ,h2,MR}
    .exact BE {g2,_,_,_,_,_,rfl,m2,XQ,h2,MR}
   .refine U5 QV ?_
    have m2:=m.pushB sb (AY (DK _ _) h2) QV λj hj RK=>O.trans _ _ _ (ha _ (AG hj)) (ha _ (AG OR)) (hb _ (AG QV)) (sa.le O ha OR 'l') (QC.mpr ew);have MR:i+1<=(out.push b[nb-1]).size:=by rw[EB];lia
    refine LC (λq=>BE {g2,AA _,_,_,_,_,_,rfl,m2.m.firstB,m2.firstB sa sb (beq_iff_eq.mp q) hf}) (λq=>?_)
    have UQ:2<=nb-1:=by
     have q':¬(nb-1=1):=λz=>q (beq_iff_eq.mpr z);lia
    refine LC (λq=>?_) (λq=>?_)
    .exact BE {g2,AI,_,_,_,_,_,rfl,m2,h1,UQ,MR}
    .exact BE {g2,_,_,_,_,_,rfl,m2,h1,UQ,MR}
  case post1 =>
   intro c st2 H;refine pK (c:=c) H λg2 r na nb out ac bc hr=>?_;clear H
   cases r with
   |some r=>exact BE {g2,r,_,_,_,_,rfl,hr}
   |none =>
    have m:=hr.1;have h1:=hr.2.1;have h2:=hr.2.2.1;have h3:=hr.2.2.2;clear hr;dsimp only;refine BI (PQ (E8 {rfl,?_}))
    refine oF
     (I:=λj c KJ=>Gal st KJ/\∃na nb out gg ac bc,c=(AI,na,nb,out,gg,ac,bc)/\MidHO L a b out na nb/\1<=na/\2<=nb/\i+1+(if j=0 then 0 else 1)<=out.size)
     (R:=λc KJ=>Gal st KJ/\∃r na nb out gg ac bc,c=(r,na,nb,out,gg,ac,bc)/\(match r with
      |some r=>(r.Perm (a++b)/\r.toList.Pairwise λx y=>L y x=AD)
      |none=>MidHO L a b out na nb/\1<=na/\2<=nb/\i+2<=out.size)) ?step2 ?fin2 {g2,_,_,_,_,_,_,rfl,m,h1,h2,by simpa using h3} ?post2
    case fin2 =>
     intro c KJ H;refine pK (c:=c) H λg3 na nb out gg ac bc P=>?_;clear H;have m:=P.1;have h1:=P.2.1;have h2:=P.2.2.1;have h3:=P.2.2.2;clear P;rw[if_neg (FM (AN Gb (MT _ _)))] at h3;exact{g3,AI,_,_,_,_,_,_,rfl,m,h1,h2,h3}
    case step2 =>
     intro j c KJ _ hj H;refine pK (c:=c) H λg3 na nb out gg ac bc P=>?_;clear H;have m:=P.1;have h1:=P.2.1;have h2:=P.2.2.1;have h3:=P.2.2.2;clear P
     replace h3:i+1<=out.size:=by
      split at h3<;>lia
     dsimp only;have la:=m.m.la;have lb:=m.m.lb
     refine Sv (λK=>by
      refine LC (λhg=>?gpos) (λhg=>?gneg)
      case gneg =>
       generalize gg=g';exact K g'
      case gpos=>exact K (gg-1)) (λgg=>?_)
     refine yL ?_;refine U5 'l' (Sx hA O ((g3.set _).kind hk) (hb _ (AG _)) ha (AY (CO (EO _)) la) 'l' (λi j hj LL _=>sa (0+i) (0+j) hj (A6 LL _)) λk YJ c1 c2=>?_);have QV:nb-1<b.size:=by lia
     have fA:∀(i:Nat) (hi:i<a.size),i<k->L b[nb-1] a[i]=AD:=λi hi cJ=>by
      have z:=c1 i (AS (CO (EO _)) hi) cJ;simpa using z
     dsimp only
     refine Su (λ(out:Array A9) (na:Nat)=>MidHO L a b out na nb/\1<=na/\i+1<=out.size/\∀(i:Nat) (hi:i<a.size),i<na->L b[nb-1] a[i]=AD) (λK=>by
      by_cases eS:¬(na-k>0)
      .rw[if_neg eS]
       have hP:MidHO L a b out na nb/\1<=na/\i+1<=out.size/\∀(i:Nat) (hi:i<a.size),i<na->L b[nb-1] a[i]=AD:={m,h1,h3,λi hi cJ=>fA i hi 'l'}
       revert hP
       generalize na-k=ac';generalize out=XC,na=pW;exact λhP=>K XC pW ac' hP
      .rw[if_pos (K3.mp eS)]
       replace m:=m.manyA sa YJ λi hi XQ UQ j hj RK=>O.trans _ _ _ (hb _ (AG hj)) (hb _ (AG QV)) (ha _ (AG hi)) (sb.le O hb QV 'l') (O.asym _ _ (hb _ (AG QV)) (ha _ (AG hi)) (by
        have z:=c2 i (AS (CO (EO _)) hi) XQ UQ
        simpa using z))
       refine LC (λq1=>BE {g3.set _,AA _,_,_,_,_,_,_,rfl,m.m.done,m.doneA sb (beq_iff_eq.mp q1)}) (λq1=>?_);replace q1:¬(k=0):=λz=>q1 (beq_iff_eq.mpr z)
       exact K _ _ _ {m,by lia,by rw[HR];lia,fA}) ?_
     clear c1 c2 fA m h1 h3 YJ la;intro out na ac P;have m:=P.1;have h1:=P.2.1;have h3:=P.2.2.1;have fA:=P.2.2.2;clear P;refine U5 (QV) ?_;have YE:=m.m.sz;have la:=m.m.la;replace m:=m.pushB sb (AY (DK _ _) h2) (QV) fA;have hs:=m.m.sz;refine LC (λq3=>BE {g3.set _,AA _,_,_,_,_,_,_,rfl,m.m.firstB,m.firstB sa sb (beq_iff_eq.mp q3) hf}) (λq3=>?_);have q3':¬(nb-1=1):=λz=>q3 (beq_iff_eq.mpr z);refine U5 'l' (Sw hA O ((g3.set _).kind hk) (ha _ (AG _)) hb 'l' 'l' (λi j hj LL _=>sb (0+i) (0+j) hj (A6 LL _)) λk2 j3 d1 d2=>?_);have OR:na-1<a.size:=by lia
     have nW:∀(j:Nat) (hj:j<b.size),j<k2->L a[na-1] b[j]=AD:=λj hj RK=>O.asym _ _ (hb _ (AG hj)) (ha _ (AG _)) (by
      have z:=d1 j (AS (CO (EO _)) hj) RK
      simpa using z)
     dsimp only
     refine Su (λ(out:Array A9) (nb:Nat)=>MidHO L a b out na nb/\2<=nb/\i+2<=out.size/\∀(j:Nat) (hj:j<b.size),j<nb->L a[na-1] b[j]=AD) (λK=>by
      by_cases uV:¬(nb-1-k2>0)
      .rw[if_neg uV]
       have hP:MidHO L a b (out.push b[nb-1]) na (nb-1)/\2<=nb-1/\i+2<=(out.push b[nb-1]).size/\∀(j:Nat) (hj:j<b.size),j<nb-1->L a[na-1] b[j]=AD:={m,by lia,by rw[EB];lia,λj hj RK=>nW j hj 'l'}
       revert hP
       generalize nb-1-k2=bc';generalize out.push b[nb-1]=XC;generalize nb-1=Wo;exact λhP=>K XC Wo bc' hP
      .rw[if_pos (K3.mp uV)]
       replace m:=m.manyB sb j3 λi hi XQ UQ j hj RK=>O.trans _ _ _ (ha _ (AG hj)) (ha _ (AG OR)) (hb _ (AG hi)) (sa.le O ha OR 'l') (by
        have z:=d2 i (AS (CO (EO _)) hi) XQ UQ
        simpa using z)
       refine LC (λq4=>BE {g3.set _,AA _,_,_,_,_,_,_,rfl,m.m.firstB,m.firstB sa sb (beq_iff_eq.mp q4) hf}) (λq4=>?_);replace q4:¬(k2=1):=λz=>q4 (beq_iff_eq.mpr z);refine LC (λq5=>BE {g3.set _,AA _,_,_,_,_,_,_,rfl,m.m.done,m.doneB sa (beq_iff_eq.mp q5)}) (λq5=>?_);replace q5:¬(k2=0):=λz=>q5 (beq_iff_eq.mpr z)
       exact K _ _ _ {m,by lia,by rw[HR,EB];lia,nW}) ?_
     clear d1 d2 nW j3 m hs YE h3 fA;intro out Wo bc P;have m:=P.1;have UQ:=P.2.1;have h3:=P.2.2.1;have nW:=P.2.2.2;clear P;refine U5 (OR) ?_;have MR:=m.m.sz;replace m:=m.pushA sa (h1) (OR) nW;have zQ:=m.m.sz;refine LC (λq6=>BE {g3.set _,AA _,_,_,_,_,_,_,rfl,m.m.done,m.doneA sb (beq_iff_eq.mp q6)}) (λq6=>?_);have q6':¬(na-1=0):=λz=>q6 (beq_iff_eq.mpr z);refine LC (λq7=>?_) (λq7=>?_)
     .exact BE {g3.set _,AI,_,_,_,_,_,_,rfl,m,by lia,UQ,by lia}
     .exact BE {g3.set _,_,_,_,_,_,_,rfl,m,by lia,UQ,by rw[if_neg (FM (Nat.succ_pos _))];lia}
    case post2 =>
     intro c KJ H;refine Sz (c:=c) H λg3 r na nb out gg ac bc hr=>?_;clear H
     cases r with
     |some r=>exact BE {g3,r,_,_,_,_,rfl,hr}
     |none =>
      have m:=hr.1;have h1:=hr.2.1;have h2:=hr.2.2.1;have h3:=hr.2.2.2;clear hr;exact yL (BE {g3.set _,_,_,_,_,rfl,m,h1,h2,h3})
end
def Seg(L:A9->A9->Bool)(a:Array A9)(i n:Nat):Prop:=∀(p q:Nat) (hq:q<a.size) (NA:p<q),i<=p->q<i+n->L a[q] (a[p]'(C1 NA hq))=AD
theorem zXO{a c:Array A9}{sa:Nat}(h:sa+c.size<=a.size):(c.toList.zipIdx.foldl (λa (p:A9×Nat)=>a.setIfInBounds (sa+p.2) p.1) a).size=a.size /\
  ∀(p:Nat) (hp:p<(c.toList.zipIdx.foldl (λa (p:A9×Nat)=>a.setIfInBounds (sa+p.2) p.1) a).size) (aE:p<a.size),
   (c.toList.zipIdx.foldl (λa (p:A9×Nat)=>a.setIfInBounds (sa+p.2) p.1) a)[p]=if h:sa<=p/\p-sa<c.size then c[p-sa]'h.2 else a[p]:=by
 have e:=Np c.toList a sa 0 (by simpa using h);generalize c.toList.zipIdx.foldl (λa (p:A9×Nat)=>a.setIfInBounds (sa+p.2) p.1) a=r at e ⊢;rw[show sa+0=sa from Nat.add_zero _] at e
 have hs:r.size=a.size:=by
  have:=congrArg LW e;simp at this;lia
 refine{hs,λp hp aE=>?_};have e2:r.toList[p]?=(a.toList.take sa++c.toList++a.toList.drop (sa+c.toList.length))[p]?:=by rw[e]
 rw[C0,getElem?_pos r p hp] at e2;have hl:(a.toList.take sa).length=sa:=by simp;lia
 by_cases h1:p<sa
 .rw[dif_neg 'l']
  rw[CF,B9 'l',VP h1,C0,getElem?_pos a p aE] at e2;exact BK e2
 .by_cases h2:p-sa<c.size
  .rw[dif_pos {EV h1,h2}]
   rw[CF,BX 'l',hl,B9 (by simpa using h2),C0,getElem?_pos c (p-sa) h2] at e2;exact BK e2
  .rw[dif_neg 'l']
   rw[CF,BX 'l',hl,BX (by simp;lia),List.getElem?_drop] at e2;rw[show sa+c.toList.length+(p-sa-c.toList.length)=p by simp;lia,C0,getElem?_pos a p aE] at e2;exact BK e2
section
variable{prog:CI}{w:DY}{A:DJ}{E:AH->AT->Prop}{s:AT}{BS:Array A9}{kd:FC}{L:A9->A9->Bool}
theorem By{a:Array A9}{i j:Nat}{x:A9}(hx:x∈a.extract i j):∃(p:Nat) (hp:p<a.size),i<=p/\p<j/\x=a[p]:=by
 rw[Array.mem_iff_getElem] at hx;obtain⟨k,hk,rfl⟩:=hx;rw[JA] at hk;exact{i+k,by lia,A2 _ _,by lia,by simp}
theorem yHB{P NC:Prop}(h1:P->NC)(h2:P):NC:=h1 h2
theorem zML{st:BO}{i sa na sb nb pa pb:Nat}{Q:Bool->BO->Prop}(hA:VR prog w A s kd BS L)(O:Ord L BS)(hB:SB BS kd st)(e1:(DE st)[i]?=AA (sa,na,pa))(e2:(DE st)[i+1]?=AA (sb,nb,pb))
  (h1:1<=na) (h2:1<=nb) (uM:sb=sa+na) (hz:sb+nb<=BS.size) (ga:Seg L (AW st) sa na) (gb:Seg L (AW st) sb nb)
  (h:∀CM,SB BS kd CM->DE CM=((DE st).setIfInBounds i (sa,na+nb,pa)).eraseIdxIfInBounds (i+1)->Seg L (AW CM) sa (na+nb) ->
   (∀(p:Nat) (hp:p<(AW CM).size) (aE:p<(AW st).size),p<sa\/sa+(na+nb)<=p->(AW CM)[p]=(AW st)[p])->Q AL CM) :
  NE (A3 prog w) A E s (mergeAt' i) Q st:=by
 refine BI (MZ ?_);rw[e1,e2];dsimp only;have hsz:=hB.size;have PK:∀x∈AW st,x∈BS:=λx hx=>hB.perm.mem_iff.mp hx;have mm:∀(p:Nat) (hp:p<(AW st).size),(AW st)[p]∈BS:=λp hp=>PK _ (AG hp);refine BI (zXG ?_);have qC:SB BS kd (setPending st (((DE st).setIfInBounds i (sa,na+nb,pa)).eraseIdxIfInBounds (i+1))):={hB.perm,hB.kind,hB.failed};have cC:sb<(AW st).size:=by lia
 -- b's first is at D7 the others of b;a's last is at least the others of a
 have b0:∀(q:Nat) (hq:q<(AW st).size),sb<=q->q<sb+nb->L (AW st)[q] (AW st)[sb]=AD:=λq hq h3 h4=>by
  rcases DF h3 with z|z
  .exact gb sb q hq z (AM _) h4
  .subst z;exact O.refl (mm _ _)
 have zZ:sa+na-1<(AW st).size:=by lia
 have aL:∀(p:Nat) (hp:p<(AW st).size),sa<=p->p<sa+na->L (AW st)[sa+na-1] (AW st)[p]=AD:=λp hp h3 h4=>by
  rcases DF (show p<=sa+na-1 by lia) with z|z
  .exact ga p (sa+na-1) zZ z h3 'l'
  .subst z;exact O.refl (mm _ _)
 refine BI (oV (G6:=AW st) (cC) (BI (Qd (G6:=AW st) hA O qC.kind (PK _ (AG _)) PK 'l' (FW h1) (λi j hj LL RK=>ga (sa+i) (sa+j) hj (A6 LL _) (A2 _ _) (A6 RK _)) λk hk c1 c2=>?_)))
 have fA:∀(p:Nat) (hp:p<(AW st).size),sa<=p->p<sa+k->L (AW st)[sb] (AW st)[p]=AD:=λp hp h3 h4=>by
  have z:=c1 (p-sa) 'l' 'l';simpa[show sa+(p-sa)=p by lia] using z
 have kJ:∀(p:Nat) (hp:p<(AW st).size),sa+k<=p->p<sa+na->L (AW st)[sb] (AW st)[p]=AL:=λp hp h3 h4=>by
  have z:=c2 (p-sa) 'l' 'l' 'l';simpa[show sa+(p-sa)=p by lia] using z
 dsimp only;refine LC (λq=>?_) (λq=>?_)
 .have q':na-k=0:=beq_iff_eq.mp q
  refine BE (h _ qC rfl (λp r hr VC h3 h4=>?_) λp hp aE _=>rfl)
  by_cases cQ:r<sa+na
  .exact ga p r hr VC h3 cQ
  .by_cases cO:sb<=p
   .exact gb p r hr VC cO 'l'
   .exact O.trans _ _ _ (mm p (C1 VC hr)) (mm sb cC) (mm r hr) (fA p (C1 VC hr) h3 'l') (b0 r hr 'l' 'l')
 have q':¬(na-k=0):=λz=>q (beq_iff_eq.mpr z);refine BI (oV (G6:=AW st) 'l' (BI (Qc (G6:=AW st) hA O qC.kind (PK _ (AG _)) PK 'l' 'l' (λi j hj LL RK=>gb (sb+i) (sb+j) hj (A6 LL _) (A2 _ _) (A6 RK _)) λm hm d1 d2=>?_)));have Xx:sa+k+(na-k)-1=sa+na-1:=by lia
 have nW:∀(r:Nat) (hr:r<(AW st).size),sb<=r->r<sb+m->L (AW st)[r] (AW st)[sa+na-1]=AL:=λr hr h3 h4=>by
  have z:=d1 (r-sb) 'l' 'l';simpa[show sb+(r-sb)=r by lia,Xx] using z
 have Yb:∀(r:Nat) (hr:r<(AW st).size),sb+m<=r->r<sb+nb->L (AW st)[r] (AW st)[sa+na-1]=AD:=λr hr h3 h4=>by
  have z:=d2 (r-sb) 'l' 'l' 'l';simpa[show sb+(r-sb)=r by lia,Xx] using z
 dsimp only;refine LC (λr=>?_) (λr=>?_)
 .have r':m=0:=beq_iff_eq.mp r
  refine BE (h _ qC rfl (λp r hr VC h3 h4=>?_) λp hp aE _=>rfl)
  by_cases cQ:r<sa+na
  .exact ga p r hr VC h3 cQ
  .by_cases cO:sb<=p
   .exact gb p r hr VC cO 'l'
   .exact O.trans _ _ _ (mm p (C1 VC hr)) (mm _ zZ) (mm r hr) (aL p (C1 VC hr) h3 'l') (Yb r hr 'l' 'l')
 have r':¬(m=0):=λz=>r (beq_iff_eq.mpr z)
 have ex:∀i j x,x∈(AW st).extract i j->x∈BS:=λi j x hx=>by
  obtain⟨p,hp,_,_,rfl⟩:=By hx;exact mm p hp
 have zx:((AW st).extract (sa+k) sb).size=na-k:=by rw[JA];lia
 have zy:((AW st).extract sb (sb+m)).size=m:=by rw[JA];lia
 have sx:SA L ((AW st).extract (sa+k) sb):=λi j hj LL=>by
  rw[zx] at hj;simpa using ga (sa+k+i) (sa+k+j) 'l' (A6 LL _) 'l' 'l'
 have sy:SA L ((AW st).extract sb (sb+m)):=λi j hj LL=>by
  rw[zy] at hj;simpa using gb (sb+i) (sb+j) 'l' (A6 LL _) (A2 _ _) (A6 (AN hj hm) _)
 have hf:∀(i:Nat) (hi:i<((AW st).extract (sa+k) sb).size),L ((AW st).extract (sa+k) sb)[i] (((AW st).extract sb (sb+m))[0]'(by lia))=AD:=λi hi=>by
  have z:=O.asym _ _ (mm sb cC) (mm (sa+k+i) 'l') (kJ (sa+k+i) 'l' (A2 _ _) 'l');simpa using z
 have hl:∀(j:Nat) (hj:j<((AW st).extract sb (sb+m)).size),L (((AW st).extract (sa+k) sb)[((AW st).extract (sa+k) sb).size-1]'(by lia)) ((AW st).extract sb (sb+m))[j]=AD:=λj hj=>by
  have z:=O.asym _ _ (mm (sb+j) 'l') (mm (sa+na-1) zZ) (nW (sb+j) 'l' (A2 _ _) 'l');simpa[zx,show sa+k+(na-k-1)=sa+na-1 by lia] using z
 refine yHB (λK=>LC (λ_=>BI (zMI (a:=(AW st).extract (sa+k) sb) (b:=(AW st).extract sb (sb+m)) hA O qC.kind (ex _ _) (ex _ _) 'l' 'l' sx sy hf hl K)) (λ_=>BI (zMJ (a:=(AW st).extract (sa+k) sb) (b:=(AW st).extract sb (sb+m)) hA O qC.kind (ex _ _) (ex _ _) 'l' 'l' sx sy hf hl K))) ?_;rintro c CM ⟨g,rfl⟩ hp mW;refine BI (MF (BI (MZ (BE ?_))));have hn:(iD st).isNone=AL:=by rw[hB.failed];rfl
 show Q (iD st).isNone _;rw[hn];have XN:c.size=na-k+m:=by rw[hp.size_eq,HR,zx,zy]
 obtain⟨os,Hi⟩:=zXO (a:=AW st) (c:=c) (sa:=sa+k) 'l'
 have vU:∀(j:Nat) (hj:j<c.size),(∃(p:Nat) (hp:p<(AW st).size),sa+k<=p/\p<sb/\c[j]=(AW st)[p])\/∃(p:Nat) (hp:p<(AW st).size),sb<=p/\p<sb+m/\c[j]=(AW st)[p]:=λj hj=>by
  have hx:c[j]∈(AW st).extract (sa+k) sb++(AW st).extract sb (sb+m):=hp.mem_iff.mp (AG hj);rcases Array.mem_append.mp hx with hx|hx
  .exact .inl (By hx)
  .exact .inr (By hx)
 refine h _ {(zQD 'l' 'l' hp).trans hB.perm,hB.kind,hB.failed} rfl (λp r hr VC h3 h4=>?_) λp hpp Il zS=>?_
 .have WB:r<(AW st).size:=by rw[<-os];exact hr
  show L (_:Array A9)[r] (_:Array A9)[p]=AD;rw[Hi r hr WB,Hi p (C1 VC hr) (C1 VC WB)]
  by_cases eP:p<sa+k
  .rw[dif_neg (show ¬(sa+k<=p/\p-(sa+k)<c.size) by lia)]
   by_cases Wz:r<sa+k
   .rw[dif_neg (show ¬(sa+k<=r/\r-(sa+k)<c.size) by lia)]
    exact ga p r WB VC h3 (AN Wz (EC (AM _) hk))
   .by_cases mU:r-(sa+k)<c.size
    .rw[dif_pos (show sa+k<=r/\r-(sa+k)<c.size from{EV Wz,mU})]
     rcases vU _ mU with⟨u,hu,u1,u2,eu⟩|⟨u,hu,u1,u2,eu⟩
     .rw[eu];exact ga p u hu (AN eP u1) h3 (AN u2 (CO uM))
     .rw[eu];exact O.trans _ _ _ (mm p (C1 VC WB)) (mm sb cC) (mm u hu) (fA p (C1 VC WB) h3 eP) (b0 u hu u1 (AN u2 (EC (AM _) hm)))
    .rw[dif_neg (show ¬(sa+k<=r/\r-(sa+k)<c.size) by lia)]
     exact O.trans _ _ _ (mm p (C1 VC WB)) (mm sb cC) (mm r WB) (fA p (C1 VC WB) h3 eP) (b0 r WB 'l' 'l')
  .by_cases XI:p-(sa+k)<c.size
   .rw[dif_pos (show sa+k<=p/\p-(sa+k)<c.size from{EV eP,XI})]
    by_cases mU:r-(sa+k)<c.size
    .rw[dif_pos (show sa+k<=r/\r-(sa+k)<c.size from{by lia,mU})]
     have z:=EF.mp mW (p-(sa+k)) (r-(sa+k)) (by simpa using XI) (by simpa using mU) 'l';simpa using z
    .rw[dif_neg (show ¬(sa+k<=r/\r-(sa+k)<c.size) by lia)]
     rcases vU _ XI with⟨u,hu,u1,u2,eu⟩|⟨u,hu,u1,u2,eu⟩
     .rw[eu];exact O.trans _ _ _ (mm u hu) (mm _ zZ) (mm r WB) (aL u hu (AY (A2 _ _) u1) (AN u2 (CO uM))) (Yb r WB 'l' 'l')
     .rw[eu];exact gb u r WB 'l' u1 'l'
   .rw[dif_neg (show ¬(sa+k<=p/\p-(sa+k)<c.size) by lia),dif_neg (show ¬(sa+k<=r/\r-(sa+k)<c.size) by lia)]
    exact gb p r WB VC 'l' 'l'
 .show(_:Array A9)[p]=_
  rw[Hi p hpp Il,dif_neg (show ¬(sa+k<=p/\p-(sa+k)<c.size) by lia)]
end
theorem seg_iff{L:A9->A9->Bool}{a:Array A9}{i n:Nat}:Seg L a i n↔∀p q x y,p<q->i<=p->q<i+n->a[p]?=AA x->a[q]?=AA y->L y x=AD:=by
 constructor
 .intro h p q x y NA hi hq ex ey
  obtain⟨h1,rfl⟩:=CD.mp ex;obtain⟨h2,rfl⟩:=CD.mp ey;exact h p q h2 NA hi hq
 .intro h p q hq NA hi hn
  exact h p q _ _ NA hi hn (getElem?_pos a p (C1 NA hq)) (getElem?_pos a q hq)
section
variable{prog:CI}{w:DY}{A:DJ}{E:AH->AT->Prop}{s:AT}{BS:Array A9}{kd:FC}{L:A9->A9->Bool}
theorem oY{st:BO}{i j:Nat}{Q:Option Bool->BO->Prop}(hA:VR prog w A s kd BS L)(hB:SB BS kd st)(hi:i<(AW st).size)(hj:j<(AW st).size)(h:Q (AA (L (AW st)[i] (AW st)[j])) st) :
  NE (A3 prog w) A E s (ltAt' i j) Q st:=by
 rw[ltAt'_eq];refine BI (MZ ?_);exact BI (oV hi (BI (oV hj (wT hA hB.kind (hB.mem hi) (hB.mem hj) h))))
theorem zHA{st:BO}{lo n ok:Nat}{Q:Bool->BO->Prop}(hA:VR prog w A s kd BS L)(O:Ord L BS)(hn:lo+n<=BS.size)(hok:ok<=n)(h1:1<=n)(hB:SB BS kd st)(hs:Seg L (AW st) lo ok)
  (h:∀CM,SB BS kd CM->DE CM=DE st->Seg L (AW CM) lo n->(∀p,p<lo->(AW CM)[p]?=(AW st)[p]?)->Q AL CM):NE (A3 prog w) A E s (binarySort' lo n ok) Q st:=by
 rw[binarySort'_eq]
 refine BI (JK (FT (I:=λk c CM=>c=(AI,())/\SB BS kd CM/\DE CM=DE st/\Seg L (AW CM) lo k/\∀p,p<lo->(AW CM)[p]?=(AW st)[p]?)
  (Q:=λc CM=>c=(AI,())/\SB BS kd CM/\DE CM=DE st/\Seg L (AW CM) lo n/\∀p,p<lo->(AW CM)[p]?=(AW st)[p]?) ?step ?fin {rfl,hB,rfl,?ini,λ_ _=>rfl}) ?post)
 case ini =>
  intro p q hq NA hp mV;exact hs p q hq NA hp 'o'
 case fin =>
  rintro c CM ⟨e,kB,hp,RI,ho⟩;refine{e,kB,hp,λp q hq NA hp mV=>RI p q hq NA hp ?_,ho};omega
 case post =>
  rintro c CM ⟨rfl,kB,hp,RI,ho⟩;exact BE (h CM kB hp RI ho)
 case step =>
  rintro k c CM hak hkn ⟨rfl,kB,hp,RI,ho⟩;have hsz:=kB.size;have YJ:lo+k<(AW CM).size:=by omega
  have mm:∀(p:Nat) (hp:p<(AW CM).size),(AW CM)[p]∈BS:=λp hp=>kB.mem hp
  refine BI (JK (FT (I:=λx c OO=>OO=CM/\∃l r,c=(AI,l,r)/\l<=r/\r<=k/\(∀(p:Nat) (hp:lo+p<(AW CM).size),p<l->L (AW CM)[lo+k] (AW CM)[lo+p]=AD)/\(∀(p:Nat) (hp:lo+p<(AW CM).size),r<=p->p<k->L (AW CM)[lo+k] (AW CM)[lo+p]=AL)/\r-l+x<=k)
   (Q:=λc OO=>OO=CM/\∃l r,c=(AI,l,r)/\l<=k/\(∀(p:Nat) (hp:lo+p<(AW CM).size),p<l->L (AW CM)[lo+k] (AW CM)[lo+p]=AD)/\(∀(p:Nat) (hp:lo+p<(AW CM).size),l<=p->p<k->L (AW CM)[lo+k] (AW CM)[lo+p]=AL)) ?istep
   ((λc OO q0=>by obtain⟨e,l,r,e2,q1,q2,q3,q4,q5⟩:=q0;exact{e,l,r,e2,AY q1 q2,q3,λp hp h1 h2=>q4 p hp 'o' h2})) {rfl,0,k,rfl,BR _,AM _,λp hp h=>by omega,λp hp h1 h2=>by omega,by omega}) ?ipost)
  case istep =>
   rintro x c OO _ hxk ⟨rfl,l,r,rfl,q1,q2,q3,q4,q5⟩;dsimp only
   by_cases j4:l>=r
   .rw[if_pos j4]
    exact BE {rfl,l,r,rfl,AY q1 q2,q3,λp hp h1 h2=>q4 p hp 'o' h2}
   .rw[if_neg j4]
    have hm:lo+(l+r) / 2<(AW OO).size:=by omega
    refine BI (oY hA kB YJ hm ?_)
    cases e:L (AW OO)[lo+k] (AW OO)[lo+(l+r) / 2] with
    |true =>
     refine BE {rfl,l,(l+r) / 2,rfl,by omega,by omega,q3,λp hp h1 h2=>?_,by omega}
     cases e3:L (AW OO)[lo+k] (AW OO)[lo+p] with
     |true=>rfl
     |false =>
      rcases DF h1 with z|z
      .rw[O.trans _ _ _ (mm _ hm) (mm _ hp) (mm _ YJ) (RI (lo+(l+r) / 2) (lo+p) hp (A6 z _) (A2 _ _) (A6 h2 _)) e3] at e
       cases e
      .subst z;rw[e] at e3;cases e3
    |false =>
     refine BE {rfl,(l+r) / 2+1,r,rfl,by omega,q2,λp hp h1=>?_,q4,by omega};rcases DF (show p<=(l+r) / 2 from IB h1) with z|z
     .exact O.trans _ _ _ (mm _ hp) (mm _ hm) (mm _ YJ) (RI (lo+p) (lo+(l+r) / 2) hm (A6 z _) (A2 _ _) 'o') e
     .subst z;exact e
  case ipost =>
   rintro c OO ⟨rfl,l,r,rfl,hl,q3,q4⟩;show NE _ _ _ _ (do moveDown' (lo+k) (lo+l);pure (P1 (AI,()))) _ _;rw[moveDown'_eq];have bu:=getElem?_bubble (xs:=AW OO) YJ (lo+k-(lo+l)) (C4 _ _);refine BI (MF (BE {rfl,kB.setArr (bubble_perm _ _ _),hp,?_,λp XI=>?_}))
   .show Seg L (bubble (AW OO) (lo+k) (lo+k-(lo+l))) lo (k+1)
    have Ik:=seg_iff.mp RI;rw[seg_iff];intro p q x y NA Xe mV ex ey;rw[bu] at ex ey;rw[show lo+k-(lo+k-(lo+l))=lo+l by omega] at ex ey
    by_cases eP:p=lo+l
    .rw[if_pos eP] at ex
     rw[if_neg 'o',if_pos 'o'] at ey;obtain⟨z1,rfl⟩:=CD.mp ex;obtain⟨z2,rfl⟩:=CD.mp ey;have z:=q4 (q-1-lo) 'o' 'o' 'o';have e:lo+(q-1-lo)=q-1:=by omega
     simp only[e] at z;exact O.asym _ _ (mm _ z1) (mm _ z2) z
    .rw[if_neg eP] at ex
     by_cases WT:q=lo+l
     .rw[if_pos WT] at ey
      rw[if_neg 'o'] at ex;obtain⟨z1,rfl⟩:=CD.mp ex;obtain⟨z2,rfl⟩:=CD.mp ey;have z:=q3 (p-lo) 'o' 'o';have e:lo+(p-lo)=p:=by omega
      simp only[e] at z;exact z
     .rw[if_neg WT] at ey
      by_cases XI:lo+l<p/\p<=lo+k
      .rw[if_pos XI] at ex
       rw[if_pos 'o'] at ey;exact Ik (p-1) (q-1) x y 'o' 'o' 'o' ex ey
      .rw[if_neg XI] at ex
       by_cases aD:lo+l<q/\q<=lo+k
       .rw[if_pos aD] at ey
        exact Ik p (q-1) x y 'o' (Xe) 'o' ex ey
       .rw[if_neg aD] at ey
        exact Ik p q x y (NA) (Xe) 'o' ex ey
   .show(bubble (AW OO) (lo+k) (lo+k-(lo+l)))[p]?=_
    rw[bu,if_neg 'o',if_neg 'o'];exact ho p XI
end
section
variable{L:A9->A9->Bool}{a BS:Array A9}
def Desc(L:A9->A9->Bool)(a:Array A9)(i n:Nat):Prop:=∀p q x y,p<q->i<=p->q<i+n->a[p]?=AA x->a[q]?=AA y->L x y=AD
def Blk(L:A9->A9->Bool)(a:Array A9)(i j:Nat):Prop:=∀p q x y,i<=p->p<j->i<=q->q<j->a[p]?=AA x->a[q]?=AA y->L x y=AD
theorem mir{xs:Array A9}{i j:Nat}(hj:j<=xs.size)(k:Nat):(N8 xs i j ((j-i) / 2))[k]?=if i<=k/\k<j then xs[i+j-1-k]? else xs[k]?:=getElem?_mirror_all hj k
theorem Desc.blk{lo n i:Nat}(d:Desc L a lo n)(hi:lo<=i)(hj:lo+n<=a.size)(b:Blk L a i (lo+n)):Desc L (N8 a i (lo+n) ((lo+n-i) / 2)) lo n:=by
 intro p q x y NA hp hq ex ey;rw[mir hj] at ex ey
 by_cases eP:i<=p/\p<lo+n
 .rw[if_pos eP] at ex
  rw[if_pos 'l'] at ey;exact b _ _ x y 'l' 'l' 'l' 'l' ex ey
 .rw[if_neg eP] at ex
  by_cases WT:i<=q/\q<lo+n
  .rw[if_pos WT] at ey
   exact d p _ x y 'l' hp 'l' ex ey
  .rw[if_neg WT] at ey
   exact d p q x y NA hp hq ex ey
theorem Desc.rev{lo n:Nat}(d:Desc L a lo n)(hj:lo+n<=a.size):Seg L (N8 a lo (lo+n) ((lo+n-lo) / 2)) lo n:=by
 rw[seg_iff];intro p q x y NA hp hq ex ey;rw[mir hj] at ex ey;rw[if_pos 'l'] at ex ey;exact d _ _ y x 'l' 'l' 'l' ey ex
theorem Seg.more{lo n:Nat}(O:Ord L BS)(hm:∀x∈a,x∈BS)(s:Seg L a lo n)(h1:1<=n)(hs:lo+n<a.size)(h:L a[lo+n] (a[lo+n-1]'(AS (C4 _ _) hs))=AD):Seg L a lo (n+1):=by
 intro p q hq NA hp mV;rcases DF (show q<=lo+n by lia) with z|z
 .exact s p q hq NA hp z
 .subst z
  rcases DF (show p<=lo+n-1 by lia) with z|z
  .exact O.trans _ _ _ (hm _ (AG _)) (hm _ (AG _)) (hm _ (AG hs)) (s p (lo+n-1) (AS (C4 _ _) hs) z hp 'l') h
  .subst z;exact h
theorem Desc.snoc{lo n:Nat}{y:A9}(d:Desc L a lo n)(h:∀p z,lo<=p->p<lo+n->a[p]?=AA z->L z y=AD)(e:a[lo+n]?=AA y):Desc L a lo (n+1):=λp q x y' NA hp hq ex ey=>by
 rcases DF (show q<=lo+n by lia) with z|z
 .exact d p q x y' NA hp z ex ey
 .subst z
  rw[e] at ey;cases ey;exact h p x hp (NA) ex
theorem Nj{lo n i:Nat}{P:A9->Prop}(hj:lo+n<=a.size)(hi:lo<=i)(h:∀p z,lo<=p->p<lo+n->a[p]?=AA z->P z):∀p z,lo<=p->p<lo+n->(N8 a i (lo+n) ((lo+n-i) / 2))[p]?=AA z->P z:=λp z h1 h2 e=>by
 rw[mir hj] at e;split at e
 .exact h _ z 'l' 'l' e
 .exact h p z h1 h2 e
theorem Blk.mir{i j:Nat}(b:Blk L a i j)(hj:j<=a.size):Blk L (N8 a i j ((j-i) / 2)) i j:=λp q x y h1 h2 h3 h4 ex ey=>by
 rw[TS.mir hj,if_pos {h1,h2}] at ex;rw[TS.mir hj,if_pos {h3,h4}] at ey;exact b _ _ x y 'l' 'l' 'l' 'l' ex ey
theorem Blk.one{i:Nat}(O:Ord L BS)(hm:∀x∈a,x∈BS):Blk L a i (i+1):=λp q x y h1 h2 h3 h4 ex ey=>by
 have e1:p=i:=by lia
 have e2:q=i:=by lia
 subst e1;subst e2;rw[ex] at ey;cases ey;exact O.refl (hm _ (Array.mem_of_getElem? ex))
theorem Seg.one{lo:Nat}:Seg L a lo 1:=λp q hq NA hp mV=>by lia
end
section
variable{prog:CI}{w:DY}{A:DJ}{E:AH->AT->Prop}{s:AT}{BS:Array A9}{kd:FC}{L:A9->A9->Bool}
def KpO(BS:Array A9)(kd:FC)(lo:Nat)(st CM:BO):Prop:=Kp BS kd st CM/\∀p,p<lo->(AW CM)[p]?=(AW st)[p]?
theorem KpO.rev{st CM:BO}{lo i j:Nat}(h:KpO BS kd lo st CM)(hi:lo<=i)(hj:j<=BS.size):KpO BS kd lo st (setArr CM (N8 (AW CM) i j ((j-i) / 2))):=by
 refine{h.1.rev,λp hp=>?_};show(N8 (AW CM) i j ((j-i) / 2))[p]?=_;rw[mir (by rw[h.1.1.size];exact hj),if_neg 'l'];exact h.2 p hp
theorem Ss{α:Type}{T:StateT BO RQ α}{M:Model}{A:DJ}{E:AH->AT->Prop}{s:AT}{Q:α->BO->Prop}{NC:Prop}(P:BO->Prop)(h1:(∀st,P st->NE M A E s T Q st)->NC)(h2:∀st,P st->NE M A E s T Q st):NC:=h1 h2
theorem zKV{st:BO}{lo QG:Nat}{Q:Option Nat->BO->Prop}(hA:VR prog w A s kd BS L)(O:Ord L BS)(hn:lo+QG<=BS.size)(h1:1<=QG)(hB:SB BS kd st)
  (h:∀m CM,KpO BS kd lo st CM->1<=m->m<=QG->Seg L (AW CM) lo m->Q (AA m) CM):NE (A3 prog w) A E s (countRun' lo QG) Q st:=by
 have k0:KpO BS kd lo st st:={{hB,rfl},λ_ _=>rfl};have hsz:=hB.size;have mm:∀x∈AW st,x∈BS:=λx hx=>hB.perm.mem_iff.mp hx;refine BI (JK (FT (I:=λx c CM=>CM=st/\c=(AI,x)/\Seg L (AW st) lo x) (Q:=λc CM=>CM=st/\∃n,c=(AI,n)/\1<=n/\n<=QG/\Seg L (AW st) lo n/\(n=QG\/∃(hx:lo+n<(AW st).size),L (AW st)[lo+n] ((AW st)[lo+n-1]'(AS (C4 _ _) hx))=AL)) ?s1 ?f1 {rfl,rfl,Seg.one}) ?p1)
 case f1 =>
  rintro c CM ⟨rfl,rfl,sg⟩;have e:(if 1<=QG then QG else 1)=QG:=if_pos h1;exact{rfl,_,rfl,kP _ _,by lia,sg,.inl 'l'}
 case s1 =>
  rintro x c CM nL uJ ⟨rfl,rfl,sg⟩;have QI:lo+x<(AW CM).size:=by lia
  refine BI (oY hA hB QI (show lo+x-1<(AW CM).size from AS (C4 _ _) QI) ?_)
  cases e:L (AW CM)[lo+x] ((AW CM)[lo+x-1]'(AS (C4 _ _) QI)) with
  |true=>exact BE {rfl,x,rfl,nL,CN uJ,sg,.inr {QI,e}}
  |false=>exact BE {rfl,rfl,sg.more O mm nL QI e}
 case p1 =>
  rintro c CM ⟨rfl,n,rfl,Xc,ZE,sg,zS⟩;refine LC (λq=>?_) (λq=>?_)
  .exact BE (h n _ k0 Xc ZE sg)
  have q':¬(n=QG):=λz=>q (beq_iff_eq.mpr z)
  obtain⟨QI,uT⟩:∃(hx:lo+n<(AW CM).size),L (AW CM)[lo+n] ((AW CM)[lo+n-1]'(AS (C4 _ _) hx))=AL:=by
   rcases zS with z|z
   .exact absurd z q'
   .exact z
  -- the first n are alike,and the next is below
  have start:∀st1,KpO BS kd lo CM st1->Blk L (AW st1) lo (lo+n)->(∀p x,lo<=p->p<lo+n->(AW st1)[p]?=AA x->L x (AW CM)[lo+n]=AD)->(AW st1)[lo+n]?=(AW CM)[lo+n]?->Desc L (AW st1) lo (n+1):=λst1 k1 bl PK he p q x y NA hp hq ex ey=>by
   rcases DF (show q<=lo+n by lia) with z|z
   .exact bl p q x y hp (C1 NA z) (CN (AS hp NA)) z ex ey
   .subst z
    rw[he,getElem?_pos (AW CM) (lo+n) QI] at ey;cases ey;exact PK p x hp (NA) ex
  have z9:∀(Xa:n=1\/L ((AW CM)[lo]'(AS (A2 _ _) QI)) ((AW CM)[lo+n-1]'(AS (C4 _ _) QI))=AD),Blk L (AW CM) lo (lo+n):=λXa p q x y hp XI hq aD ex ey=>by
   obtain⟨z1,rfl⟩:=CD.mp ex;obtain⟨z2,rfl⟩:=CD.mp ey
   have le:∀(u v:Nat) (hv:v<(AW CM).size) (Ib:u<=v),lo<=u->v<lo+n->L (AW CM)[v] ((AW CM)[u]'(AS Ib hv))=AD:=λu v hv Ib h3 h4=>by
    rcases DF Ib with z|z
    .exact sg u v hv z h3 h4
    .subst z;exact O.refl (mm _ (AG _))
   rcases Xa with z|z
   .have e1:p=lo:=by lia
    have e2:q=lo:=by lia
    subst e1;subst e2;exact O.refl (mm _ (AG _))
   ·-- y<=last<=first<=x turned: y at D7 x
    have a1:=le q (lo+n-1) (AS (C4 _ _) QI) 'l' hq 'l';have a2:=le lo p z1 hp (AM _) XI
    exact O.trans _ _ _ (mm _ (AG z2)) (mm _ (AG (show lo<(AW CM).size from AS (A2 _ _) QI))) (mm _ (AG z1))
     (O.trans _ _ _ (mm _ (AG z2)) (mm _ (AG (show lo+n-1<(AW CM).size from AS (C4 _ _) QI))) (mm _ (AG (show lo<(AW CM).size from AS (A2 _ _) QI))) a1 z) a2
  have n8:Blk L (AW CM) lo (lo+n)->∀p x,lo<=p->p<lo+n->(AW CM)[p]?=AA x->L x (AW CM)[lo+n]=AD:=λbl p x hp XI ex=>by
   obtain⟨z1,rfl⟩:=CD.mp ex;have a1:=O.asym _ _ (mm _ (AG QI)) (mm _ (AG (show lo+n-1<(AW CM).size from AS (C4 _ _) QI))) uT;have a2:=bl p (lo+n-1) _ _ hp XI 'l' 'l' (getElem?_pos (AW CM) p z1) (getElem?_pos (AW CM) (lo+n-1) (AS (C4 _ _) QI));exact O.trans _ _ _ (mm _ (AG QI)) (mm _ (AG (show lo+n-1<(AW CM).size from AS (C4 _ _) QI))) (mm _ (AG z1)) a1 a2
  refine Ss (λst1=>KpO BS kd lo CM st1/\Desc L (AW st1) lo (n+1)) (λK=>by
   refine LC (λq1=>?_) (λq1=>?_)
   case refine_2=>exact K _ {k0,start _ k0 (z9 (.inl 'l')) (n8 (z9 (.inl 'l'))) rfl}
   case refine_1 =>
    refine BI (oY hA hB (show lo<(AW CM).size from AS (A2 _ _) QI) (show lo+n-1<(AW CM).size from AS (C4 _ _) QI) ?_);cases eq1:L ((AW CM)[lo]'(AS (A2 _ _) QI)) ((AW CM)[lo+n-1]'(AS (C4 _ _) QI))
    case true=>exact BE (h n _ k0 Xc ZE sg)
    refine BI (wV ?_);have bl:=z9 (.inr eq1);have k1:=k0.rev (i:=lo) (j:=lo+n) (AM _) (AY (EC (AM _) ZE) hn)
    exact K _ {k1,start _ k1 (Blk.mir (i:=lo) (j:=lo+n) bl (CN QI)) (Nj (CN QI) (AM _) (n8 bl)) (by
     show(N8 (AW CM) lo (lo+n) ((lo+n-lo) / 2))[lo+n]?=_
     rw[mir (CN QI),if_neg 'l'])}) ?_
  clear start z9 n8;rintro st1 ⟨k1,D1⟩;refine BI (PQ (E8 {rfl,?_}));have mk:∀st2,KpO BS kd lo CM st2->∀x∈AW st2,x∈BS:=λst2 k x hx=>k.1.1.perm.mem_iff.mp hx
  refine BI (JK (FT (I:=λx c st2=>∃VB,c=(AI,x,VB)/\KpO BS kd lo CM st2/\Desc L (AW st2) lo x/\VB+1<=x/\Blk L (AW st2) (lo+x-(VB+1)) (lo+x))
   (Q:=λc st2=>∃m VB,c=(AI,m,VB)/\KpO BS kd lo CM st2/\n+1<=m/\m<=QG/\Desc L (AW st2) lo m/\VB+1<=m/\Blk L (AW st2) (lo+m-(VB+1)) (lo+m)) ?s2 ?f2 {0,rfl,k1,D1,DK _ _,Blk.one O (mk _ k1)}) ?p2)
  case f2 =>
   rintro c st2 ⟨VB,rfl,k,D,eR,bk⟩;exact{_,VB,rfl,k,kP _ _,by lia,D,eR,bk}
  case s2 =>
   rintro x c st2 nL uJ ⟨VB,rfl,k,D,eR,bk⟩;have XF:=k.1.1.size;have m2:=mk _ k;have RH:lo+x<(AW st2).size:=by lia
   have mJ:lo+x-1<(AW st2).size:=AS (C4 _ _) RH
   have all1:L (AW st2)[lo+x-1] (AW st2)[lo+x]=AD->∀p z,lo<=p->p<lo+x->(AW st2)[p]?=AA z->L z (AW st2)[lo+x]=AD:=λe p z hp XI ez=>by
    obtain⟨z1,rfl⟩:=CD.mp ez;rcases DF (show p<=lo+x-1 by lia) with u|u
    .exact O.trans _ _ _ (m2 _ (AG RH)) (m2 _ (AG mJ)) (m2 _ (AG z1)) e (D p (lo+x-1) _ _ u hp 'l' ez (getElem?_pos (AW st2) (lo+x-1) mJ))
    .subst u;exact e
   refine BI (oY hA k.1.1 RH mJ ?_)
   cases e:L (AW st2)[lo+x] (AW st2)[lo+x-1] with
   |true =>
    have al:=all1 (O.asym _ _ (m2 _ (AG RH)) (m2 _ (AG mJ)) e);simp only[if_true];refine LC (λ_=>?_) (λ_=>?_)
    .have k':=k.rev (i:=lo+x-(VB+1)) (j:=lo+x) 'l' 'l'
     refine BI (wV (BE {0,rfl,k',?_,DK _ _,Blk.one O (mk _ k')}));refine Desc.snoc (y:=(AW st2)[lo+x]) (D.blk 'l' (CN RH) bk) (Nj (CN RH) 'l' al) ?_;show(N8 (AW st2) (lo+x-(VB+1)) (lo+x) ((lo+x-(lo+x-(VB+1))) / 2))[lo+x]?=_;rw[mir (CN RH),if_neg 'l'];exact getElem?_pos (AW st2) (lo+x) RH
    .exact BE {0,rfl,k,D.snoc al (getElem?_pos (AW st2) (lo+x) RH),DK _ _,Blk.one O m2}
   |false =>
    refine BI (oY hA k.1.1 mJ RH ?_)
    cases e2:L (AW st2)[lo+x-1] (AW st2)[lo+x] with
    |true=>exact BE {x,VB,rfl,k,nL,CN uJ,D,eR,bk}
    |false =>
     have al:=all1 e2;refine BE {VB+1,rfl,k,D.snoc al (getElem?_pos (AW st2) (lo+x) RH),EC eR (AM _),λp q u v XQ UQ h3' h4' eu ev=>?_}
     by_cases hp:p<lo+x
     .by_cases hq:q<lo+x
      .exact bk p q u v 'l' hp 'l' hq eu ev
      .have e3:q=lo+x:=by lia
       subst e3;rw[getElem?_pos (AW st2) (lo+x) RH] at ev;cases ev;exact al p u 'l' hp eu
     .have e3:p=lo+x:=by lia
      subst e3;rw[getElem?_pos (AW st2) (lo+x) RH] at eu;cases eu
      by_cases hq:q<lo+x
      .obtain⟨z1,rfl⟩:=CD.mp ev
       have a1:=bk (lo+x-1) q _ _ 'l' 'l' 'l' hq (getElem?_pos (AW st2) (lo+x-1) mJ) ev;exact O.trans _ _ _ (m2 _ (AG z1)) (m2 _ (AG mJ)) (m2 _ (AG RH)) a1 e
      .have e4:q=lo+x:=by lia
       subst e4;rw[getElem?_pos (AW st2) (lo+x) RH] at ev;cases ev;exact O.refl (m2 _ (AG RH))
  case p2 =>
   rintro c st2 ⟨m,VB,rfl,k2,YH,YG,D,eR,bk⟩;have XF:=k2.1.1.size;dsimp only
   refine Ss (λst1=>KpO BS kd lo CM st1/\Desc L (AW st1) lo m) (λK=>by
    refine LC (λ_=>?_) (λ_=>?_)
    case refine_2=>exact K _ {k2,D}
    case refine_1=>exact BI (wV (K _ {k2.rev (i:=lo+m-(VB+1)) (j:=lo+m) 'l' (AY (EC (AM _) YG) hn),D.blk (i:=lo+m-(VB+1)) 'l' 'l' bk}))) ?_
   clear k2 D bk XF;rintro st2 ⟨k2,D⟩;have hz3:=k2.1.1.size;refine BI (wV ?_);have pT:=Desc.rev D (by first|exact AY (AY (EC (AM _) YG) hn) (CO hz3.symm)|lia);have k3:=k2.rev (i:=lo) (j:=lo+m) (AM _) (AY (EC (AM _) YG) hn);refine BI (JK (FT (I:=λx c KJ=>KpO BS kd lo CM KJ/\c=(AI,x)/\Seg L (AW KJ) lo x) (Q:=λc KJ=>KpO BS kd lo CM KJ/\∃n,c=(AI,n)/\1<=n/\n<=QG/\Seg L (AW KJ) lo n) ?s3 ?f3 {k3,rfl,pT}) ?p3)
   case f3 =>
    rintro c KJ ⟨k,rfl,sg⟩;exact{k,_,rfl,AY h1 (MT _ _),by lia,sg}
   case s3 =>
    rintro x c KJ nL uJ ⟨k,rfl,sg⟩;have hz4:=k.1.1.size;have RH:lo+x<(AW KJ).size:=by lia
    refine BI (oY hA k.1.1 RH (show lo+x-1<(AW KJ).size from AS (C4 _ _) RH) ?_)
    cases e:L (AW KJ)[lo+x] ((AW KJ)[lo+x-1]'(AS (C4 _ _) RH)) with
    |true=>exact BE {k,x,rfl,AY (AY (DK _ _) YH) nL,CN uJ,sg}
    |false=>exact BE {k,rfl,sg.more O (mk _ k) (AY (AY (DK _ _) YH) nL) RH e}
   case p3 =>
    rintro c KJ ⟨k,z,rfl,jW,XF,sg⟩;exact BE (h z _ k jW XF sg)
end
section
variable{L:A9->A9->Bool}{x x':Array A9}
theorem Seg.keep{i n:Nat}(s:Seg L x i n)(h:∀q,i<=q->q<i+n->x'[q]?=x[q]?):Seg L x' i n:=by
 rw[seg_iff] at s ⊢;intro p q u v NA hp hq eu ev;rw[h p hp (C1 NA hq)] at eu;rw[h q (CN (AS hp NA)) hq] at ev;exact s p q u v NA hp hq eu ev
def CovO(L:A9->A9->Bool)(x:Array A9):List Run->Nat->Nat->Prop
 |[],a,b=>a=b
 |(st,len,_)::r,a,b=>st=a/\1<=len/\Seg L x a len/\CovO L x r (a+len) b
theorem CovO.le:∀{p:List Run} {a b:Nat},CovO L x p a b->a<=b
 |[],_,_,h=>CO h
 |(_,len,_)::r,a,b,h=>by have:=CovO.le h.2.2.2;lia
theorem CovO.len:∀{p:List Run} {a b:Nat},CovO L x p a b->p.length+a<=b
 |[],_,_,h=>by have h:_=_:=h;simp;lia
 |(_,len,_)::r,a,b,h=>by have:=CovO.len h.2.2.2;have:=h.2.1;rw[BC];lia
theorem CovO.keepIn:∀{p:List Run} {a b:Nat},CovO L x p a b->(∀q,a<=q->q<b->x'[q]?=x[q]?)->CovO L x' p a b
 |[],_,_,h,_=>h
 |(_,len,_)::r,a,b,h,hk=>by
  have:=CovO.le h.2.2.2;exact{h.1,h.2.1,h.2.2.1.keep λq h1 h2=>hk q h1 (AN h2 this),CovO.keepIn h.2.2.2 λq h1 h2=>hk q (AY (A2 _ _) h1) h2}
theorem CovO.keep{p:List Run}{b:Nat}(h:CovO L x p 0 b)(hk:∀q,q<b->x'[q]?=x[q]?):CovO L x' p 0 b:=h.keepIn λq _ hq=>hk q hq
theorem CovO.snoc:∀{p:List Run} {a b n k:Nat},CovO L x p a b->1<=n->Seg L x b n->CovO L x (p++[(b,n,k)]) a (b+n)
 |[],a,b,n,k,h,hn,s=>by
  have h:a=b:=h;subst h;exact{rfl,hn,s,rfl}
 |(_,len,_)::r,a,b,n,k,h,hn,s=>{h.1,h.2.1,h.2.2.1,CovO.snoc h.2.2.2 hn s}
theorem CovO.modify:∀{p:List Run} {a b i pw:Nat},CovO L x p a b->CovO L x (p.modify i λ(st,len,_)=>(st,len,pw)) a b
 |[],a,b,i,pw,h=>by simpa using h
 |(_,len,_)::r,a,b,0,pw,h=>{h.1,h.2.1,h.2.2.1,h.2.2.2}
 |(_,len,_)::r,a,b,i+1,pw,h=>by
  rw[List.modify_succ_cons];exact{h.1,h.2.1,h.2.2.1,CovO.modify h.2.2.2}
theorem CovO.last{p:List Run}{b:Nat}(h:CovO L x p 0 b)(hl:p.length<=1):Seg L x 0 b:=by
 match p,h,hl with
 |[],h,_ =>
  have h:0=b:=h;subst h;intro p q hq NA hp mV;lia
 |[(st,len,k)],h,_ =>
  obtain⟨_,_,s,e⟩:=h;have e:0+len=b:=e;have e':b=len:=by lia
  subst e';exact s
theorem CovO.at:∀{p:List Run} {a b i sa na pa sb nb pb:Nat},CovO L x p a b->p[i]?=AA (sa,na,pa)->p[i+1]?=AA (sb,nb,pb) ->
  (1<=na/\1<=nb/\sb=sa+na/\sb+nb<=b/\a<=sa)/\Seg L x sa na/\Seg L x sb nb /\
  ((∀q,q<sa\/sa+(na+nb)<=q->x'[q]?=x[q]?)->Seg L x' sa (na+nb)->CovO L x' ((p.set i (sa,na+nb,pa)).eraseIdx (i+1)) a b)
 |[],a,b,i,_,_,_,_,_,_,h,e,_=>by simp at e
 |[y],a,b,0,_,_,_,_,_,_,h,e,e2=>by simp at e2
 |y::z::r,a,b,0,sa,na,pa,sb,nb,pb,h,e,e2=>by
  simp at e e2;subst e;subst e2;obtain⟨h1,h2,h3,h4,h5,h6,h7⟩:=h;have:=h7.le;refine{{h2,h5,by lia,by lia,by lia},by rw[h1];exact h3,by rw[h4];exact h6,λhk s=>?_};show CovO L x' ((sa,na+nb,pa)::r) a b;refine{h1,AY h2 (A2 _ _),by rw[<-h1];exact s,?_};rw[<-Nat.add_assoc];exact h7.keepIn λq h8 _=>hk q 'l'
 |(_,len,_)::r,a,b,i+1,sa,na,pa,sb,nb,pb,h,e,e2=>by
  obtain⟨⟨q1,q2,q3,q4,q5⟩,s1,s2,q6⟩:=CovO.at h.2.2.2 (by simpa using e) (by simpa using e2);exact{{q1,q2,q3,q4,AY (A2 _ _) q5},s1,s2,λhk s=>{h.1,h.2.1,h.2.2.1.keep λq h8 h9=>hk q 'l',q6 hk s}}
end
section
variable{prog:CI}{w:DY}{A:DJ}{E:AH->AT->Prop}{s:AT}{BS:Array A9}{kd:FC}{L:A9->A9->Bool}
structure SRO(L:A9->A9->Bool)(BS:Array A9)(kd:FC)(lo:Nat)(st:BO):Prop where
 sb:SB BS kd st
 cov:CovO L (AW st) (DE st).toList 0 lo
 le:lo<=BS.size
theorem Sf{st:BO}{i lo:Nat}{Q:Bool->BO->Prop}(hA:VR prog w A s kd BS L)(O:Ord L BS)(R:SRO L BS kd lo st)(hi:i+1<(DE st).size)
  (h:∀CM,SRO L BS kd lo CM->(DE CM).size+1=(DE st).size->(∀q,lo<=q->(AW CM)[q]?=(AW st)[q]?)->Q AL CM) :
  NE (A3 prog w) A E s (mergeAt' i) Q st:=by
 have Jh:i<(DE st).size:=AS (A2 _ _) hi;obtain⟨⟨sa,na,pa⟩,e1⟩:∃r:Run,(DE st)[i]?=AA r:={_,getElem?_pos _ i Jh};obtain⟨⟨sb,nb,pb⟩,e2⟩:∃r:Run,(DE st)[i+1]?=AA r:={_,getElem?_pos _ (i+1) hi};obtain⟨⟨q1,q2,q3,q4,q5⟩,s1,s2,_⟩:=R.cov.at (x':=AW st) (i:=i) (by rw[C0];exact e1) (by rw[C0];exact e2);refine zML hA O R.sb e1 e2 q1 q2 q3 (AY q4 R.le) s1 s2 λCM hB hp sg hk=>?_;have jW:=hB.size;have XF:=R.sb.size
 have YJ:∀q,q<sa\/sa+(na+nb)<=q->(AW CM)[q]?=(AW st)[q]?:=λq hq=>by
  by_cases z:q<BS.size
  .rw[getElem?_pos (AW CM) q 'l',getElem?_pos (AW st) q 'l',hk q 'l' 'l' hq]
  .rw[getElem?_neg (AW CM) q 'l',getElem?_neg (AW st) q 'l']
 have hz:i+1<((DE st).setIfInBounds i (sa,na+nb,pa)).size:=by rw[L6];exact hi
 refine h CM {hB,?_,R.le} ?_ λq hq=>YJ q (.inr 'l')
 .rw[hp,U2,dif_pos hz,Array.toList_eraseIdx,SV]
  exact(R.cov.at (x':=AW CM) (i:=i) (by rw[C0];exact e1) (by rw[C0];exact e2)).2.2.2 YJ sg
 .rw[hp,U2,dif_pos hz,Array.size_eraseIdx,L6]
  lia
theorem yHC{α:Type}{T:Nat->StateT BO RQ α}{M:Model}{A:DJ}{E:AH->AT->Prop}{s:AT}{Q:α->BO->Prop}{NC:Prop}(P:Nat->BO->Prop)(h1:(∀n st,P n st->NE M A E s (T n) Q st)->NC)(h2:∀n st,P n st->NE M A E s (T n) Q st):NC:=h1 h2
theorem zKW{st:BO}{Q:Unit->BO->Prop}(hA:VR prog w A s kd BS L)(O:Ord L BS)(hB:SB BS kd st)(hp:DE st=#[])
  (h:∀CM,SB BS kd CM->Seg L (AW CM) 0 BS.size->Q () CM):NE (A3 prog w) A E s sortRuns' Q st:=by
 rw[sortRuns'_eq];refine BI (MZ ?_);dsimp only;rw[hB.size]
 refine BI (JK (FT (I:=λx c CM=>∃lo,c=(AI,lo)/\SRO L BS kd lo CM/\x<=lo)
  (Q:=λc CM=>∃lo,c=(AI,lo)/\SRO L BS kd lo CM/\BS.size<=lo) ?step ((λc CM q0=>by obtain⟨lo,e,R,hx⟩:=q0;exact{lo,e,R,AY (MT _ _) hx})) {0,rfl,{hB,by rw[hp];rfl,BR _},AM _}) ?post)
 case step =>
  rintro x c CM _ hx ⟨lo,rfl,R,eO⟩;dsimp only;refine LC (λq=>?_) (λq=>?_)
  .exact BE {lo,rfl,R,q}
  refine BI (zKV hA O 'l' 'l' R.sb λm st2 k2 YH YG Gk=>?_);have R2:SRO L BS kd lo st2:={k2.1.1,by rw[k2.1.2];exact R.cov.keep λq hq=>k2.2 q hq,R.le};dsimp only
  refine yHC (λm KJ=>SRO L BS kd lo KJ/\Seg L (AW KJ) lo m/\1<=m/\lo+m<=BS.size) (λK=>by
   refine LC (λJI=>?_) (λJI=>?_)
   case refine_2 =>
    have hP:SRO L BS kd lo st2/\Seg L (AW st2) lo m/\1<=m/\lo+m<=BS.size:={R2,Gk,YH,by lia}
    revert hP
    generalize m=m';exact λhP=>K m' _ hP
   case refine_1 =>
    refine BI (PQ (E8 {rfl,?_}));refine BI (zHA hA O 'l' 'l' 'l' R2.sb Gk λKJ hB3 hp3 pT ho3=>?_)
    exact K _ _ {{hB3,by rw[hp3];exact R2.cov.keep λq hq=>ho3 q hq,R2.le},pT,by lia,by lia}) ?_
  clear Gk k2 R2 YH YG;rintro m KJ ⟨R3,pT,YH,YG⟩;refine BI (MZ ?_);split
  .rename_i s1 n1 p1 hb
   refine BI (JK (FT (I:=λ_ c CM=>c=(AI,())/\SRO L BS kd lo CM/\Seg L (AW CM) lo _) (Q:=λc CM=>c=(AI,())/\SRO L BS kd lo CM/\Seg L (AW CM) lo _) ?st1 (λ_ _ h=>h) {rfl,R3,pT}) ?po1)
   case po1 =>
    rintro c gT ⟨rfl,R4,sZ⟩;refine BI (MF (BI (MF (BE {_,rfl,{{R4.sb.perm,R4.sb.kind,R4.sb.failed},?_,YG},EC eO YH}))));show CovO L (AW gT) (Array.push _ _).toList 0 _;rw[EZ];refine CovO.snoc ?_ (YH) sZ;show CovO L (AW gT) (Array.modify _ _ _).toList 0 lo;rw[Array.toList_modify];exact R4.cov.modify
   case st1 =>
    rintro y c gT _ _ ⟨rfl,R4,sZ⟩;refine BI (MZ ?_)
    by_cases hz:(DE gT).size>1
    .rw[if_pos hz,getElem?_pos (DE gT) ((DE gT).size-2) 'l']
     refine LC (λ_=>?_) (λ_=>?_)
     .exact BE {rfl,R4,sZ}
     refine BI (Sf hA O R4 'l' λgS R5 _ ho5=>?_);exact BE {rfl,R5,sZ.keep λq hq _=>ho5 q hq}
    .rw[if_neg hz]
     exact BE {rfl,R4,sZ}
  .refine BI (MF (BE {_,rfl,{{R3.sb.perm,R3.sb.kind,R3.sb.failed},?_,YG},EC eO YH}))
   show CovO L _ (Array.push _ _).toList 0 _;rw[EZ];exact R3.cov.snoc (YH) pT
 case post =>
  rintro c CM ⟨lo,rfl,R,hlo⟩;dsimp only;have TF:=R.le;have elo:lo=BS.size:=by lia
  subst elo;have hpz:=R.cov.len;refine BI (JK (FT (I:=λy c CM=>c=(AI,())/\SRO L BS kd BS.size CM/\(DE CM).size+y<=BS.size+1) (Q:=λc CM=>c=(AI,())/\SRO L BS kd BS.size CM/\(DE CM).size<=1) ?st2 ((λc CM q0=>by obtain⟨e,R,hs⟩:=q0;exact{e,R,by lia})) {rfl,R,by simp at hpz;lia}) ?po2)
  case po2 =>
   rintro c gT ⟨rfl,R4,h4⟩;exact BE (h _ R4.sb (R4.cov.last (by simpa using h4)))
  case st2 =>
   rintro y c gT _ _ ⟨rfl,R4,h4⟩;refine BI (MZ ?_);refine LC (λhz=>?_) (λhz=>?_)
   .exact BE {rfl,R4,hz}
   refine BI (Sf hA O R4 ?_ λgS R5 hs5 _=>?_)
   .exact AS (Nat.add_le_add_right (yBI (n:=(DE gT).size-2) (C4 _ _) (AM _)) 1) 'l'
   .exact BE {rfl,R5,by lia}
end
end TS
namespace TS
open PySem PySem.W PyProof.Rows
theorem yBN{vs:List AH}{LV:AH->AH->Bool}{xs:Array A9}(hp:xs.Perm (HX vs))(sg:Seg (λx y=>LV x.1 y.1) xs 0 (HX vs).size):(xs.map (·.2)).toList.Pairwise λx y=>LV y x=AD:=by
 rw[Array.toList_map,DX,EF];intro i j hi hj LL;have hz:=hp.size_eq;have RV:i<xs.size:=by simpa using hi
 have aG:j<xs.size:=by simpa using hj
 have z:=sg i j aG LL (BR _) 'o'
 have same:∀x∈xs,x.1=x.2:=λx hx=>by
  have h1:x∈HX vs:=hp.mem_iff.mp hx;have h2:x∈vs.zip vs:=by rw[<-PY];exact GR.mpr h1
  exact(mem_zip_self h2).1
 have e1:=same _ (AG RV);have e2:=same _ (AG aG);simp only[e1,e2] at z;simpa using z
section
variable{prog:CI}{w:DY}{A:DJ}{E:AH->AT->Prop}{s:AT}
theorem zTO{a:AQ}{vs:List AH}{n:Nat}{R:dC->AT->Prop}{LV:AH->AH->Bool}(O:Ord (λx y=>LV x.1 y.1) (HX vs))(ho:s.heap.get? a=AA (D4 "list" vs.toArray n))(hz:vs.length<=sizeLine)
  (hk:∀h6:DZ,(∀b o,b≠a->s.heap.get? b=AA o->h6.get? b=AA o)->2<=vs.length->AZ (A3 prog w) A (keyKind' vs.toArray) (λk s'=>s'={ s with heap:=h6 }/\VR prog w A s' k (HX vs) (λx y=>LV x.1 y.1)) E { s with heap:=h6 })
  (h:∀out:List AH,out.Perm vs->(out.Pairwise λx y=>LV y x=AD)->R (.done (.ret .none)) { s with heap:=sortedHeap s.heap a vs out.toArray }):AZ (A3 prog w) A (E4.«list.sort» {[.ref a],[]}) R E s:=by
 have la:a<s.heap.objs.size:=A8 ho;have zs:vs.toArray.size<=sizeLine:=by simpa using hz
 rw[list_sort_plain];refine AB (cY ho rfl (AB (NG ho rfl ?_ zs (BR _))));have g1:=WI ho (λ_=>#[]);generalize Jj:s.heap.update a (C3 λ_=>#[])=h1 at g1;have z1:h1.objs.size=s.heap.objs.size:=by rw[<-Jj,MP]
 have o1:∀b o,b≠a->s.heap.get? b=AA o->h1.get? b=AA o:=λb o hb e=>by rw[<-Jj,OJ _ _ _ _ hb];exact e
 refine AB (VF g1 rfl (AB (MG (AB (QY (C7 ?_))) (by simpa using hz))));generalize Xi:(h1.push (D4 "tuple" vs.toArray 0)).push (D4 "list" #[] 0)=h6;have tR:∀b o,h1.get? b=AA o->h6.get? b=AA o:=λb o e=>by rw[<-Xi];exact AF _ (AF _ e)
 have g6:=tR _ _ g1
 have fin:∀CM:BO,(AW CM).Perm (HX vs)->Seg (λx y=>LV x.1 y.1) (AW CM) 0 (HX vs).size->R (.done (.ret .none)) { s with heap:=h6.update a (C3 λ_=>(AW CM).map (·.2)) }:=λCM hp sg=>by
  have q:=h _ (zKM hp) (yBN hp sg);unfold sortedHeap at q;rw[Jj,Xi,Array.toArray_toList] at q;exact q
 have Vx:∀CM:BO,(AW CM).Perm (HX vs)->((AW CM).map (·.2)).size<=sizeLine+1:=λCM hp=>by
  rw[Array.size_map,hp.size_eq,pairsOf_size];omega
 by_cases h2:vs.toArray.size<2
 .rw[if_pos h2,if_pos h2]
  refine AB (wpAny_pure ?_);dsimp only;rw[StateT.run_pure];refine AB (wpAny_pure (AB (VF g6 rfl ?_)));refine AB (NG g6 rfl ?_ (BR _) (Vx (RX general' (HX vs) #[] 7 AI) (O9 _)));simp only[bne_self_eq_false,D3,if_false];exact wpAny_pure (fin (RX general' (HX vs) #[] 7 AI) (O9 _) (λp q hq NA hp mV=>by rw[pairsOf_size] at mV;simp at h2;omega))
 .rw[if_neg h2,if_neg h2]
  refine AB (CY (hk h6 (λb o hb e=>tR b o (o1 b o hb e)) (by simpa using h2)) (λk s7 ⟨e7,ask⟩=>?_) λ_ _ e=>e);subst e7;refine AB (CY (zKW (st:=RX k (vs.toArray.zip vs.toArray) #[] 7 AI) (Q:=λ_ CM=>SB (HX vs) k CM/\Seg (λx y=>LV x.1 y.1) (AW CM) 0 (HX vs).size) ask O {O9 _,rfl,rfl} rfl λCM b sg=>{b,sg}) ?_ λ_ _ e=>e);rintro⟨⟨⟩,CM⟩ s8 ⟨e8,B,sg⟩;subst e8;dsimp only;refine AB (VF g6 rfl (AB (NG g6 rfl ?_ (BR _) (Vx CM B.perm))));rw[B.failed];simp only[bne_self_eq_false,D3,if_false];exact wpAny_pure (fin CM B.perm sg)
theorem sorted_inO{l:AQ}{vs:List AH}{Q:AH->AT->Prop}{LV:AH->AH->Bool}(O:Ord (λx y=>LV x.1 y.1) (HX vs))(hl:s.heap.IsList l vs.toArray)(hz:vs.length<=sizeLine)
  (hk:∀h6:DZ,(∀b o,s.heap.get? b=AA o->h6.get? b=AA o)->2<=vs.length->∀E',AZ (A3 prog w) A.in1.in1 (keyKind' vs.toArray) (λk s'=>s'={ s with heap:=h6 }/\VR prog w A.in1.in1 s' k (HX vs) (λx y=>LV x.1 y.1)) E' { s with heap:=h6 })
  (h:∀out:List AH,out.Perm vs->(out.Pairwise λx y=>LV y x=AD)->Q (.ref (s.heap.objs.size+1)) { s with heap:=sortedAll s.heap vs out.toArray }):AZ (A3 prog w) A (call (.builtin "sorted") [.ref l]) Q E s:=by
 refine TN kind_sorted plain_sorted entry_sorted (args_sorted1 _) ?_;unfold E4.«sorted»;refine AB (m:=checkCount "sorted" 1 1 _) (wpAny_pure (AB (collect_list hl (AB (QY ?_ hz)) hz)))
 have HV:∀b o,s.heap.get? b=AA o->((s.heap.push (D4 "list" #[] 0)).update s.heap.objs.size (C3 (·++vs.toArray))).get? b=AA o:=λb o e=>by
  rw[OJ _ _ _ _ (B0 (A8 e))];exact AF _ e
 have z2:((s.heap.push (D4 "list" #[] 0)).update s.heap.objs.size (C3 (·++vs.toArray))).objs.size=s.heap.objs.size+1:=by rw[MP,XT]
 generalize hh2:(s.heap.push (D4 "list" #[] 0)).update s.heap.objs.size (C3 (·++vs.toArray))=h2 at HV z2;have gL:(h2.push (D4 "list" vs.toArray 0)).get? h2.objs.size=AA (D4 "list" vs.toArray 0):=AV _ rfl;show AZ _ _ _ _ _ { s with heap:=h2.push (D4 "list" vs.toArray 0) };refine AB (C7 (DD slot_list_sort {_,gL,rfl} entry_list_sort (zTO O gL hz (λh6 o6 UQ=>?_) λout ho mW=>{_,rfl,?_}) (args_list_sort _)))
 .exact hk h6 (λb o e=>o6 b o (by rw[z2];exact B0 (JW (A8 e))) (AF _ (HV b o e))) UQ _
 .have q:=h out ho mW
  unfold sortedAll at q;rw[hh2,<-z2] at q;exact wpAny_pure {_,rfl,q}
end
end TS
variable{β:Type}{F F' H₀ F1 F2:L2.Hp}{vs:List L2.V}{τ:AQ}{σ':L2.St}{TC XB:AQ->Prop}{is:List Nat}{D':L2.Ends}{np:Nat}{xn:CK}{ZD:fD}{ps qs:List (Int×Int)}{cv:AH}
namespace L2
open PySem PySem.Spec PyProof.Rows
theorem zXP(BS:Array A9):TS.Ord (λx y=>decide (aI x.1<aI y.1)) BS where
 asym:=λx y _ _ h=>by
  have:=of_decide_eq_true h;exact decide_eq_false 'o'
 trans:=λx y z _ _ _ h1 h2=>by
  have a:=of_decide_eq_false h1;have b:=of_decide_eq_false h2;exact decide_eq_false 'o'
theorem zXQ(h:GF us ns)(p:us.Pairwise λx y=>decide (aI y<aI x)=AD):ns.Pairwise (·<=·):=by
 rw[<-h.nums,DX];exact p.imp λh=>by have:=of_decide_eq_false h;omega
theorem yBO:∀{l:List α},2<=l.length->∃a b r,l=a::b::r
 |a::b::r,_=>{a,b,r,rfl}
 |[],h=>by simp at h
 |[_],h=>by simp at h
theorem SC:CallR X (.builtin "sorted") (λxs H Q=>∃(l:AQ) (ns:List Int),xs=[.ref l]/\SqL X.K H l (ns.map V.int)/\∀(ms:List Int) (q:AQ),ms.Perm ns->ms.Pairwise (·<=·)->H q=AI->Q (.ref q) (DU H q (.lst (ms.map V.int)))):=by
 intro AE s σ H xs us Q I r h;obtain⟨l,ns,rfl,hl,q⟩:=h;obtain⟨u,rfl,ru⟩:=Y1 r;cases ru;obtain⟨CA,rv,pl,z⟩:=I.list hl;have EW:=rv.length;have hi:GF CA ns:=pF rv;refine TS.sorted_inO (LV:=λx y=>decide (aI x<aI y)) (zXP _) pl.isList (by rw[<-EW];exact z) (λh6 o6 h2 E'=>?_) λout ho mW=>?_
 .obtain⟨v1,v2,vr,rfl⟩:=yBO h2
  rw[keyKind_ints hi];refine wpAny_pure {rfl,λx y hx hy Q' E2 hq=>?_}
  have mem:∀x:A9,x∈HX (v1::v2::vr)->∃n t,x.1=.int n t:=λx hx=>by
   have:x∈(v1::v2::vr).zip (v1::v2::vr):=by rw[<-PY];exact GR.mpr hx
   obtain⟨i,RV,ei⟩:=YR.mp (IZ this).1;obtain⟨t,et⟩:=IntsAre.int_at hi i x.1 (by rw[BU RV,ei]);exact{_,t,et}
  obtain⟨n1,t1,e1⟩:=mem x hx;obtain⟨n2,t2,e2⟩:=mem y hy;dsimp only at hq;rw[e1,e2] at hq ⊢;exact PySem.W.kat_lt_int hq
 .obtain⟨zs,p,rz⟩:=Vals.perm ho rv
  obtain⟨e',vK⟩:=sortedAll_at s.heap CA out.toArray;have hf:H (s.heap.objs.size+1)=AI:=I.hok.fresh (KI _);obtain⟨ms,rfl,pm⟩:=zQN p ns rfl;refine{.ref (s.heap.objs.size+1),_,I.laid (t':=s.toks) (o:=.lst (ms.map V.int)) (λb o hb=>sortedAll_old hb) (KI _) {?_,out,e',rz,vK},rfl,q ms _ pm (zXQ (pF rz) mW) hf};rw[p.length_eq];exact z
noncomputable def jA(h:DZ):AH->Int×Int
 |.ref p=>match h.get? p with
  |some o=>match o.data with
   |.seq xs _=>(aI (xs.getD 0 .none),aI (xs.getD 1 .none))
   |_=>(0,0)
  |none=>(0,0)
 |_=>(0,0)
def UA(a b:Int×Int):Bool:=decide (a.1<b.1\/a.1=b.1/\a.2<b.2)
theorem zTP(h:DZ)(BS:Array A9):TS.Ord (λx y=>UA (jA h x.1) (jA h y.1)) BS where
 asym:=λx y _ _ e=>by
  have:=of_decide_eq_true e;exact decide_eq_false 'o'
 trans:=λx y z _ _ _ h1 h2=>by
  have a:=of_decide_eq_false h1;have b:=of_decide_eq_false h2;exact decide_eq_false 'o'
def Prs(H:Hp)(ys:List V)(ps:List (Int×Int)):Prop:=Paired (λ(z:V) (p:Int×Int)=>∃q,z=.ref q/\H q=AA (.tup [.int p.1,.int p.2])) ys ps
theorem zTQ{b fin:Bool}{Q:Bool->AT->Prop}{x1 y1 x2 y2:Int}{t1 t2 t3 t4:kM}(hf:fin=AD)(hq:Q (UA (x1,y1) (x2,y2)) s):PySem.W.KatLex prog w A b fin Q [(.int x1 t1,.int x2 t2),(.int y1 t3,.int y2 t4)] 0 s:=by
 have LF:∀{i:Nat} {u v:Int} {t t':kM},Q (decide (u<v)) s->AZ (A3 prog w) A (oneLt' (b&&i==0) (.int u t) (.int v t')) Q (λ_ _=>False) s:=λ{i u v t t'} h=>by
  cases hb:(b&&i==0) with
  |true=>exact oneLt_int h
  |false=>exact PySem.W.kat_one _ _ (lt_int h)
 refine ZR (UV (dB (λh1=>aQ (ZR (UV (dB (λh2=>aQ (PySem.W.kat_nil ?_)) λh2=>dA (LF ?_))))) λh1=>dA (LF ?_)))
 .have e1:x1=x2:=by simpa using h1
  have e2:y1=y2:=by simpa using h2
  subst e1;subst e2;rw[hf];have:UA (x1,y1) (x1,y1)=AD:=decide_eq_false 's';rw[this] at hq;exact hq
 .have e1:x1=x2:=by simpa using h1
  subst e1;have:UA (x1,y1) (x1,y2)=decide (y1<y2):=by unfold UA;simp
  rw[this] at hq;exact hq
 .have e1:¬x1=x2:=by simpa using h1
  have:UA (x1,y1) (x2,y2)=decide (x1<x2):=by unfold UA;simp[e1]
  rw[this] at hq;exact hq
theorem Prs.perm(p:zs.Perm ys):∀{ps:List (Int×Int)},Prs H ys ps->∃qs,qs.Perm ps/\Prs H zs qs:=by
 induction p with
 |nil=>intro ps r;cases r;exact{[],GY _,.nil}
 |cons a _ ih =>
  intro ps r
  cases r with
  |cons h t =>
   obtain⟨qs,q,r'⟩:=ih t;exact{_::qs,q.cons _,.cons h r'}
 |swap a b l =>
  intro ps r
  cases r with
  |cons h t =>
   cases t with
   |cons h' t'=>exact{_::_::_,HN _ _ _,.cons h' (.cons h t')}
 |trans _ _ Z9 ih2 =>
  intro ps r;obtain⟨qs,q,r'⟩:=ih2 r;obtain⟨us,q',tH⟩:=Z9 r';exact{us,q'.trans q,tH}
theorem Ml(I:Inv X AE σ H s):∀{ys:List V} {us:List AH} {ps:List (Int×Int)},Vals ys us->Prs H ys ps ->
  (∀y∈ys,Ly H y)/\us.map (jA s.heap)=ps/\∀u∈us,∃(p:AQ) (o:HL) (k:Nat) (x y:Int) (t1 t2:kM),u=.ref p/\s.heap.get? p=AA o/\o.data=.seq #[.int x t1,.int y t2] k/\jA s.heap u=(x,y)
  := by
 intro ys
 induction ys with
 |nil=>intro us ps h1 h2;cases h1;cases h2;exact{(λy hy=>nomatch hy),rfl,(λu hu=>nomatch hu)}
 |cons y0 ys ih =>
  intro us ps h1 h2
  cases h1 with
  |cons r t =>
  cases h2 with
  |@cons _ pp _ _ pr t' =>
  obtain⟨q,e,hq⟩:=pr;obtain⟨i1,i2,i3⟩:=ih t t';subst e;cases r;obtain⟨CA,rv,tp,_⟩:=I.tuple (SqT.of (K:=X.K) hq);have hi:GF CA [pp.1,pp.2]:=pF (ns:=[pp.1,pp.2]) rv;obtain⟨o,ho,hc,k,hd⟩:=tp
  obtain⟨t1,t2,rfl⟩:∃t1 t2,CA=[.int pp.1 t1,.int pp.2 t2]:=by
   cases hi with
   |cons _ t1 h2 =>
    cases h2 with
    |cons _ t2 h3=>cases h3;exact{t1,t2,rfl}
  have e2:jA s.heap (.ref q)=(pp.1,pp.2):=by
   unfold jA;simp only[ho,hd]
   rfl
  refine{λy hy=>?_,?_,λv hv=>?_}
  .rcases BD.mp hy with rfl|hy
   .exact{q,pp.1,[pp.2],rfl,hq}
   .exact i1 y hy
  .rw[AX,i2,e2]
  .rcases BD.mp hv with rfl|hv
   .exact{q,o,k,pp.1,pp.2,t1,t2,rfl,ho,hd,e2}
   .exact i3 v hv
theorem zIX:CallR X (.builtin "sorted") (λxs H Q=>∃(l:AQ) (ys:List V) (ps:List (Int×Int)),xs=[.ref l]/\SqL X.K H l ys/\Prs H ys ps/\∀(zs:List V) (qs:List (Int×Int)) (q:AQ),zs.Perm ys->Prs H zs qs->qs.Perm ps->(qs.Pairwise λa b=>UA b a=AD)->H q=AI->Q (.ref q) (DU H q (.lst zs))):=by
 intro AE s σ H xs us Q I r h;obtain⟨l,ys,ps,rfl,hl,uO,q⟩:=h;obtain⟨u,rfl,ru⟩:=Y1 r;cases ru;obtain⟨CA,rv,pl,z⟩:=I.list hl;have EW:=rv.length;obtain⟨ht,e0,Ye⟩:=Ml I rv uO;obtain⟨fs,f1,f2,f3,f4⟩:=No I rv ht;refine TS.sorted_inO (LV:=λx y=>UA (jA s.heap x) (jA s.heap y)) (zTP _ _) pl.isList (by rw[<-EW];exact z) (λh6 o6 h2 E'=>?_) λout ho mW=>?_
 .refine PySem.W.kat_kind (T:=.type "int") (Qg o6 f2) (by rw[f1];omega) (λv hv=>?_) 'd' {rfl,λx y hx hy Q' E2 hq=>?_}
  .obtain⟨n,t,rfl⟩:=f3 v hv
   exact PySem.W.Looks.now
  .have mem:∀x:A9,x∈HX CA->x.1∈CA:=λx hx=>by
    have:x∈CA.zip CA:=by rw[<-PY];exact GR.mpr hx
    exact(IZ this).1
   obtain⟨p1,o1,k1,x1,y1,t1,t2,e1,p7,hd1,ep1⟩:=Ye _ (mem x hx);obtain⟨p2,o2,k2,x2,y2,t3,t4,e2,YF,eT,ep2⟩:=Ye _ (mem y hy);dsimp only at hq;rw[ep1,ep2] at hq;rw[e1,e2];exact PySem.W.kat_lt (o6 _ _ p7) hd1 (o6 _ _ YF) eT (zTQ rfl hq)
 .obtain⟨zs,p,rz⟩:=Vals.perm ho rv
  obtain⟨qs,pq,gZ⟩:=Prs.perm p uO;obtain⟨_,e3,_⟩:=Ml I rz gZ;obtain⟨e',vK⟩:=sortedAll_at s.heap CA out.toArray;have hf:H (s.heap.objs.size+1)=AI:=I.hok.fresh (KI _)
  have pw:qs.Pairwise λa b=>UA b a=AD:=by
   rw[<-e3,DX];exact mW
  refine{.ref (s.heap.objs.size+1),_,I.laid (t':=s.toks) (o:=.lst zs) (λb o hb=>sortedAll_old hb) (KI _) {?_,out,e',rz,vK},rfl,q zs qs _ p gZ pq pw hf};rw[p.length_eq];exact z
inductive D where
 |non|bl (b:Bool)|int (i:Int)|str (x:CK)|tup (xs:List D)|lst (xs:List D)
 |dk (kvs:List (Key×D))|dt (kvs:List (List Int×D))
inductive Out(α:Type) where
 |ok (a:α)|exc (c:Nat)|bad
noncomputable def Out.bind:Out α->(α->Out β)->Out β
 |.ok a,f=>f a
 |.exc c,_=>.exc c
 |.bad,_=>.bad
theorem pA3{x:Out α}{f:α->Out β}{b:β}(h:x.bind f=.ok b):∃a,x=.ok a/\f a=.ok b:=by
 cases x with
 |ok a=>exact{a,rfl,h}
 |exc c=>cases h
 |bad=>cases h
inductive Sl where
 |no|val (d:D)|own (t:Bool) (d:D)
abbrev Ev:=List Sl
def qK:HO->Prop
 |.dK _=>True
 |.dT _=>True
 |_=>False
def Le(F F':Hp):Prop:=∀a u,F a=AA u->F' a=AA u\/(qK u/\∃o,F' a=AA (.frz o u))\/∃t ps Z8,u=.tbl t ps/\F' a=AA (.tbl t Z8)
theorem Le.refl(F:Hp):Le F F:=λ_ _ h=>.inl h
theorem Le.trans{G:Hp}(x:Le F G)(y:Le G H):Le F H:=λa u e=>by
 rcases x a u e with h|⟨hd,o,h⟩|⟨t,ps,Z8,rfl,h⟩
 .exact y a u h
 .rcases y a _ h with h|⟨vE,_⟩|⟨_,_,_,z,_⟩
  .exact .inr (.inl {hd,o,h})
  .exact vE.elim
  .cases z
 .rcases y a _ h with h|⟨vE,_⟩|⟨_,_,_,z,h⟩
  .exact .inr (.inr {_,_,_,rfl,h})
  .exact vE.elim
  .cases z;exact .inr (.inr {_,_,_,rfl,h})
theorem Le.rd(l:Le F F'){u:HO}(h:Rd F a u)(hu:∀t ps,u≠.tbl t ps:=by intro _ _ z;cases z):Rd F' a u:=by
 rcases h with h|⟨o,h⟩
 .rcases l a u h with h|⟨_,o,h⟩|⟨_,_,_,z,_⟩
  .exact .inl h
  .exact .inr {o,h}
  .exact absurd z (hu _ _)
 .rcases l a _ h with h|⟨hd,_⟩|⟨_,_,_,z,_⟩
  .exact .inr {o,h}
  .exact hd.elim
  .cases z
theorem Le.tup{F F':Hp}(l:Le F F'){a:AQ}{vs:List V}(h:F a=AA (.tup vs)):F' a=AA (.tup vs):=by
 rcases l a _ h with h|⟨hd,_⟩|⟨_,_,_,z,_⟩
 .exact h
 .exact hd.elim
 .cases z
theorem Le.of_gr(g:Gr F F'):Le F F':=λa u e=>.inl (g a u e)
mutual
inductive Rep(K:AC)(F:Hp):V->D->Prop
 |non:Rep K F .non .non
 |bl (b:Bool):Rep K F (.bl b) (.bl b)
 |int (i:Int):Rep K F (.int i) (.int i)
 |str (x:CK):Rep K F (.str x) (.str x)
 |tup {a:AQ} {vs:List V} {ds:List D}:F a=AA (.tup vs)->Reps K F vs ds->Rep K F (.ref a) (.tup ds)
 |tupK {a:AQ} {xs:List CK}:SqT K (λ_=>AI) a (xs.map V.str)->xs≠[]->Rep K F (.ref a) (.tup (xs.map D.str))
 |lst {a:AQ} {vs:List V} {ds:List D}:SqL K F a vs->Reps K F vs ds->Rep K F (.ref a) (.lst ds)
 |dk {a:AQ} {kvs:List (Key×V)} {ds:List (Key×D)}:Rd F a (.dK kvs)->RepK K F kvs ds->Rep K F (.ref a) (.dk ds)
 |dt {a:AQ} {kvs:List (List Key×V)} {ds:List (List Int×D)}:Rd F a (.dT kvs)->RepT K F kvs ds->Rep K F (.ref a) (.dt ds)
inductive Reps(K:AC)(F:Hp):List V->List D->Prop
 |nil:Reps K F [] []
 |cons {v:V} {d:D} {vs:List V} {ds:List D}:Rep K F v d->Reps K F vs ds->Reps K F (v::vs) (d::ds)
inductive RepK(K:AC)(F:Hp):List (Key×V)->List (Key×D)->Prop
 |nil:RepK K F [] []
 |cons {k:Key} {v:V} {d:D} {vs:List (Key×V)} {ds:List (Key×D)}:Rep K F v d->RepK K F vs ds->RepK K F ((k,v)::vs) ((k,d)::ds)
inductive RepT(K:AC)(F:Hp):List (List Key×V)->List (List Int×D)->Prop
 |nil:RepT K F [] []
 |cons {k:List Int} {v:V} {d:D} {vs:List (List Key×V)} {ds:List (List Int×D)}:Rep K F v d->RepT K F vs ds->RepT K F ((k.map CJ,v)::vs) ((k,d)::ds)
end
section
variable{K:AC}
theorem Rep.ind{P:V->D->Prop}{Q:List V->List D->Prop}{R:List (Key×V)->List (Key×D)->Prop}{T:List (List Key×V)->List (List Int×D)->Prop}
  (h1:P .non .non) (h2:∀b,P (.bl b) (.bl b)) (h3:∀i,P (.int i) (.int i)) (h4:∀x,P (.str x) (.str x))
  (h5:∀{a vs ds},F a=AA (.tup vs)->Reps K F vs ds->Q vs ds->P (.ref a) (.tup ds)) (h6:∀{a xs},SqT K (λ_=>AI) a (xs.map V.str)->xs≠[]->P (.ref a) (.tup (xs.map D.str)))
  (h7:∀{a vs ds},SqL K F a vs->Reps K F vs ds->Q vs ds->P (.ref a) (.lst ds)) (h8:∀{a kvs ds},Rd F a (.dK kvs)->RepK K F kvs ds->R kvs ds->P (.ref a) (.dk ds)) (h9:∀{a kvs ds},Rd F a (.dT kvs)->RepT K F kvs ds->T kvs ds->P (.ref a) (.dt ds))
  (q1:Q [] []) (q2:∀{v d vs ds},Rep K F v d->Reps K F vs ds->P v d->Q vs ds->Q (v::vs) (d::ds))
  (r1:R [] []) (r2:∀{k v d vs ds},Rep K F v d->RepK K F vs ds->P v d->R vs ds->R ((k,v)::vs) ((k,d)::ds))
  (t1:T [] []) (t2:∀{k:List Int} {v d vs ds},Rep K F v d->RepT K F vs ds->P v d->T vs ds->T ((k.map CJ,v)::vs) ((k,d)::ds)) :
  (∀{v d},Rep K F v d->P v d)/\(∀{vs ds},Reps K F vs ds->Q vs ds)/\(∀{vs ds},RepK K F vs ds->R vs ds)/\∀{vs ds},RepT K F vs ds->T vs ds :=
 {λh=>Rep.rec (motive_1:=λv d _=>P v d) (motive_2:=λv d _=>Q v d) (motive_3:=λv d _=>R v d) (motive_4:=λv d _=>T v d) h1 h2 h3 h4 h5 h6 h7 h8 h9 q1 q2 r1 r2 t1 t2 h,
  λh=>Reps.rec (motive_1:=λv d _=>P v d) (motive_2:=λv d _=>Q v d) (motive_3:=λv d _=>R v d) (motive_4:=λv d _=>T v d) h1 h2 h3 h4 h5 h6 h7 h8 h9 q1 q2 r1 r2 t1 t2 h,
  λh=>RepK.rec (motive_1:=λv d _=>P v d) (motive_2:=λv d _=>Q v d) (motive_3:=λv d _=>R v d) (motive_4:=λv d _=>T v d) h1 h2 h3 h4 h5 h6 h7 h8 h9 q1 q2 r1 r2 t1 t2 h,
  λh=>RepT.rec (motive_1:=λv d _=>P v d) (motive_2:=λv d _=>Q v d) (motive_3:=λv d _=>R v d) (motive_4:=λv d _=>T v d) h1 h2 h3 h4 h5 h6 h7 h8 h9 q1 q2 r1 r2 t1 t2 h}
theorem pA4(l:Le F F'):(∀{v d},Rep K F v d->Rep K F' v d)/\(∀{vs ds},Reps K F vs ds->Reps K F' vs ds)/\(∀{vs ds},RepK K F vs ds->RepK K F' vs ds)/\∀{vs ds},RepT K F vs ds->RepT K F' vs ds :=
 Rep.ind .non .bl .int .str (λh _ r=>.tup (l.tup h) r) (λh n=>.tupK h n) (λh _ r=>.lst (h.imp (λz=>l.rd z) id) r) (λh _ r=>.dk (l.rd h) r) (λh _ r=>.dt (l.rd h) r) .nil (λ_ _ h r=>.cons h r) .nil (λ_ _ h r=>.cons h r) .nil (λ_ _ h r=>.cons h r)
theorem Rep.le(l:Le F F'){d:D}(r:Rep K F v d):Rep K F' v d:=(pA4 l).1 r
theorem Reps.le(l:Le F F'){v:List V}{d:List D}(r:Reps K F v d):Reps K F' v d:=(pA4 l).2.1 r
theorem RepK.le(l:Le F F'){v:List (Key×V)}{d:List (Key×D)}(r:RepK K F v d):RepK K F' v d:=(pA4 l).2.2.1 r
theorem RepT.le(l:Le F F'){v:List (List Key×V)}{d:List (List Int×D)}(r:RepT K F v d):RepT K F' v d:=(pA4 l).2.2.2 r
theorem Rep.vI{i:Int}(r:Rep K F v (.int i)):v=.int i:=by cases r;rfl
theorem Rep.vB{b:Bool}(r:Rep K F v (.bl b)):v=.bl b:=by cases r;rfl
theorem Rep.vS(r:Rep K F v (.str x)):v=.str x:=by cases r;rfl
theorem Rep.vN(r:Rep K F v .non):v=.non:=by cases r;rfl
theorem Reps.rec1{Q:List V->List D->Prop}(q1:Q [] [])(q2:∀{v d vs ds},Rep K F v d->Reps K F vs ds->Q vs ds->Q (v::vs) (d::ds)){ds:List D}(h:Reps K F vs ds):Q vs ds :=
 (Rep.ind (P:=λ_ _=>True) (Q:=Q) (R:=λ_ _=>True) (T:=λ_ _=>True) trivial (λ_=>trivial) (λ_=>trivial) (λ_=>trivial) (λ_ _ _=>trivial) (λ_ _=>trivial) (λ_ _ _=>trivial) (λ_ _ _=>trivial) (λ_ _ _=>trivial) q1 (λh r _ ih=>q2 h r ih) trivial (λ_ _ _ _=>trivial) trivial (λ_ _ _ _=>trivial)).2.1 h
theorem RepK.rec1{R:List (Key×V)->List (Key×D)->Prop}(r1:R [] [])(r2:∀{k v d vs ds},Rep K F v d->RepK K F vs ds->R vs ds->R ((k,v)::vs) ((k,d)::ds)){vs:List (Key×V)}{ds:List (Key×D)}(h:RepK K F vs ds):R vs ds :=
 (Rep.ind (P:=λ_ _=>True) (Q:=λ_ _=>True) (R:=R) (T:=λ_ _=>True) trivial (λ_=>trivial) (λ_=>trivial) (λ_=>trivial) (λ_ _ _=>trivial) (λ_ _=>trivial) (λ_ _ _=>trivial) (λ_ _ _=>trivial) (λ_ _ _=>trivial) trivial (λ_ _ _ _=>trivial) r1 (λh r _ ih=>r2 h r ih) trivial (λ_ _ _ _=>trivial)).2.2.1 h
theorem RepT.rec1{T:List (List Key×V)->List (List Int×D)->Prop}(t1:T [] [])(t2:∀{k:List Int} {v d vs ds},Rep K F v d->RepT K F vs ds->T vs ds->T ((k.map CJ,v)::vs) ((k,d)::ds)){vs:List (List Key×V)}{ds:List (List Int×D)}(h:RepT K F vs ds):T vs ds :=
 (Rep.ind (P:=λ_ _=>True) (Q:=λ_ _=>True) (R:=λ_ _=>True) (T:=T) trivial (λ_=>trivial) (λ_=>trivial) (λ_=>trivial) (λ_ _ _=>trivial) (λ_ _=>trivial) (λ_ _ _=>trivial) (λ_ _ _=>trivial) (λ_ _ _=>trivial) trivial (λ_ _ _ _=>trivial) trivial (λ_ _ _ _=>trivial) t1 (λh r _ ih=>t2 h r ih)).2.2.2 h
theorem Reps.length{vs:List V}{ds:List D}(r:Reps K F vs ds):vs.length=ds.length :=
 r.rec1 (Q:=λvs ds=>vs.length=ds.length) rfl λ_ _ ih=>congrArg (·+1) ih
theorem Reps.append{ws:List V}{ds es:List D}(r:Reps K F vs ds)(s:Reps K F ws es):Reps K F (vs++ws) (ds++es) :=
 r.rec1 (Q:=λvs ds=>Reps K F (vs++ws) (ds++es)) s λh _ ih=>.cons h ih
theorem Reps.get{ds:List D}{d:D}(r:Reps K F vs ds):ds[i]?=AA d->∃v,vs[i]?=AA v/\Rep K F v d :=
 r.rec1 (Q:=λvs ds=>∀i,ds[i]?=AA d->∃v,vs[i]?=AA v/\Rep K F v d) (λ_ e=>by simp at e) (λh _ ih i e=>by
  cases i with
  |zero=>cases e;exact{_,rfl,h}
  |succ i=>exact ih i e) i
theorem Reps.set{vs:List V}{ds:List D}(i:Nat){v:V}{d:D}(r:Reps K F vs ds)(h:Rep K F v d):Reps K F (vs.set i v) (ds.set i d) :=
 r.rec1 (Q:=λvs ds=>∀i,Reps K F (vs.set i v) (ds.set i d)) (λ_=>.nil) (λq r ih i=>by
  cases i with
  |zero=>exact .cons h r
  |succ i=>exact .cons q (ih i)) i
theorem Reps.take{vs:List V}{ds:List D}(n:Nat)(r:Reps K F vs ds):Reps K F (vs.take n) (ds.take n) :=
 r.rec1 (Q:=λvs ds=>∀n,Reps K F (vs.take n) (ds.take n)) (λn=>by rw[List.take_nil,List.take_nil];exact .nil) (λq r ih n=>by
  cases n with
  |zero=>exact .nil
  |succ n=>exact .cons q (ih n)) n
theorem Reps.drop{vs:List V}{ds:List D}(n:Nat)(r:Reps K F vs ds):Reps K F (vs.drop n) (ds.drop n) :=
 r.rec1 (Q:=λvs ds=>∀n,Reps K F (vs.drop n) (ds.drop n)) (λn=>by rw[List.drop_nil,List.drop_nil];exact .nil) (λq r ih n=>by
  cases n with
  |zero=>exact .cons q r
  |succ n=>exact ih n) n
theorem Reps.reverse{vs:List V}{ds:List D}(r:Reps K F vs ds):Reps K F vs.reverse ds.reverse :=
 r.rec1 (Q:=λvs ds=>Reps K F vs.reverse ds.reverse) .nil λh _ ih=>by rw[H9,H9];exact ih.append (.cons h .nil)
theorem Reps.eraseIdx{vs:List V}{ds:List D}(i:Nat)(r:Reps K F vs ds):Reps K F (vs.eraseIdx i) (ds.eraseIdx i) :=
 r.rec1 (Q:=λvs ds=>∀n,Reps K F (vs.eraseIdx n) (ds.eraseIdx n)) (λn=>.nil) (λq r ih n=>by
  cases n with
  |zero=>exact r
  |succ n=>exact .cons q (ih n)) i
theorem Reps.rep(n:Nat){ds:List D}(r:Reps K F vs ds):Reps K F (BG n vs).flatten (BG n ds).flatten:=by
 induction n with
 |zero=>exact .nil
 |succ n ih=>rw[EH,GV,EH,GV];exact r.append ih
theorem Reps.nil_iff{ds:List D}(r:Reps K F vs ds):vs=[]↔ds=[]:=by cases r<;>simp
theorem Reps.ints:∀ns:List Int,Reps K F (ns.map V.int) (ns.map D.int)
 |[]=>.nil
 |n::ns=>.cons (.int n) (Reps.ints ns)
theorem Reps.vint(r:Reps K F vs (ns.map D.int)):vs=ns.map V.int :=
 r.rec1 (Q:=λvs ds=>∀bs:List Int,ds=bs.map D.int->vs=bs.map V.int) (λbs e=>by cases bs with
  |nil=>rfl
  |cons=>cases e) (λh _ ih bs e=>by
  cases bs with
  |nil=>cases e
  |cons b bs=>cases e;rw[h.vI,ih bs rfl];rfl) ns rfl
theorem Reps.vbl{bs:List Bool}(r:Reps K F vs (bs.map D.bl)):vs=bs.map V.bl :=
 r.rec1 (Q:=λvs ds=>∀bs:List Bool,ds=bs.map D.bl->vs=bs.map V.bl) (λbs e=>by cases bs with
  |nil=>rfl
  |cons=>cases e) (λh _ ih bs e=>by
  cases bs with
  |nil=>cases e
  |cons b bs=>cases e;rw[h.vB,ih bs rfl];rfl) bs rfl
theorem pA5{bs:List CK}(r:Reps K F vs (bs.map D.str)):vs=bs.map V.str :=
 r.rec1 (Q:=λvs ds=>∀bs:List CK,ds=bs.map D.str->vs=bs.map V.str) (λbs e=>by cases bs with
  |nil=>rfl
  |cons=>cases e) (λh _ ih bs e=>by
  cases bs with
  |nil=>cases e
  |cons b bs=>cases e;rw[h.vS,ih bs rfl];rfl) bs rfl
end
def Sub(F H:Hp):Prop:=∀a u,F a=AA u->H a=AA u
theorem Sub.rd(s:Sub F H){u:HO}(h:Rd F a u):Rd H a u:=h.imp (s a u) (λq0=>by obtain⟨o,h⟩:=q0;exact{o,s a _ h})
def OwnAt(K:AC)(F H:Hp)(a:AQ):D->Prop
 |.lst ds=>∃vs,H a=AA (.lst vs)/\Reps K F vs ds
 |.dk ds=>∃kvs,H a=AA (.dK kvs)/\RepK K F kvs ds
 |.dt ds=>∃kvs,H a=AA (.dT kvs)/\RepT K F kvs ds
 |_=>False
def iW:HO->Prop
 |.lst _=>True
 |.dK _=>True
 |.dT _=>True
 |_=>False
theorem OwnAt.ho{K:AC}{d:D}(h:OwnAt K F H a d):∃o,H a=AA o/\iW o:=by
 cases d with
 |lst ds=>obtain⟨vs,e,_⟩:=h;exact{_,e,trivial}
 |dk ds=>obtain⟨vs,e,_⟩:=h;exact{_,e,trivial}
 |dt ds=>obtain⟨vs,e,_⟩:=h;exact{_,e,trivial}
 |_=>exact h.elim
theorem OwnAt.mono{K:AC}{d:D}(h:OwnAt K F H a d)(l:Le F F')(e:H' a=H a):OwnAt K F' H' a d:=by
 cases d with
 |lst ds=>obtain⟨vs,q,r⟩:=h;exact{vs,e.trans q,r.le l}
 |dk ds=>obtain⟨vs,q,r⟩:=h;exact{vs,e.trans q,r.le l}
 |dt ds=>obtain⟨vs,q,r⟩:=h;exact{vs,e.trans q,r.le l}
 |_=>exact h.elim
theorem OwnAt.rep{K:AC}{d:D}(h:OwnAt K F H a d)(n:F a=AI)(eo:H a=AA o):Rep K (DU F a o) (.ref a) d:=by
 have l:Le F (DU F a o):=.of_gr (Gr.new n)
 cases d with
 |lst ds=>obtain⟨vs,q,r⟩:=h;rw[eo] at q;cases q;exact .lst (.inl (.inl G3)) (r.le l)
 |dk ds=>obtain⟨vs,q,r⟩:=h;rw[eo] at q;cases q;exact .dk (.inl G3) (r.le l)
 |dt ds=>obtain⟨vs,q,r⟩:=h;rw[eo] at q;cases q;exact .dt (.inl G3) (r.le l)
 |_=>exact h.elim
def DT(σ:St)(E:Ev)(a:AQ):Prop:=∃(i:Nat) (t:Bool) (d:D),E[i]?=AA (Sl.own t d)/\σ[i]?=AA (AA (V.ref a))
structure Sim(K:AC)(H₀:Hp)(τ:AQ)(F H:Hp)(σ:St)(E:Ev):Prop where
 sub:Sub F H
 len:E.length=σ.length
 val:∀(i:Nat) d,E[i]?=AA (.val d)->∃v,σ[i]?=AA (AA v)/\Rep K F v d
 own:∀(i:Nat) t d,E[i]?=AA (.own t d)->∃a,σ[i]?=AA (AA (.ref a))/\F a=AI/\OwnAt K F H a d/\(∀o u,H₀ a≠AA (.frz o u))/\(t=AL->τ=a)
 inj:∀(i j:Nat) t u d e a,E[i]?=AA (.own t d)->E[j]?=AA (.own u e)->σ[i]?=AA (AA (.ref a))->σ[j]?=AA (AA (.ref a))->i=j
def Nw(H:Hp)(a:AQ):Prop:=∀o,H a=AA o->¬iW o
theorem Nw.none{H:Hp}{a:AQ}(h:H a=AI):Nw H a:=λo e=>by rw[h] at e;cases e
structure Stp(ow:AQ->Prop)(F H F' H':Hp)(XB:AQ->Prop):Prop where
 keep:∀a o,H a=AA o->iW o->F a=AI->¬ow a->H' a=AA o
 dom:∀a,H' a=AI->H a=AI
 le:Le F F'
 new:∀a o,F' a=AA o->F a≠AI\/Nw H a\/ow a
 own:∀a,XB a->ow a\/H a=AI
variable{E':Ev}
section
variable{K:AC}{E:Ev}{ow zK:AQ->Prop}
theorem Stp.refl:Stp ow F H F H ow:={λ_ _ h _ _ _=>h,λ_ h=>h,.refl _,λa o e=>.inl (by rw[e];exact nofun),λ_ h=>.inl h}
theorem Stp.nF(x:Stp ow F H F1 H1 TC)(hf:F a=AI)(e:H a=AA o)(hw:iW o)(ho:¬ow a):F1 a=AI:=by
 cases e1:F1 a with
 |none=>rfl
 |some u =>
  rcases x.new a u e1 with z|z|z
  .exact absurd hf z
  .exact absurd hw (z o e)
  .exact absurd z ho
theorem Stp.nw(x:Stp ow F H F1 H1 TC)(z:Nw H1 a):F a≠AI\/Nw H a\/ow a:=by
 by_cases h1:F a=AI
 .by_cases h2:ow a
  .exact .inr (.inr h2)
  .exact .inr (.inl λo e hw=>z o (x.keep a o e hw h1 h2) hw)
 .exact .inl h1
theorem Stp.trans(x:Stp ow F H F1 H1 TC)(y:Stp TC F1 H1 F2 H2 zK):Stp ow F H F2 H2 zK:=by
 have o1:∀a,H a≠AI->¬ow a->¬TC a:=λa hh ho z=>(x.own a z).elim ho hh;refine{λa o e hw hf ho=>?_,λa h=>x.dom a (y.dom a h),x.le.trans y.le,λa o e=>?_,λa h=>?_}
 .have hh:H a≠AI:=by rw[e];exact nofun
  exact y.keep a o (x.keep a o e hw hf ho) hw (x.nF hf e hw ho) (o1 a hh ho)
 .rcases y.new a o e with z|z|z
  .cases e1:F1 a with
   |none=>exact absurd e1 z
   |some u=>exact x.new a u e1
  .exact x.nw z
  .exact(x.own a z).elim (λq=>.inr (.inr q)) λq=>.inr (.inl (.none q))
 .exact(y.own a h).elim (x.own a) λq=>.inr (x.dom a q)
theorem Stp.weak(x:Stp ow F H F1 H1 TC)(h:∀a,zK a->TC a):Stp ow F H F1 H1 zK:={x.keep,x.dom,x.le,x.new,λa q=>x.own a (h a q)}
def New(F H F' H':Hp):Prop:=Stp (λ_=>False) F H F' H' (λ_=>False)/\Sub F' H'
theorem New.stp(n:New F H F' H'):Stp ow F H F' H' ow :=
 {λa o e hw hf _=>n.1.keep a o e hw hf id,n.1.dom,n.1.le,λa o e=>(n.1.new a o e).elim .inl λz=>z.elim (λz=>.inr (.inl z)) λz=>z.elim,λ_ h=>.inl h}
theorem New.refl(s:Sub F H):New F H F H:={Stp.refl,s}
theorem New.trans(x:New F H F1 H1)(y:New F1 H1 F2 H2):New F H F2 H2:={x.1.trans y.1,y.2}
theorem New.laid{p:AQ}(s:Sub F H)(h:H p=AI):New F H (DU F p o) (DU H p o):=by
 have hf:F p=AI:=by
  cases e:F p with
  |none=>rfl
  |some u=>rw[s p u e] at h;cases h
 refine{{λa u e _ _ _=>by rw[EL (T4 e h)];exact e,λa e=>?_,.of_gr (Gr.new hf),λa u e=>?_,λ_ z=>z.elim},λa u e=>?_}
 .by_cases ha:a=p
  .subst ha;rw[G3] at e;cases e
  .rw[EL ha] at e;exact e
 .by_cases ha:a=p
  .subst ha;exact .inr (.inl (.none h))
  .rw[EL ha] at e;exact .inl (by rw[e];exact nofun)
 .by_cases ha:a=p
  .subst ha;rw[G3] at e ⊢;exact e
  .rw[EL ha] at e ⊢;exact s a u e
theorem Gr.dom(g:Gr H H')(a:AQ)(e:H' a=AI):H a=AI:=by
 cases q:H a with
 |none=>rfl
 |some o=>rw[g a o q] at e;cases e
theorem pA6(s:Sub F H)(g:Gr H H'):New F H F H' :=
 {{λa o e _ _ _=>g a o e,g.dom,.refl _,λa o e=>.inl (by rw[e];exact nofun),λ_ z=>z.elim},λa u e=>g a u (s a u e)}
def gro(F H H':Hp):Hp:=λa=>match H a with|none=>H' a|some _=>F a
theorem wS(h:H a=AI):gro F H H' a=H' a:=by unfold gro;rw[h]
theorem Bx(h:H a=AA o):gro F H H' a=F a:=by unfold gro;rw[h]
theorem New.gro(s:Sub F H)(g:Gr H H'):New F H (gro F H H') H':=by
 refine{{λa o e _ _ _=>g a o e,g.dom,.of_gr λa u e=>by rw[Bx (s a u e)];exact e,λa o e=>?_,λ_ z=>z.elim},λa u e=>?_}
 .cases q:H a with
  |none=>exact .inr (.inl (.none q))
  |some v=>rw[Bx q] at e;exact .inl (by rw[e];exact nofun)
 .cases q:H a with
  |none=>rw[wS q] at e;exact e
  |some v=>rw[Bx q] at e;exact g a u (s a u e)
theorem Sim.new(S:Sim K H₀ τ F H σ E)(n:New F H F' H'):Sim K H₀ τ F' H' σ E where
 sub:=n.2
 len:=S.len
 val:=λi d e=>let ⟨v,h1,h2⟩:=S.val i d e;{v,h1,h2.le n.1.le}
 own:=λi t d e=>by
  obtain⟨a,h1,h2,h3,h4⟩:=S.own i t d e;obtain⟨o,ho,hw⟩:=h3.ho;exact{a,h1,n.1.nF h2 ho hw id,h3.mono n.1.le ((n.1.keep a o ho hw h2 id).trans ho.symm),h4}
 inj:=S.inj
theorem Sim.fresh(S:Sim K H₀ τ F H σ E)(h:H a=AI):¬DT σ E a:=λq0=>by
 obtain⟨i,t,d,e,e'⟩:=q0;obtain⟨b,h1,_,h3,_⟩:=S.own i t d e;rw[e'] at h1;cases h1;obtain⟨o,ho,_⟩:=h3.ho;rw[h] at ho;cases ho
end
abbrev G:=Ev->Out (D×Ev)
def tV(K:AC)(H₀:Hp)(g:G):TE:=λσ H Q=>∃τ F E d E',Sim K H₀ τ F H σ E/\g E=.ok (d,E') /\
 ∀v F' H',Stp (DT σ E) F H F' H' (DT σ E')->Sim K H₀ τ F' H' σ E'->Rep K F' v d->Q v H'
def tF(K:AC)(H₀:Hp)(g:G):TE:=λσ H Q=>∃τ F E d E',Sim K H₀ τ F H σ E/\g E=.ok (d,E') /\
 ∀a F' H',Stp (DT σ E) F H F' H' (DT σ E')->Sim K H₀ τ F' H' σ E'->F' a=AI->H a=AI->OwnAt K F' H' a d->¬DT σ E' a->Q (.ref a) H'
def tT(K:AC)(H₀:Hp)(g:Ev->Out (Bool×Ev)):TT:=λσ H Q=>∃τ F E b E',Sim K H₀ τ F H σ E/\g E=.ok (b,E') /\
 ∀F' H',Stp (DT σ E) F H F' H' (DT σ E')->Sim K H₀ τ F' H' σ E'->Q b H'
theorem PE.imp{t t':TE}(h:PE X e t)(hi:∀σ H Q,t' σ H Q->t σ H Q):PE X e t':=λAE s σ H Q I q=>h AE s σ H Q I (hi σ H Q q)
theorem PT.imp{t t':TT}(h:PT X e t)(hi:∀σ H Q,t' σ H Q->t σ H Q):PT X e t':=λAE s σ H Q I q=>h AE s σ H Q I (hi σ H Q q)
theorem PW.imp{t t':TT}(h:PW X e t)(hi:∀σ H Q,t' σ H Q->t σ H Q):PW X e t':=λw AE s σ H Q I q=>h w AE s σ H Q I (hi σ H Q q)
theorem PS.imp{e:E6}{t t':TS}(h:PS X e t)(hi:∀D σ H,t' D σ H->t D σ H):PS X e t':=λAE s σ H D I q=>h AE s σ H D I (hi D σ H q)
theorem PSs.imp{e:List E6}{t t':TS}(h:PSs X e t)(hi:∀D σ H,t' D σ H->t D σ H):PSs X e t':=λAE s σ H D I q=>h AE s σ H D I (hi D σ H q)
abbrev VE(X:Cx)(e:CU)(g:G):Prop:=PE X e (tV X.K X.H₀ g)
abbrev FE(X:Cx)(e:CU)(g:G):Prop:=PE X e (tF X.K X.H₀ g)
abbrev VT(X:Cx)(e:CU)(g:Ev->Out (Bool×Ev)):Prop:=PT X e (tT X.K X.H₀ g)
section
variable{a b:CU}{g ga gb gc:G}{K:AC}
theorem pA7{Q:VK}(h:tV K H₀ g σ H Q):tF K H₀ g σ H Q:=by
 obtain⟨τ,F,E,d,E',S,hg,k⟩:=h;refine{τ,F,E,d,E',S,hg,λp F' H' st S' n n0 ow no=>?_};obtain⟨o,ho,hown⟩:=ow.ho
 have nw:Stp (DT σ E) F H (DU F' p o) H' (DT σ E'):={st.keep,st.dom,st.le.trans (.of_gr (Gr.new n)),λa u e=>by
  by_cases ha:a=p
  .subst ha;exact .inr (.inl (.none n0))
  .rw[EL ha] at e;exact st.new a u e,st.own}
 refine k _ _ _ nw {λa u e=>?_,S'.len,λi d e=>?_,λi t d e=>?_,S'.inj} (ow.rep n ho)
 .by_cases ha:a=p
  .subst ha;rw[G3] at e;rw[ho];exact e
  .rw[EL ha] at e;exact S'.sub a u e
 .obtain⟨v,h1,h2⟩:=S'.val i d e;exact{v,h1,h2.le (.of_gr (Gr.new n))}
 .obtain⟨b,h1,h2,h3,h4⟩:=S'.own i t d e
  refine{b,h1,?_,h3.mono (.of_gr (Gr.new n)) rfl,h4};rw[EL (λz=>no {i,t,d,e,by rw[<-z];exact h1})];exact h2
theorem pA8(h:FE X e g):VE X e g:=PE.imp h λ_ _ _ q=>pA7 q
noncomputable def BA(i:Nat):G:=λE=>match E[i]? with
 |some (.val d)=>.ok (d,E)
 |some (.own AD d)=>.ok (d,E.set i (.val d))
 |_=>.bad
def gC(d:D):G:=λE=>.ok (d,E)
theorem Sim.share{E:Ev}{t:Bool}{d:D}(S:Sim K H₀ τ F H σ E)(e:E[i]?=AA (.own t d)) :
  ∃a F',σ[i]?=AA (AA (.ref a))/\Stp (DT σ E) F H F' H (DT σ (E.set i (.val d)))/\Sim K H₀ τ F' H σ (E.set i (.val d))/\Rep K F' (.ref a) d:=by
 obtain⟨a,h1,h2,h3,h4⟩:=S.own i t d e;obtain⟨o,ho,_⟩:=h3.ho;have hi:i<E.length:=(AR.mp e).1;have l:Le F (DU F a o):=.of_gr (Gr.new h2)
 have HV:∀(j:Nat) t d',(E.set i (.val d))[j]?=AA (.own t d')->j≠i/\E[j]?=AA (.own t d'):=λj t d' q=>by
  by_cases hj:i=j
  .subst hj;rw[BF hi] at q;cases q
  .rw[A4 hj] at q;exact{FH hj,q}
 refine{a,DU F a o,h1,{λ_ _ q _ _ _=>q,λ_ q=>q,l,λb u q=>?_,λb ⟨j,t',d',q1,q2⟩=>.inl {j,t',d',(HV j t' d' q1).2,q2}},{λb u q=>?_,by rw[BZ];exact S.len,λj d' q=>?_,λj t' d' q=>?_,λj k t1 t2 d1 d2 b q1 q2=>S.inj j k t1 t2 d1 d2 b (HV _ _ _ q1).2 (HV _ _ _ q2).2},h3.rep h2 ho}
 .by_cases hb:b=a
  .subst hb;exact .inr (.inr {i,t,d,e,h1})
  .rw[EL hb] at q;exact .inl (by rw[q];exact nofun)
 .by_cases hb:b=a
  .subst hb;rw[G3] at q;rw[ho];exact q
  .rw[EL hb] at q;exact S.sub b u q
 .by_cases hj:i=j
  .subst hj;rw[BF hi] at q;cases q;exact{_,h1,h3.rep h2 ho}
  .rw[A4 hj] at q
   obtain⟨v,z1,z2⟩:=S.val j d' q;exact{v,z1,z2.le l}
 .obtain⟨hj,q⟩:=HV j t' d' q
  obtain⟨b,z1,z2,z3,z4⟩:=S.own j t' d' q;refine{b,z1,?_,z3.mono l rfl,z4};rw[EL (λz=>hj (S.inj j i t' t d' d a q e (by rw[z1,z]) h1))];exact z2
theorem CQ(i:Nat)(hN:X.N[i]?=AA x:=by rfl)(hv:ZA X.env.scope x:=by first|exact BN rfl|exact D9 (BN rfl)|exact D9 (D9 rfl))(hd:(x==("__debug__":CK))=AD:=by decide)
  (LR:(x==("__classdict__":CK))=AD:=by decide):VE X (.Name x pos) (BA i):=(fY hN hv hd LR).imp λσ H Q h=>by
 obtain⟨τ,F,E,d,E',S,hg,k⟩:=h;unfold BA at hg;split at hg
 .cases hg
  rename_i e;obtain⟨v,h1,h2⟩:=S.val i _ e;exact{v,h1,k v F H .refl S h2}
 .cases hg
  rename_i e;obtain⟨a,F',h1,h2,h3,h4⟩:=S.share e;exact{_,h1,k _ F' H h2 h3 h4}
 .cases hg
theorem El{d:D}(r:∀F,Rep K F v d){Q:VK}(h:tV K H₀ (gC d) σ H Q):tC v σ H Q:=by
 obtain⟨τ,F,E,d',E',S,hg,k⟩:=h;cases hg;exact k v F H .refl S (r F)
theorem IJ{i j pos}:VE X (.Constant (.int i) j pos) (gC (.int i)):=lW.imp λ_ _ _ h=>El (λ_=>.int i) h
theorem iS{b j pos}:VE X (.Constant (.bool b) j pos) (gC (.bl b)):=sE.imp λ_ _ _ h=>El (λ_=>.bl b) h
theorem iV{j pos}:VE X (.Constant .none j pos) (gC .non):=lV.imp λ_ _ _ h=>El (λ_=>.non) h
def g2(f:D->D->Out D)(ga gb:G):G:=λE=>(ga E).bind λp=>(gb p.2).bind λq=>(f p.1 q.1).bind λd=>.ok (d,q.2)
def g1(f:D->Out D)(ga:G):G:=λE=>(ga E).bind λp=>(f p.1).bind λd=>.ok (d,p.2)
def S8(K:AC)(rd:R2)(f:D->D->Out D):Prop:=∀v u x y F H d Q,Sub F H->Rep K F v x->Rep K F u y->f x y=.ok d->(∀z F' H',New F H F' H'->Rep K F' z d->Q z H')->rd v u H Q
def Fj(K:AC)(rd:V->Hp->VK->Prop)(f:D->Out D):Prop:=∀v x F H d Q,Sub F H->Rep K F v x->f x=.ok d->(∀z F' H',New F H F' H'->Rep K F' z d->Q z H')->rd v H Q
theorem v9{rd:R2}{f:D->D->Out D}(hs:S8 K rd f){Q:VK}(h:tV K H₀ (g2 f ga gb) σ H Q):jJ rd (tV K H₀ ga) (tV K H₀ gb) σ H Q:=by
 obtain⟨τ,F,E,d,E',S,hg,k⟩:=h;obtain⟨p,ea,hg⟩:=pA3 hg;obtain⟨q,eb,hg⟩:=pA3 hg;obtain⟨z,ef,hg⟩:=pA3 hg;cases hg;refine{τ,F,E,p.1,p.2,S,ea,λv F1 H1 st1 S1 r1=>?_};refine{τ,F1,p.2,q.1,q.2,S1,eb,λu F2 H2 st2 S2 r2=>?_};exact hs v u p.1 q.1 F2 H2 d Q S2.sub (r1.le st2.le) r2 ef λz F3 H3 n r3=>k z F3 H3 ((st1.trans st2).trans n.stp) (S2.new n) r3
theorem yEO{rd:V->Hp->VK->Prop}{f:D->Out D}(hs:Fj K rd f){Q:VK}(h:tV K H₀ (g1 f ga) σ H Q):Uw rd (tV K H₀ ga) σ H Q:=by
 obtain⟨τ,F,E,d,E',S,hg,k⟩:=h;obtain⟨p,ea,hg⟩:=pA3 hg;obtain⟨z,ef,hg⟩:=pA3 hg;cases hg;refine{τ,F,E,p.1,p.2,S,ea,λv F1 H1 st1 S1 r1=>?_};exact hs v p.1 F1 H1 d Q S1.sub r1 ef λz F3 H3 n r3=>k z F3 H3 (st1.trans n.stp) (S1.new n) r3
theorem pJ{op:Operator}{rd:R2}{f:D->D->Out D}(ho:OpR X (G8 op) rd)(hs:S8 X.K rd f)(ha:VE X a ga)(hb:VE X b gb):VE X (.BinOp a op b pos) (g2 f ga gb):=(wD ho ha hb).imp λ_ _ _ h=>v9 hs h
theorem yHD{op:UnaryOp}{rd:V->Hp->VK->Prop}{f:D->Out D}(ho:zC X (unaryOp op) rd)(hs:Fj X.K rd f)(ha:VE X a ga):VE X (.UnaryOp op a pos) (g1 f ga):=(yEA ho ha).imp λ_ _ _ h=>yEO hs h
theorem Uj{rd:R2}{f:D->D->Out D}(ho:OpR X (EQ op) rd)(hs:S8 X.K rd f)(ha:VE X a ga)(hb:VE X b gb)(hm:DO op b=AD):VE X (.Compare a [op] [b] pos) (g2 f ga gb):=(zW0 ho ha hb hm).imp λ_ _ _ h=>v9 hs h
def gB(g:G):Ev->Out (Bool×Ev):=λE=>(g E).bind λp=>match p.1 with|.bl b=>.ok (b,p.2)|_=>.bad
theorem fX{rd:R2}{f:D->D->Out D}(ho:OpR X (EQ op) rd)(hs:S8 X.K rd f)(ha:VE X a ga)(hb:VE X b gb)(hm:DO op b=AD):VT X (.Compare a [op] [b] pos) (gB (g2 f ga gb)):=(zW1 ho ha hb hm).imp λσ H Q h=>by
 obtain⟨τ,F,E,b',E',S,hg,k⟩:=h;obtain⟨p,ea,hg⟩:=pA3 hg;refine v9 hs {τ,F,E,p.1,p.2,S,ea,λv F1 H1 st1 S1 r1=>?_};split at hg
 .rename_i b' eb
  cases hg;rw[eb] at r1;cases r1;exact{_,rfl,k F1 H1 st1 S1}
 .cases hg
def fR(t:Ev->Out (Bool×Ev)):Ev->Out (Bool×Ev):=λE=>(t E).bind λp=>.ok (!p.1,p.2)
def fW(t u:Ev->Out (Bool×Ev)):Ev->Out (Bool×Ev):=λE=>(t E).bind λp=>if p.1=AL then u p.2 else .ok (AD,p.2)
def yK(t u:Ev->Out (Bool×Ev)):Ev->Out (Bool×Ev):=λE=>(t E).bind λp=>if p.1=AL then .ok (AL,p.2) else u p.2
theorem Be{t:Ev->Out (Bool×Ev)}(h:VT X a t):VT X (.UnaryOp .Not a pos) (fR t):=(yAM h).imp λσ H Q q=>by
 obtain⟨τ,F,E,b',E',S,hg,k⟩:=q;obtain⟨p,ea,hg⟩:=pA3 hg;cases hg;exact{τ,F,E,p.1,p.2,S,ea,λF1 H1 st1 S1=>k F1 H1 st1 S1}
abbrev VW(X:Cx)(e:CU)(g:Ev->Out (Bool×Ev)):Prop:=PW X e (tT X.K X.H₀ g)
theorem VW.t{t:Ev->Out (Bool×Ev)}(h:VW X a t):VT X a t:=PW.pt h
theorem Bw{t:Ev->Out (Bool×Ev)}(h:VT X a t):VW X (.BoolOp .And [a] pos) t:=zWV h
theorem yBQ{t:Ev->Out (Bool×Ev)}(h:VT X a t):VW X (.BoolOp .Or [a] pos) t:=yAK h
theorem Bd{t u:Ev->Out (Bool×Ev)}{rest:List CU}(h:VT X a t)(h':VW X (.BoolOp .And (b::rest) pos) u):VW X (.BoolOp .And (a::b::rest) pos) (fW t u):=(yAL h h').imp λσ H Q q=>by
 obtain⟨τ,F,E,b',E',S,hg,k⟩:=q;obtain⟨p,ea,hg⟩:=pA3 hg;refine{τ,F,E,p.1,p.2,S,ea,λF1 H1 st1 S1=>?_}
 by_cases hp:p.1=AL
 .rw[if_pos hp] at hg ⊢
  exact{τ,F1,p.2,b',E',S1,hg,λF2 H2 st2 S2=>k F2 H2 (st1.trans st2) S2}
 .rw[if_neg hp] at hg ⊢
  cases hg;exact k F1 H1 st1 S1
theorem yEP{t u:Ev->Out (Bool×Ev)}{rest:List CU}(h:VT X a t)(h':VW X (.BoolOp .Or (b::rest) pos) u):VW X (.BoolOp .Or (a::b::rest) pos) (yK t u):=(yD0 h h').imp λσ H Q q=>by
 obtain⟨τ,F,E,b',E',S,hg,k⟩:=q;obtain⟨p,ea,hg⟩:=pA3 hg;refine{τ,F,E,p.1,p.2,S,ea,λF1 H1 st1 S1=>?_}
 by_cases hp:p.1=AL
 .rw[if_pos hp] at hg ⊢
  cases hg;exact k F1 H1 st1 S1
 .rw[if_neg hp] at hg ⊢
  exact{τ,F1,p.2,b',E',S1,hg,λF2 H2 st2 S2=>k F2 H2 (st1.trans st2) S2}
def Ek(ga gb:G):G:=λE=>(ga E).bind λp=>match p.1 with|.bl AL=>gb p.2|.bl AD=>.ok (.bl AD,p.2)|_=>.bad
def Vg(ga gb:G):G:=λE=>(ga E).bind λp=>match p.1 with|.bl AL=>.ok (.bl AL,p.2)|.bl AD=>gb p.2|_=>.bad
def Ej(ga:G):G:=λE=>(ga E).bind λp=>match p.1 with|.bl b=>.ok (.bl (!b),p.2)|_=>.bad
theorem Ui{op}(h:VE X a g):VE X (.BoolOp op [a] pos) g:=yAN h
theorem yES{rest:List CU}(ha:VE X a ga)(hb:VE X (.BoolOp .And (b::rest) pos) gb):VE X (.BoolOp .And (a::b::rest) pos) (Ek ga gb):=(yAO ha hb).imp λσ H Q q=>by
 obtain⟨τ,F,E,d,E',S,hg,k⟩:=q;obtain⟨p,ea,hg⟩:=pA3 hg;refine{τ,F,E,p.1,p.2,S,ea,λv F1 H1 st1 S1 r1=>?_};split at hg
 .rename_i eb
  rw[eb] at r1;cases r1;exact{AL,rfl,Td {τ,F1,p.2,d,E',S1,hg,λv F2 H2 st2 S2 r2=>k v F2 H2 (st1.trans st2) S2 r2}}
 .rename_i eb
  rw[eb] at r1;cases r1;cases hg;exact{AD,rfl,Te (k _ F1 H1 st1 S1 (.bl AD))}
 .cases hg
theorem yHE{rest:List CU}(ha:VE X a ga)(hb:VE X (.BoolOp .Or (b::rest) pos) gb):VE X (.BoolOp .Or (a::b::rest) pos) (Vg ga gb):=(yD3 ha hb).imp λσ H Q q=>by
 obtain⟨τ,F,E,d,E',S,hg,k⟩:=q;obtain⟨p,ea,hg⟩:=pA3 hg;refine{τ,F,E,p.1,p.2,S,ea,λv F1 H1 st1 S1 r1=>?_};split at hg
 .rename_i eb
  rw[eb] at r1;cases r1;cases hg;exact{AL,rfl,Td (k _ F1 H1 st1 S1 (.bl AL))}
 .rename_i eb
  rw[eb] at r1;cases r1;exact{AD,rfl,Te {τ,F1,p.2,d,E',S1,hg,λv F2 H2 st2 S2 r2=>k v F2 H2 (st1.trans st2) S2 r2}}
 .cases hg
theorem yET(ha:VE X a ga):VE X (.UnaryOp .Not a pos) (Ej ga):=(yAP ha).imp λσ H Q q=>by
 obtain⟨τ,F,E,d,E',S,hg,k⟩:=q;obtain⟨p,ea,hg⟩:=pA3 hg;refine{τ,F,E,p.1,p.2,S,ea,λv F1 H1 st1 S1 r1=>?_};split at hg
 .rename_i b' eb
  rw[eb] at r1;cases r1;cases hg;exact{_,rfl,k _ F1 H1 st1 S1 (.bl _)}
 .cases hg
def sJ(t:Ev->Out (Bool×Ev))(ga gb:G):G:=λE=>(t E).bind λp=>if p.1=AL then ga p.2 else gb p.2
theorem yHF{t:Ev->Out (Bool×Ev)}(hc:VT X c t)(ha:VE X a ga)(hb:VE X b gb):VE X (.IfExp c a b pos) (sJ t ga gb):=(Pc hc ha hb).imp λσ H Q q=>by
 obtain⟨τ,F,E,d,E',S,hg,k⟩:=q;obtain⟨p,ea,hg⟩:=pA3 hg;refine{τ,F,E,p.1,p.2,S,ea,λF1 H1 st1 S1=>?_}
 by_cases hp:p.1=AL
 .rw[if_pos hp] at hg ⊢
  exact{τ,F1,p.2,d,E',S1,hg,λv F2 H2 st2 S2 r=>k v F2 H2 (st1.trans st2) S2 r}
 .rw[if_neg hp] at hg ⊢
  exact{τ,F1,p.2,d,E',S1,hg,λv F2 H2 st2 S2 r=>k v F2 H2 (st1.trans st2) S2 r}
end
def Vh(H₀ H H2:Hp):Prop:=∀a,H2 a=H a\/∃o u,H a=AA (.frz o u)/\H2 a=AA u/\qK u/\∀o' u',H₀ a≠AA (.frz o' u')
theorem Inv.thaw(I:Inv X AE σ H s)(t:Vh X.H₀ H H2):Inv X AE σ H2 s:=by
 have tn:∀a,H a=AI->H2 a=AI:=λa e=>by
  rcases t a with h|⟨o,u,h,_⟩
  .rw[h,e]
  .rw[e] at h;cases h
 have tk:∀a v,H a=AA v->(∀o u,v≠.frz o u)->H2 a=AA v:=λa v e n=>by
  rcases t a with h|⟨o,u,h,_⟩
  .rw[h,e]
  .rw[e] at h;cases h;exact absurd rfl (n o u)
 refine{I.ok,I.os,I.bare,{I.base.keep,I.base.slot,λb o e n hx=>tn b (I.base.free b o e n hx),I.base.there,λb xs e=>tk b _ (I.base.tups b xs e) (λ_ _ z=>HO.noConfusion z),λb o u e=>?_,λb t' ps e=>?_},I.loc,I.cell,tn _ I.free,λx c e=>tn c (I.freeC x c e),λp hp=>?_,λb u e=>?_,I.len}
 .rcases t b with h|⟨o',u',_,_,_,h⟩
  .rw[h];exact I.base.frzs b o u e
  .exact absurd e (h o u)
 .obtain⟨m,h⟩:=I.base.tbls b t' ps e
  exact{m,tk b _ h (λ_ _ z=>HO.noConfusion z)}
 .obtain⟨h1,h2,h3⟩:=I.pin p hp
  exact{h1,tn _ h2,h3}
 .have ok:ObjOk X.prog X.w H s.heap b u:=by
   rcases t b with h|⟨o',u',h1,h2,_⟩
   .exact I.hok b u (by rw[<-h];exact e)
   .rw[e] at h2;cases h2
    obtain⟨_,q⟩:=I.hok b _ h1;exact q
  exact ok.stay (λc v _ q=>q) (λc q=>tk c _ q (λ_ _ z=>HO.noConfusion z)) (λc ys q=>tk c _ q (λ_ _ z=>HO.noConfusion z)) λc o x q=>(t c).elim (λh=>h.trans q) (λq0=>by obtain⟨_,_,h,_,d,_⟩:=q0;exact by rw[q] at h;cases h;exact d.elim)
mutual
noncomputable def D.flat:D->Bool
 |.tup xs=>pA9 xs
 |.lst _=>AD
 |.dk _=>AD
 |.dt _=>AD
 |_=>AL
noncomputable def pA9:List D->Bool
 |[]=>AL
 |d::ds=>d.flat&&pA9 ds
end
mutual
noncomputable def D.nod:D->Bool
 |.tup xs=>pAA xs
 |.lst xs=>pAA xs
 |.dk _=>AD
 |.dt _=>AD
 |_=>AL
noncomputable def pAA:List D->Bool
 |[]=>AL
 |d::ds=>d.nod&&pAA ds
end
section
variable{K:AC}
theorem pAB(ht:∀a vs,F a=AA (.tup vs)->F2 a=AA (.tup vs)):(∀{v d},Rep K F v d->d.flat=AL->Rep K F2 v d)/\(∀{vs ds},Reps K F vs ds->pA9 ds=AL->Reps K F2 vs ds) /\
  (∀{vs ds},RepK K F vs ds->pA9 (ds.map (·.2))=AL->RepK K F2 vs ds)/\∀{vs ds},RepT K F vs ds->pA9 (ds.map (·.2))=AL->RepT K F2 vs ds :=
 Rep.ind (P:=λv d=>d.flat=AL->Rep K F2 v d) (Q:=λv d=>pA9 d=AL->Reps K F2 v d) (R:=λv d=>pA9 (d.map (·.2))=AL->RepK K F2 v d) (T:=λv d=>pA9 (d.map (·.2))=AL->RepT K F2 v d)
  (λ_=>.non) (λb _=>.bl b) (λi _=>.int i) (λx _=>.str x) (λh _ ih e=>.tup (ht _ _ h) (ih (by rw[D.flat] at e;exact e))) (λh n _=>.tupK h n) (λ_ _ _ e=>by rw[D.flat] at e;cases e) (λ_ _ _ e=>by rw[D.flat] at e;cases e) (λ_ _ _ e=>by rw[D.flat] at e;cases e)
  (λ_=>.nil) (λ_ _ h r e=>by rw[pA9,EU] at e;exact .cons (h e.1) (r e.2)) (λ_=>.nil) (λ_ _ h r e=>by rw[AX,pA9,EU] at e;exact .cons (h e.1) (r e.2)) (λ_=>.nil) (λ_ _ h r e=>by rw[AX,pA9,EU] at e;exact .cons (h e.1) (r e.2))
theorem Rep.flat2(ht:∀a vs,F a=AA (.tup vs)->F2 a=AA (.tup vs)){d:D}(r:Rep K F v d):d.flat=AL->Rep K F2 v d:=(pAB ht).1 r
theorem Reps.flat2(ht:∀a vs,F a=AA (.tup vs)->F2 a=AA (.tup vs)){v:List V}{d:List D}(r:Reps K F v d):pA9 d=AL->Reps K F2 v d:=(pAB ht).2.1 r
theorem pAC(ht:∀a vs,F a=AA (.tup vs)->F2 a=AA (.tup vs))(hl:∀a vs,SqL K F a vs->SqL K F2 a vs):(∀{v d},Rep K F v d->d.nod=AL->Rep K F2 v d)/\(∀{vs ds},Reps K F vs ds->pAA ds=AL->Reps K F2 vs ds) /\
  (∀{vs ds},RepK K F vs ds->True)/\∀{vs ds},RepT K F vs ds->True :=
 Rep.ind (P:=λv d=>d.nod=AL->Rep K F2 v d) (Q:=λv d=>pAA d=AL->Reps K F2 v d) (R:=λ_ _=>True) (T:=λ_ _=>True)
  (λ_=>.non) (λb _=>.bl b) (λi _=>.int i) (λx _=>.str x) (λh _ ih e=>.tup (ht _ _ h) (ih (by rw[D.nod] at e;exact e))) (λh n _=>.tupK h n) (λh _ ih e=>.lst (hl _ _ h) (ih (by rw[D.nod] at e;exact e))) (λ_ _ _ e=>by rw[D.nod] at e;cases e) (λ_ _ _ e=>by rw[D.nod] at e;cases e)
  (λ_=>.nil) (λ_ _ h r e=>by rw[pAA,EU] at e;exact .cons (h e.1) (r e.2)) trivial (λ_ _ _ _=>trivial) trivial (λ_ _ _ _=>trivial)
theorem pAD(ht:∀a vs,F a=AA (.tup vs)->F2 a=AA (.tup vs))(hl:∀a vs,SqL K F a vs->SqL K F2 a vs){d:D}(r:Rep K F v d):d.nod=AL->Rep K F2 v d:=(pAC ht hl).1 r
end
noncomputable def Z0(is:List Nat)(j:Nat):Sl->Sl
 |.own _ d=>if is.contains j then .val d else .no
 |s=>s
def fV(is:List Nat):Nat->Ev->Ev
 |_,[]=>[]
 |j,s::E=>Z0 is j s::fV is (j+1) E
abbrev NY(is:List Nat)(E:Ev):Ev:=fV is 0 E
theorem Qb(is:List Nat):∀(E:Ev) (k j:Nat),(fV is k E)[j]?=(E[j]?).map (Z0 is (k+j))
 |[],_,_=>by simp[fV]
 |s::E,k,0=>by simp[fV]
 |s::E,k,j+1=>by
  show(fV is (k+1) E)[j]?=_;rw[Qb is E (k+1) j,FU,show k+1+j=k+(j+1) by lia]
theorem Ot(is:List Nat)(E:Ev)(j:Nat):(NY is E)[j]?=(E[j]?).map (Z0 is j):=by rw[Qb];simp
theorem Qo(is:List Nat):∀(E:Ev) (k:Nat),(fV is k E).length=E.length
 |[],_=>rfl
 |s::E,k=>by rw[fV,BC,BC,Qo is E (k+1)]
def sA:Option Sl->Bool
 |some (.own _ (.lst _))=>AL
 |_=>AD
noncomputable def Ei:Option Sl->Bool
 |some (.own _ (.dk _))=>AL
 |some (.own _ (.dt _))=>AL
 |_=>AD
def dX(is:List Nat)(E:Ev)(d:D):Bool:=(!(is.any λi=>sA E[i]?)||d.flat)&&(!(is.any λi=>Ei E[i]?)||d.nod)
def OK(is:List Nat)(g:G):G:=λE=>(g (NY is E)).bind λp=>if dX is E p.1=AL then .ok (p.1,E) else .bad
def TY(is:List Nat)(g:Ev->Out (Bool×Ev)):Ev->Out (Bool×Ev):=λE=>(g (NY is E)).bind λp=>.ok (p.1,E)
section
variable{K:AC}{E:Ev}
def Lent(σ:St)(E:Ev)(is:List Nat)(a:AQ):Prop:=∃(i:Nat) (t:Bool) (d:D),i∈is/\E[i]?=AA (Sl.own t d)/\σ[i]?=AA (AA (V.ref a))
theorem Lent.ow(h:Lent σ E is a):DT σ E a:=let ⟨i,t,d,_,e,q⟩:=h;{i,t,d,e,q}
theorem Sim.owned(S:Sim K H₀ τ F H σ E)(h:DT σ E a):F a=AI/\(∃o,H a=AA o/\iW o)/\∀o u,H₀ a≠AA (.frz o u):=by
 obtain⟨i,t,d,e,q⟩:=h;obtain⟨b,h1,h2,h3,h4,_⟩:=S.own i t d e;rw[q] at h1;cases h1;exact{h2,h3.ho,h4}
open Classical in
noncomputable def W2(σ:St)(E:Ev)(is:List Nat)(F H:Hp):Hp:=λa=>if Lent σ E is a then H a else F a
open Classical in
noncomputable def VU(σ:St)(E:Ev)(is:List Nat)(F':Hp):Hp:=λa=>if Lent σ E is a then AI else F' a
open Classical in
noncomputable def ZX(σ:St)(E:Ev)(is:List Nat)(H H':Hp):Hp:=λa=>if Lent σ E is a then H a else H' a
theorem Sim.lend(S:Sim K H₀ τ F H σ E)(is:List Nat):Sim K H₀ τ (W2 σ E is F H) H σ (NY is E)/\∀a,¬DT σ (NY is E) a:=by
 have l:Le F (W2 σ E is F H):=λa u e=>by
  refine .inl ?_;unfold W2;split
  .exact S.sub a u e
  .exact e
 have no:∀(i:Nat) t d,(NY is E)[i]?≠AA (.own t d):=λi t d e=>by
  rw[Ot] at e
  cases q:E[i]? with
  |none=>rw[q] at e;cases e
  |some s =>
   rw[q] at e;have e:Z0 is i s=.own t d:=BK e
   cases s with
   |no=>cases e
   |val _=>cases e
   |own t' d' =>
    by_cases hc:is.contains i=AL
    .rw[show Z0 is i (.own t' d')=.val d' from if_pos hc] at e;cases e
    .rw[show Z0 is i (.own t' d')=.no from if_neg hc] at e;cases e
 refine{{λa u e=>?_,by rw[Qo];exact S.len,λi d e=>?_,λi t d e=>absurd e (no i t d),λi j t u d d' a e=>absurd e (no i t d)},(λa q0=>by obtain⟨i,t,d,e,_⟩:=q0;exact no i t d e)}
 .unfold W2 at e
  split at e
  .exact e
  .exact S.sub a u e
 .rw[Ot] at e
  cases q:E[i]? with
  |none=>rw[q] at e;cases e
  |some s =>
   rw[q] at e;have e:Z0 is i s=.val d:=BK e
   cases s with
   |no=>cases e
   |val d' =>
    cases e;obtain⟨v,h1,h2⟩:=S.val i d q;exact{v,h1,h2.le l}
   |own t' d' =>
    by_cases hc:is.contains i=AL
    .rw[show Z0 is i (.own t' d')=.val d' from if_pos hc] at e
     cases e;obtain⟨a,h1,h2,h3,_⟩:=S.own i t' d q;obtain⟨o,ho,_⟩:=h3.ho;refine{.ref a,h1,(h3.rep h2 ho).le λb u e=>.inl ?_};have la:Lent σ E is a:={i,t',d,by simpa using hc,q,h1}
     by_cases hb:b=a
     .subst hb
      rw[G3] at e;unfold W2;rw[if_pos la,ho];exact e
     .rw[EL hb] at e
      unfold W2;split
      .exact S.sub b u e
      .exact e
    .rw[show Z0 is i (.own t' d')=.no from if_neg hc] at e;cases e
theorem Sim.back(S:Sim K H₀ τ F H σ E)(is:List Nat)(st:Stp (λ_=>False) (W2 σ E is F H) H F' H' XB)(sb:Sub F' H') :
  Vh H₀ H' (ZX σ E is H H')/\Stp (DT σ E) F H (VU σ E is F') (ZX σ E is H H') (DT σ E)/\Sim K H₀ τ (VU σ E is F') (ZX σ E is H H') σ E /\
  (∀a u,F' a=AA u->(∀o w,iW o->u≠o/\u≠.frz w o)->VU σ E is F' a=AA u) /\
  ((is.any λi=>sA E[i]?)=AD->∀a vs,SqL K F' a vs->SqL K (VU σ E is F') a vs):=by
 have lh:∀a,Lent σ E is a->∃o,H a=AA o/\iW o/\(F' a=AA o\/(qK o/\∃w,F' a=AA (.frz w o))):=λa h=>by
  obtain⟨_,⟨o,ho,hw⟩,_⟩:=S.owned h.ow;refine{o,ho,hw,(st.le a o ?_).imp_right λz=>z.resolve_right (λq0=>by obtain⟨_,_,_,y,_⟩:=q0;exact by subst y;exact hw)};unfold W2;rw[if_pos h];exact ho
 have l2:Le F (VU σ E is F'):=λa u e=>by
  have hn:¬Lent σ E is a:=λh=>by rw[(S.owned h.ow).1] at e;cases e
  unfold VU;rw[if_neg hn];exact st.le a u (by unfold W2;rw[if_neg hn];exact e)
 have kp:∀a o,H a=AA o->iW o->F a=AI->ZX σ E is H H' a=AA o:=λa o e hw n=>by
  unfold ZX
  by_cases h:Lent σ E is a
  .rw[if_pos h];exact e
  .rw[if_neg h];exact st.keep a o e hw (by unfold W2;rw[if_neg h];exact n) id
 have nw:∀a o,VU σ E is F' a=AA o->F a≠AI\/Nw H a:=λa o e=>by
  unfold VU at e
  by_cases h:Lent σ E is a
  .rw[if_pos h] at e;cases e
  .rw[if_neg h] at e
   rcases st.new a o e with z|z|z
   .unfold W2 at z;rw[if_neg h] at z;exact .inl z
   .exact .inr z
   .exact z.elim
 refine{λa=>?_,{λa o e hw n _=>kp a o e hw n,λa e=>?_,l2,λa o e=>(nw a o e).imp_right .inl,λ_ h=>.inl h},{λa u e=>?_,S.len,λi d e=>?_,λi t d e=>?_,S.inj},λa u e hn=>?_,λhl a vs h=>?_}
 .by_cases h:Lent σ E is a
  .obtain⟨o,ho,_,z|⟨id,w,z⟩⟩:=lh a h
   .exact .inl (by unfold ZX;rw[if_pos h,sb a o z,ho])
   .exact .inr {w,o,sb a _ z,by unfold ZX;rw[if_pos h,ho],id,(S.owned h.ow).2.2}
  .exact .inl (by unfold ZX;rw[if_neg h])
 .unfold ZX at e
  by_cases h:Lent σ E is a
  .rw[if_pos h] at e;exact e
  .rw[if_neg h] at e;exact st.dom a e
 .unfold VU at e
  by_cases h:Lent σ E is a
  .rw[if_pos h] at e;cases e
  .rw[if_neg h] at e
   unfold ZX;rw[if_neg h];exact sb a u e
 .obtain⟨v,h1,h2⟩:=S.val i d e
  exact{v,h1,h2.le l2}
 .obtain⟨a,h1,h2,h3,h4⟩:=S.own i t d e
  obtain⟨o,ho,hw⟩:=h3.ho;refine{a,h1,?_,h3.mono l2 ((kp a o ho hw h2).trans ho.symm),h4}
  cases q:VU σ E is F' a with
  |none=>rfl
  |some u =>
   rcases nw a u q with z|z
   .exact absurd h2 z
   .exact absurd hw (z o ho)
 .unfold VU
  by_cases h:Lent σ E is a
  .obtain⟨o,ho,hw,z|⟨_,w,z⟩⟩:=lh a h
   .rw[e] at z;cases z;exact absurd rfl (hn u default hw).1
   .rw[e] at z;cases z;exact absurd rfl (hn o w hw).2
  .rw[if_neg h];exact e
 .rcases h with h|h
  case inr=>exact .inr h
  refine .inl ?_
  have hn:¬Lent σ E is a:=λhh=>by
   obtain⟨o,ho,hw,z⟩:=lh a hh;obtain⟨i,t,d,hi,e,q⟩:=id hh
   have Xf:sA E[i]?=AD:=by
    have:=LX.mp hl i hi;simpa using this
   obtain⟨b,h1,h2,h3,_⟩:=S.own i t d e;rw[q] at h1;cases h1
   have od:qK o:=by
    cases d with
    |lst ds=>rw[e] at Xf;cases Xf
    |dk ds=>obtain⟨_,q,_⟩:=h3;rw[ho] at q;cases q;trivial
    |dt ds=>obtain⟨_,q,_⟩:=h3;rw[ho] at q;cases q;trivial
    |_=>exact h3.elim
   rcases h with h|⟨w,h⟩<;>rcases z with z|⟨_,w',z⟩<;>rw[h] at z<;>cases z<;>exact od
  unfold Rd VU;rw[if_neg hn];exact h
theorem zTS(S:Sim K H₀ τ F H σ E)(is:List Nat)(st:Stp (λ_=>False) (W2 σ E is F H) H F' H' XB)(sb:Sub F' H'){d:D}(hl:dX is E d=AL)(r:Rep K F' v d):Rep K (VU σ E is F') v d:=by
 obtain⟨_,_,_,h1,h2⟩:=S.back is st sb;have ht:∀a vs,F' a=AA (.tup vs)->VU σ E is F' a=AA (.tup vs):=λa vs e=>h1 a _ e λo w ho=>{λz=>by subst z;exact ho,λz=>HO.noConfusion z};unfold dX at hl;rw[EU,iM,iM] at hl;rcases hl.1 with z|z
 .rcases hl.2 with y|y
  ·-- nothing is lent at all
   have no:∀a,¬Lent σ E is a:=λa q0=>by
    obtain⟨i,t,d,hi,e,q⟩:=q0;have e1:sA E[i]?=AD:=by have:=LX.mp (by simpa using z) i hi;simpa using this
    have e2:Ei E[i]?=AD:=by have:=LX.mp (by simpa using y) i hi;simpa using this
    obtain⟨b,_,_,h3,_⟩:=S.own i t d e;rw[e] at e1 e2
    cases d with
    |lst ds=>cases e1
    |dk ds=>cases e2
    |dt ds=>cases e2
    |_=>exact h3.elim
   exact r.le λa u e=>.inl (by unfold VU;rw[if_neg (no a)];exact e)
  .exact pAD ht (h2 (by simpa using z)) r y
 .exact Rep.flat2 ht r z
theorem Stp.toF{ow:AQ->Prop}(h:∀a,¬ow a)(st:Stp ow F H F' H' XB):Stp (λ_=>False) F H F' H' XB :=
 {λa o e hw n _=>st.keep a o e hw n (h a),st.dom,st.le,λa o e=>(st.new a o e).imp_right λz=>z.imp_right (h a),λa z=>(st.own a z).elim (λz=>absurd z (h a)) .inr}
theorem Y0{g:G}(is:List Nat)(h:VE X e g):VE X e (OK is g):=by
 rintro AE s σ H Q I ⟨τ,F,E,d,E',S,hg,k⟩;obtain⟨p,eg,hg⟩:=pA3 hg;split at hg
 .rename_i hl
  cases hg;obtain⟨S1,no⟩:=S.lend is;refine GN (h AE s σ H (λv H'=>∃F' XB,Stp (λ_=>False) (W2 σ E is F H) H F' H' XB/\Sub F' H'/\Rep X.K F' v p.1) I {τ,_,_,p.1,p.2,S1,eg,λv F' H' st S' r=>{F',_,st.toF no,S'.sub,r}}) λu s' q0=>?_;obtain⟨v,H',I',rv,F',XB,st,sb,r⟩:=q0;obtain⟨t1,t2,t3,_⟩:=S.back is st sb;exact{v,_,I'.thaw t1,rv,k v _ _ t2 t3 (zTS S is st sb hl r)}
 .cases hg
theorem lO{g:Ev->Out (Bool×Ev)}(is:List Nat)(h:VT X e g):VT X e (TY is g):=by
 rintro AE s σ H Q I ⟨τ,F,E,d,E',S,hg,k⟩;obtain⟨p,eg,hg⟩:=pA3 hg;cases hg;obtain⟨S1,no⟩:=S.lend is;refine GN (h AE s σ H (λb H'=>b=p.1/\∃F' XB,Stp (λ_=>False) (W2 σ E is F H) H F' H' XB/\Sub F' H') I {τ,_,_,p.1,p.2,S1,eg,λF' H' st S'=>{rfl,F',_,st.toF no,S'.sub}}) λu s' q0=>?_;obtain⟨H',I',eb,F',XB,st,sb⟩:=q0;obtain⟨t1,t2,t3,_⟩:=S.back is st sb;subst eb;exact{_,I'.thaw t1,k _ _ t2 t3}
end
inductive Fl where
 |nx (E:Ev)|rt (b:Bool) (d:D) (E:Ev)|bk (E:Ev)|ct (E:Ev)
abbrev GS:=Ev->Out Fl
def RetR(K:AC)(ow:AQ->Prop)(H:Hp)(F' H':Hp)(σ':St)(E':Ev):Bool->V->D->Prop
 |false,v,d=>Rep K F' v d
 |true,v,d=>∃a,v=.ref a/\F' a=AI/\OwnAt K F' H' a d/\(ow a\/H a=AI)/\∀(i:Nat) d',E'[i]?=AA (.own AL d')->σ'[i]?≠AA (AA (.ref a))
def FlOk(K:AC)(H₀:Hp)(τ:AQ)(ow:AQ->Prop)(F H:Hp)(D:Ends):Fl->Prop
 |.nx E'=>∀σ' F' H',Stp ow F H F' H' (DT σ' E')->Sim K H₀ τ F' H' σ' E'->D.nx σ' H'
 |.bk E'=>∀σ' F' H',Stp ow F H F' H' (DT σ' E')->Sim K H₀ τ F' H' σ' E'->D.bk σ' H'
 |.ct E'=>∀σ' F' H',Stp ow F H F' H' (DT σ' E')->Sim K H₀ τ F' H' σ' E'->D.ct σ' H'
 |.rt b d E'=>∀σ' v F' H',Stp ow F H F' H' (DT σ' E')->Sim K H₀ τ F' H' σ' E'->RetR K ow H F' H' σ' E' b v d->D.rt v H'
def tS(K:AC)(H₀:Hp)(g:GS):TS:=λD σ H=>∃τ F E r,Sim K H₀ τ F H σ E/\g E=.ok r/\FlOk K H₀ τ (DT σ E) F H D r
abbrev VS(X:Cx)(st:E6)(g:GS):Prop:=PS X st (tS X.K X.H₀ g)
abbrev ZB(X:Cx)(st:List E6)(g:GS):Prop:=PSs X st (tS X.K X.H₀ g)
section
variable{K:AC}{ow:AQ->Prop}{st:E6}{rest:List E6}{g g':GS}{ge:G}
theorem RetR.pre{b:Bool}{d:D}(s:Stp ow F H F1 H1 TC)(h:RetR K TC H1 F' H' σ' E' b v d):RetR K ow H F' H' σ' E' b v d:=by
 cases b with
 |false=>exact h
 |true =>
  obtain⟨a,h1,h2,h3,h4,h5⟩:=h;exact{a,h1,h2,h3,h4.elim (s.own a) λz=>.inr (s.dom a z),h5}
theorem FlOk.pre{r:Fl}(s:Stp ow F H F1 H1 TC)(h:FlOk K H₀ τ ow F H D' r):FlOk K H₀ τ TC F1 H1 D' r:=by
 cases r with
 |nx E'=>exact λσ' F' H' st S=>h σ' F' H' (s.trans st) S
 |bk E'=>exact λσ' F' H' st S=>h σ' F' H' (s.trans st) S
 |ct E'=>exact λσ' F' H' st S=>h σ' F' H' (s.trans st) S
 |rt b d E'=>exact λσ' v F' H' st S q=>h σ' v F' H' (s.trans st) S (q.pre s)
def RA:GS:=λE=>.ok (.nx E)
def G4(g g':GS):GS:=λE=>(g E).bind λr=>match r with|.nx E1=>g' E1|r=>.ok r
theorem W6:ZB X [] RA:=T7.imp λD' σ H h=>by
 obtain⟨τ,F,E,r,S,hg,k⟩:=h;cases hg;exact k σ F H .refl S
theorem yBT(h:tS K H₀ (G4 g g') D' σ H):k7 (tS K H₀ g) (tS K H₀ g') D' σ H:=by
 obtain⟨τ,F,E,r,S,hg,k⟩:=h;obtain⟨r1,e1,hg⟩:=pA3 hg;refine{τ,F,E,r1,S,e1,?_}
 cases r1 with
 |nx E1=>exact λσ' F' H' st S'=>{τ,F',E1,r,S',hg,k.pre st}
 |bk E1=>cases hg;exact k
 |ct E1=>cases hg;exact k
 |rt b d E1=>cases hg;exact k
theorem IT(h1:VS X st g)(h2:ZB X rest g'):ZB X (st::rest) (G4 g g'):=(Z2 h1 h2).imp λ_ _ _ h=>yBT h
theorem KG(h:VS X st g):ZB X [st] g:=jG h
def Eh:GS:=λ_=>.bad
theorem Mk:VS X st Eh:=bK.imp λD' σ H h=>by
 obtain⟨τ,F,E,r,S,hg,k⟩:=h;cases hg
def OD(t:Ev->Out (Bool×Ev))(g g':GS):GS:=λE=>(t E).bind λp=>if p.1=AL then g p.2 else g' p.2
theorem WQ{a b:List E6}{t:Ev->Out (Bool×Ev)}(hc:VT X c t)(ha:ZB X a g)(hb:ZB X b g'):VS X (.If c a b pos) (OD t g g'):=(Aq hc ha hb).imp λD' σ H h=>by
 obtain⟨τ,F,E,r,S,hg,k⟩:=h;obtain⟨p,e1,hg⟩:=pA3 hg;refine{τ,F,E,p.1,p.2,S,e1,λF1 H1 s1 S1=>?_}
 by_cases hp:p.1=AL
 .rw[if_pos hp] at hg ⊢
  exact{τ,F1,p.2,r,S1,hg,k.pre s1}
 .rw[if_neg hp] at hg ⊢
  exact{τ,F1,p.2,r,S1,hg,k.pre s1}
def N1(g:G):GS:=λE=>(g E).bind λp=>.ok (.rt AD p.1 p.2)
theorem QT(h:VE X e ge):VS X (.Return (AA e) pos) (N1 ge):=(rB h).imp λD' σ H q=>by
 obtain⟨τ,F,E,r,S,hg,k⟩:=q;obtain⟨p,e1,hg⟩:=pA3 hg;cases hg;exact{τ,F,E,p.1,p.2,S,e1,λv F1 H1 s1 S1 r1=>k σ v F1 H1 s1 S1 r1}
def v8(g:G):GS:=λE=>(g E).bind λp=>.ok (.rt AL p.1 p.2)
theorem Ni(h:FE X e ge):VS X (.Return (AA e) pos) (v8 ge):=(rB h).imp λD' σ H q=>by
 obtain⟨τ,F,E,r,S,hg,k⟩:=q;obtain⟨p,e1,hg⟩:=pA3 hg;cases hg;exact{τ,F,E,p.1,p.2,S,e1,λa F1 H1 s1 S1 n1 n2 ow no=>k σ _ F1 H1 s1 S1 {a,rfl,n1,ow,.inr n2,λi d' z1 z2=>no {i,AL,d',z1,z2}}}
inductive Tg where
 |nm (i:Nat)|tp (ts:List Tg)
mutual
noncomputable def V1:Tg->D->Ev->Out Ev
 |.nm i,d,E=>.ok (E.set i (.val d))
 |.tp ts,d,E=>match d with
  |.tup ds=>a7 ts ds E
  |_=>.bad
noncomputable def a7:List Tg->List D->Ev->Out Ev
 |[],[],E=>.ok E
 |[],_::_,_=>.bad
 |_::_,[],_=>.bad
 |t::ts,d::ds,E=>(V1 t d E).bind λE1=>a7 ts ds E1
end
mutual
noncomputable def Tg.ltn(n:Nat):Tg->Bool
 |.nm i=>decide (i<n)
 |.tp ts=>pAE n ts
noncomputable def pAE(n:Nat):List Tg->Bool
 |[]=>AL
 |t::ts=>t.ltn n&&pAE n ts
end
theorem Sim.put{E:Ev}{d:D}(S:Sim K H₀ τ F H σ E)(r:Rep K F v d):Sim K H₀ τ F H (σ.set i (AA v)) (E.set i (.val d))/\∀a,DT (σ.set i (AA v)) (E.set i (.val d)) a->DT σ E a:=by
 have HV:∀(j:Nat) t d',(E.set i (.val d))[j]?=AA (.own t d')->i≠j/\E[j]?=AA (.own t d'):=λj t d' q=>by
  by_cases hj:i=j
  .subst hj
   by_cases hi:i<E.length
   .rw[BF hi] at q;cases q
   .rw[NM (by rw[BZ];lia)] at q;cases q
  .rw[A4 hj] at q;exact{hj,q}
 refine{{S.sub,by rw[BZ,BZ];exact S.len,λj d' q=>?_,λj t d' q=>?_,λj k t1 t2 d1 d2 b q1 q2 z1 z2=>?_},λa ⟨j,t,d',q1,q2⟩=>?_}
 .by_cases hj:i=j
  .subst hj
   have hi:i<E.length:=by
    have:=(AR.mp q).1;rw[BZ] at this;exact this
   rw[BF hi] at q;cases q;exact{v,by rw[BF (by rw[<-S.len];exact hi)],r}
  .rw[A4 hj] at q ⊢;exact S.val j d' q
 .obtain⟨hj,q⟩:=HV j t d' q
  rw[A4 hj];exact S.own j t d' q
 .obtain⟨hj,q1⟩:=HV j _ _ q1
  obtain⟨hk,q2⟩:=HV k _ _ q2;rw[A4 hj] at z1;rw[A4 hk] at z2;exact S.inj j k t1 t2 d1 d2 b q1 q2 z1 z2
 .obtain⟨hj,q1⟩:=HV j t d' q1
  rw[A4 hj] at q2;exact{j,t,d',q1,q2}
theorem Sim.putO{E:Ev}{d:D}(S:Sim K H₀ τ F H σ E)(h2:F a=AI)(h3:OwnAt K F H a d)(h4:∀o u,H₀ a≠AA (.frz o u))(no:¬DT σ E a) :
  Sim K H₀ τ F H (σ.set i (AA (.ref a))) (E.set i (.own AD d))/\∀b,DT (σ.set i (AA (.ref a))) (E.set i (.own AD d)) b->DT σ E b\/b=a:=by
 have HV:∀(j:Nat) t d',(E.set i (.own AD d))[j]?=AA (.own t d')->(i=j/\t=AD/\d'=d/\(σ.set i (AA (V.ref a)))[j]?=AA (AA (.ref a)))\/(i≠j/\E[j]?=AA (.own t d')/\(σ.set i (AA (V.ref a)))[j]?=σ[j]?):=λj t d' q=>by
  by_cases hj:i=j
  .subst hj
   have hi:i<E.length:=by
    have:=(AR.mp q).1;rw[BZ] at this;exact this
   rw[BF hi] at q;cases q;exact .inl {rfl,rfl,rfl,by rw[BF (by rw[<-S.len];exact hi)]}
  .rw[A4 hj] at q;exact .inr {hj,q,by rw[A4 hj]}
 refine{{S.sub,by rw[BZ,BZ];exact S.len,λj d' q=>?_,λj t d' q=>?_,λj k t1 t2 d1 d2 b q1 q2 z1 z2=>?_},λb ⟨j,t,d',q1,q2⟩=>?_}
 .by_cases hj:i=j
  .subst hj
   have hi:i<E.length:=by
    have:=(AR.mp q).1;rw[BZ] at this;exact this
   rw[BF hi] at q;cases q
  .rw[A4 hj] at q ⊢;exact S.val j d' q
 .rcases HV j t d' q with⟨rfl,rfl,rfl,z⟩|⟨hj,q,z⟩
  .exact{a,z,h2,h3,h4,nofun}
  .rw[z];exact S.own j t d' q
 .rcases HV j t1 d1 q1 with⟨e1,_,_,y1⟩|⟨hj,p1,y1⟩<;>rcases HV k t2 d2 q2 with⟨e2,_,_,y2⟩|⟨hk,p2,y2⟩
  .rw[<-e1,<-e2]
  .rw[y1] at z1;cases z1
   rw[y2] at z2;exact absurd {k,t2,d2,p2,z2} no
  .rw[y2] at z2;cases z2
   rw[y1] at z1;exact absurd {j,t1,d1,p1,z1} no
  .rw[y1] at z1;rw[y2] at z2
   exact S.inj j k t1 t2 d1 d2 b p1 p2 z1 z2
 .rcases HV j t d' q1 with⟨rfl,rfl,rfl,y1⟩|⟨hj,q1,y1⟩
  .rw[y1] at q2;cases q2;exact .inr rfl
  .rw[y1] at q2;exact .inl {j,t,d',q1,q2}
def tG(K:AC)(H₀:Hp)(t:Tg):TG:=λv σ H Q=>∃τ F E d E',Sim K H₀ τ F H σ E/\Rep K F v d/\V1 t d E=.ok E'/\∀σ',Sim K H₀ τ F H σ' E'->(∀a,DT σ' E' a->DT σ E a)->(∀n,t.ltn n=AL->∀j:Nat,n<=j->σ'[j]?=σ[j]?)->Q σ' H
def tGs(K:AC)(H₀:Hp)(ts:List Tg):gK:=λvs σ H Q=>∃τ F E ds E',Sim K H₀ τ F H σ E/\Reps K F vs ds/\a7 ts ds E=.ok E'/\∀σ',Sim K H₀ τ F H σ' E'->(∀a,DT σ' E' a->DT σ E a)->(∀n,pAE n ts=AL->∀j:Nat,n<=j->σ'[j]?=σ[j]?)->Q σ' H
theorem PG.imp{t t':TG}(h:PG X tg t)(hi:∀v σ H Q,t' v σ H Q->t v σ H Q):PG X tg t':=λAE s σ H x u Q I r q=>h AE s σ H x u Q I r (hi _ _ _ _ q)
theorem PGs.imp{tg:List CU}{t t':gK}(h:PGs X tg t)(hi:∀v σ H Q,t' v σ H Q->t v σ H Q):PGs X tg t':=λAE s σ H x u Q I r q=>h AE s σ H x u Q I r (hi _ _ _ _ q)
abbrev VG(X:Cx)(tg:CU)(t:Tg):Prop:=PG X tg (tG X.K X.H₀ t)
abbrev zB(X:Cx)(tg:List CU)(t:List Tg):Prop:=PGs X tg (tGs X.K X.H₀ t)
theorem W5(hN:X.N.Nodup)(hi:X.N[i]?=AA x)(hx:Loc X.env.scope x)(hf:X.fn x=AL\/X.env.scope.names.lookup x=AA .local:=by first|exact .inl rfl|exact .inr rfl|assumption):VG X (.Name x pos) (.nm i):=(fZ hN hi hx hf).imp λv σ H Q h=>by
 obtain⟨τ,F,E,d,E',S,r,hg,k⟩:=h;rw[V1] at hg;cases hg;obtain⟨S1,h1⟩:=S.put (i:=i) r;refine k _ S1 h1 λn hn j hj=>?_;rw[Tg.ltn] at hn;have:i<n:=of_decide_eq_true hn;rw[A4 (B0 (AN this hj))]
theorem Rep.sqT{ds:List D}(s:Sub F H)(r:Rep K F (.ref a) (.tup ds)):∃vs,SqT K H a vs/\Reps K F vs ds:=by
 cases r with
 |tup h r=>exact{_,.inl (.inl (s _ _ h)),r}
 |@tupK _ xs h n =>
  rcases h with h|h
  .rcases h with h|⟨o,h⟩<;>cases h
  .refine{_,.inr h,?_}
   induction xs with
   |nil=>exact .nil
   |cons x xs ih=>exact .cons (.str x) (by
     clear ih n h
     induction xs with
     |nil=>exact .nil
     |cons y ys ih=>exact .cons (.str y) ih)
theorem Rep.isRefT{ds:List D}(r:Rep K F v (.tup ds)):∃a,v=.ref a:=by (cases r)<;>exact{_,rfl}
theorem Rep.isRefL{ds:List D}(r:Rep K F v (.lst ds)):∃a vs,v=.ref a/\SqL K F a vs/\Reps K F vs ds:=by cases r with|lst h r=>exact{_,_,rfl,h,r}
theorem Os:∀{ts:List Tg} {ds:List D} {E E':Ev},a7 ts ds E=.ok E'->ts.length=ds.length
 |[],[],_,_,_=>rfl
 |[],_::_,_,_,h=>by rw[a7] at h;cases h
 |_::_,[],_,_,h=>by rw[a7] at h;cases h
 |t::ts,d::ds,E,E',h=>by
  rw[a7] at h;obtain⟨E1,_,h⟩:=pA3 h;rw[BC,BC,Os h]
theorem rJ:zB X [] []:=T8.imp λv σ H Q h=>by
 obtain⟨τ,F,E,d,E',S,r,hg,k⟩:=h
 cases r with
 |nil=>rw[a7] at hg;cases hg;exact{rfl,k σ S (λ_ h=>h) λ_ _ _ _=>rfl}
 |cons _ _=>rw[a7] at hg;cases hg
theorem eE{t:Tg}{ts:List Tg}(h1:VG X e t)(h2:zB X es ts)
  (hs:(HD (e::es) X.env).map (·.2)=KR e X.env::(HD es X.env).map (·.2):=by rfl):zB X (e::es) (t::ts):=(rR h1 h2 hs).imp λv σ H Q h=>by
 obtain⟨τ,F,E,ds,E',S,r,hg,k⟩:=h
 cases r with
 |nil=>rw[a7] at hg;cases hg
 |@cons v d vs ds r rs =>
  rw[a7] at hg;obtain⟨E1,e1,hg⟩:=pA3 hg
  exact{v,vs,rfl,τ,F,E,d,E1,S,r,e1,λσ1 S1 h1 b1=>{τ,F,E1,ds,E',S1,rs,hg,λσ2 S2 h2 b2=>k σ2 S2 (λa z=>h1 a (h2 a z)) λn hn j hj=>by
   rw[pAE,EU] at hn
   rw[b2 n hn.2 j hj,b1 n hn.1 j hj]}}
theorem qY{ts:List Tg}(hc:X.calm=AL)(h:zB X es ts)
  (hn:(HD es X.env).length=ts.length:=by rfl) (aB:(HD es X.env).findIdx? (·.1)=AI:=by rfl):VG X (.Tuple es k pos) (.tp ts):=(Bl hc h hn aB).imp λv σ H Q h=>by
 obtain⟨τ,F,E,d,E',S,r,hg,k⟩:=h
 cases d with
 |tup ds =>
  obtain⟨a,rfl⟩:=r.isRefT;obtain⟨vs,h1,h2⟩:=r.sqT S.sub;rw[V1] at hg;exact{a,vs,rfl,h1,by rw[h2.length,<-Os hg],τ,F,E,ds,E',S,h2,hg,λσ' S' h' b'=>k σ' S' h' λn hn=>b' n (by rw[Tg.ltn] at hn;exact hn)}
 |_ =>
  have hg:(Out.bad:Out Ev)=.ok E':=hg;cases hg
def J4(t:Tg)(g:G):GS:=λE=>(g E).bind λp=>(V1 t p.1 p.2).bind λE1=>.ok (.nx E1)
theorem yBU{t:Tg}(h:tS K H₀ (J4 t ge) D' σ H):iP (tV K H₀ ge) (tG K H₀ t) D' σ H:=by
 obtain⟨τ,F,E,r,S,hg,k⟩:=h;obtain⟨p,e1,hg⟩:=pA3 hg;obtain⟨E1,e2,hg⟩:=pA3 hg;cases hg;exact{τ,F,E,p.1,p.2,S,e1,λv F1 H1 s1 S1 r1=>{τ,F1,p.2,p.1,E1,S1,r1,e2,λσ2 S2 h2 _=>k σ2 F1 H1 (s1.weak h2) S2}}
theorem yBV{t:Tg}(he:VE X e ge)(hg:VG X tg t)(hs:ZK [tg] e pos.line X.env=pure AD:=by rfl)(hw:ZL [tg] e X.env=pure AI:=by rfl)
  (h1:(HD [tg] X.env).map (·.2)=[KR tg X.env]:=by rfl):VS X (.Assign [tg] e pos) (J4 t ge):=(Bk he hg hs hw h1).imp λ_ _ _ h=>yBU h
theorem QS(hN:X.N.Nodup)(hi:X.N[i]?=AA x)(hx:Loc X.env.scope x)(he:VE X e ge)(hs:IH e (AA (.Name x NP)) pos.line X.env=pure AD:=by rfl)(hf:X.fn x=AL\/X.env.scope.names.lookup x=AA .local:=by first|exact .inl rfl|exact .inr rfl|assumption) :
  VS X (.Assign [.Name x NP] e pos) (J4 (.nm i) ge):=(rA hN hi hx he hs hf).imp λD' σ H h=>by
 obtain⟨τ,F,E,r,S,hg,k⟩:=h;obtain⟨p,e1,hg⟩:=pA3 hg;obtain⟨E1,e2,hg⟩:=pA3 hg;cases hg;rw[V1] at e2;cases e2;refine{τ,F,E,p.1,p.2,S,e1,λv F1 H1 s1 S1 r1=>?_};obtain⟨S2,h2⟩:=S1.put (i:=i) r1;exact k _ F1 H1 (s1.weak h2) S2
def VY(i:Nat)(g:G):GS:=λE=>(g E).bind λp=>.ok (.nx (p.2.set i (.own AD p.1)))
theorem zTU(I:Inv X AE σ H s)(h:H a=AI):∀o u,X.H₀ a≠AA (.frz o u):=λo u e=>by
 rw[I.base.frzs a o u e] at h;cases h
theorem yBW(I:Inv X AE σ H s)(h:tS X.K X.H₀ (VY i ge) D' σ H):iP (tF X.K X.H₀ ge) (Z1 i) D' σ H:=by
 obtain⟨τ,F,E,r,S,hg,k⟩:=h;obtain⟨p,e1,hg⟩:=pA3 hg;cases hg;refine{τ,F,E,p.1,p.2,S,e1,λa F1 H1 s1 S1 n1 n0 ow no=>?_};obtain⟨S2,h2⟩:=S1.putO (i:=i) n1 ow (zTU I n0) no;refine k _ F1 H1 {s1.keep,s1.dom,s1.le,s1.new,λb z=>?_} S2;rcases h2 b z with z|rfl
 .exact s1.own b z
 .exact .inr n0
theorem Z4(hN:X.N.Nodup)(hi:X.N[i]?=AA x)(hx:Loc X.env.scope x)(he:FE X e ge)(hs:IH e (AA (.Name x NP)) pos.line X.env=pure AD:=by rfl)(hf:X.fn x=AL\/X.env.scope.names.lookup x=AA .local:=by first|exact .inl rfl|exact .inr rfl|assumption) :
  VS X (.Assign [.Name x NP] e pos) (VY i ge):=λAE s σ H D' I h=>rA hN hi hx he hs hf AE s σ H D' I (yBW I h)
def dW(g:G):GS:=λE=>(g E).bind λp=>.ok (.nx p.2)
theorem w9(he:VE X e ge)(hs:IH e AI pos.line X.env=pure AD:=by rfl):VS X (.Expr e pos) (dW ge):=(Cj he hs).imp λD' σ H h=>by
 obtain⟨τ,F,E,r,S,hg,k⟩:=h;obtain⟨p,e1,hg⟩:=pA3 hg;cases hg;exact{τ,F,E,p.1,p.2,S,e1,λv F1 H1 s1 S1 r1=>k σ F1 H1 s1 S1}
def WS(t:Ev->Out (Bool×Ev))(g:GS):Nat->GS
 |0,_=>.bad
 |n+1,E=>(t E).bind λp=>if p.1=AL then(g p.2).bind λr=>match r with
   |.nx E1=>WS t g n E1
   |.ct E1=>WS t g n E1
   |.bk E1=>.ok (.nx E1)
   |.rt b d E1=>.ok (.rt b d E1)
  else .ok (.nx p.2)
theorem xE{t:Ev->Out (Bool×Ev)}(n:Nat)(hp:UZ (A3 X.prog X.w) X.A X.env X.xe)(hc:VT X c t)(hb:ZB X body g):VS X (.While c body [] pos) (WS t g n):=(zSW hp hc hb).imp λD' σ H h=>by
 obtain⟨τ,F,E,r,S,hg,k⟩:=h;refine{λm σ1 H1=>∃F1 E1,Sim X.K X.H₀ τ F1 H1 σ1 E1/\Stp (DT σ E) F H F1 H1 (DT σ1 E1)/\WS t g m E1=.ok r,{n,F,E,S,.refl,hg},?_};rintro m σ1 H1 ⟨F1,E1,S1,s1,h1⟩
 cases m with
 |zero=>rw[WS] at h1;cases h1
 |succ m =>
  rw[WS] at h1;obtain⟨p,e1,h1⟩:=pA3 h1;refine{τ,F1,E1,p.1,p.2,S1,e1,λF2 H2 s2 S2=>?_};have Z7:=s1.trans s2;dsimp only
  by_cases hp:p.1=AL
  .rw[if_pos hp] at h1 ⊢
   obtain⟨q,e2,h1⟩:=pA3 h1;refine{λσ3 H3=>∃F3 E3,Sim X.K X.H₀ τ F3 H3 σ3 E3/\Stp (DT σ E) F H F3 H3 (DT σ3 E3)/\WS t g m E3=.ok r,λσ3 H3 ⟨F3,E3,a1,a2,a3⟩=>{m,DS m,F3,E3,a1,a2,a3},τ,F2,p.2,q,S2,e2,?_}
   cases q with
   |nx E3=>exact λσ3 F3 H3 s3 S3=>{F3,E3,S3,Z7.trans s3,h1}
   |ct E3=>exact λσ3 F3 H3 s3 S3=>{F3,E3,S3,Z7.trans s3,h1}
   |bk E3=>cases h1;exact λσ3 F3 H3 s3 S3=>k σ3 F3 H3 (Z7.trans s3) S3
   |rt b d E3=>cases h1;exact λσ3 v F3 H3 s3 S3 q=>k σ3 v F3 H3 (Z7.trans s3) S3 (q.pre Z7)
  .rw[if_neg hp] at h1 ⊢
   cases h1;exact k σ1 F2 H2 Z7 S2
end
def Walks(K:AC)(J:It)(F:Hp)(ds:List D):Prop:=∀(i:Nat) F1 H1,Le F F1->Sub F1 H1->(i<ds.length->J.go i H1)/\(i=ds.length->J.stop i H1)/\∀x H' d,ds[i]?=AA d->J.yld i H1 x H'->∃F',New F1 H1 F' H'/\Rep K F' x d
abbrev GI:=Ev->Out (List D×Ev)
def tI(K:AC)(H₀:Hp)(g:GI):TI:=λσ H R=>∃τ F E ds E',Sim K H₀ τ F H σ E/\g E=.ok (ds,E') /\
 ∀J F' H',Stp (DT σ E) F H F' H' (DT σ E')->Sim K H₀ τ F' H' σ E'->Walks K J F' ds->R J H'
theorem PI.imp{t t':TI}(h:PI X tg e t)(hi:∀σ H Q,t' σ H Q->t σ H Q):PI X tg e t':=λAE s σ H Q I q=>h AE s σ H Q I (hi σ H Q q)
abbrev VI(X:Cx)(tg e:CU)(g:GI):Prop:=PI X tg e (tI X.K X.H₀ g)
variable{gi:GI}
section
variable{K:AC}{ow:AQ->Prop}{st:E6}{rest:List E6}{g g':GS}{ge:G}
def Vf(g:G):GI:=λE=>(g E).bind λp=>match p.1 with|.lst ds=>.ok (ds,p.2)|_=>.bad
def Ve(g:G):GI:=λE=>(g E).bind λp=>match p.1 with|.tup ds=>.ok (ds,p.2)|_=>.bad
theorem Ri{ds:List D}(h:SqL K F a vs)(r:Reps K F vs ds):Walks K (pQ K a) F ds:=λi F1 H1 l s=>by
 have sq:SqL K H1 a vs:=h.imp (λh=>s.rd (l.rd h)) id;refine{λhi=>?_,λhi=>{vs,sq,by rw[r.length,hi];exact AM _},λx H' d e ⟨e1,y⟩=>?_}
 .have hv:i<vs.length:=by rw[r.length];exact hi
  exact{vs,vs[i],sq,by simp[hv]}
 .subst e1
  obtain⟨v,h1,h2⟩:=r.get e;rw[y vs sq] at h1;cases h1;exact{F1,.refl s,h2.le l}
theorem Rep.tupSq{ds:List D}(r:Rep K F v (.tup ds)):∃a vs,v=.ref a/\Reps K F vs ds/\∀F1 H1,Le F F1->Sub F1 H1->SqT K H1 a vs:=by
 cases r with
 |tup h r=>exact{_,_,rfl,r,λF1 H1 l s=>.inl (.inl (s _ _ (l.tup h)))}
 |@tupK a xs h n =>
  obtain⟨vs,h1,h2⟩:=Rep.sqT (F:=F) (H:=F) (λ_ _ e=>e) (.tupK h n);refine{a,vs,rfl,h2,λF1 H1 _ _=>?_};rcases h with h|h
  .rcases h with h|⟨o,h⟩<;>cases h
  .have:vs=xs.map V.str:=pA5 h2
   subst this;exact .inr h
theorem zQX{ds:List D}(sq:∀F1 H1,Le F F1->Sub F1 H1->SqT K H1 a vs)(r:Reps K F vs ds):Walks K (pO K a) F ds:=λi F1 H1 l s=>by
 have sq:=sq F1 H1 l s;refine{λhi=>?_,λhi=>{vs,sq,by rw[r.length,hi];exact AM _},λx H' d e ⟨e1,y⟩=>?_}
 .have hv:i<vs.length:=by rw[r.length];exact hi
  exact{vs,vs[i],sq,by simp[hv]}
 .subst e1
  obtain⟨v,h1,h2⟩:=r.get e;rw[y vs sq] at h1;cases h1;exact{F1,.refl s,h2.le l}
theorem zXR(h:VE X e ge):VI X tg e (Vf ge):=(Ny h).imp λσ H Q h=>by
 obtain⟨τ,F,E,ds,E',S,hg,k⟩:=h;obtain⟨p,e1,hg⟩:=pA3 hg;refine{τ,F,E,p.1,p.2,S,e1,λv F1 H1 s1 S1 r1=>?_};split at hg
 .rename_i UR ed
  cases hg;rw[ed] at r1;obtain⟨a,vs,rfl,h1,h2⟩:=r1.isRefL;exact{a,rfl,{vs,h1.imp S1.sub.rd id},k _ F1 H1 s1 S1 (Ri h1 h2)}
 .cases hg
theorem yBX(h:VE X e ge):VI X tg e (Ve ge):=(Mf h).imp λσ H Q h=>by
 obtain⟨τ,F,E,ds,E',S,hg,k⟩:=h;obtain⟨p,e1,hg⟩:=pA3 hg;refine{τ,F,E,p.1,p.2,S,e1,λv F1 H1 s1 S1 r1=>?_};split at hg
 .rename_i UR ed
  cases hg;rw[ed] at r1;obtain⟨a,vs,rfl,h1,h2⟩:=r1.tupSq;exact{a,rfl,{vs,h2 F1 H1 (.refl _) S1.sub},k _ F1 H1 s1 S1 (zQX h2 h1)}
 .cases hg
def NL:List G->Ev->Out (List D×Ev)
 |[],E=>.ok ([],E)
 |g::gs,E=>(g E).bind λp=>(NL gs p.2).bind λq=>.ok (p.1::q.1,q.2)
def eG(K:AC)(H₀:Hp)(gs:List G):TA:=λσ H Q=>∃τ F E ds E',Sim K H₀ τ F H σ E/\NL gs E=.ok (ds,E') /\
 ∀vs F' H',Stp (DT σ E) F H F' H' (DT σ E')->Sim K H₀ τ F' H' σ E'->Reps K F' vs ds->Q vs H'
theorem PA.imp{t t':TA}(h:PA X es t)(hi:∀σ H Q,t' σ H Q->t σ H Q):PA X es t':=λp AE s σ H Q I q=>h p AE s σ H Q I (hi σ H Q q)
abbrev VA(X:Cx)(es:List CU)(gs:List G):Prop:=PA X es (eG X.K X.H₀ gs)
theorem F9:VA X [] []:=HU.imp λσ H Q h=>by
 obtain⟨τ,F,E,ds,E',S,hg,k⟩:=h;cases hg;exact k [] F H .refl S .nil
theorem zXS{gs:List G}{Q:List V->Hp->Prop}(h:eG K H₀ (ge::gs) σ H Q):qM (tV K H₀ ge) (eG K H₀ gs) σ H Q:=by
 obtain⟨τ,F,E,ds,E',S,hg,k⟩:=h;rw[NL] at hg;obtain⟨p,e1,hg⟩:=pA3 hg;obtain⟨q,e2,hg⟩:=pA3 hg;cases hg;exact{τ,F,E,p.1,p.2,S,e1,λv F1 H1 s1 S1 r1=>{τ,F1,p.2,q.1,q.2,S1,e2,λvs F2 H2 s2 S2 r2=>k (v::vs) F2 H2 (s1.trans s2) S2 (.cons (r1.le s2.le) r2)}}
theorem ED{gs:List G}(ha:VE X e ge)(hr:VA X es gs)(hs:AO (e::es) X.env=(AD,eval e X.env)::AO es X.env:=by rfl):VA X (e::es) (ge::gs):=(R8 ha hr hs).imp λ_ _ _ h=>zXS h
theorem bE(h:n<10000):n<sizeLine:=AN h 'd'
def few(n:Nat)(x:Out α):Out α:=if n<10000 then x else .bad
theorem W4{x:Out α}{a:α}(h:few n x=.ok a):n<10000/\x=.ok a:=by
 unfold few at h;split at h
 .exact{by assumption,h}
 .cases h
def YZ(gs:List G):G:=λE=>(NL gs E).bind λp=>few p.1.length (.ok (.tup p.1,p.2))
def KE(gs:List G):G:=λE=>(NL gs E).bind λp=>few p.1.length (.ok (.lst p.1,p.2))
theorem lG{gs:List G}{x1}(h:VA X es gs):VE X (.Tuple es x1 pos) (YZ gs):=(yA1 h).imp λσ H Q h=>by
 obtain⟨τ,F,E,ds,E',S,hg,k⟩:=h;obtain⟨p,e1,hg⟩:=pA3 hg;obtain⟨hl,hg⟩:=W4 hg;cases hg;refine{τ,F,E,p.1,p.2,S,e1,λvs F1 H1 s1 S1 r1=>{by rw[r1.length];exact CN (bE hl),λq hq=>?_}};have n:=New.laid (o:=.tup vs) S1.sub hq;exact k _ _ _ (s1.trans n.stp) (S1.new n) (.tup G3 (r1.le n.1.le))
theorem TX{gs:List G}(h:VA X es gs):FE X (.List es pos) (KE gs):=(lP h).imp λσ H Q h=>by
 obtain⟨τ,F,E,ds,E',S,hg,k⟩:=h;obtain⟨p,e1,hg⟩:=pA3 hg;obtain⟨hl,hg⟩:=W4 hg;cases hg;refine{τ,F,E,p.1,p.2,S,e1,λvs F1 H1 s1 S1 r1=>{by rw[r1.length];exact CN (bE hl),λq hq=>?_}};have n:=pA6 (H':=DU H1 q (.lst vs)) S1.sub (Gr.new hq)
 have fq:F1 q=AI:=by
  cases z:F1 q with
  |none=>rfl
  |some o=>rw[S1.sub q o z] at hq;cases hq
 exact k q _ _ (s1.trans n.stp) (S1.new n) fq (s1.dom q hq) {vs,G3,r1} (S1.fresh hq)
def SX(t:Tg)(g:GS):List D->GS
 |[],E=>.ok (.nx E)
 |d::ds,E=>(V1 t d E).bind λE1=>(g E1).bind λr=>match r with
  |.nx E2=>SX t g ds E2
  |.ct E2=>SX t g ds E2
  |.bk E2=>.ok (.nx E2)
  |.rt b d E2=>.ok (.rt b d E2)
def QD(gi:GI)(t:Tg)(g:GS):GS:=λE=>(gi E).bind λp=>SX t g p.1 p.2
theorem dZ{iter:CU}{t:Tg}(hp:UZ (A3 X.prog X.w) X.A X.env X.xe)(hc:X.calm=AL)(hi:VI X tg iter gi)(hg:VG X tg t)(hb:ZB X body g)
  (hs:∀x,C6 iter X.env x=pure x:=by intro _;rfl):VS X (.For tg iter body [] pos) (QD gi t g):=(oJ hp hc hi hg hb hs).imp λD' σ H h=>by
 obtain⟨τ,F,E,r,S,hg,k⟩:=h;obtain⟨p,e1,hg⟩:=pA3 hg;refine{τ,F,E,p.1,p.2,S,e1,λJ F1 H1 s1 S1 w1=>?_};refine{λi m σ2 H2=>m=p.1.length-i/\i<=p.1.length/\∃F2 E2,Sim X.K X.H₀ τ F2 H2 σ2 E2/\Stp (DT σ E) F H F2 H2 (DT σ2 E2)/\Le F1 F2/\SX t g (p.1.drop i) E2=.ok r,{_,rfl,BR _,F1,p.2,S1,s1,.refl _,by rw[N0];exact hg},?_};rintro i m σ2 H2 ⟨rfl,zU,F2,E2,S2,s2,l2,h2⟩;obtain⟨w2,w3,w4⟩:=w1 i F2 H2 l2 S2.sub
 by_cases hi:i<p.1.length
 .obtain⟨d,hd⟩:∃d,p.1[i]?=AA d:={p.1[i],by simp[hi]}
  have vC:p.1.drop i=d::p.1.drop (i+1):=by
   rw[FD hi];have:p.1[i]=d:=by rw[BU hi] at hd;exact BK hd
   rw[this]
  rw[vC,SX] at h2;obtain⟨E3,e3,h2⟩:=pA3 h2;obtain⟨q,e4,h2⟩:=pA3 h2;refine .inr {w2 hi,λσ5 H5=>∃F5 E5,Sim X.K X.H₀ τ F5 H5 σ5 E5/\Stp (DT σ E) F H F5 H5 (DT σ5 E5)/\Le F1 F5/\SX t g (p.1.drop (i+1)) E5=.ok r,λσ5 H5 ⟨F5,E5,a1,a2,a3,a4⟩=>{_,by omega,rfl,hi,F5,E5,a1,a2,a3,a4},λx H' y=>?_};obtain⟨F3,n3,r3⟩:=w4 x H' d hd y;refine{τ,F3,E2,d,E3,S2.new n3,r3,e3,λσ4 S4 h4 _=>{τ,F3,E3,q,S4,e4,?_}};have s4:Stp (DT σ E) F H F3 H' (DT σ4 E3):=(s2.trans n3.stp).weak h4;have l3:Le F1 F3:=l2.trans n3.1.le
  cases q with
  |nx E5=>exact λσ5 F5 H5 s5 S5=>{F5,E5,S5,s4.trans s5,l3.trans s5.le,h2}
  |ct E5=>exact λσ5 F5 H5 s5 S5=>{F5,E5,S5,s4.trans s5,l3.trans s5.le,h2}
  |bk E5=>cases h2;exact λσ5 F5 H5 s5 S5=>k σ5 F5 H5 (s4.trans s5) S5
  |rt b d E5=>cases h2;exact λσ5 v F5 H5 s5 S5 q=>k σ5 v F5 H5 (s4.trans s5) S5 (q.pre s4)
 .have hi:i=p.1.length:=by omega
  rw[JS 'o',SX] at h2;cases h2;exact .inl {w3 hi,k σ2 F2 H2 s2 S2}
end
abbrev Mr:=List Sl->Out (Bool×D×D)
noncomputable def fM(sl:Ev)(d:D):Ev:=match sl with
 |.own t _::r=>.own t d::r
 |sl=>sl
noncomputable def fin(sl:Ev)(E':Ev)(b:Bool)(d:D):Out (Bool×D×D):=match sl with
 |.own _ _::_=>match E' with
  |.own AL d'::_=>.ok (b,d,d')
  |_=>.bad
 |_=>.ok (b,d,.non)
def P2(n:Nat)(gb:GS):Mr:=λsl=>(gb (sl++BG (n-sl.length) .no)).bind λr=>match r with
 |.rt b d E'=>fin sl E' b d
 |.nx E'=>fin sl E' AD .non
 |_=>.bad
def Fm(sl:Ev):Prop:=∀(i:Nat) t d,sl[i]?=AA (.own t d)->i=0/\t=AL
def yHG(K:AC)(H F' H':Hp)(ow:AQ->Prop):Bool->V->D->Prop
 |false,v,d=>Rep K F' v d
 |true,v,d=>∃a,v=.ref a/\F' a=AI/\OwnAt K F' H' a d/\H a=AI/\¬ow a
def NO(K:AC)(np:Nat)(m:Mr):Sp:=λvs H Q _=>vs.length=np/\∃τ F sl b d d',Sim K H τ F H (vs.map AA) sl/\Fm sl/\m sl=.ok (b,d,d') /\
 ∀v F' H',Stp (DT (vs.map AA) sl) F H F' H' (DT (vs.map AA) (fM sl d'))->Sim K H τ F' H' (vs.map AA) (fM sl d')->yHG K H F' H' (DT (vs.map AA) (fM sl d')) b v d->Q v H'
theorem yBY{sl:Ev}{b b':Bool}{d d0 d':D}(h:fin sl E' b d=.ok (b',d0,d')):b'=b/\d0=d/\∀t x r,sl=.own t x::r->∃r',E'=.own AL d'::r':=by
 unfold fin at h;split at h
 .split at h
  .cases h
   exact{rfl,rfl,λ_ _ _ _=>{_,rfl}}
  .cases h
 .rename_i hn
  cases h;refine{rfl,rfl,λt x r e=>?_};exact absurd e (by intro z;exact hn t x r z)
section
variable{K:AC}
theorem Fun.okC{st:E6}{ps:List CK}(F:Fun K x qual st f fd)(S:FnScope N ps (J5 st))(len:∀vs H Q E,sp vs H Q E->vs.length=ps.length)
  (KO:∀(G5:AH) (A:DJ) (outer:List WK) (s:AT) (H:Hp) (vs:List V) (Q:VK) (E:XK),G5=fd.code->Room k (A.deeper (FR qual (J5 st) s.heap.objs.size f G5))->sp vs H Q E ->
   ∃t,PSs (OL LO P w K mg base N qual (J5 st) f G5 A outer s H E).nox (U7 st) t/\t { nx:=λ_ H'=>Q .non H',rt:=Q } (start N vs) H):FnOk P w K mg base LO (k+1) f fd ps sp:=by
 obtain⟨oc,od,kV,RN,pm,an,G5,ct,ZC,rfl,lk,LR⟩:=F.ex;refine At lk LR S len λA outer s H vs Q E hr aC=>?_;obtain⟨t,h,q⟩:=KO G5 A outer s H vs Q E rfl hr aC;exact{t,h.nox,q}
theorem An{st:E6}{ps:List CK}{gb:GS}(Fn:Fun K x qual st f fd)(S:FnScope N ps (J5 st))
  (KO:∀(G5:AH) (A:DJ) (outer:List WK) (s:AT) (H:Hp) (E:XK),G5=fd.code->Room k (A.deeper (FR qual (J5 st) s.heap.objs.size f G5)) ->
   ZB (OL LO P w K mg base N qual (J5 st) f G5 A outer s H E).nox (U7 st) gb):FnOk P w K mg base LO (k+1) f fd ps (NO K ps.length (P2 N.length gb)):=by
 refine Fn.okC S (λvs H Q E h=>h.1) λG5 A outer s H vs Q E zX hr h=>{_,KO G5 A outer s H E zX hr,?_};obtain⟨hl,τ,F,sl,b,d,d',Sm,sh,hm,k⟩:=h;unfold P2 at hm;obtain⟨r,e1,hm⟩:=pA3 hm;have lsl:sl.length=vs.length:=by rw[Sm.len,AJ]
 have gW:∀(i:Nat) t d,(sl++BG (N.length-sl.length) Sl.no)[i]?=AA (.own t d)->sl[i]?=AA (.own t d):=λi t d q=>by
  by_cases hi:i<sl.length
  .rw[B9 hi] at q;exact q
  .rw[BX (EV hi),DR] at q
   split at q<;>cases q
 have Fz:∀(i:Nat) d,(sl++BG (N.length-sl.length) Sl.no)[i]?=AA (.val d)->sl[i]?=AA (.val d):=λi d q=>by
  by_cases hi:i<sl.length
  .rw[B9 hi] at q;exact q
  .rw[BX (EV hi),DR] at q
   split at q<;>cases q
 have pS:∀(i:Nat),i<sl.length->(start N vs)[i]?=(vs.map AA)[i]?:=λi hi=>by
  unfold start;rw[B9 (by rw[AJ];omega)]
 have Sm0:Sim K H τ F H (start N vs) (sl++BG (N.length-sl.length) .no):=by
  refine{Sm.sub,?_,λi d q=>?_,λi t d q=>?_,λi j t u d d2 a q1 q2 z1 z2=>?_}
  .unfold start
   rw[BH,BH,C2,C2,AJ,lsl]
  .have q:=Fz i d q
   rw[pS i (AR.mp q).1];exact Sm.val i d q
  .have q:=gW i t d q
   rw[pS i (AR.mp q).1];exact Sm.own i t d q
  .have q1:=gW i _ _ q1
   have q2:=gW j _ _ q2;rw[pS i (AR.mp q1).1] at z1;rw[pS j (AR.mp q2).1] at z2;exact Sm.inj i j t u d d2 a q1 q2 z1 z2
 have pU:∀a,DT (start N vs) (sl++BG (N.length-sl.length) .no) a↔DT (vs.map AA) sl a:=λa=>by
  constructor
  .rintro⟨i,t,d,q1,q2⟩
   have q:=gW i t d q1;rw[pS i (AR.mp q).1] at q2;exact{i,t,d,q,q2}
  .rintro⟨i,t,d,q1,q2⟩
   have hi:=(AR.mp q1).1;exact{i,t,d,by rw[B9 hi];exact q1,by rw[pS i hi];exact q2}
 -- the end,from what the body ends with
 have bQ:∀{E':Ev} {b0:Bool} {d0:D},fin sl E' b0 d0=.ok (b,d,d')->∀σ' v F' H',Stp (DT (start N vs) (sl++BG (N.length-sl.length) .no)) F H F' H' (DT σ' E')->Sim K H τ F' H' σ' E' ->
   RetR K (DT (start N vs) (sl++BG (N.length-sl.length) .no)) H F' H' σ' E' b0 v d0->Q v H':=by
  intro E' b0 d0 hf σ' v F' H' s1 S1 rr;obtain⟨rfl,rfl,h3⟩:=yBY hf
  have p0:∀(i:Nat) t x,(fM sl d')[i]?=AA (.own t x)->i=0/\t=AL/\x=d'/\∃x0 r,sl=.own AL x0::r:=λi t x q=>by
   cases sl with
   |nil=>simp[fM] at q
   |cons y r =>
    have D8:(∀t0 x0,y≠.own t0 x0)->(y::r)[i]?=AA (.own t x)->False:=λhn q=>by
     obtain⟨h0,ht⟩:=sh i t x q;subst h0;simp at q;exact hn _ _ q
    cases y with
    |no=>exact(D8 (λ_ _ z=>Sl.noConfusion z) q).elim
    |val _=>exact(D8 (λ_ _ z=>Sl.noConfusion z) q).elim
    |own t0 x0 =>
     cases i with
     |zero =>
      obtain⟨_,ht⟩:=sh 0 t0 x0 rfl;subst ht;have q:AA (Sl.own AL d')=AA (.own t x):=q;cases q;exact{rfl,rfl,rfl,x0,r,rfl}
     |succ i =>
      have:=(sh (i+1) t x q).1;omega
  have pv:∀(i:Nat) x,(fM sl d')[i]?=AA (.val x)->sl[i]?=AA (.val x):=λi x q=>by
   unfold fM at q;split at q
   .cases i with
    |zero=>simp at q
    |succ i=>simpa using q
   .exact q
  have tQ:∀x0 r,sl=.own AL x0::r->∃a,(vs.map AA)[0]?=AA (AA (.ref a))/\τ=a/\σ'[0]?=AA (AA (.ref a))/\F' a=AI/\OwnAt K F' H' a d'/\(∀o u,H a≠AA (.frz o u))/\E'[0]?=AA (.own AL d'):=λx0 r e=>by
   obtain⟨r',e'⟩:=h3 AL x0 r e;have q0:E'[0]?=AA (.own AL d'):=by rw[e'];rfl
   obtain⟨a,a1,a2,a3,a4,a5⟩:=S1.own 0 AL d' q0;obtain⟨c,c1,c2,c3,c4,c5⟩:=Sm.own 0 AL x0 (by rw[e];rfl);have:a=c:=by rw[<-a5 rfl,<-c5 rfl]
   subst this;exact{a,c1,c5 rfl,a1,a2,a3,a4,q0}
  refine k v F' H' {λa o e hw n ho=>s1.keep a o e hw n λz=>ho ((pU a).mp z),s1.dom,s1.le,λa o e=>(s1.new a o e).imp_right λz=>z.imp_right (pU a).mp,λa ⟨i,t,x,q1,q2⟩=>?_}
   {S1.sub,?_,λi x q=>?_,λi t x q=>?_,λi j t u x y a q1 q2 _ _=>by rw[(p0 i t x q1).1,(p0 j u y q2).1]} ?_
  .obtain⟨rfl,rfl,rfl,x0,r,e⟩:=p0 i t x q1
   exact .inl {0,AL,x0,by rw[e];rfl,q2}
  .have:(fM sl d').length=sl.length:=by
    unfold fM;split<;>rfl
   rw[this];exact Sm.len
  .obtain⟨v,h1,h2⟩:=Sm.val i x (pv i x q)
   exact{v,h1,h2.le s1.le}
  .obtain⟨rfl,rfl,rfl,x0,r,e⟩:=p0 i t x q
   obtain⟨a,a1,a2,a3,a4,a5,a6,_⟩:=tQ x0 r e;exact{a,a1,a4,a5,a6,λ_=>a2}
  .cases b with
   |false=>exact rr
   |true =>
    obtain⟨a,r1,r2,r3,r4,r5⟩:=rr
    have no:¬DT (vs.map AA) sl a:=by
     rintro⟨i,t,x,q1,q2⟩;obtain⟨rfl,rfl⟩:=sh i t x q1
     cases sl with
     |nil=>simp at q1
     |cons y r =>
      simp at q1;subst q1;obtain⟨c,c1,c2,c3,c4,c5,c6,c7⟩:=tQ x r rfl;rw[q2] at c1;cases c1;exact r5 0 d' c7 c3
    refine{a,r1,r2,r3,r4.elim (λz=>absurd ((pU a).mp z) no) id,?_};rintro⟨i,t,x,q1,q2⟩;obtain⟨rfl,rfl,rfl,x0,r,e⟩:=p0 i t x q1;exact no {0,AL,x0,by rw[e];rfl,q2}
 refine{τ,F,_,r,Sm0,e1,?_}
 cases r with
 |rt b0 d0 E'=>exact bQ hm
 |nx E'=>exact λσ' F' H' s1 S1=>bQ hm σ' .non F' H' s1 S1 .non
 |bk E'=>cases hm
 |ct E'=>cases hm
theorem WP{st:E6}{ps:List CK}{gb:GS}(Fn:Fun K x qual st f fd)(S:FnScope N ps (J5 st))
  (KO:∀(G5:AH) (A:DJ) (outer:List WK) (s:AT) (H:Hp) (E:XK),Room k (A.deeper (FR qual (J5 st) s.heap.objs.size f G5)) ->
   ZB (OL LO P w K mg base N qual (J5 st) f G5 A outer s H E).nox (U7 st) gb):FnOk P w K mg base LO (k+1) f fd ps (NO K ps.length (P2 N.length gb)) :=
 An Fn S λG5 A outer s H E _ hr=>KO G5 A outer s H E hr
end
variable{m:Mr}
section
variable{K:AC}{ge:G}{gs:List G}
def N3(P:CI)(w:DY)(K:AC)(mg:CK->Option AH)(base:DZ)(x:CK)(k np:Nat)(m:Mr):Prop :=
 ∃(f:AQ) (fd:JN) (ps:List CK),FnOk P w K mg base LO k f fd ps (NO K np m)/\mg x=AA (.ref f)/\EJ K (.ref f)=AL/\Binds K fd ps []
theorem v7{ds:List D}(a:AQ):¬DT σ (ds.map Sl.val) a:=λq0=>by
 obtain⟨i,t,d,e,_⟩:=q0;rw[AU] at e
 cases q:ds[i]? with
 |none=>rw[q] at e;cases e
 |some d'=>rw[q] at e;cases e
theorem Sim.args{ds:List D}(s:Sub F H)(r:Reps K F vs ds):Sim K H₀ τ F H (vs.map AA) (ds.map Sl.val):=by
 have no:∀(i:Nat) t d,(ds.map Sl.val)[i]?≠AA (.own t d):=λi t d e=>by
  rw[AU] at e
  cases q:ds[i]? with
  |none=>rw[q] at e;cases e
  |some d'=>rw[q] at e;cases e
 refine{s,by rw[AJ,AJ,r.length],λi d e=>?_,λi t d e=>absurd e (no i t d),λi j t u d d' a e=>absurd e (no i t d)};rw[AU] at e
 cases q:ds[i]? with
 |none=>rw[q] at e;cases e
 |some d' =>
  rw[q] at e;cases e;obtain⟨v,h1,h2⟩:=r.get q;exact{v,by rw[AU,h1];rfl,h2}
theorem Cw(ds:List D):Fm (ds.map Sl.val):=λi t d e=>by
 rw[AU] at e
 cases q:ds[i]? with
 |none=>rw[q] at e;cases e
 |some d'=>rw[q] at e;cases e
theorem New.share(n:New F1 H1 F2 H2)(h:H1 a=AI)(ho:H2 a=AA o)(hf:F2 a=AI):New F1 H1 (DU F2 a o) H2:=by
 refine{{n.1.keep,n.1.dom,n.1.le.trans (.of_gr (Gr.new hf)),λb u e=>?_,λ_ z=>z.elim},λb u e=>?_}
 .by_cases hb:b=a
  .subst hb;exact .inr (.inl (.none h))
  .rw[EL hb] at e;exact n.1.new b u e
 .by_cases hb:b=a
  .subst hb;rw[G3] at e;rw[ho];exact e
  .rw[EL hb] at e;exact n.2 b u e
def MX(m:Mr)(gs:List G):G:=λE=>(NL gs E).bind λp=>(m (p.1.map Sl.val)).bind λq=>.ok (q.2.1,p.2)
def oE(m:Mr)(gs:List G):G:=λE=>(NL gs E).bind λp=>(m (p.1.map Sl.val)).bind λq=>if q.1=AL then .ok (q.2.1,p.2) else .bad
theorem jH:∀{gs:List G} {E:Ev} {q:List D×Ev},NL gs E=.ok q->q.1.length=gs.length
 |[],_,_,h=>by rw[NL] at h;cases h;rfl
 |g::gs,E,q,h=>by
  rw[NL] at h;obtain⟨p,_,h⟩:=pA3 h;obtain⟨r,e2,h⟩:=pA3 h;cases h;rw[BC,BC,jH e2]
theorem zXU(hn:gs.length=np){Q:VK}(h:tV K H₀ (MX m gs) σ H Q):qO (NO K np m) [] E0 (eG K H₀ gs) σ H Q:=by
 obtain⟨τ,F,E,d,E',S,hg,k⟩:=h;obtain⟨p,e1,hg⟩:=pA3 hg;obtain⟨q,e2,hg⟩:=pA3 hg;cases hg;refine{τ,F,E,p.1,p.2,S,e1,λvs F1 H1 s1 S1 r1=>?_};dsimp only;rw[DC];refine{by rw[r1.length,jH e1,hn],0,F1,_,q.1,q.2.1,q.2.2,Sim.args S1.sub r1,Cw _,e2,λv F2 H2 s2 S2 rr=>?_};have n:New F1 H1 F2 H2:={(s2.toF λa=>v7 a).weak λ_ z=>z.elim,S2.sub}
 cases hb:q.1 with
 |false =>
  rw[hb] at rr;exact k v F2 H2 (s1.trans n.stp) (S1.new n) rr
 |true =>
  rw[hb] at rr;obtain⟨a,rfl,h1,h2,h3,h4⟩:=rr;obtain⟨o,ho,_⟩:=h2.ho;have n':=n.share h3 ho h1;exact k _ _ H2 (s1.trans n'.stp) (S1.new n') (h2.rep h1 ho)
theorem zTX(hn:gs.length=np){Q:VK}(h:tF K H₀ (oE m gs) σ H Q):qO (NO K np m) [] E0 (eG K H₀ gs) σ H Q:=by
 obtain⟨τ,F,E,d,E',S,hg,k⟩:=h;obtain⟨p,e1,hg⟩:=pA3 hg;obtain⟨q,e2,hg⟩:=pA3 hg;split at hg
 .rename_i hb
  cases hg;refine{τ,F,E,p.1,p.2,S,e1,λvs F1 H1 s1 S1 r1=>?_};dsimp only;rw[DC];refine{by rw[r1.length,jH e1,hn],0,F1,_,q.1,q.2.1,q.2.2,Sim.args S1.sub r1,Cw _,e2,λv F2 H2 s2 S2 rr=>?_};have n:New F1 H1 F2 H2:={(s2.toF λa=>v7 a).weak λ_ z=>z.elim,S2.sub};rw[hb] at rr;obtain⟨a,rfl,h1,h2,h3,h4⟩:=rr;exact k a F2 H2 (s1.trans n.stp) (S1.new n) h1 (s1.dom a h3) h2 (S1.fresh h3)
 .cases hg
theorem TZ(C:N3 X.prog X.w X.K X.mg X.base x k np m)(hr:Room k X.A)(ha:VA X (e::es) gs)(hn:gs.length=np:=by rfl)(hg:Gl X x:=by rfl)(RL:(x==("__debug__":CK))=AD:=by decide)
  (he:AO (e::es) X.env=(AD,eval e X.env)::AO es X.env:=by rfl) (JT:(DH pos (AO es X.env)).any (·.1)=AD:=by rfl):VE X (.Call (.Name x p) (e::es) [] pos) (MX m gs):=by
 obtain⟨f,fd,ps,Fn,hm,hk,hb⟩:=C;exact(rM Fn hr hg hm hk hb .nil wA ha RL he JT).imp λ_ _ _ h=>zXU hn h
theorem yBZ(C:N3 X.prog X.w X.K X.mg X.base x k np m)(hr:Room k X.A)(ha:VA X (e::es) gs)(hn:gs.length=np:=by rfl)(hg:Gl X x:=by rfl)(RL:(x==("__debug__":CK))=AD:=by decide)
  (he:AO (e::es) X.env=(AD,eval e X.env)::AO es X.env:=by rfl) (JT:(DH pos (AO es X.env)).any (·.1)=AD:=by rfl):FE X (.Call (.Name x p) (e::es) [] pos) (oE m gs):=by
 obtain⟨f,fd,ps,Fn,hm,hk,hb⟩:=C;exact(rM Fn hr hg hm hk hb .nil wA ha RL he JT).imp λ_ _ _ h=>zTX hn h
def K7(m:Mr)(i:Nat)(gs:List G):G:=λE=>match E[i]? with
 |some (.own _ _)=>(NL gs E).bind λp=>match p.2[i]? with
  |some (.own t d)=>(m (.own AL d::p.1.map Sl.val)).bind λq=>.ok (q.2.1,p.2.set i (.own t q.2.2))
  |_=>.bad
 |_=>.bad
theorem pAF{ds:List D}{d:D}(s:Sub F H)(r:Reps K F vs ds)(h1:F a=AI)(h2:OwnAt K F H a d):Sim K H a F H ((V.ref a::vs).map AA) (.own AL d::ds.map Sl.val):=by
 have S:=Sim.args (K:=K) (H₀:=H) (τ:=a) s r
 have no:∀(i:Nat) t d',(Sl.own AL d::ds.map Sl.val)[i]?=AA (.own t d')->i=0/\t=AL/\d'=d:=λi t d' e=>by
  cases i with
  |zero=>cases e;exact{rfl,rfl,rfl}
  |succ i =>
   have e:(ds.map Sl.val)[i]?=AA (.own t d'):=by simpa using e
   rw[AU] at e
   cases q:ds[i]? with
   |none=>rw[q] at e;cases e
   |some d'=>rw[q] at e;cases e
 refine{s,by rw[AJ,BC,BC,AJ,r.length],λi d' e=>?_,λi t d' e=>?_,λi j t u d1 d2 b e1 e2 _ _=>by rw[(no i _ _ e1).1,(no j _ _ e2).1]}
 .cases i with
  |zero=>cases e
  |succ i=>simpa using S.val i d' (by simpa using e)
 .obtain⟨rfl,rfl,rfl⟩:=no i t d' e
  obtain⟨o,ho,hw⟩:=h2.ho;exact{a,rfl,h1,h2,λob u z=>by rw[ho] at z;cases z;exact hw,λ_=>rfl}
theorem Eg{ds:List D}{d:D}:Fm (.own AL d::ds.map Sl.val):=λi t d' e=>by
 cases i with
 |zero=>cases e;exact{rfl,rfl}
 |succ i =>
  have e:(ds.map Sl.val)[i]?=AA (.own t d'):=by simpa using e
  exact absurd (Cw ds i t d' e) (by
   rw[AU] at e
   cases q:ds[i]? with
   |none=>rw[q] at e;cases e
   |some d'=>rw[q] at e;cases e)
theorem jL{ds:List D}{b:AQ}{d:D}(h:DT ((V.ref a::vs).map AA) (.own AL d::ds.map Sl.val) b):b=a:=by
 obtain⟨i,t,d',e1,e2⟩:=h;obtain⟨rfl,_⟩:=Eg i t d' e1;cases e2
 rfl
theorem zTY(hn:gs.length+1=np){Q:VK}(h:tV K H₀ (K7 m i gs) σ H Q):qO (NO K np m) [] E0 (qM (ZY i) (eG K H₀ gs)) σ H Q:=by
 obtain⟨τ,F,E,d,E',S,hg,k⟩:=h;unfold K7 at hg;split at hg
 .rename_i t0 d0 e0
  obtain⟨p,e1,hg⟩:=pA3 hg;split at hg
  .rename_i t d1 e3
   obtain⟨q,e2,hg⟩:=pA3 hg;cases hg;obtain⟨a,a1,_⟩:=S.own i _ _ e0;refine{_,a1,τ,F,E,p.1,p.2,S,e1,λvs F1 H1 s1 S1 r1=>?_};dsimp only;rw[DC];obtain⟨a',b1,b2,b3,b4,b5⟩:=S1.own i _ _ e3;rw[a1] at b1;cases b1;refine{by rw[BC,r1.length,jH e1,hn],a,F1,_,q.1,q.2.1,q.2.2,pAF S1.sub r1 b2 b3,Eg,e2,λv F2 H2 s2 S2 rr=>?_};have s2:Stp (DT ((V.ref a::vs).map AA) (.own AL d1::p.1.map Sl.val)) F1 H1 F2 H2 (DT ((V.ref a::vs).map AA) (.own AL q.2.2::p.1.map Sl.val)):=s2;have S2:Sim K H1 a F2 H2 ((V.ref a::vs).map AA) (.own AL q.2.2::p.1.map Sl.val):=S2;have hi:i<p.2.length:=(AR.mp e3).1
   have HV:∀(j:Nat) t' d',(p.2.set i (.own t q.2.2))[j]?=AA (.own t' d')->(j=i/\t'=t/\d'=q.2.2)\/(j≠i/\p.2[j]?=AA (.own t' d')):=λj t' d' z=>by
    by_cases hj:i=j
    .subst hj;rw[BF hi] at z;cases z;exact .inl {rfl,rfl,rfl}
    .rw[A4 hj] at z;exact .inr {FH hj,z}
   have Wi:∀b,DT σ (p.2.set i (.own t q.2.2)) b->DT σ p.2 b:=λb q0=>by
    obtain⟨j,t',d',z1,z2⟩:=q0;rcases HV j t' d' z1 with⟨rfl,_,_⟩|⟨_,z1⟩
    .exact{_,_,_,e3,z2}
    .exact{j,t',d',z1,z2}
   have Ws:DT σ p.2 a:={i,t,d1,e3,a1};have KJ:Stp (DT σ p.2) F1 H1 F2 H2 (DT σ (p.2.set i (.own t q.2.2))):={λb o z hw n ho=>s2.keep b o z hw n λy=>ho (by rw[jL y];exact Ws),s2.dom,s2.le,λb o z=>(s2.new b o z).imp_right λy=>y.imp_right λy=>by rw[jL y];exact Ws,λb z=>.inl (Wi b z)}
   have Sm:Sim K H₀ τ F2 H2 σ (p.2.set i (.own t q.2.2)):=by
    refine{S2.sub,by rw[BZ];exact S1.len,λj d' z=>?_,λj t' d' z=>?_,λj l t1 t2 x y b z1 z2 y1 y2=>?_}
    .by_cases hj:i=j
     .subst hj;rw[BF hi] at z;cases z
     .rw[A4 hj] at z
      obtain⟨v,h1,h2⟩:=S1.val j d' z;exact{v,h1,h2.le s2.le}
    .rcases HV j t' d' z with⟨rfl,rfl,rfl⟩|⟨hj,z⟩
     .obtain⟨c,c1,c2,c3,_⟩:=S2.own 0 AL q.2.2 rfl
      cases c1;exact{a,a1,c2,c3,b4,b5}
     .obtain⟨c,c1,c2,c3,c4⟩:=S1.own j t' d' z
      obtain⟨o,ho,hw⟩:=c3.ho;have vJ:c≠a:=λy=>hj (S1.inj j i t' t d' d1 a z e3 (by rw[c1,y]) a1);refine{c,c1,?_,c3.mono s2.le ((s2.keep c o ho hw c2 λy=>vJ (jL y)).trans ho.symm),c4}
      cases y:F2 c with
      |none=>rfl
      |some u =>
       rcases s2.new c u y with y|y|y
       .exact absurd c2 y
       .exact absurd hw (y o ho)
       .exact absurd (jL y) vJ
    .have f:∀(j:Nat) t' d',(p.2.set i (.own t q.2.2))[j]?=AA (.own t' d')->∃mB Ko,p.2[j]?=AA (.own mB Ko):=λj t' d' z=>by
      rcases HV j t' d' z with⟨rfl,_,_⟩|⟨_,z⟩
      .exact{_,_,e3}
      .exact{_,_,z}
     obtain⟨_,_,w1⟩:=f j _ _ z1;obtain⟨_,_,w2⟩:=f l _ _ z2;exact S1.inj j l _ _ _ _ b w1 w2 y1 y2
   cases hb:q.1 with
   |false =>
    rw[hb] at rr;exact k v F2 H2 (s1.trans KJ) Sm rr
   |true =>
    rw[hb] at rr;obtain⟨c,rfl,h1,h2,h3,h4⟩:=rr;obtain⟨o,ho,_⟩:=h2.ho
    have nc:∀b,DT σ (p.2.set i (.own t q.2.2)) b->b≠c:=λb z y=>by
     subst y;exact S1.fresh h3 (Wi b z)
    refine k _ (DU F2 c o) H2 (s1.trans {KJ.keep,KJ.dom,KJ.le.trans (.of_gr (Gr.new h1)),λb u z=>?_,KJ.own}) {λb u z=>?_,Sm.len,λj d' z=>?_,λj t' d' z=>?_,Sm.inj} (h2.rep h1 ho)
    .by_cases hb:b=c
     .subst hb;exact .inr (.inl (.none h3))
     .rw[EL hb] at z;exact KJ.new b u z
    .by_cases hb:b=c
     .subst hb;rw[G3] at z;rw[ho];exact z
     .rw[EL hb] at z;exact Sm.sub b u z
    .obtain⟨v,y1,y2⟩:=Sm.val j d' z
     exact{v,y1,y2.le (.of_gr (Gr.new h1))}
    .obtain⟨b,y1,y2,y3,y4⟩:=Sm.own j t' d' z
     exact{b,y1,by rw[EL (nc b {j,t',d',z,y1})];exact y2,y3.mono (.of_gr (Gr.new h1)) rfl,y4}
  .cases hg
 .cases hg
theorem VZ{q:fD}(i:Nat)(C:N3 X.prog X.w X.K X.mg X.base x k np m)(hr:Room k X.A)(ha:VA X es gs)(hn:gs.length+1=np:=by rfl)(hg:Gl X x:=by rfl)(RL:(x==("__debug__":CK))=AD:=by decide)
  (he:AO (.Name xn q::es) X.env=(AD,eval (.Name xn q) X.env)::AO es X.env:=by rfl) (JT:(DH pos (AO es X.env)).any (·.1)=AD:=by rfl)
  (hN:X.N[i]?=AA xn:=by rfl) (hv:ZA X.env.scope xn:=by first|exact BN rfl|exact D9 (BN rfl)|exact D9 (D9 rfl)) (hd:(xn==("__debug__":CK))=AD:=by decide)
  (LR:(xn==("__classdict__":CK))=AD:=by decide):VE X (.Call (.Name x p) (.Name xn q::es) [] pos) (K7 m i gs):=by
 obtain⟨f,fd,ps,Fn,hm,hk,hb⟩:=C;exact(rM Fn hr hg hm hk hb .nil wA (R8 (fY hN hv hd LR) ha he) RL he JT).imp λ_ _ _ h=>zTY hn h
end
theorem PTs.imp{t t':TT}(h:PTs X es t)(hi:∀σ H Q,t' σ H Q->t σ H Q):PTs X es t':=λAE s σ H Q I q=>h AE s σ H Q I (hi σ H Q q)
abbrev sK(X:Cx)(es:List CU)(g:Ev->Out (Bool×Ev)):Prop:=PTs X es (tT X.K X.H₀ g)
def W1:Ev->Out (Bool×Ev):=λE=>.ok (AL,E)
theorem rH:sK X [] W1:=X9.imp λσ H Q h=>by
 obtain⟨τ,F,E,d,E',S,hg,k⟩:=h;cases hg;exact k F H .refl S
theorem Nh{t:Ev->Out (Bool×Ev)}(h:VT X c t):sK X [c] t:=zXH h
theorem zQZ{l:List Nat}(h:l.Nodup){x:Nat}(hi:l[i]?=AA x)(hj:l[j]?=AA x):i=j:=by
 obtain⟨a1,a2⟩:=AR.mp hi;obtain⟨b1,b2⟩:=AR.mp hj;have p:=EF.mp h;rcases fF i j with z|z|z
 .exact absurd (a2.trans b2.symm) (p i j a1 b1 z)
 .exact z
 .exact absurd (b2.trans a2.symm) (p j i b1 a1 z)
noncomputable def WO(k:Nat)(js:List Nat)(E:Ev):Ev:=BG k .no++js.map λj=>(E[j]?).getD .no
noncomputable def lF(j:Nat):List Nat->Nat->Option Nat
 |[],_=>AI
 |x::xs,n=>if x=j then AA n else lF j xs (n+1)
theorem Rh{j:Nat}:∀{js:List Nat} {n0 n:Nat},lF j js n0=AA n->∃m,n=n0+m/\js[m]?=AA j
 |[],_,_,h=>by cases h
 |x::xs,n0,n,h=>by
  rw[lF] at h;split at h
  .rename_i hx;cases h;exact{0,rfl,by simp[hx]}
  .obtain⟨m,h1,h2⟩:=Rh h;exact{m+1,by lia,by simpa using h2}
theorem Rf{j:Nat}:∀{js:List Nat} {n0:Nat},lF j js n0=AI->j∉js
 |[],_,_=>by simp
 |x::xs,n0,h=>by
  rw[lF] at h;split at h
  .cases h
  .rename_i hx
   have:=Rf h;simp only[BD,not_or];exact{λz=>hx z.symm,this}
def iR(Ec:Ev)(k:Nat)(js:List Nat)(j:Nat):Sl->Sl
 |.own t d=>match lF j js 0 with
  |some n=>(Ec[k+n]?).getD .no
  |none=>.own t d
 |s=>s
def a8(Ec:Ev)(k:Nat)(js:List Nat):Nat->Ev->Ev
 |_,[]=>[]
 |j,s::E=>iR Ec k js j s::a8 Ec k js (j+1) E
abbrev Z6(E Ec:Ev)(k:Nat)(js:List Nat):Ev:=a8 Ec k js 0 E
theorem Oq(Ec:Ev)(k:Nat)(js:List Nat):∀(E:Ev) (j0 j:Nat),(a8 Ec k js j0 E)[j]?=(E[j]?).map (iR Ec k js (j0+j))
 |[],_,_=>by simp[a8]
 |s::E,j0,0=>by simp[a8]
 |s::E,j0,j+1=>by
  show(a8 Ec k js (j0+1) E)[j]?=_;rw[Oq Ec k js E (j0+1) j,FU,show j0+1+j=j0+(j+1) by lia]
theorem Op(Ec:Ev)(k:Nat)(js:List Nat):∀(E:Ev) (j0:Nat),(a8 Ec k js j0 E).length=E.length
 |[],_=>rfl
 |s::E,j0=>by rw[a8,BC,BC,Op Ec k js E (j0+1)]
theorem w8{E Ec:Ev}{s:Sl}(h:(Z6 E Ec k js)[j]?=AA s):(E[j]?=AA s/\((∃t d,s=.own t d)->j∉js))\/∃t d n,E[j]?=AA (.own t d)/\js[n]?=AA j/\s=(Ec[k+n]?).getD .no:=by
 rw[Oq,EO] at h
 cases q:E[j]? with
 |none=>rw[q] at h;cases h
 |some s0 =>
  rw[q] at h;have h:iR Ec k js j s0=s:=BK h
  cases s0 with
  |no=>cases h;exact .inl {rfl,(λq0=>by obtain⟨_,_,z⟩:=q0;exact by cases z)}
  |val d=>cases h;exact .inl {rfl,(λq0=>by obtain⟨_,_,z⟩:=q0;exact by cases z)}
  |own t d =>
   cases f:lF j js 0 with
   |none =>
    have:iR Ec k js j (.own t d)=.own t d:=by unfold iR;rw[f]
    rw[this] at h;exact .inl {by rw[h],λ_=>Rf f}
   |some n =>
    obtain⟨m,h1,h2⟩:=Rh f;have:iR Ec k js j (.own t d)=(Ec[k+n]?).getD .no:=by unfold iR;rw[f]
    rw[this] at h;exact .inr {t,d,m,rfl,h2,by rw[<-h];congr 2;lia}
theorem rG{E:Ev}{s:Sl}(h:(WO k js E)[i]?=AA s)(hs:s≠.no):∃n j,i=k+n/\js[n]?=AA j/\E[j]?=AA s:=by
 unfold WO at h
 by_cases hi:i<k
 .rw[B9 (by rw[C2];exact hi),DR,if_pos hi] at h
  exact absurd (BK h).symm hs
 .rw[BX (by rw[C2];lia),C2,AU] at h
  cases q:js[i-k]? with
  |none=>rw[q] at h;cases h
  |some j =>
   rw[q] at h;have h:(E[j]?).getD .no=s:=BK h;refine{i-k,j,by lia,q,?_}
   cases z:E[j]? with
   |none=>rw[z] at h;exact absurd h.symm hs
   |some s'=>rw[z] at h;rw[<-h];rfl
theorem oX(h:js[n]?=AA j):(U6 k js σ)[k+n]?=AA ((σ[j]?).getD AI):=by
 unfold U6;rw[BX (by rw[C2];lia),C2,AU,show k+n-k=n from MU _ _,h]
 rfl
variable{E1 E2:Ev}
section
variable{K:AC}{σ2:St}{E:Ev}{acc:AQ}
theorem Sim.off(S:Sim K H₀ τ F H σ E)(hf:F acc=AI)(no:¬DT σ E acc):Sim K H₀ τ F (DU H acc o) σ E:=by
 refine{λa u e=>?_,S.len,S.val,λi t d e=>?_,S.inj}
 .have:a≠acc:=λz=>by rw[z,hf] at e;cases e
  rw[EL this];exact S.sub a u e
 .obtain⟨a,h1,h2,h3,h4⟩:=S.own i t d e
  have:a≠acc:=λz=>no {i,t,d,e,by rw[<-z];exact h1};exact{a,h1,h2,h3.mono (.refl _) (EL this),h4}
theorem pAG(S:Sub F H)(h:H acc=AI):F acc=AI:=by
 cases e:F acc with
 |none=>rfl
 |some u=>rw[S acc u e] at h;cases h
theorem Bj(h:DT (U6 k js σ) (WO k js E) a):∃(n j:Nat) (t:Bool) (d:D),js[n]?=AA j/\E[j]?=AA (.own t d)/\σ[j]?=AA (AA (.ref a)):=by
 obtain⟨i,t,d,e1,e2⟩:=h;obtain⟨n,j,rfl,h1,h2⟩:=rG e1 (by intro z;cases z);rw[oX h1] at e2;refine{n,j,t,d,h1,h2,?_}
 cases q:σ[j]? with
 |none=>rw[q] at e2;cases e2
 |some z=>rw[q] at e2;cases e2;rfl
theorem Sim.enter(S:Sim K H₀ τ F H σ E)(k:Nat)(hj:js.Nodup)(ha:H acc=AI):Sim K (DU H acc o) τ F (DU H acc o) (U6 k js σ) (WO k js E):=by
 have hf:=pAG S.sub ha;refine{λa u e=>?_,by unfold WO U6;simp,λi d e=>?_,λi t d e=>?_,λi j t u d d' a e1 e2 z1 z2=>?_}
 .have:a≠acc:=λz=>by rw[z,hf] at e;cases e
  rw[EL this];exact S.sub a u e
 .obtain⟨n,j,rfl,h1,h2⟩:=rG e (by intro z;cases z)
  obtain⟨v,h3,h4⟩:=S.val j d h2;exact{v,by rw[oX h1,h3];rfl,h4}
 .obtain⟨n,j,rfl,h1,h2⟩:=rG e (by intro z;cases z)
  obtain⟨a,h3,h4,h5,h6,h7⟩:=S.own j t d h2;obtain⟨ob,ho,hw⟩:=h5.ho;have:a≠acc:=λz=>by rw[z,ha] at ho;cases ho
  exact{a,by rw[oX h1,h3];rfl,h4,h5.mono (.refl _) (EL this),λw u z=>by rw[EL this,ho] at z;cases z;exact hw,h7}
 .obtain⟨n,l,rfl,h1,h2⟩:=rG e1 (by intro z;cases z)
  obtain⟨n',l',rfl,XQ,UQ⟩:=rG e2 (by intro z;cases z);rw[oX h1] at z1;rw[oX XQ] at z2
  have w1:σ[l]?=AA (AA (.ref a)):=by
   cases q:σ[l]? with
   |none=>rw[q] at z1;cases z1
   |some z=>rw[q] at z1;cases z1;rfl
  have w2:σ[l']?=AA (AA (.ref a)):=by
   cases q:σ[l']? with
   |none=>rw[q] at z2;cases z2
   |some z=>rw[q] at z2;cases z2;rfl
  have:=S.inj l l' t u d d' a h2 UQ w1 w2;subst this;rw[zQZ hj h1 XQ]
theorem Sim.leave(S:Sim K H₀ τ F1 H1 σ E1)(ha:H1 acc=AI)(s:Stp (λa=>DT (U6 k js σ) (WO k js E1) a\/a=acc) F1 (DU H1 acc o) F2 H2 (DT σ2 E2))
  (S2:Sim K (DU H1 acc o) τ F2 H2 σ2 E2) (hs:∀j:Nat,k<=j->σ2[j]?=(U6 k js σ)[j]?) :
  Sim K H₀ τ F2 H2 σ (Z6 E1 E2 k js)/\Stp (DT σ E1) F1 H1 F2 H2 (DT σ (Z6 E1 E2 k js)):=by
 have Yc:∀a,DT (U6 k js σ) (WO k js E1) a->DT σ E1 a:=λa h=>let ⟨n,j,t,d,_,h2,h3⟩:=Bj h;{j,t,d,h2,h3};have ne:∀a u,H1 a=AA u->a≠acc:=λa u e z=>by rw[z,ha] at e;cases e
 have slot:∀(n j:Nat),js[n]?=AA j->σ2[k+n]?=AA ((σ[j]?).getD AI):=λn j h=>by rw[hs (k+n) (A2 _ _),oX h]
 have bW:∀(j:Nat) t d,(Z6 E1 E2 k js)[j]?=AA (.own t d)->∃t' d',E1[j]?=AA (.own t' d'):=λj t d e=>by
  rcases w8 e with⟨h,_⟩|⟨t',d',n,h,_⟩
  .exact{t,d,h}
  .exact{t',d',h}
 have st:Stp (DT σ E1) F1 H1 F2 H2 (DT σ (Z6 E1 E2 k js)):=by
  refine{λa u e hw n ho=>s.keep a u (by rw[EL (ne a u e)];exact e) hw n λz=>z.elim (λz=>ho (Yc a z)) (ne a u e),λa e=>?_,s.le,λa u e=>?_,λa ⟨j,t,d,e1,e2⟩=>?_}
  .have:=s.dom a e
   by_cases h:a=acc
   .rw[h];exact ha
   .rw[EL h] at this;exact this
  .rcases s.new a u e with z|z|z|z
   .exact .inl z
   .by_cases h:a=acc
    .rw[h];exact .inr (.inl (.none ha))
    .exact .inr (.inl λo' e'=>z o' (by rw[EL h];exact e'))
   .exact .inr (.inr (Yc a z))
   .rw[z];exact .inr (.inl (.none ha))
  .obtain⟨t',d',h⟩:=bW j t d e1
   exact .inl {j,t',d',h,e2}
 refine{{S2.sub,by rw[Op];exact S.len,λj d e=>?_,λj t d e=>?_,λi j t u d d' a e1 e2 z1 z2=>?_},st}
 .rcases w8 e with⟨h,_⟩|⟨t',d',n,h,h1,h2⟩
  .obtain⟨v,h1,h2⟩:=S.val j d h
   exact{v,h1,h2.le s.le}
  .have e2:E2[k+n]?=AA (.val d):=by
    cases q:E2[k+n]? with
    |none=>rw[q] at h2;cases h2
    |some z=>rw[q] at h2;rw[h2];rfl
   obtain⟨v,h3,h4⟩:=S2.val _ d e2;rw[slot n j h1] at h3;refine{v,?_,h4}
   cases q:σ[j]? with
   |none=>rw[q] at h3;cases h3
   |some z=>rw[q] at h3;cases h3;rfl
 .rcases w8 e with⟨h,h'⟩|⟨t',d',n,h,h1,h2⟩
  .have hj:=h' {t,d,rfl}
   obtain⟨a,c1,c2,c3,c4⟩:=S.own j t d h;obtain⟨ob,ho,hw⟩:=c3.ho
   have nc:¬(DT (U6 k js σ) (WO k js E1) a\/a=acc):=λz=>by
    rcases z with z|z
    .obtain⟨n,l,t2,d2,y1,y2,y3⟩:=Bj z
     have:=S.inj j l t t2 d d2 a h y2 c1 y3;subst this;exact hj (CT y1)
    .exact ne a ob ho z
   refine{a,c1,?_,c3.mono s.le ((s.keep a ob (by rw[EL (ne a ob ho)];exact ho) hw c2 nc).trans ho.symm),c4}
   cases y:F2 a with
   |none=>rfl
   |some u =>
    rcases s.new a u y with y|y|y
    .exact absurd c2 y
    .exact absurd hw (y ob (by rw[EL (ne a ob ho)];exact ho))
    .exact absurd y nc
  .have e2:E2[k+n]?=AA (.own t d):=by
    cases q:E2[k+n]? with
    |none=>rw[q] at h2;cases h2
    |some z=>rw[q] at h2;rw[h2];rfl
   obtain⟨a,h3,h4,h5,h6,h7⟩:=S2.own _ t d e2;rw[slot n j h1] at h3;obtain⟨a',c1,c2,c3,c4,c5⟩:=S.own j t' d' h;rw[c1] at h3;cases h3;exact{a,c1,h4,h5,c4,h7}
 .obtain⟨_,_,h1⟩:=bW i t d e1
  obtain⟨_,_,h2⟩:=bW j u d' e2;exact S.inj i j _ _ _ _ a h1 h2 z1 z2
end
section
variable{K:AC}
end
abbrev GM:=D->Ev->Out (D×Ev)
theorem Stp.more{ow:AQ->Prop}{acc:AQ}(x:Stp ow F H F1 H1 TC):Stp (λa=>ow a\/a=acc) F H F1 H1 (λa=>TC a\/a=acc) :=
 {λa o e w f n=>x.keep a o e w f λz=>n (.inl z),x.dom,x.le,λa o e=>(x.new a o e).imp id λz=>z.imp id .inl,λa q=>q.elim (λz=>(x.own a z).imp .inl id) λz=>.inl (.inr z)}
def yT(K:AC)(H₀:Hp)(acc:AQ)(k:Nat)(g:GM):TM:=λσ H N=>∃τ F E d d' E',Sim K H₀ τ F H σ E/\F acc=AI/\¬DT σ E acc/\OwnAt K F H acc d/\g d E=.ok (d',E') /\
 ∀σ' F' H',Stp (λa=>DT σ E a\/a=acc) F H F' H' (λa=>DT σ' E' a\/a=acc)->Sim K H₀ τ F' H' σ' E'->F' acc=AI->¬DT σ' E' acc->OwnAt K F' H' acc d'->(∀j:Nat,k<=j->σ'[j]?=σ[j]?)->N σ' H'
def YW(t:Tg)(tt:Ev->Out (Bool×Ev))(gm:GM):List D->GM
 |[],d,E=>.ok (d,E)
 |x::xs,d,E=>(V1 t x E).bind λE1=>(tt E1).bind λb=>if b.1=AL then(gm d b.2).bind λq=>YW t tt gm xs q.1 q.2 else YW t tt gm xs d b.2
variable{tt:Ev->Out (Bool×Ev)}{gm:GM}
section
variable{K:AC}{E:Ev}{acc:AQ}
theorem v4{Ea Eb:Ev}{Fa Ha Fb Hb:Hp}{d:D}(st:Stp (DT σ' Ea) Fa Ha Fb Hb (DT σ' Eb))(a1:Fa acc=AI)(a2:¬DT σ' Ea acc)(a3:OwnAt K Fa Ha acc d):Fb acc=AI/\¬DT σ' Eb acc/\OwnAt K Fb Hb acc d:=by
 obtain⟨o,ho,hw⟩:=a3.ho;have hb:=st.keep acc o ho hw a1 a2;refine{?_,λz=>(st.own acc z).elim a2 λz=>by (rw[ho] at z;cases z),a3.mono st.le (hb.trans ho.symm)}
 cases z:Fb acc with
 |none=>rfl
 |some u =>
  rcases st.new acc u z with z|z|z
  .exact absurd a1 z
  .exact absurd hw (z _ ho)
  .exact absurd z a2
theorem yEX{t:Tg}{ds:List D}(JI:t.ltn k=AL){N:St->Hp->Prop}{d d':D}(S:Sim K H₀ τ F H σ E)(hf:F acc=AI)(no:¬DT σ E acc)(ho:OwnAt K F H acc d)(hw:Walks K J F ds)
  (hg:YW t tt gm ds d E=.ok (d',E'))
  (hN:∀σ' F' H',Stp (λa=>DT σ E a\/a=acc) F H F' H' (λa=>DT σ' E' a\/a=acc)->Sim K H₀ τ F' H' σ' E'->F' acc=AI->¬DT σ' E' acc->OwnAt K F' H' acc d'->(∀j:Nat,k<=j->σ'[j]?=σ[j]?)->N σ' H') :
  tWalkC J (tG K H₀ t) (tT K H₀ tt) (yT K H₀ acc k gm) σ H N:=by
 refine{λi m σ2 H2=>m=ds.length-i/\i<=ds.length/\∃F2 E2 d2,Sim K H₀ τ F2 H2 σ2 E2/\Stp (λa=>DT σ E a\/a=acc) F H F2 H2 (λa=>DT σ2 E2 a\/a=acc) /\
   F2 acc=AI/\¬DT σ2 E2 acc/\OwnAt K F2 H2 acc d2/\(∀j:Nat,k<=j->σ2[j]?=σ[j]?)/\YW t tt gm (ds.drop i) d2 E2=.ok (d',E'),
  {_,rfl,BR _,F,E,d,S,Stp.refl,hf,no,ho,λ_ _=>rfl,by rw[N0];exact hg},?_}
 rintro i m σ2 H2 ⟨rfl,zU,F2,E2,d2,S2,s2,f2,n2,o2,MR,g2⟩;obtain⟨w2,w3,w4⟩:=hw i F2 H2 s2.le S2.sub
 by_cases hi:i<ds.length
 .obtain⟨x,hd⟩:∃d,ds[i]?=AA d:={ds[i],by simp[hi]}
  have vC:ds.drop i=x::ds.drop (i+1):=by
   rw[FD hi];have:ds[i]=x:=by rw[BU hi] at hd;exact BK hd
   rw[this]
  rw[vC,YW] at g2;obtain⟨E3,e3,g2⟩:=pA3 g2;obtain⟨b,e4,g2⟩:=pA3 g2;refine .inr {w2 hi,λy H' yl=>?_};obtain⟨F3,n3,r3⟩:=w4 y H' x hd yl;obtain⟨f3,m3,o3⟩:=v4 (n3.stp (ow:=DT σ2 E2)) f2 n2 o2;refine{τ,F3,E2,x,E3,S2.new n3,r3,e3,λσ4 S4 o4 b4=>?_};have m4:¬DT σ4 E3 acc:=λz=>n2 (o4 acc z);have Wx:∀j:Nat,k<=j->σ4[j]?=σ[j]?:=λj hj=>by rw[b4 k JI j hj,MR j hj]
  have s4:Stp (λa=>DT σ E a\/a=acc) F H F3 H' (λa=>DT σ4 E3 a\/a=acc):=(s2.trans n3.stp).weak λa z=>z.imp (o4 a) id;refine{τ,F3,E3,b.1,b.2,S4,e4,λF5 H5 s5 S5=>?_};obtain⟨f5,m5,o5⟩:=v4 s5 f3 m4 o3;have Wb:=s4.trans (s5.more (acc:=acc));dsimp only
  by_cases hb:b.1=AL
  .rw[if_pos hb] at g2 ⊢
   obtain⟨z,e6,g2⟩:=pA3 g2;refine{τ,F5,b.2,d2,z.1,z.2,S5,f5,m5,o5,e6,λσ6 F6 H6 s6 S6 f6 m6 o6 hs6=>?_};exact{_,by lia,rfl,hi,F6,z.2,z.1,S6,Wb.trans s6,f6,m6,o6,λj hj=>by rw[hs6 j hj,Wx j hj],g2}
  .rw[if_neg hb] at g2 ⊢
   exact{_,by lia,rfl,hi,F5,b.2,d2,S5,Wb,f5,m5,o5,Wx,g2}
 .have hi:i=ds.length:=by lia
  rw[JS 'l',YW] at g2;cases g2;exact .inl {w3 hi,hN σ2 F2 H2 s2 S2 f2 n2 o2 MR}
theorem Ur{F6 H6:Hp}(s6:Stp (DT σ E) F H F6 H6 (DT σ' E')):Stp (λa=>DT σ E a\/a=acc) F H F6 (DU H6 acc o) (λa=>DT σ' E' a\/a=acc):=by
 have st:=s6.more (acc:=acc);refine{λa u e hw n ho=>by rw[EL (λy=>ho (.inr y))];exact st.keep a u e hw n ho,λa e=>?_,st.le,st.new,st.own}
 by_cases Xl:a=acc
 .rw[Xl,G3] at e;cases e
 .rw[EL Xl] at e;exact st.dom a e
def Am(ge:G):GM:=λd E=>(ge E).bind λp=>match d with|.lst ds=>few ds.length (.ok (.lst (ds++[p.1]),p.2))|_=>.bad
theorem zT0{ge:G}{N:St->Hp->Prop}(h:yT K H₀ acc k (Am ge) σ H N):iX acc (tV K H₀ ge) σ H N:=by
 obtain⟨τ,F,E,d,d',E',S,f,n,o,hg,k⟩:=h;obtain⟨p,e1,hg⟩:=pA3 hg;split at hg
 .rename_i ds
  obtain⟨hz,hg⟩:=W4 hg;cases hg;refine{τ,F,E,p.1,p.2,S,e1,λy F6 H6 s6 S6 r6=>?_};obtain⟨f6,m6,ys,h6,r2⟩:=v4 s6 f n o;exact{ys,h6,by rw[r2.length];exact bE hz,k σ F6 _ (Ur s6) (S6.off f6 m6) f6 m6 {_,G3,r2.append (.cons r6 .nil)} λ_ _=>rfl}
 .cases hg
def lN(gi:GI)(k:Nat)(js:List Nat)(d0:D)(t:Tg)(tt:Ev->Out (Bool×Ev))(gm:GM):G:=λE=>(gi E).bind λp=>(YW t tt gm p.1 d0 (WO k js p.2)).bind λq=>.ok (q.1,Z6 p.2 q.2 k js)
theorem Pj{d0:D}{t:Tg}(hd0:∀(F H:Hp) (a:AQ),OwnAt K F (DU H a o) a d0)(JI:t.ltn k=AL)(hj:js.Nodup){Q:VK}(h:tF K H₀ (lN gi k js d0 t tt gm) σ H Q) :
  oH (tI K H₀ gi) k js o (λH=>tG K H t) (λH=>tT K H tt) (λH acc=>yT K H acc k gm) σ H Q:=by
 obtain⟨τ,F,E,d,E',S,hg,kq⟩:=h;obtain⟨p,e1,hg⟩:=pA3 hg;obtain⟨q,e2,hg⟩:=pA3 hg;cases hg;refine{τ,F,E,p.1,p.2,S,e1,λJ F1 H1 s1 S1 w1 acc ha=>?_};have hf:=pAG S1.sub ha;have S0:=S1.enter (o:=o) k hj ha
 have no:¬DT (U6 k js σ) (WO k js p.2) acc:=λz=>by
  obtain⟨n,j,t',d',_,z2,z3⟩:=Bj z;exact S1.fresh ha {j,t',d',z2,z3}
 refine yEX JI S0 hf no (hd0 _ _ _) w1 e2 λσ2 F2 H2 s2 S2 f2 n2 o2 MR=>?_;have s2':Stp (λa=>DT (U6 k js σ) (WO k js p.2) a\/a=acc) F1 (DU H1 acc o) F2 H2 (DT σ2 q.2):=s2.weak λa z=>.inl z;obtain⟨S9,s9⟩:=S1.leave ha s2' S2 MR;refine kq acc F2 H2 (s1.trans s9) S9 f2 (s1.dom acc ha) o2 λz=>?_
 exact(s9.own acc z).elim (λy=>S1.fresh ha y) λy=>S1.fresh ha (by
   obtain⟨j,t',d',z1,z2⟩:=z;rcases w8 z1 with⟨h,_⟩|⟨mB,Ko,n,h,_⟩
   .exact{j,t',d',h,z2}
   .exact{j,mB,Ko,h,z2})
theorem tWalkC.imp{J:It}{g:TG}{tt:TT}{tm Vv:TM}(hi:∀σ H N,tm σ H N->Vv σ H N){N:St->Hp->Prop}(mt:∀(σ:St) (H:Hp) (P P':Bool->Hp->Prop),(∀b H2,P b H2->P' b H2)->tt σ H P->tt σ H P')(mg:∀(x:V) (σ:St) (H:Hp) (P P':St->Hp->Prop),(∀σ2 H2,P σ2 H2->P' σ2 H2)->g x σ H P->g x σ H P')(h:tWalkC J g tt tm σ H N):tWalkC J g tt Vv σ H N:=by
 obtain⟨W,w0,turn⟩:=h;refine{W,w0,λi m σ H w=>(turn i m σ H w).imp id λ⟨go,st⟩=>{go,λx H' y=>mg _ _ _ _ _ (λσ2 H2 q=>mt _ _ _ _ (λb H3 q=>?_) q) (st x H' y)}}
 cases b with
 |true=>rw[if_pos rfl] at q ⊢;exact hi _ _ _ q
 |false=>rw[if_neg CG] at q ⊢;exact q
theorem Nx(σ:St)(H:Hp)(P P':Bool->Hp->Prop)(hp:∀b H2,P b H2->P' b H2)(h:tT K H₀ tt σ H P):tT K H₀ tt σ H P' :=
 let ⟨τ,F,E,b,E',S,hg,k⟩:=h;{τ,F,E,b,E',S,hg,λF' H' s S'=>hp _ _ (k F' H' s S')}
theorem Nv{t:Tg}(x:V)(σ:St)(H:Hp)(P P':St->Hp->Prop)(hp:∀b H2,P b H2->P' b H2)(h:tG K H₀ t x σ H P):tG K H₀ t x σ H P' :=
 let ⟨τ,F,E,d,E',S,r,hg,k⟩:=h;{τ,F,E,d,E',S,r,hg,λσ' a b c=>hp _ _ (k σ' a b c)}
theorem Nu{R R':It->Hp->Prop}(hp:∀J H2,R J H2->R' J H2)(h:tI K H₀ gi σ H R):tI K H₀ gi σ H R' :=
 let ⟨τ,F,E,ds,E',S,hg,k⟩:=h;{τ,F,E,ds,E',S,hg,λJ F' H' a b c=>hp _ _ (k J F' H' a b c)}
def W3(gi:GI)(k:Nat)(js:List Nat)(t:Tg)(tt:Ev->Out (Bool×Ev))(ge:G):G:=lN gi k js (.lst []) t tt (Am ge)
theorem Nt{t:Tg}{ge:G}(JI:t.ltn k=AL)(hj:js.Nodup){Q:VK}(h:tF K H₀ (W3 gi k js t tt ge) σ H Q) :
  oH (tI K H₀ gi) k js (.lst []) (λH=>tG K H t) (λH=>tT K H tt) (λH acc=>iX acc (tV K H ge)) σ H Q :=
 Nu (λJ H2 q acc ha=>tWalkC.imp (λ_ _ _ z=>zT0 z) (λσ H=>Nx σ H) (λx σ H=>Nv x σ H) (q acc ha)) (Pj (o:=.lst []) (d0:=.lst []) (λF H a=>{[],G3,.nil}) JI hj h)
theorem qX{iter:CU}{t:Tg}{ge:G}(n:CompNm X scope cl own CP js)(hc:X.calm=AL)(hi:VI X tg iter gi)
  (hg:∀C s H fp,VG (L7 X scope cl (own++CP) C s H fp) tg t) (ht:∀C s H fp,sK (L7 X scope cl (own++CP) C s H fp) ifs tt) (he:∀C s H fp,VE (L7 X scope cl (own++CP) C s H fp) NR ge)
  (JI:t.ltn own.length=AL:=by rfl) (hj:js.Nodup:=by decide) (hs:∀x,C6 iter X.env x=pure x:=by intro _;rfl):FE X (.ListComp NR [{tg,iter,ifs,0}] scope pos) (W3 gi own.length js t tt ge) :=
 (zXJ (g:=λH=>tG X.K H t) (tt:=λH=>tT X.K H tt) (te:=λH=>tV X.K H ge) n hc hi hg ht he hs).imp λ_ _ _ h=>Nt JI hj h
end
mutual
noncomputable def D.py:D->Option G2
 |.non=>AA .none
 |.bl b=>AA (.bool b)
 |.int i=>AA (.int i)
 |.str x=>if K2 (.str x)=AL then AA (.str x) else AI
 |.tup xs=>(pAH xs).map .tuple
 |.lst xs=>(pAH xs).map .list
 |.dk _=>AI
 |.dt _=>AI
noncomputable def pAH:List D->Option (List G2)
 |[]=>AA []
 |d::ds=>match d.py,pAH ds with
  |some p,AA ps=>AA (p::ps)
  |_,_=>AI
end
section
variable{K:AC}
mutual
theorem Rep.dv(s:Sub F H):∀(d:D) {v:V} {p:G2},Rep K F v d->d.py=AA p->DV K H v p
 |.non,_,_,.non,e=>by rw[D.py] at e;cases e;exact .non
 |.bl b,_,_,.bl _,e=>by rw[D.py] at e;cases e;exact .bl b
 |.int i,_,_,.int _,e=>by rw[D.py] at e;cases e;exact .int i
 |.str x,_,_,.str _,e=>by
  rw[D.py] at e;split at e
  .rename_i h;cases e;exact .str x h
  .cases e
 |.tup xs,_,_,r,e=>by
  rw[D.py] at e;obtain⟨ps,h1,h2⟩:=BQ.mp e;subst h2;obtain⟨a,vs,rfl,r,sq⟩:=r.tupSq;exact .tup (sq F H (.refl _) s) (Reps.dv s xs r h1)
 |.lst xs,_,_,.lst h r,e=>by
  rw[D.py] at e;obtain⟨ps,h1,h2⟩:=BQ.mp e;subst h2;exact .lst (h.imp s.rd id) (Reps.dv s xs r h1)
 |.dk _,_,_,_,e=>by rw[D.py] at e;cases e
 |.dt _,_,_,_,e=>by rw[D.py] at e;cases e
theorem Reps.dv(s:Sub F H):∀(d:List D) {v:List V} {p:List G2},Reps K F v d->pAH d=AA p->DVs K H v p
 |[],_,_,.nil,e=>by rw[pAH] at e;cases e;exact .nil
 |d::ds,_,_,.cons h r,e=>by
  rw[pAH] at e;split at e
  .rename_i p ps e1 e2
   cases e;exact .cons (Rep.dv s d h e1) (Reps.dv s ds r e2)
  .cases e
end
end
noncomputable def Y9(x y:D):Out D:=match x.py,y.py with
 |some p,AA q=>if min p.depth q.depth<=60 then .ok (.bl (EE p q)) else .bad
 |_,_=>.bad
noncomputable def M8(x y:D):Out D:=match x.py,y.py with
 |some p,AA q=>if min p.depth q.depth<=60 then .ok (.bl (!EE p q)) else .bad
 |_,_=>.bad
section
variable{K:AC}{a b:CU}{ga gb ge:G}
theorem Mj:S8 K (yN K AD) Y9:=λv u x y F H d Q s r1 r2 hf k=>by
 unfold Y9 at hf;split at hf
 .rename_i p q e1 e2
  split at hf
  .rename_i hm
   cases hf;exact{p,q,r1.dv s _ e1,r2.dv s _ e2,hm,k _ F H (.refl s) (.bl _)}
  .cases hf
 .cases hf
theorem yB1:S8 K (yN K AL) M8:=λv u x y F H d Q s r1 r2 hf k=>by
 unfold M8 at hf;split at hf
 .rename_i p q e1 e2
  split at hf
  .rename_i hm
   cases hf;exact{p,q,r1.dv s _ e1,r2.dv s _ e2,hm,k _ F H (.refl s) (.bl _)}
  .cases hf
 .cases hf
theorem yEY(hu:X.A.units+64<GQ)(ha:VE X a ga)(hb:VE X b gb)(hm:DO .Eq b=AD:=by with_unfolding_all rfl):VT X (.Compare a [.Eq] [b] pos) (gB (g2 Y9 ga gb)):=fX (Lw hu) Mj ha hb hm
theorem fU(hu:X.A.units+64<GQ)(ha:VE X a ga)(hb:VE X b gb)(hm:DO .NotEq b=AD:=by with_unfolding_all rfl):VT X (.Compare a [.NotEq] [b] pos) (gB (g2 M8 ga gb)):=fX (yBM hu) yB1 ha hb hm
theorem Ee(hu:X.A.units+64<GQ)(ha:VE X a ga)(hb:VE X b gb)(hm:DO .Eq b=AD:=by with_unfolding_all rfl):VE X (.Compare a [.Eq] [b] pos) (g2 Y9 ga gb):=Uj (Lw hu) Mj ha hb hm
end
section
variable[DecidableEq κ]
noncomputable def M6(kvs:List (κ×D))(k:κ):Option D:=(kvs.find? λkv=>decide (kv.1=k)).map (·.2)
noncomputable def PB(kvs:List (κ×D))(k:κ)(v:D):List (κ×D) :=
 if(kvs.any λkv=>decide (kv.1=k))=AL then kvs.map (λkv=>if kv.1=k then(kv.1,v) else kv) else kvs++[(k,v)]
end
noncomputable def dU:D->Option Key
 |.int i=>AA (.inl i)
 |.str x=>AA (.inr x)
 |_=>AI
noncomputable def QR:List D->Option (List Int)
 |[]=>AA []
 |.int i::ds=>(QR ds).map (i::·)
 |_::_=>AI
theorem rS:∀{ds:List D} {ns:List Int},QR ds=AA ns->ds=ns.map D.int
 |[],_,h=>by rw[QR] at h;cases h;rfl
 |.int i::ds,_,h=>by
  rw[QR] at h;obtain⟨r,h1,h2⟩:=BQ.mp h;subst h2;rw[rS h1];rfl
 |.non::_,_,h=>by simp[QR] at h
 |.bl _::_,_,h=>by simp[QR] at h
 |.str _::_,_,h=>by simp[QR] at h
 |.tup _::_,_,h=>by simp[QR] at h
 |.lst _::_,_,h=>by simp[QR] at h
 |.dk _::_,_,h=>by simp[QR] at h
 |.dt _::_,_,h=>by simp[QR] at h
theorem Dg:∀ns:List Int,QR (ns.map D.int)=AA ns
 |[]=>rfl
 |n::ns=>by rw[AX,QR,Dg ns];rfl
theorem wZ:∀{a b:List Int},a.map (CJ:Int->Key)=b.map CJ->a=b
 |[],[],_=>rfl
 |[],_::_,h=>by simp at h
 |_::_,[],h=>by simp at h
 |x::a,y::b,h=>by
  rw[AX,AX] at h;injection h with h1 h2;injection h1 with h1;rw[h1,wZ h2]
section
variable{K:AC}
theorem RepK.length{vs:List (Key×V)}{ds:List (Key×D)}(r:RepK K F vs ds):vs.length=ds.length:=r.rec1 (R:=λvs ds=>vs.length=ds.length) rfl λ_ _ ih=>congrArg (·+1) ih
theorem RepT.length{vs:List (List Key×V)}{ds:List (List Int×D)}(r:RepT K F vs ds):vs.length=ds.length:=r.rec1 (T:=λvs ds=>vs.length=ds.length) rfl λ_ _ ih=>congrArg (·+1) ih
def OpR1(K:AC)(F:Hp):Option V->Option D->Prop
 |some v,AA d=>Rep K F v d
 |none,AI=>True
 |_,_=>False
theorem RepK.get(k:Key){vs:List (Key×V)}{ds:List (Key×D)}(r:RepK K F vs ds):OpR1 K F (P3 vs k) (M6 ds k):=by
 refine r.rec1 (R:=λvs ds=>OpR1 K F (P3 vs k) (M6 ds k)) trivial ?_
 .intro k' v d vs ds h _ ih
  by_cases e:k'=k
  .have e1:P3 ((k',v)::vs) k=AA v:=by simp[P3,e]
   have e2:M6 ((k',d)::ds) k=AA d:=by simp[M6,e]
   rw[e1,e2];exact h
  .have e1:P3 ((k',v)::vs) k=P3 vs k:=by simp[P3,e]
   have e2:M6 ((k',d)::ds) k=M6 ds k:=by simp[M6,e]
   rw[e1,e2];exact ih
theorem RepT.get(k:List Int){vs:List (List Key×V)}{ds:List (List Int×D)}(r:RepT K F vs ds):OpR1 K F (P3 vs (k.map CJ)) (M6 ds k):=by
 refine r.rec1 (T:=λvs ds=>OpR1 K F (P3 vs (k.map CJ)) (M6 ds k)) trivial ?_
 .intro k' v d vs ds h _ ih
  by_cases e:k'=k
  .have e1:P3 ((k'.map CJ,v)::vs) (k.map CJ)=AA v:=by simp[P3,e]
   have e2:M6 ((k',d)::ds) k=AA d:=by simp[M6,e]
   rw[e1,e2];exact h
  .have e':¬k'.map (CJ:Int->Key)=k.map CJ:=λz=>e (wZ z)
   have e1:P3 ((k'.map CJ,v)::vs) (k.map CJ)=P3 vs (k.map CJ):=by simp[P3,e']
   have e2:M6 ((k',d)::ds) k=M6 ds k:=by simp[M6,e]
   rw[e1,e2];exact ih
theorem OpR1.isSome{o:Option V}{p:Option D}(h:OpR1 K F o p):o.isSome=p.isSome:=by
 cases o<;>cases p<;>first|rfl|exact h.elim
theorem OpR1.some_of{o:Option V}{d:D}(h:OpR1 K F o (AA d)):∃v,o=AA v/\Rep K F v d:=by
 cases o with
 |none=>exact h.elim
 |some v=>exact{v,rfl,h}
theorem OpR1.none_of{o:Option V}(h:OpR1 K F o AI):o=AI:=by
 cases o with
 |none=>rfl
 |some v=>exact h.elim
def fT:D->D->Option (Option D)
 |.dk kvs,k=>(dU k).map (M6 kvs)
 |.dt kvs,.tup ks=>(QR ks).map (M6 kvs)
 |_,_=>AI
theorem pAI{u:V}{x y:D}{o:Option D}(s:Sub F H)(r1:Rep K F v x)(r2:Rep K F u y)(h:fT x y=AA o):∃a ov,v=.ref a/\fO H a u ov/\OpR1 K F ov o:=by
 cases x with
 |dk kvs =>
  obtain⟨k,h1,h2⟩:=BQ.mp (show(dU y).map (M6 kvs)=AA o from h);subst h2
  cases r1 with
  |dk hr r =>
   refine{_,_,rfl,.inl {_,k,s.rd hr,?_,rfl},r.get k};cases y<;>first|cases h1|skip
   .obtain rfl:=r2.vI;rfl
   .obtain rfl:=r2.vS;rfl
 |dt kvs =>
  cases y with
  |tup ks =>
   obtain⟨ns,h1,h2⟩:=BQ.mp (show(QR ks).map (M6 kvs)=AA o from h);subst h2;have:=rS h1;subst this
   cases r1 with
   |dt hr r =>
    generalize hk:ns.map D.int=kk at r2
    cases r2 with
    |tup hb rb =>
     subst hk;have:=rb.vint;subst this;refine{_,_,rfl,.inr {_,ns.map CJ,_,s.rd hr,rfl,?_,rfl},r.get ns};rw[D2];exact s _ _ hb
    |@tupK a xs hb nb =>
     cases xs with
     |nil=>exact absurd rfl nb
     |cons x xs =>
      cases ns with
      |nil=>cases hk
      |cons n ns=>cases hk
  |_=>cases h
 |_=>cases h
end
def U8(x y:D):Out D:=match y with
 |.lst ds=>match pAH ds,x.py with
  |some ps,AA p=>if p.depth<=60 then .ok (.bl (ps.any λd=>EE d p)) else .bad
  |_,_=>.bad
 |.tup ds=>match pAH ds,x.py with
  |some ps,AA p=>if p.depth<=60 then .ok (.bl (ps.any λd=>EE d p)) else .bad
  |_,_=>.bad
 |y=>match fT y x with
  |some o=>.ok (.bl o.isSome)
  |none=>.bad
def R7(x y:D):Out D:=(U8 x y).bind λd=>match d with|.bl b=>.ok (.bl (!b))|_=>.bad
section
variable{K:AC}{a b:CU}{ga gb ge:G}
def pI(bS:Bool):R2:=λx y H Q=>∃a o,y=.ref a/\fO H a x o/\Q (.bl (if bS then !o.isSome else o.isSome)) H
theorem Qn(hu:X.A.units+64<GQ):OpR X (EQ .In) (pI AD):=λAE s σ H x y v u Q I rx ry h=>by
 obtain⟨a,o,rfl,g,q⟩:=h;cases ry;exact yG9 'l' I g rx λs3 I3=>{.bl _,H,I3,rfl,q}
theorem zK5(hu:X.A.units+64<GQ):OpR X (EQ .NotIn) (pI AL):=λAE s σ H x y v u Q I rx ry h=>by
 obtain⟨a,o,rfl,g,q⟩:=h;cases ry;exact zXA 'l' I g rx λs3 I3=>{.bl _,H,I3,rfl,q}
theorem Nr(bS:Bool){f:D->D->Out D}(hf:∀x y d,f x y=.ok d->∃b,U8 x y=.ok (.bl b)/\d=.bl (if bS then !b else b)):S8 K (λx y H Q=>pM K bS x y H Q\/pI bS x y H Q) f:=λv u x y F H d Q s r1 r2 h k=>by
 obtain⟨b,hi,rfl⟩:=hf x y d h
 have Wa:∀ds p (sq:SqL K H p ds\/SqT K H p ds) (xs:List D),Reps K F ds xs->u=.ref p->(match pAH xs,x.py with
   |some ps,AA p=>if p.depth<=60 then Out.ok (D.bl (ps.any λd=>EE d p)) else .bad
   |_,_=>.bad)=.ok (.bl b)->pM K bS v u H Q:=λds p sq xs rr eu hh=>by
  split at hh
  .rename_i ps q e1 e2
   split at hh
   .rename_i hd
    cases hh;exact{p,ds,ps,q,eu,sq,rr.dv s _ e1,r1.dv s _ e2,hd,k _ F H (.refl s) (.bl _)}
   .cases hh
  .cases hh
 have Kl:(match fT y x with|some o=>Out.ok (D.bl o.isSome)|none=>.bad)=.ok (.bl b)->pI bS v u H Q:=λhh=>by
  split at hh
  .rename_i o eo
   cases hh;obtain⟨a,ov,rfl,g,ro⟩:=pAI s r2 r1 eo;refine{a,ov,rfl,g,?_};rw[ro.isSome];exact k _ F H (.refl s) (.bl _)
  .cases hh
 cases y with
 |lst ds =>
  obtain⟨p,vs,rfl,hr,rr⟩:=r2.isRefL;exact .inl (Wa vs p (.inl (hr.imp s.rd id)) ds rr rfl hi)
 |tup ds =>
  obtain⟨p,vs,rfl,rr,sq⟩:=r2.tupSq;exact .inl (Wa vs p (.inr (sq F H (.refl _) s)) ds rr rfl hi)
 |_=>exact .inr (Kl hi)
theorem Mi{x y d:D}(h:U8 x y=.ok d):∃b,d=.bl b:=by
 unfold U8 at h;split at h
 .split at h
  .split at h
   .cases h;exact{_,rfl}
   .cases h
  .cases h
 .split at h
  .split at h
   .cases h;exact{_,rfl}
   .cases h
  .cases h
 .split at h
  .cases h;exact{_,rfl}
  .cases h
theorem Mh:S8 K (λx y H Q=>pM K AD x y H Q\/pI AD x y H Q) U8:=Nr AD λx y d h=>by
 obtain⟨b,rfl⟩:=Mi h;exact{b,h,rfl}
theorem zQ7:S8 K (λx y H Q=>pM K AL x y H Q\/pI AL x y H Q) R7:=Nr AL λx y d h=>by
 obtain⟨d',h1,h2⟩:=pA3 h;obtain⟨b,rfl⟩:=Mi h1;cases h2;exact{b,h1,rfl}
theorem yE0(hu:X.A.units+64<GQ)(ha:VE X a ga)(hb:VE X b gb)(hm:DO .In b=AD:=by with_unfolding_all rfl):VT X (.Compare a [.In] [b] pos) (gB (g2 U8 ga gb)):=fX ((Mn hu).or (Qn hu)) Mh ha hb hm
theorem yHH(hu:X.A.units+64<GQ)(ha:VE X a ga)(hb:VE X b gb)(hm:DO .In b=AD:=by with_unfolding_all rfl):VE X (.Compare a [.In] [b] pos) (g2 U8 ga gb):=Uj ((Mn hu).or (Qn hu)) Mh ha hb hm
theorem rQ(hu:X.A.units+64<GQ)(ha:VE X a ga)(hb:VE X b gb)(hm:DO .NotIn b=AD:=by with_unfolding_all rfl):VT X (.Compare a [.NotIn] [b] pos) (gB (g2 R7 ga gb)):=fX ((zQJ hu).or (zK5 hu)) zQ7 ha hb hm
noncomputable def dN(x y:D):Out D:=match y with
 |.non=>match x with
  |.non=>.ok (.bl AL)
  |_=>.ok (.bl AD)
 |_=>.bad
noncomputable def qL(x y:D):Out D:=match y with
 |.non=>match x with
  |.non=>.ok (.bl AD)
  |_=>.ok (.bl AL)
 |_=>.bad
theorem Rep.nonV{x:D}(r:Rep K F v x):v=.non↔x=.non:=by
 constructor
 .intro e;subst e;cases r;rfl
 .intro e;subst e;cases r;rfl
theorem yB2{x y d:D}(h:dN x y=.ok d):y=.non/\d=.bl (open Classical in decide (x=.non)):=by
 cases y with
 |non=>cases x<;>(injection h with h;exact{rfl,by rw[<-h];simp})
 |_=>cases h
theorem zXW{x y d:D}(h:qL x y=.ok d):y=.non/\d=.bl (!(open Classical in decide (x=.non))):=by
 cases y with
 |non=>cases x<;>(injection h with h;exact{rfl,by rw[<-h];simp})
 |_=>cases h
theorem zXX:S8 K (λx y H Q=>y=.non/\Q (.bl (decide (x=.non))) H) dN:=λv u x y F H d Q s r1 r2 hf k=>by
 have h:=yB2 hf;refine{r2.nonV.mpr h.1,k _ F H (.refl s) ?_};rw[h.2,decide_eq_decide.mpr r1.nonV];exact .bl _
theorem zT1:S8 K (λx y H Q=>y=.non/\Q (.bl (!decide (x=.non))) H) qL:=λv u x y F H d Q s r1 r2 hf k=>by
 have h:=zXW hf;refine{r2.nonV.mpr h.1,k _ F H (.refl s) ?_};rw[h.2,decide_eq_decide.mpr r1.nonV];exact .bl _
theorem Bi(ha:VE X a ga)(hb:VE X b gb)(hm:DO .Is b=AD:=by with_unfolding_all rfl):VT X (.Compare a [.Is] [b] pos) (gB (g2 dN ga gb)):=fX yAZ zXX ha hb hm
theorem zXY(ha:VE X a ga)(hb:VE X b gb)(hm:DO .IsNot b=AD:=by with_unfolding_all rfl):VT X (.Compare a [.IsNot] [b] pos) (gB (g2 qL ga gb)):=fX zWZ zT1 ha hb hm
def Z5(x y:D):Out D:=match x,y with
 |.int i,.int j=>.ok (.bl (decide (i<j)))
 |.tup xs,.tup ys=>match QR xs,QR ys with
  |some ns,AA ms=>.ok (.bl (HT.lexLt ns ms))
  |_,_=>.bad
 |_,_=>.bad
theorem Rep.intsT{ds:List D}(s:Sub F H)(r:Rep K F v (.tup ds))(h:QR ds=AA ns):∃a,v=.ref a/\SqT K H a (ns.map V.int):=by
 have:=rS h;subst this;obtain⟨a,vs,rfl,rr,sq⟩:=r.tupSq;have:=rr.vint;subst this;exact{a,rfl,sq F H (.refl _) s}
theorem yB3:S8 K (λx y H Q=>bJ (λi j=>.bl (decide (i<j))) x y H Q\/Tl K x y H Q) Z5:=λv u x y F H d Q s r1 r2 hf k=>by
 unfold Z5 at hf;split at hf
 .cases hf;obtain rfl:=r1.vI;obtain rfl:=r2.vI
  exact .inl {_,_,rfl,rfl,k _ F H (.refl s) (.bl _)}
 .split at hf
  .rename_i e1 e2
   cases hf;obtain⟨a,rfl,h1⟩:=r1.intsT s e1;obtain⟨b,rfl,h2⟩:=r2.intsT s e2;exact .inr {a,b,_,_,rfl,rfl,h1,h2,k _ F H (.refl s) (.bl _)}
  .cases hf
 .cases hf
noncomputable def yJ(p:Int->Int->Bool)(x y:D):Out D:=match x,y with
 |.int i,.int j=>.ok (.bl (p i j))
 |_,_=>.bad
theorem Na(p:Int->Int->Bool):S8 K (bJ λi j=>.bl (p i j)) (yJ p):=λv u x y F H d Q s r1 r2 hf k=>by
 unfold yJ at hf;split at hf
 .cases hf;obtain rfl:=r1.vI;obtain rfl:=r2.vI
  exact{_,_,rfl,rfl,k _ F H (.refl s) (.bl _)}
 .cases hf
abbrev Ez:=yJ λi j=>decide (j<i)
abbrev Fc:=yJ λi j=>decide (j<=i)
theorem Al(hu:X.A.units+64<GQ)(ha:VE X a ga)(hb:VE X b gb)(hm:DO .Lt b=AD:=by with_unfolding_all rfl):VT X (.Compare a [.Lt] [b] pos) (gB (g2 Z5 ga gb)):=fX (sF.or (yA5 (AS (A2 _ _) hu))) yB3 ha hb hm
theorem yE1(ha:VE X a ga)(hb:VE X b gb)(hm:DO .Gt b=AD:=by with_unfolding_all rfl):VT X (.Compare a [.Gt] [b] pos) (gB (g2 Ez ga gb)):=fX yEC (Na _) ha hb hm
theorem yE2(ha:VE X a ga)(hb:VE X b gb)(hm:DO .GtE b=AD:=by with_unfolding_all rfl):VT X (.Compare a [.GtE] [b] pos) (gB (g2 Fc ga gb)):=fX yED (Na _) ha hb hm
end
theorem wY{t:AQ}(x:h.IsListIter it t i)(k:∀o,h.get? it=AA o->h'.get? it=AA o):h'.IsListIter it t i:=let ⟨o,e,r⟩:=x;{o,k o e,r}
theorem wX{t:AQ}(k:h.IsListIter t l i)(hs:DG a h h')(ne:t≠a):h'.IsListIter t l i:=wY k λo e=>hs.extBut _ _ ne e
theorem pAJ(I:Inv X AE σ H s)(hf:∀b∈fp,FpOk X AE H b)(h:SqL X.K H a xs):a∉fp:=λz=>by
 obtain⟨f0,f1,f2,f3,f4,f5⟩:=hf a z;rcases h with h|⟨o,CA,n,hk,_⟩
 .rcases h with h|⟨o,h⟩
  .rw[f0] at h;cases h
  .rw[f0] at h;cases h
 .have hb:=I.ok.mod.kin a o hk
  rcases f3 with f3|f3
  .exact I.ok.noex a o hb f3
  .exact absurd (AN (A8 hb) I.ok.bsz) (U0.mpr f3)
structure EnStL(h:DZ)(n l:AQ)(i:Nat):Prop where
 eo:∃f0 f1 HV,dO h n f0 f1 i HV/\F0 f0
 k1:h.IsListIter n l i
theorem EnStL.keep{n:AQ}(z:EnStL h n l i)(k:∀b∈[n,n+1],∀o,h.get? b=AA o->h'.get? b=AA o):EnStL h' n l i:=by
 obtain⟨f0,f1,HV,e,r⟩:=z.eo;exact{{f0,f1,HV,k _ 's' _ e,r},wY z.k1 (k _ 's')}
theorem zT2{n:AQ}{xs:Array AH}{x:AH}{Q:Option AH->AT->Prop}(z:EnStL s.heap n l i)(o1:l≠n)(o2:l≠n+1)(hl:s.heap.IsList l xs)(hx:xs[i]?=AA x)
  (hQ:∀h' t,EnStL h' n l (i+1)->KB h' s.heap.objs.size (.int i t) x->h'.objs.size=s.heap.objs.size+1->(∀b o,b≠n->b≠n+1->s.heap.get? b=AA o->h'.get? b=AA o)->Q (AA (.ref s.heap.objs.size)) { s with heap:=h',toks:=s.toks+1 }) :
  AZ (A3 prog w) A (JV (.ref (n+1))) Q E s:=by
 obtain⟨f0,f1,HV,he,hf⟩:=z.eo;have k1:=z.k1;have hT:s.TypeIs (.ref (n+1)) "enumerate":={_,he,rfl};have ZH:n≠n+1:=eA 'd';unfold JV;refine AB (GH (C5 (name:=EN "__next__") hT F7 (DD F7 hT QO ?_ (P9 _))));show AZ _ _ (QZ (.ref (n+1)) 2 >>= _) _ _ _;refine AB (C8 he rfl (x:=.ref n) rfl ?_);refine AB (wpAny_nextOf_list_item k1 hl hx λJC Ho EY=>?_);have nU:dO JC n f0 f1 i HV:=EY.extBut _ _ ZH.symm he;show AZ _ _ (QZ (.ref (n+1)) 3 >>= _) _ _ _;refine AB (C8 nU rfl (x:=ES i) rfl ?_);show AZ _ _ (QZ (.ref (n+1)) 4 >>= _) _ _ _;refine AB (C8 nU rfl (x:=.none) rfl ?_);show AZ _ _ (mkInt i >>= _) _ _ _;refine AB (iA ?_);show AZ _ _ (NT (.ref (n+1)) 3 (ES ((i:Int)+1)) >>= _) _ _ _;refine AB (CS nU 's' λLQ nS ON=>?_);replace nS:dO LQ n f0 f1 ((i:Int)+1) HV:=nS;replace ON:DG (n+1) JC LQ:=ON;show AZ _ _ (NT (.ref (n+1)) 4 .none >>= _) _ _ _;refine AB (CS nS 's' λN6 nR UK=>?_);replace nR:dO N6 n f0 f1 ((i:Int)+1) HV:=nR;replace UK:DG (n+1) LQ N6:=UK;refine AB (MG (items:=[.int i s.toks,x]) ?_);have hsz:N6.objs.size=s.heap.objs.size:=by rw[UK.1,ON.1,EY.1]
 have vO:dO (N6.push { cls:=.type "tuple",data:=.seq #[.int i s.toks,x] }) n f0 f1 ((i:Int)+1) HV:=AF _ nR;have tN:KB (N6.push { cls:=.type "tuple",data:=.seq #[.int i s.toks,x] }) s.heap.objs.size (.int i s.toks) x:=by rw[<-hsz];exact AV _ rfl
 have l0:(N6.push { cls:=.type "tuple",data:=.seq #[.int i s.toks,x] }).objs.size=s.heap.objs.size+1:=by rw[FQ,hsz]
 have tL:∀b o,b≠n->b≠n+1->s.heap.get? b=AA o->(N6.push { cls:=.type "tuple",data:=.seq #[.int i s.toks,x] }).get? b=AA o:=λb o b1 b2 e=>AF _ (UK.extBut b o b2 (ON.extBut b o b2 (EY.extBut b o b1 e)));have uB:(N6.push { cls:=.type "tuple",data:=.seq #[.int i s.toks,x] }).IsListIter n l (i+1):=wY (wX (wX Ho ON ZH) UK ZH) λo e=>AF _ e;show AZ _ _ (CW (.ref (n+1)) >>= _) _ _ { s with heap:=N6.push { cls:=.type "tuple",data:=.seq #[.int i s.toks,x] },toks:=s.toks+1 };have NR:n+1<s.heap.objs.size:=A8 he;rw[show(DI N6.objs.size)=DI s.heap.objs.size by rw[hsz]];generalize N6.push { cls:=.type "tuple",data:=.seq #[.int i s.toks,x] }=M9 at vO tN l0 tL uB ⊢;refine AB (zQM (s:={ s with heap:=M9,toks:=s.toks+1 }) vO hf λb KM g1 nQ XA=>?_);replace XA:DG (n+1) M9 KM:=XA;have uA:=wX uB XA ZH;have tM:KB KM s.heap.objs.size (.int i s.toks) x:=XA.extBut _ _ (FM NR) tN;have tJ:∀b o,b≠n->b≠n+1->s.heap.get? b=AA o->KM.get? b=AA o:=λb o b1 b2 e=>XA.extBut b o b2 (tL b o b1 b2 e)
 cases b with
 |false =>
  simp only[D3,if_false];exact wpAny_pure {_,rfl,wpAny_pure (hQ KM _ {{_,_,_,nQ,hf},uA} tM (XA.1.trans l0) tJ)}
 |true =>
  simp only[if_true];refine AB (E8 ?_);refine AB (C8 nQ rfl (x:=HV) rfl ?_);refine AB (CS nQ 's' λmI nP gR=>?_);replace nP:dO mI n f0 g1 ((i:Int)+1) x:=nP;replace gR:DG (n+1) KM mI:=gR;refine AB ?_;unfold HE;refine AB (CS nP 's' λbX nO gQ=>?_);replace nO:dO bX n (ES s.heap.objs.size) g1 ((i:Int)+1) x:=nO;replace gQ:DG (n+1) mI bX:=gQ;refine CS nO 's' λRG nN gP=>?_;replace nN:dO RG n (ES s.heap.objs.size) AD ((i:Int)+1) x:=nN;replace gP:DG (n+1) bX RG:=gP;have up:∀b o,b≠n+1->KM.get? b=AA o->RG.get? b=AA o:=λb o hb e=>gP.extBut b o hb (gQ.extBut b o hb (gR.extBut b o hb e));exact AB (PV (wpAny_pure {_,rfl,wpAny_pure (hQ RG _ {{_,_,_,nN,.inr {_,rfl}},wY uA λo e=>up _ o ZH e} (up _ _ (FM NR) tM) (gP.1.trans (gQ.1.trans (gR.1.trans (XA.1.trans l0)))) λb o b1 b2 e=>up b o b2 (tJ b o b1 b2 e))}))
theorem zX0{n:AQ}{xs:Array AH}{Q:Option AH->AT->Prop}(hh:A.handled=AI)(z:EnStL s.heap n l i)(hl:s.heap.IsList l xs)(hx:xs[i]?=AI)
  (hQ:∀h',(∀b o,b≠n->s.heap.get? b=AA o->h'.get? b=AA o)->Q AI { s with heap:=h' }):AZ (A3 prog w) A (JV (.ref (n+1))) Q E s:=by
 obtain⟨f0,f1,HV,he,hf⟩:=z.eo;have hT:s.TypeIs (.ref (n+1)) "enumerate":={_,he,rfl};unfold JV;refine AB (GH (C5 (name:=EN "__next__") hT F7 (DD F7 hT QO ?_ (P9 _))));show AZ _ _ (QZ (.ref (n+1)) 2 >>= _) _ _ _;refine AB (C8 he rfl (x:=.ref n) rfl ?_);refine AB (wpAny_nextOf_list_end hh z.k1 hl hx λh' e hs he'=>?_);obtain⟨o,ho,hc⟩:=he';exact AB (UU (T:="StopIteration") (b:=AL) {o,ho,hc} XU (wpAny_pure (hQ _ hs)))
theorem yB4{n:AQ}{Q:Unit → AT → Prop}(z : EnStL s.heap n l i)(h : ∀ h', EnStL h' n l i → DG (n + 1) s.heap h' → Q () { s with heap := h' }) :
    AZ (A3 prog w) A (FJ tg (.ref (n + 1)) u) Q E s := by
  have hz := h s.heap z (jF _ _);obtain ⟨f0, f1, HV, e, hf⟩ := id z.eo;unfold FJ
  cases tg <;> first
    | exact wpAny_pure hz
    | (cases u <;> first
        | exact wpAny_pure hz
        | (
          refine AB (wpAny_load e ?_);dsimp only;split
          · refine AB (E8 ?_)
            show AZ _ _ (NT (.ref (n + 1)) 0 .none) Q E s;exact CS e 's' fun h' eN RI => h h' {{.none, f1, HV, eN, .inl rfl}, wX z.k1 RI (eA 'd')} RI
          · exact wpAny_pure hz))
theorem Pi{n:AQ}(z:EnStL s.heap n l i)(h:Q (.ref (n+1)) s):AZ (A3 prog w) A (N7 (.ref (n+1))) Q E s:=by
 obtain⟨f0,f1,HV,e,hf⟩:=z.eo;have hT:s.TypeIs (.ref (n+1)) "enumerate":={_,e,rfl};refine SG hT Q1 (DD Q1 hT PySem.F.entry_enumerate_iter ?_ (PySem.F.args_enumerate_iter_1 _));show AZ _ _ (ret (.ref (n+1))) _ _ s;exact wpAny_pure {_,rfl,"enumerate",_,hT,F7.lookup,h}
noncomputable abbrev yX(h:DZ)(l:AQ):DZ:=h.push { cls:=.type "list_iterator",data:=.fields #[.ref l,.int 0 0] }
abbrev Fg(h:DZ)(l:AQ):DZ:=(yX h l).push { cls:=.type "enumerate",data:=.fields #[.none,.bool AD,.ref h.objs.size,ES 0,.none,.none] }
theorem zOY(l:AQ)(xs:Array AH) :
  Meets (E4.«enumerate.__new__» {[.type "enumerate",.ref l],[]}) (λ_ R s=>s.heap.IsList l xs/\R (.ok (.ret (.ref (yX s.heap l).objs.size))) { s with heap:=Fg s.heap l }) :=
 .of_wp λprog w A R s h=>by
  obtain⟨hp,g,d,tk,os⟩:=s;obtain⟨hl,h⟩:=h;have Ig:=sub_enumerate;have hL:Heap.IsList (WV {hp,g,d,tk,os}) l xs:=hl
  wp_walk
  refine wpAny_stack_any λst=>wpAny_pure ?_;split
  .rename_i c _ _ _ _ _
   cases(c==SM "enumerate")
   .wp_walk using KA hL
    exact{_,rfl,h}
   .wp_walk using KA hL
    exact{_,rfl,h}
  .wp_walk using KA hL
   exact{_,rfl,h}
theorem zRB{xs:Array AH}(hl:s.heap.IsList l xs)
  (h:∀h',EnStL h' s.heap.objs.size l 0->(∀b o,s.heap.get? b=AA o->h'.get? b=AA o)->Q (.ref (s.heap.objs.size+1)) { s with heap:=h' }) :
  AZ (A3 prog w) A (call (.type "enumerate") [.ref l]) Q E s:=by
 refine callType_new PySem.F.called_enumerate 'd' (PySem.F.typeCall_enumerate_1 _) (PySem.F.newCall_enumerate_1 _) (λobj=>PySem.F.args_object_init_2 obj _) PySem.F.entry_enumerate_new (zOY l xs) {hl,?_};have z1:(yX s.heap l).objs.size=s.heap.objs.size+1:=FQ ..;have g2:(Fg s.heap l).get? (yX s.heap l).objs.size=AA _:=AV _ rfl;have g1:(Fg s.heap l).get? s.heap.objs.size=AA _:=AF _ (AV _ rfl);show _/\_;rw[z1] at g2;rw[z1];exact{{_,g2,rfl},h _ {{.none,AD,.none,g2,.inl rfl},{_,g1,rfl,rfl}} λb o e=>AF _ (AF _ e)}
def Sr(K:AC)(a:AQ):It :=
 {λi H=>∃xs x,SqL K H a xs/\xs[i]?=AA x,λi H v H'=>∃p x,v=.ref p/\H p=AI/\H'=DU H p (.tup [.int i,x])/\∀xs,SqL K H a xs->xs[i]?=AA x,λi H=>∃xs,SqL K H a xs/\xs.length<=i}
theorem zOZ{K:AC}(a n:AQ):Turn P w K tg (Sr K a) [n,n+1] (n+1) (λi h=>EnStL h n a i) where
 mem:=by simp
 obj:=λi h st c hc=>by
  obtain⟨f0,f1,HV,e,_⟩:=st.eo;obtain⟨o0,e0,_,d0⟩:=st.k1;simp only[BD,CZ,or_false] at hc;rcases hc with rfl|rfl
  .exact{_,e0,λv z=>by rw[d0] at z;cases z}
  .exact{_,e,λv z=>by have z':RT _=Q4 v:=z;cases z'}
 keep:=λi h h' st k=>st.keep k
 item:=by
  intro X hP hw hK hc i AE s σ H E I hf st hg;subst hP hw hK;obtain⟨xs,x,hq,hx⟩:=hg;obtain⟨CA,rv,p,hz⟩:=I.list hq;obtain⟨u,hu,ru⟩:=rv.get hx;have Gx:=pAJ I hf hq;simp only[BD,CZ,or_false,not_or] at Gx;refine zT2 st Gx.1 Gx.2 (show s.heap.IsList a CA.toArray from p.isList) (x:=u) (by simpa using hu) λh' t CM hp hsz hk=>?_;refine{_,rfl,yB4 (s:={ s with heap:=h',toks:=s.toks+1 }) CM λh2 st2 MR=>?_};obtain⟨f0,f1,HV,e4,_⟩:=id st.eo;have JI:∀c∈[n,n+1],c<s.heap.objs.size:=λc hc=>lt2 hc (A8 e4)
  have I1:Inv X AE σ (DU H s.heap.objs.size (.tup [.int i,x])) { s with heap:=s.heap.push { cls:=.type "tuple",data:=.seq #[.int i t,u] } } :=
   I.laid (t':=s.toks) (λb u e=>AF _ e) (AM _) {by show 2<=sizeLine;decide,[.int i t,u],.cons {t,rfl} (.cons ru .nil),{_,AV _ rfl,rfl,rfl,0,rfl}}
  have vA:∀c∈[n,n+1],FpOk X AE (DU H s.heap.objs.size (.tup [.int i,x])) c:=λc hc=>{by rw[EL (B0 (JI c hc))];exact(hf c hc).1,(hf c hc).2}
  have I2:Inv X AE σ (DU H s.heap.objs.size (.tup [.int i,x])) { s with heap:=h2,toks:=s.toks+1 }:=I1.turnedL (t':=s.toks+1) vA λc o hc e=>by
   simp only[BD,CZ,or_false,not_or] at hc;refine MR.extBut _ _ hc.2 ?_
   by_cases XN:c=s.heap.objs.size
   .subst XN
    rw[AV _ rfl] at e;cases e;exact hp
   .have e':s.heap.get? c=AA o:=by
     rw[LY _ _ _ XN] at e;exact e
    exact hk c o hc.1 hc.2 e'
  exact{.ref s.heap.objs.size,_,I2,rfl,{_,x,rfl,I.fresh,rfl,λzs hz=>by rw[I.list_inj hz hq];exact hx},st2,λc hc=>(vA c hc).1}
 done:=by
  intro X hP hw hK hc i AE s σ H E I hf st hg;subst hP hw hK;obtain⟨xs,hq,hx⟩:=hg;obtain⟨CA,rv,p,hz⟩:=I.list hq;have hl:=rv.length;refine zX0 (I.ok.hd hc) st (show s.heap.IsList a CA.toArray from p.isList) (by simp;lia) λh' hk=>{rfl,I.turnedL (t':=s.toks) hf λc o hc e=>?_};simp only[BD,CZ,or_false,not_or] at hc;exact hk c o hc.1 e
 self:=λ_ _ _ _ _ st h=>Pi st h
def yB5(K:AC)(ta:TA):TI:=λσ H R=>ta σ H λvs H1=>∃a,vs=[.ref a]/\(∃xs,SqL K H1 a xs)/\R (Sr K a) H1
theorem zT3{a:CU}{ta:TA}(hg:Gl X "enumerate")(hm:X.mg "enumerate"=AI)(ha:PA X [a] ta)(hs:AO [a] X.env=[(AD,eval a X.env)]:=by rfl):PI X tg (.Call (.Name "enumerate" p) [a] [] pos) (yB5 X.K ta):=by
 intro AE s σ H R I h;refine Call_ (jC I hg hm (u:=.type "enumerate") (by decide +kernel) (FN (GN (ha pos AE s σ H _ I h) λus s1 ⟨vs,H1,I1,r1,q1⟩=>?_) hs rfl));obtain⟨c,e,⟨xs,WT⟩,q⟩:=q1;subst e
 cases r1 with
 |cons r rr =>
  cases rr
  (first|obtain rfl:=r.vI|obtain rfl:=r.vB|obtain rfl:=r.vS|obtain rfl:=r.vN|cases r)
  obtain⟨XD,tB,p1,jW⟩:=I1.list WT;refine zRB (show s1.heap.IsList c XD.toArray from p1.isList) λh' st k=>?_;refine Pi (s:={ s1 with heap:=h' }) st ?_;exact{s1.heap.objs.size+1,[s1.heap.objs.size,s1.heap.objs.size+1],_,_,H1,rfl,I1.kept (t':=s1.toks) k,zOZ c _,st,λb hb=>I1.fpOk (Vd hb) (I1.hok.fresh (Vd hb)),q}
section
variable{K:AC}{a b:CU}{ga gb gc ge:G}{gs:List G}{id T:String}
def Uq(K:AC):R2:=λx y H Q=>∃l b xs zs,x=.ref l/\y=.ref b/\SqL K H l xs/\SqL K H b zs/\xs.length+zs.length<=sizeLine/\∀p,H p=AI->Q (.ref p) (DU H p (.lst (xs++zs)))
theorem gH:OpR X (G8 .Add) (Uq X.K):=by
 intro AE s σ H x y v u Q I rx ry h;obtain⟨l,b,xs,zs,rfl,rfl,hH,hB,hz,q⟩:=h;cases rx;cases ry;obtain⟨CA,r,pl,z⟩:=I.list hH;obtain⟨LP,r2,pl2,z2⟩:=I.list hB;obtain⟨⟨oc,od,oda,ZC⟩,n,e,e1,e2,e3⟩:=pl;obtain⟨⟨Wk,Wj,oda',Gq⟩,n',e',Kk,Kj,Xy⟩:=pl2;dsimp only at e1 e2 e3 Kk Kj Xy;subst e1 e2 e3 Kk Kj Xy;have hl:=r.length;have aF:=r2.length;refine SL {_,e,rfl} {_,e',rfl} noFill_list_add seq_list_add F.slot_list_add F.entry_list_add (F.args_list_add_2 _ _) (list_addW l b CA.toArray LP.toArray n n' AI AI ZC Gq (by rw[A0,A0];lia)) {e,e',?_};have ea:CA.toArray++LP.toArray=(CA++LP).toArray:=by simp
 rw[ea];exact{.ref _,_,I.lnew (t':=s.toks) (r.append r2) (by rw[BH];lia),rfl,q _ I.fresh}
def Up(K:AC):R2:=λx y H Q=>∃a b xs ys,x=.ref a/\y=.ref b/\SqT K H a xs/\SqT K H b ys/\xs.length+ys.length<=sizeLine/\(xs=[]->Q (.ref b) H)/\(ys=[]->Q (.ref a) H)/\∀p,H p=AI->Q (.ref p) (DU H p (.tup (xs++ys)))
theorem gG:OpR X (G8 .Add) (Up X.K):=by
 intro AE s σ H x y v u Q I rx ry h;obtain⟨a,b,xs,ys,rfl,rfl,ha,hb,hz,q1,q2,q3⟩:=h;cases rx;cases ry;obtain⟨CA,r1,p1,_⟩:=I.tuple ha;obtain⟨LP,r2,p2,_⟩:=I.tuple hb;refine zXM p1 p2 (λz=>{.ref b,H,I,rfl,q1 (r1.nil_iff.mp z)}) (λ_ z=>{.ref a,H,I,rfl,q2 (r2.nil_iff.mp z)}) (λ_ z=>?_) (by rw[<-r1.length,<-r2.length];exact hz);exact{.ref s.heap.objs.size,_,I.laid (t':=s.toks) (o:=.tup (xs++ys)) (λb ob q=>AF _ q) (AM _) {by rw[BH];exact hz,_,r1.append r2,IsTupP.new _ _},rfl,q3 _ I.fresh}
theorem bO(h:n<10000):n<=sizeLine:=CN (bE h)
def MW(x y:D):Out D:=match x,y with
 |.int i,.int j=>.ok (.int (i+j))
 |.lst xs,.lst ys=>few (xs.length+ys.length) (.ok (.lst (xs++ys)))
 |.tup xs,.tup ys=>few (xs.length+ys.length) (.ok (.tup (xs++ys)))
 |.str s,.str t=>few (s.length+t.length) (.ok (.str (s++t)))
 |_,_=>.bad
abbrev Uo(K:AC):R2:=λx y H Q=>bJ (λi j=>.int (i+j)) x y H Q\/Uq K x y H Q\/Up K x y H Q\/(∃i j,x=.str i/\y=.str j/\i.length+j.length<=sizeLine/\Q (.str (i++j)) H)
theorem zX1:OpR X (G8 .Add) (Uo X.K):=lX.or (gH.or (gG.or zOO))
theorem zX2:S8 K (Uo K) MW:=λv u x y F H d Q s r1 r2 hf k=>by
 unfold MW at hf;split at hf
 .cases hf;obtain rfl:=r1.vI;obtain rfl:=r2.vI
  exact .inl {_,_,rfl,rfl,k _ F H (.refl s) (.int _)}
 .obtain⟨hl,hf⟩:=W4 hf
  cases hf;obtain⟨a,vs,rfl,h1,h2⟩:=r1.isRefL;obtain⟨b,ws,rfl,h3,h4⟩:=r2.isRefL;refine .inr (.inl {a,b,vs,ws,rfl,rfl,h1.imp s.rd id,h3.imp s.rd id,by rw[h2.length,h4.length];exact bO hl,λq hq=>?_});have n:=New.laid (o:=.lst (vs++ws)) s hq;exact k _ _ _ n (.lst (.inl (.inl G3)) ((h2.append h4).le n.1.le))
 .obtain⟨hl,hf⟩:=W4 hf
  cases hf;obtain⟨a,vs,rfl,h2,h1⟩:=r1.tupSq;obtain⟨b,ws,rfl,h4,h3⟩:=r2.tupSq;refine .inr (.inr (.inl {a,b,vs,ws,rfl,rfl,h1 F H (.refl _) s,h3 F H (.refl _) s,by rw[h2.length,h4.length];exact bO hl,λz=>?_,λz=>?_,λq hq=>?_}))
  .have:=h2.nil_iff.mp z
   subst this;exact k _ F H (.refl s) r2
  .have:=h4.nil_iff.mp z
   subst this;rw[DC] at k;exact k _ F H (.refl s) r1
  .have n:=New.laid (o:=.tup (vs++ws)) s hq
   exact k _ _ _ n (.tup G3 ((h2.append h4).le n.1.le))
 .obtain⟨hl,hf⟩:=W4 hf
  cases hf;obtain rfl:=r1.vS;obtain rfl:=r2.vS;exact .inr (.inr (.inr {_,_,rfl,rfl,bO hl,k _ F H (.refl s) (.str _)}))
 .cases hf
theorem Y4(ha:VE X a ga)(hb:VE X b gb):VE X (.BinOp a .Add b pos) (g2 MW ga gb):=pJ zX1 zX2 ha hb
noncomputable def iQ(x y:D):Out D:=match x,y with
 |.int i,.int j=>.ok (.int (i-j))
 |_,_=>.bad
theorem zX3:S8 K (bJ λi j=>.int (i-j)) iQ:=λv u x y F H d Q s r1 r2 hf k=>by
 unfold iQ at hf;split at hf
 .cases hf;obtain rfl:=r1.vI;obtain rfl:=r2.vI
  exact{_,_,rfl,rfl,k _ F H (.refl s) (.int _)}
 .cases hf
theorem Ap(ha:VE X a ga)(hb:VE X b gb):VE X (.BinOp a .Sub b pos) (g2 iQ ga gb):=pJ yAU zX3 ha hb
def guard(c:Prop)[Decidable c](y:Out α):Out α:=if c then y else .bad
theorem eD{c:Prop}[Decidable c]{y:Out α}{z:α}(h:guard c y=.ok z):c/\y=.ok z:=by
 unfold guard at h;split at h
 .exact{by assumption,h}
 .cases h
def oT(i:Int):Prop:=-(2 ^ 64)<i/\i<2 ^ 64
instance (i:Int):Decidable (oT i):=inferInstanceAs (Decidable (_/\_))
def W0(x y:D):Out D:=match x,y with
 |.int i,.int j=>guard (oT i\/oT j) (.ok (.int (i * j)))
 |_,_=>.bad
theorem zX5:S8 K (rI CMul λi j=>.int (i * j)) W0:=λv u x y F H d Q s r1 r2 hf k=>by
 unfold W0 at hf;split at hf
 .obtain⟨hc,hf⟩:=eD hf
  cases hf;obtain rfl:=r1.vI;obtain rfl:=r2.vI;exact{_,_,rfl,rfl,hc,k _ F H (.refl s) (.int _)}
 .cases hf
theorem wC(ha:VE X a ga)(hb:VE X b gb):VE X (.BinOp a .Mult b pos) (g2 W0 ga gb):=pJ yAV zX5 ha hb
def lD(x y:D):Out D:=match x,y with
 |.int i,.int j=>guard (0<j/\j<2 ^ 200) (.ok (.int (i / j)))
 |_,_=>.bad
def Um(_ j:Int):Prop:=0<j/\j<2 ^ 200
theorem zT5:OpR X (G8 .FloorDiv) (rI Um λi j=>.int (i / j)):=yV λi j _ _ _ _ _ hc q=>by
 refine floordiv_int (by have:=hc.1;lia) (by rw[Int.fdiv_eq_ediv_of_nonneg _ (K5 hc.1)];exact q) (.inl (PyProof.noPylong_of_log2 ?_));have h1:=hc.1;have h2:=hc.2;refine AN ((Nat.log2_lt 'l').mpr (show j.natAbs<2 ^ 200 by lia)) 'd'
theorem zT6:S8 K (rI Um λi j=>.int (i / j)) lD:=λv u x y F H d Q s r1 r2 hf k=>by
 unfold lD at hf;split at hf
 .obtain⟨hc,hf⟩:=eD hf
  cases hf;obtain rfl:=r1.vI;obtain rfl:=r2.vI;exact{_,_,rfl,rfl,hc,k _ F H (.refl s) (.int _)}
 .cases hf
theorem Lv(ha:VE X a ga)(hb:VE X b gb):VE X (.BinOp a .FloorDiv b pos) (g2 lD ga gb):=pJ zT5 zT6 ha hb
def SW(x y:D):Out D:=match x,y with
 |.int i,.int j=>guard (0<j) (.ok (.int (i % j)))
 |_,_=>.bad
theorem zX6:S8 K (rI (λ_ j=>0<j) λi j=>.int (i % j)) SW:=λv u x y F H d Q s r1 r2 hf k=>by
 unfold SW at hf;split at hf
 .obtain⟨hc,hf⟩:=eD hf
  cases hf;obtain rfl:=r1.vI;obtain rfl:=r2.vI;exact{_,_,rfl,rfl,hc,k _ F H (.refl s) (.int _)}
 .cases hf
theorem i6(ha:VE X a ga)(hb:VE X b gb):VE X (.BinOp a .Mod b pos) (g2 SW ga gb):=pJ yAW zX6 ha hb
def ZW(x y:D):Out D:=match x,y with
 |.int i,.int j=>guard (0<=j/\j<=1000000/\i.natAbs<2 ^ 64) (.ok (.int (i ^ j.toNat)))
 |_,_=>.bad
theorem zX7:S8 K (rI To λi j=>.int (i ^ j.toNat)) ZW:=λv u x y F H d Q s r1 r2 hf k=>by
 unfold ZW at hf;split at hf
 .obtain⟨hc,hf⟩:=eD hf
  cases hf;obtain rfl:=r1.vI;obtain rfl:=r2.vI;exact{_,_,rfl,rfl,hc,k _ F H (.refl s) (.int _)}
 .cases hf
theorem wB(ha:VE X a ga)(hb:VE X b gb):VE X (.BinOp a .Pow b pos) (g2 ZW ga gb):=pJ yAX zX7 ha hb
noncomputable def U3(x:D):Out D:=match x with
 |.int i=>.ok (.int (-i))
 |_=>.bad
theorem zX8:Fj K (rU λi=>.int (-i)) U3:=λv x F H d Q s r hf k=>by
 unfold U3 at hf;split at hf
 .cases hf;obtain rfl:=r.vI
  exact{_,rfl,k _ F H (.refl s) (.int _)}
 .cases hf
theorem qJ(ha:VE X a ga):VE X (.UnaryOp .USub a pos) (g1 U3 ga):=yHD yAY zX8 ha
def fN(x y:D):Out D:=match x,y with
 |.lst xs,.int k=>guard (-(2 ^ 63)<=k/\k<2 ^ 63/\xs.length * k.toNat<10000) (.ok (.lst (BG k.toNat xs).flatten))
 |_,_=>.bad
theorem Ud{gs:List G}(ha:VA X es gs)(hb:VE X b gb):FE X (.BinOp (.List es ZD) .Mult b pos) (g2 fN (KE gs) gb):=(wD yBA (lP ha) hb).imp λσ H Q h=>by
 obtain⟨τ,F,E,d,E',S,hg,k⟩:=h;obtain⟨p,ea,hg⟩:=pA3 hg;obtain⟨q,eb,hg⟩:=pA3 hg;obtain⟨z,ef,hg⟩:=pA3 hg;cases hg;obtain⟨p0,ea0,eq⟩:=pA3 ea;obtain⟨hl,eq⟩:=W4 eq;cases eq;refine{τ,F,E,p0.1,p0.2,S,ea0,λvs F1 H1 s1 S1 r1=>{by rw[r1.length];exact bO hl,λl p8=>?_}};have n:=New.laid (o:=.lst vs) S1.sub p8;have S2:=S1.new n;refine{τ,_,p0.2,q.1,q.2,S2,eb,λu F3 H3 s3 S3 r3=>?_};unfold fN at ef;split at ef
 .rename_i xs kk e1 e2
  obtain⟨⟨g1,g2,g3⟩,ef⟩:=eD ef;cases ef;cases e1;rw[e2] at r3;obtain rfl:=r3.vI;have hv:=r1.length;have rl:Rd F3 l (.lst vs):=s3.le.rd (.inl G3)
  have hH:H3 l=AA (.lst vs):=by
   rcases rl with z|⟨o,z⟩
   .exact S3.sub _ _ z
   .have:=s3.le l _ (G3 (H:=F1) (o:=.lst vs))
    rcases this with y|⟨y,_⟩|⟨_,_,_,y,_⟩
    .rw[z] at y;cases y
    .exact y.elim
    .cases y
  refine{l,kk,vs,rfl,rfl,hH,g1,g2,by rw[hv];exact bO g3,λq' hq=>?_};have n2:=pA6 (H':=DU H3 q' (.lst (BG kk.toNat vs).flatten)) S3.sub (Gr.new hq);have st:=((s1.trans (n.stp (ow:=DT σ p0.2))).trans s3).trans (n2.stp (ow:=DT σ q.2));exact k q' _ _ st (S3.new n2) (pAG S3.sub hq) (((s1.trans (n.stp (ow:=DT σ p0.2))).trans s3).dom q' hq) {_,G3,((r1.le n.1.le).le s3.le).rep kk.toNat} (S3.fresh hq)
 .cases ef
theorem Reps.atI{vs:List V}{ds:List D}{i:Int}{d:D}(r:Reps K F vs ds)(h:L2.atI ds i=AA d):∃v,L2.atI vs i=AA v/\Rep K F v d:=by
 unfold L2.atI at h ⊢;rw[r.length]
 cases q:WR ds.length i with
 |none=>rw[q] at h;cases h
 |some j =>
  rw[q] at h;obtain⟨v,h1,h2⟩:=r.get (show ds[j]?=AA d from h);exact{v,h1,h2}
def FI(x y:D):Out D:=match x,y with
 |.lst ds,.int i=>match L2.atI ds i with
  |some d=>.ok d
  |none=>.bad
 |.tup ds,.int i=>match L2.atI ds i with
  |some d=>.ok d
  |none=>.bad
 |.str z,.int i=>few z.length (match L2.atI z.cps.toList i with
  |some c=>.ok (.str {#[c]})
  |none=>.bad)
 |x,y=>match fT x y with
  |some (AA d)=>.ok d
  |_=>.bad
def wR:R2:=λx y H Q=>∃a v,x=.ref a/\fO H a y (AA v)/\Q v H
theorem Mz(hu:X.A.units+64<GQ):IxR X wR:=by
 intro JO OP AE s σ H x y v u Q I rx ry h hs;obtain⟨a,w,rfl,g,q⟩:=h;cases rx;refine iB (zMD I g) PySem.F.slot_dict_getitem.lookup (zP5 (A:=X.A) 'l' I g ry λw' s3 I3 KH=>{w,H,I3,KH,q}) hs
theorem yCB:S8 K (λx y H Q=>Uz K x y H Q\/wR x y H Q) FI:=λv u x y F H d Q s r1 r2 hf k=>by
 have Kl:(match fT x y with|some (AA d)=>Out.ok d|_=>.bad)=.ok d->wR v u H Q:=λhh=>by
  split at hh
  .rename_i d' eo
   cases hh;obtain⟨a,ov,rfl,g,ro⟩:=pAI s r1 r2 eo;obtain⟨w,rfl,KH⟩:=ro.some_of;exact{a,w,rfl,g,k _ F H (.refl s) KH}
  .cases hh
 unfold FI at hf;split at hf
 .split at hf
  .rename_i d' e
   cases hf;obtain⟨a,vs,rfl,h1,h2⟩:=r1.isRefL;obtain⟨w,h3,h4⟩:=h2.atI e;obtain rfl:=r2.vI;exact .inl (.inl {a,vs,_,w,rfl,rfl,h1.imp s.rd id,h3,k _ F H (.refl s) h4})
  .cases hf
 .split at hf
  .rename_i d' e
   cases hf;obtain⟨a,vs,rfl,h2,h1⟩:=r1.tupSq;obtain⟨w,h3,h4⟩:=h2.atI e;obtain rfl:=r2.vI;exact .inl (.inr (.inl {a,vs,_,w,rfl,rfl,h1 F H (.refl _) s,h3,k _ F H (.refl s) h4}))
  .cases hf
 .obtain⟨hl,hf⟩:=W4 hf
  split at hf
  .rename_i c e
   cases hf;obtain rfl:=r1.vS;obtain rfl:=r2.vI;exact .inl (.inr (.inr {_,_,c,rfl,rfl,bO hl,e,k _ F H (.refl s) (.str _)}))
  .cases hf
 .exact .inr (Kl hf)
theorem MQ(hu:X.A.units+64<GQ)(ha:VE X a ga)(hb:VE X b gb)(hs:Oa b:=by intro _ _;rfl):VE X (.Subscript a b pos) (g2 FI ga gb):=(As (lZ.or (Mz hu)) ha hb hs).imp λ_ _ _ h=>v9 yCB h
noncomputable def YY(xs:List α)(lo hi:Option Int):List α:=(xs.drop (HT.sIx xs.length 0 lo)).take (HT.sIx xs.length xs.length hi-HT.sIx xs.length 0 lo)
theorem Reps.cut{ds:List D}(r:Reps K F vs ds)(lo hi:Option Int):Reps K F (X7 vs lo hi) (YY ds lo hi):=by
 unfold X7 YY;rw[r.length];exact(r.drop _).take _
def yHI(K:AC):V->Option Int->Option Int->Hp->VK->Prop:=λx lo hi H Q=>∃a xs,x=.ref a/\SqT K H a xs/\(X7 xs lo hi=xs->Q (.ref a) H)/\∀p,H p=AI->Q (.ref p) (DU H p (.tup (X7 xs lo hi)))
theorem gF:SlR X (yHI X.K):=by
 intro AE s σ H x v vl vu lo hi sl Q I rx hs pl pu h;obtain⟨a,xs,rfl,hx,q1,q2⟩:=h
 by_cases hw:HT.sIx xs.length 0 lo=0/\HT.sIx xs.length xs.length hi=xs.length
 .cases rx
  obtain⟨CA,r,ht,hz⟩:=I.tuple hx;have EW:CA.toArray.size=xs.length:=by rw[A0];exact r.length.symm
  refine{"tuple",_,D6.lookup,ht.typeIs,?_};exact zD3 ht hs pl pu (by rw[EW];exact hw) {.ref a,H,I,rfl,q1 (zQK hw)}
 .exact yA4 AE s σ H (.ref a) v vl vu lo hi sl Q I rx hs pl pu {a,xs,rfl,hx,hw,q2}
def Ao:Option G->Ev->Out (Option Int×Ev)
 |none,E=>.ok (AI,E)
 |some g,E=>(g E).bind λp=>match p.1 with|.int i=>.ok (AA i,p.2)|_=>.bad
def tPt(K:AC)(H₀:Hp)(g:Option G):TO:=λσ H Q=>∃τ F E o E',Sim K H₀ τ F H σ E/\Ao g E=.ok (o,E')/\∀F' H',Stp (DT σ E) F H F' H' (DT σ E')->Sim K H₀ τ F' H' σ E'->Q o H'
theorem PO.imp{oe:Option CU}{t t':TO}(h:PO X oe t)(hi:∀σ H Q,t' σ H Q->t σ H Q):PO X oe t':=λAE s σ H Q I q=>h AE s σ H Q I (hi σ H Q q)
abbrev VO(X:Cx)(oe:Option CU)(g:Option G):Prop:=PO X oe (tPt X.K X.H₀ g)
theorem Mx(h:VE X e ge):VO X (AA e) (AA ge):=(zW4 h).imp λσ H Q h=>by
 obtain⟨τ,F,E,o,E',S,hg,k⟩:=h;obtain⟨p,ea,hg⟩:=pA3 hg;refine{τ,F,E,p.1,p.2,S,ea,λv F1 H1 s1 S1 r1=>?_};split at hg
 .rename_i i ei
  cases hg;rw[ei] at r1;obtain rfl:=r1.vI;exact{i,rfl,k F1 H1 s1 S1}
 .cases hg
def Sq(x:D)(lo hi:Option Int):Out D:=match x with
 |.tup ds=>.ok (.tup (YY ds lo hi))
 |.lst ds=>.ok (.lst (YY ds lo hi))
 |_=>.bad
def Ba(g:G)(lo hi:Option G):G:=λE=>(g E).bind λp=>(Ao lo p.2).bind λq=>(Ao hi q.2).bind λr=>(Sq p.1 q.1 r.1).bind λd=>.ok (d,r.2)
theorem zYA{lo hi:Option CU}{gl gh:Option G}(he:VE X e ge)(hl:VO X lo gl)(hh:VO X hi gh):VE X (.Subscript e (.Slice lo hi AI p2) pos) (Ba ge gl gh):=(zS2 (gF.or zW6) he hl hh).imp λσ H Q h=>by
 obtain⟨τ,F,E,d,E',S,hg,k⟩:=h;obtain⟨p,e1,hg⟩:=pA3 hg;obtain⟨q,e2,hg⟩:=pA3 hg;obtain⟨r,e3,hg⟩:=pA3 hg;obtain⟨z,e4,hg⟩:=pA3 hg;cases hg;refine{τ,F,E,p.1,p.2,S,e1,λv F1 H1 s1 S1 r1=>{τ,F1,p.2,q.1,q.2,S1,e2,λF2 H2 s2 S2=>{τ,F2,q.2,r.1,r.2,S2,e3,λF3 H3 s3 S3=>?_}}};have tE:=(r1.le s2.le).le s3.le;have st:=(s1.trans s2).trans s3;unfold Sq at e4;split at e4
 .rename_i ds ed
  cases e4;rw[ed] at tE;obtain⟨a,vs,rfl,h2,h1⟩:=tE.tupSq;refine .inl {a,vs,rfl,h1 F3 H3 (.refl _) S3.sub,λz=>k _ F3 H3 st S3 ?_,λq' hq=>?_}
  .have:YY ds q.1 r.1=ds:=by
    have h5:=h2.cut q.1 r.1;rw[z] at h5;have h6:=h5.length;have h7:=h2.length;have h8:(YY ds q.1 r.1).Sublist ds:=(QB _ _).trans (List.drop_sublist _ _);exact h8.eq_of_length 'l'
   rw[this];exact tE
  .have n:=New.laid (o:=.tup (X7 vs q.1 r.1)) S3.sub hq
   exact k _ _ _ (st.trans n.stp) (S3.new n) (.tup G3 ((h2.cut q.1 r.1).le n.1.le))
 .rename_i ds ed
  cases e4;rw[ed] at tE;obtain⟨a,vs,rfl,h1,h2⟩:=tE.isRefL;refine .inr {a,vs,rfl,h1.imp S3.sub.rd id,λq' hq=>?_};have n:=New.laid (o:=.lst (X7 vs q.1 r.1)) S3.sub hq;exact k _ _ _ (st.trans n.stp) (S3.new n) (.lst (.inl (.inl G3)) ((h2.cut q.1 r.1).le n.1.le))
 .cases e4
def gN(f:List D->Out D)(gs:List G):G:=λE=>(NL gs E).bind λp=>(f p.1).bind λd=>.ok (d,p.2)
def lC(K:AC)(r:List V->Hp->VK->Prop)(f:List D->Out D):Prop:=∀vs xs F H d Q,Sub F H->Reps K F vs xs->f xs=.ok d->(∀z F' H',New F H F' H'->Rep K F' z d->Q z H')->r vs H Q
def qI(K:AC)(r:List V->Hp->VK->Prop)(f:List D->Out D):Prop:=∀vs xs F H d Q,Sub F H->Reps K F vs xs->f xs=.ok d->(∀a F' H',New F H F' H'->F' a=AI->H a=AI->OwnAt K F' H' a d->Q (.ref a) H')->r vs H Q
theorem Uc{f:List D->Out D}(hs:lC K r f){Q:VK}(h:tV K H₀ (gN f gs) σ H Q):yU r (eG K H₀ gs) σ H Q:=by
 obtain⟨τ,F,E,d,E',S,hg,k⟩:=h;obtain⟨p,e1,hg⟩:=pA3 hg;obtain⟨z,e2,hg⟩:=pA3 hg;cases hg;exact{τ,F,E,p.1,p.2,S,e1,λvs F1 H1 s1 S1 r1=>hs vs p.1 F1 H1 d Q S1.sub r1 e2 λz F2 H2 n r2=>k z F2 H2 (s1.trans n.stp) (S1.new n) r2}
theorem Ub{f:List D->Out D}(hs:qI K r f){Q:VK}(h:tF K H₀ (gN f gs) σ H Q):yU r (eG K H₀ gs) σ H Q:=by
 obtain⟨τ,F,E,d,E',S,hg,k⟩:=h;obtain⟨p,e1,hg⟩:=pA3 hg;obtain⟨z,e2,hg⟩:=pA3 hg;cases hg;exact{τ,F,E,p.1,p.2,S,e1,λvs F1 H1 s1 S1 r1=>hs vs p.1 F1 H1 d Q S1.sub r1 e2 λa F2 H2 n h1 h2 h3=>k a F2 H2 (s1.trans n.stp) (S1.new n) h1 (s1.dom a h2) h3 (S1.fresh h2)}
theorem Ai{f:List D->Out D}(hc:CallR X (.builtin id) r)(hs:lC X.K r f)(hm:X.mg x=AI)(hv:GD x=AA (.builtin id))(ha:VA X (e::es) gs)(hg:Gl X x:=by rfl)(hn:x≠"__name__":=by decide)(RL:(x==("__debug__":CK))=AD:=by decide)
  (he:AO (e::es) X.env=(AD,eval e X.env)::AO es X.env:=by rfl) (JT:(DH pos (AO es X.env)).any (·.1)=AD:=by rfl):VE X (.Call (.Name x p) (e::es) [] pos) (gN f gs):=(xF hc hg hm hv ha hn RL he JT).imp λ_ _ _ h=>Uc hs h
theorem yE3{f:List D->Out D}(hc:CallR X (.builtin id) r)(hs:qI X.K r f)(hm:X.mg x=AI)(hv:GD x=AA (.builtin id))(ha:VA X (e::es) gs)(hg:Gl X x:=by rfl)(hn:x≠"__name__":=by decide)(RL:(x==("__debug__":CK))=AD:=by decide)
  (he:AO (e::es) X.env=(AD,eval e X.env)::AO es X.env:=by rfl) (JT:(DH pos (AO es X.env)).any (·.1)=AD:=by rfl):FE X (.Call (.Name x p) (e::es) [] pos) (gN f gs):=(xF hc hg hm hv ha hn RL he JT).imp λ_ _ _ h=>Ub hs h
theorem yHJ{f:List D->Out D}(hc:CallR X (.type T) r)(hs:lC X.K r f)(hm:X.mg x=AI)(hv:GD x=AA (.type T))(ha:VA X (e::es) gs)(hg:Gl X x:=by rfl)(hn:x≠"__name__":=by decide)(RL:(x==("__debug__":CK))=AD:=by decide)
  (he:AO (e::es) X.env=(AD,eval e X.env)::AO es X.env:=by rfl) (JT:(DH pos (AO es X.env)).any (·.1)=AD:=by rfl):VE X (.Call (.Name x p) (e::es) [] pos) (gN f gs):=(xQ hc hg hm hv ha hn RL he JT).imp λ_ _ _ h=>Uc hs h
theorem yHK{f:List D->Out D}(hc:CallR X (.type T) r)(hs:qI X.K r f)(hm:X.mg x=AI)(hv:GD x=AA (.type T))(ha:VA X (e::es) gs)(hg:Gl X x:=by rfl)(hn:x≠"__name__":=by decide)(RL:(x==("__debug__":CK))=AD:=by decide)
  (he:AO (e::es) X.env=(AD,eval e X.env)::AO es X.env:=by rfl) (JT:(DH pos (AO es X.env)).any (·.1)=AD:=by rfl):FE X (.Call (.Name x p) (e::es) [] pos) (gN f gs):=(xQ hc hg hm hv ha hn RL he JT).imp λ_ _ _ h=>Ub hs h
end
def Ew(a b:Int):Bool:=decide (a<=b)
def oC(ns:List Int):List Int:=ns.mergeSort Ew
theorem zO2(ns:List Int):(oC ns).Perm ns:=KY _ _
theorem zT9(ns:List Int):(oC ns).Pairwise (·<=·):=by
 have:=JG (le:=Ew) (λa b c h1 h2=>decide_eq_true (K4 (of_decide_eq_true h1) (of_decide_eq_true h2)))
  (λa b=>by unfold Ew;rcases Int.le_total a b with h|h<;>simp[h]) ns
 exact this.imp λh=>of_decide_eq_true h
theorem zUA{ms:List Int}(p:ms.Perm ns)(h:ms.Pairwise (·<=·)):ms=oC ns :=
 IK (le:=λa b:Int=>decide (a<=b)=AL) (λa b _ _ h1 h2=>Int.le_antisymm (of_decide_eq_true h1) (of_decide_eq_true h2)) (h.imp λh=>decide_eq_true h) ((zT9 ns).imp λh=>decide_eq_true h) (p.trans (zO2 ns).symm)
def Y8(a b:Int×Int):Bool:=!UA b a
def Y3(ps:List (Int×Int)):List (Int×Int):=ps.mergeSort Y8
theorem wQ{a b:Int×Int}:Y8 a b=AL↔a.1<b.1\/(a.1=b.1/\a.2<=b.2):=by
 unfold Y8 UA;simp only[LZ,decide_eq_false_iff_not];lia
theorem Dm(ps:List (Int×Int)):(Y3 ps).Perm ps:=KY _ _
theorem Ph(ps:List (Int×Int)):(Y3 ps).Pairwise (λa b=>Y8 a b=AL) :=
 JG (λa b c h1 h2=>by rw[wQ] at *;lia) (λa b=>by
  have:Y8 a b=AL\/Y8 b a=AL:=by rw[wQ,wQ];lia
  simpa using this) ps
theorem zUB{ms ns:List (Int×Int)}(p:ms.Perm ns)(h:ms.Pairwise (λa b=>Y8 a b=AL)):ms=Y3 ns :=
 IK (le:=λa b=>Y8 a b=AL) (λa b _ _ h1 h2=>by
  rw[wQ] at h1 h2
  exact kN 'l' 'l') h (Ph ns) (p.trans (Dm ns).symm)
def VX(p:Int×Int):D:=.tup [.int p.1,.int p.2]
noncomputable def jE:List D->Option (List (Int×Int))
 |[]=>AA []
 |.tup [.int a,.int b]::ds=>(jE ds).map ((a,b)::·)
 |_::_=>AI
theorem zO3:∀{ds:List D} {ps:List (Int×Int)},jE ds=AA ps->ds=ps.map VX:=by
 intro ds
 induction ds with
 |nil=>intro ps h;rw[jE] at h;cases h;rfl
 |cons d ds ih =>
  intro ps h;unfold jE at h;split at h
  .rename_i e;cases e
  .rename_i a b r e
   cases e;obtain⟨q,h1,h2⟩:=BQ.mp h;subst h2;rw[ih h1];rfl
  .cases h
theorem yA:∀ps:List (Int×Int),jE (ps.map VX)=AA ps
 |[]=>rfl
 |p::ps=>by
  show(jE (ps.map VX)).map (λr=>(p.1,p.2)::r)=_;rw[yA ps];rfl
section
variable{K:AC}{a b:CU}{ga gb gc ge:G}{gs:List G}
theorem Reps.perm(pm:zs.Perm ys):∀{ds:List D},Reps K F ys ds->∃es,es.Perm ds/\Reps K F zs es:=by
 induction pm with
 |nil=>intro ds r;cases r;exact{[],GY _,.nil}
 |cons a _ ih =>
  intro ds r
  cases r with
  |cons h t =>
   obtain⟨qs,q,r'⟩:=ih t;exact{_::qs,q.cons _,.cons h r'}
 |swap a b l =>
  intro ds r
  cases r with
  |cons h t =>
   cases t with
   |cons h' t'=>exact{_::_::_,HN _ _ _,.cons h' (.cons h t')}
 |trans _ _ Z9 ih2 =>
  intro ds r;obtain⟨qs,q,r'⟩:=ih2 r;obtain⟨us,q',tH⟩:=Z9 r';exact{us,q'.trans q,tH}
theorem zUC{f:α->β}:∀{l1 l2:List β} (p:l1.Perm l2) (ns:List α),l2=ns.map f->∃ms:List α,l1=ms.map f/\ms.Perm ns:=by
 intro l1 l2 p
 induction p with
 |nil=>intro ns e;cases ns with|nil=>exact{[],rfl,GY _}|cons _ _=>cases e
 |cons a _ ih =>
  intro ns e
  cases ns with
  |nil=>cases e
  |cons n ns =>
   injection e with e1 e2;obtain⟨ms,h1,h2⟩:=ih ns e2;exact{n::ms,by rw[AX,e1,h1],h2.cons n}
 |swap a b l =>
  intro ns e
  match ns,e with
  |c::d::ns,e =>
   injection e with e1 e2;injection e2 with e2 e3;exact{d::c::ns,by rw[AX,AX,e1,e2,e3],HN _ _ _}
 |trans _ _ Z9 ih2 =>
  intro ns e;obtain⟨ms,h1,h2⟩:=ih2 ns e;obtain⟨ks,h3,h4⟩:=Z9 ms h1;exact{ks,h3,h4.trans h2}
theorem Reps.prs(s:Sub F H):∀{ps:List (Int×Int)} {ys:List V},Reps K F ys (ps.map VX)->Prs H ys ps:=by
 intro ps
 induction ps with
 |nil=>intro ys r;cases r;exact .nil
 |cons p ps ih =>
  intro ys r
  cases r with
  |cons h r =>
  refine .cons ?_ (ih r);have h:Rep K F _ (.tup [.int p.1,.int p.2]):=h;generalize hk:[D.int p.1,.int p.2]=kk at h
  cases h with
  |tup hb rb =>
   subst hk
   cases rb with
   |cons h1 rb =>
    cases rb with
    |cons h2 rb =>
     cases rb;cases h1;cases h2;exact{_,rfl,s _ _ hb}
  |@tupK a xs hb nb =>
   cases xs with
   |nil=>cases hk
   |cons x xs=>cases hk
theorem zYC(s:Sub F H)(hp:Prs H ys ps):Prs H ys qs->ps=qs:=by
 induction hp generalizing qs with
 |nil=>intro h;cases h;rfl
 |cons r t1 ih =>
  intro h
  cases h with
  |cons r2 t2 =>
   obtain⟨a,e1,h1⟩:=r;obtain⟨b,e2,h2⟩:=r2;rw[e1] at e2;cases e2;rw[h1] at h2;simp only[VN,HO.tup.injEq,YS,V.int.injEq,and_true] at h2;rw[ih t2,kN h2.1 h2.2]
def lB:List D->Out D
 |[.lst ds]=>match QR ds with
  |some ns=>.ok (.lst ((oC ns).map D.int))
  |none=>match jE ds with
   |some ps=>.ok (.lst ((Y3 ps).map VX))
   |none=>.bad
 |_=>.bad
abbrev zYD(K:AC):List V->Hp->VK->Prop:=λxs H Q=>(∃(l:AQ) (ns:List Int),xs=[.ref l]/\SqL K H l (ns.map V.int)/\∀(ms:List Int) (q:AQ),ms.Perm ns->ms.Pairwise (·<=·)->H q=AI->Q (.ref q) (DU H q (.lst (ms.map V.int)))) \/
 (∃(l:AQ) (ys:List V) (ps:List (Int×Int)),xs=[.ref l]/\SqL K H l ys/\Prs H ys ps/\∀(zs:List V) (qs:List (Int×Int)) (q:AQ),zs.Perm ys->Prs H zs qs->qs.Perm ps->(qs.Pairwise λa b=>UA b a=AD)->H q=AI->Q (.ref q) (DU H q (.lst zs)))
theorem zRH:qI K (zYD K) lB:=λvs xs F H d Q s r hf k=>by
 unfold lB at hf;split at hf
 .rename_i ds
  cases r with
  |cons r rr =>
   cases rr;obtain⟨l,ys,rfl,h1,h2⟩:=r.isRefL;split at hf
   .rename_i ns en
    cases hf;have:=rS en;subst this;have:=h2.vint;subst this;refine .inl {l,ns,rfl,h1.imp s.rd id,λms q pm pw hq=>?_};rw[zUA pm pw];have n:=pA6 (H':=DU H q (.lst ((oC ns).map V.int))) s (Gr.new hq);exact k q F _ n (pAG s hq) hq {_,G3,Reps.ints _}
   .split at hf
    .rename_i ps ep
     cases hf;have:=zO3 ep;subst this;refine .inr {l,ys,ps,rfl,h1.imp s.rd id,h2.prs s,λzs qs q pz gZ pq pw hq=>?_};obtain⟨es,pe,re⟩:=Reps.perm pz h2;obtain⟨qs',rfl,pq'⟩:=zUC pe ps rfl;have:=zYC s (re.prs s) gZ;subst this;have:qs'=Y3 ps:=zUB pq (pw.imp λh=>by unfold Y8;rw[h];rfl);subst this;have n:=pA6 (H':=DU H q (.lst zs)) s (Gr.new hq);exact k q F _ n (pAG s hq) hq {_,G3,re}
    .cases hf
 .cases hf
theorem zUD(hm:X.mg "sorted"=AI)(ha:VA X (e::es) gs)(hg:Gl X "sorted":=by rfl)(he:AO (e::es) X.env=(AD,eval e X.env)::AO es X.env:=by rfl)(JT:(DH pos (AO es X.env)).any (·.1)=AD:=by rfl) :
  FE X (.Call (.Name "sorted" p) (e::es) [] pos) (gN lB gs):=yE3 (SC.or zIX) zRH hm (by decide +kernel) ha hg 'd' 'd' he JT
theorem zO4:CallR X (.builtin "len") (λxs H Q=>∃a kvs,xs=[V.ref a]/\Rd H a (.dT kvs)/\Q (.int kvs.length) H):=by
 intro AE s σ H xs us Q I r h;obtain⟨a,kvs,rfl,ha,q⟩:=h;obtain⟨u,rfl,ru⟩:=Y1 r;cases ru;obtain⟨es,ep,KH,e1,e2,_⟩:=oG (ha.ok I.hok);have:=jB;refine zXK KH (by rw[FZ] at e2;lia) λt tk=>{.int kvs.length,H,I.tok tk,{t,by rw[e1]},q}
theorem W9:CallR X (.builtin "len") (λxs H Q=>∃a kvs,xs=[V.ref a]/\Rd H a (.dK kvs)/\Q (.int kvs.length) H):=by
 intro AE s σ H xs us Q I r h;obtain⟨a,kvs,rfl,ha,q⟩:=h;obtain⟨u,rfl,ru⟩:=Y1 r;cases ru;exact yEK I ha λt s' I'=>{.int kvs.length,H,I',{t,rfl},q}
def Q5:List D->Out D
 |[.lst ds]=>.ok (.int ds.length)
 |[.tup ds]=>.ok (.int ds.length)
 |[.str z]=>few z.length (.ok (.int z.length))
 |[.dk kvs]=>.ok (.int kvs.length)
 |[.dt kvs]=>.ok (.int kvs.length)
 |_=>.bad
abbrev yE4(K:AC):List V->Hp->VK->Prop:=λxs H Q=>(∃p ys,xs=[.ref p]/\(SqL K H p ys\/SqT K H p ys)/\Q (.int ys.length) H)\/(∃z,xs=[.str z]/\z.length<=sizeLine/\Q (.int z.length) H) \/
 (∃a kvs,xs=[V.ref a]/\Rd H a (.dK kvs)/\Q (.int kvs.length) H)\/(∃a kvs,xs=[V.ref a]/\Rd H a (.dT kvs)/\Q (.int kvs.length) H)
theorem yCE:lC K (yE4 K) Q5:=λvs xs F H d Q s r hf k=>by
 unfold Q5 at hf;split at hf
 .cases hf
  cases r with
  |cons r rr =>
   cases rr;obtain⟨l,ys,rfl,h1,h2⟩:=r.isRefL;exact .inl {l,ys,rfl,.inl (h1.imp s.rd id),by rw[h2.length];exact k _ F H (.refl s) (.int _)}
 .cases hf
  cases r with
  |cons r rr =>
   cases rr;obtain⟨l,ys,rfl,h2,h1⟩:=r.tupSq;exact .inl {l,ys,rfl,.inr (h1 F H (.refl _) s),by rw[h2.length];exact k _ F H (.refl s) (.int _)}
 .obtain⟨hl,hf⟩:=W4 hf
  cases hf
  cases r with
  |cons r rr =>
   cases rr;obtain rfl:=r.vS;exact .inr (.inl {_,rfl,bO hl,k _ F H (.refl s) (.int _)})
 .cases hf
  cases r with
  |cons r rr =>
   cases rr
   cases r with
   |dk h1 h2=>exact .inr (.inr (.inl {_,_,rfl,s.rd h1,by rw[h2.length];exact k _ F H (.refl s) (.int _)}))
 .cases hf
  cases r with
  |cons r rr =>
   cases rr
   cases r with
   |dt h1 h2=>exact .inr (.inr (.inr {_,_,rfl,s.rd h1,by rw[h2.length];exact k _ F H (.refl s) (.int _)}))
 .cases hf
theorem lA(hm:X.mg "len"=AI)(ha:VA X (e::es) gs)(hg:Gl X "len":=by rfl)(he:AO (e::es) X.env=(AD,eval e X.env)::AO es X.env:=by rfl)(JT:(DH pos (AO es X.env)).any (·.1)=AD:=by rfl) :
  VE X (.Call (.Name "len" p) (e::es) [] pos) (gN Q5 gs):=Ai (UF.or (UE.or (W9.or zO4))) yCE hm (by decide +kernel) ha hg 'd' 'd' he JT
def Lu:List V->Hp->VK->Prop:=λxs H Q=>∃(d:AQ) (kvs:List (Key×V)),xs=[.ref d]/\Rd H d (.dK kvs)/\∀q,H q=AI->Q (.ref q) (DU H q (.lst (kvs.map λkv=>kV kv.1)))
theorem Qm:∀(ks:List Key) (us:List AH),us.length=ks.length->(∀(i:Nat) v,us[i]?=AA v->∃k,ks[i]?=AA k/\RelV (kV k) v)->Vals (ks.map kV) us
 |[],[],_,_=>.nil
 |k::ks,u::us,hl,h=>by
  obtain⟨n,e1,e2⟩:=h 0 u rfl;have e3:k=n:=by simpa using e1
  subst e3;exact .cons e2 (Qm ks us (by simpa using hl) λi v hv=>h (i+1) v (by simpa using hv))
 |[],_::_,hl,_=>by simp at hl
 |_::_,[],hl,_=>by simp at hl
theorem zO5(hc:X.calm=AL):CallR X (.type "list") Lu:=by
 intro AE s σ H xs us Q I r h;obtain⟨d,kvs,rfl,hd,q⟩:=h;obtain⟨u,rfl,ru⟩:=Y1 r;cases ru;obtain⟨z,lo,vs,MY,dd⟩:=fS I.hok hd;obtain⟨ep,da⟩:=dd.dictAt;have p8:kvs.length=vs.length:=MY.length;refine PySem.W.kdl_call (PySem.W.kdl_dict (knd:=R9 X.prog X.w) (kvs:=vs) (ep:=ep) lo) (I.ok.hd hc) da 'l' λh' tk acc c' hk hS hI=>?_;obtain⟨hz,hi⟩:=hI
 have rv:Vals (kvs.map λkv=>kV kv.1) acc.toList:=by
  have:=Qm (kvs.map (·.1)) acc.toList (by simp;lia) λi v hv=>by
   obtain⟨k,xx,e1,e2⟩:=hi i v (by rw[<-C0];exact hv);refine{k,by rw[MY.keys,AU,e1];rfl,?_};rw[Rp] at e2;rcases bG e2 with⟨j,t,z1,z2⟩|⟨y,t,z1,z2⟩
   .rw[z1,z2];exact{t,rfl}
   .rw[z1,z2];exact{t,rfl}
  rw[D2] at this;exact this
 refine{.ref s.heap.objs.size,_,I.laid (o:=.lst (kvs.map λkv=>kV kv.1)) hk (AM _) {?_,acc.toList,c',rv,by simpa using hS},rfl,q _ I.fresh};rw[AJ];exact z
def iO:Key->D
 |.inl i=>.int i
 |.inr x=>.str x
theorem Mw(k:Key):Rep K F (kV k) (iO k):=by
 cases k with
 |inl i=>exact .int i
 |inr x=>exact .str x
theorem RepK.keys:∀{vs:List (Key×V)} {ds:List (Key×D)},RepK K F vs ds->Reps K F (vs.map λkv=>kV kv.1) (ds.map λkv=>iO kv.1)
 |_,_,.nil=>.nil
 |_,_,.cons (k:=k) _ r=>.cons (Mw k) (RepK.keys r)
def i5:List D->Out D
 |[.lst ds]=>.ok (.lst ds)
 |[.tup ds]=>.ok (.lst ds)
 |[.dk kvs]=>.ok (.lst (kvs.map λkv=>iO kv.1))
 |_=>.bad
abbrev yCF(K:AC):List V->Hp->VK->Prop:=λxs H Q=>(∃p ys,xs=[.ref p]/\(SqL K H p ys\/SqT K H p ys)/\∀l,H l=AI->Q (.ref l) (DU H l (.lst ys)))\/Lu xs H Q
theorem Zz:qI K (yCF K) i5:=λvs xs F H d Q s r hf k=>by
 unfold i5 at hf;split at hf
 .cases hf
  cases r with
  |cons r rr =>
   cases rr;obtain⟨l,ys,rfl,h1,h2⟩:=r.isRefL;exact .inl {l,ys,rfl,.inl (h1.imp s.rd id),λq hq=>k q F _ (pA6 s (Gr.new hq)) (pAG s hq) hq {_,G3,h2}}
 .cases hf
  cases r with
  |cons r rr =>
   cases rr;obtain⟨l,ys,rfl,h2,h1⟩:=r.tupSq;exact .inl {l,ys,rfl,.inr (h1 F H (.refl _) s),λq hq=>k q F _ (pA6 s (Gr.new hq)) (pAG s hq) hq {_,G3,h2}}
 .cases hf
  cases r with
  |cons r rr =>
   cases rr
   cases r with
   |dk h1 h2=>exact .inr {_,_,rfl,s.rd h1,λq hq=>k q F _ (pA6 s (Gr.new hq)) (pAG s hq) hq {_,G3,h2.keys}}
 .cases hf
theorem wK(hc:X.calm=AL)(hm:X.mg "list"=AI)(ha:VA X (e::es) gs)(hg:Gl X "list":=by rfl)(he:AO (e::es) X.env=(AD,eval e X.env)::AO es X.env:=by rfl)(JT:(DH pos (AO es X.env)).any (·.1)=AD:=by rfl) :
  FE X (.Call (.Name "list" p) (e::es) [] pos) (gN i5 gs):=yHK (UD.or (zO5 hc)) Zz hm (by decide +kernel) ha hg 'd' 'd' he JT
noncomputable def dM:List D->Out D
 |[.lst ds]=>.ok (.tup ds)
 |[.tup ds]=>.ok (.tup ds)
 |_=>.bad
theorem yCG:lC K (λxs H Q=>∃p ys,xs=[.ref p]/\((SqL K H p ys/\∀l,H l=AI->Q (.ref l) (DU H l (.tup ys)))\/(SqT K H p ys/\Q (.ref p) H))) dM:=λvs xs F H d Q s r hf k=>by
 unfold dM at hf;split at hf
 .cases hf
  cases r with
  |cons r rr =>
   cases rr;obtain⟨l,ys,rfl,h1,h2⟩:=r.isRefL;refine{l,ys,rfl,.inl {h1.imp s.rd id,λq hq=>?_}};have n:=New.laid (o:=.tup ys) s hq;exact k _ _ _ n (.tup G3 (h2.le n.1.le))
 .cases hf
  cases r with
  |cons r rr =>
   cases rr;obtain⟨l,ys,rfl,h2,h1⟩:=r.tupSq;exact{l,ys,rfl,.inr {h1 F H (.refl _) s,k _ F H (.refl s) r}}
 .cases hf
theorem oS(hm:X.mg "tuple"=AI)(ha:VA X (e::es) gs)(hg:Gl X "tuple":=by rfl)(he:AO (e::es) X.env=(AD,eval e X.env)::AO es X.env:=by rfl)(JT:(DH pos (AO es X.env)).any (·.1)=AD:=by rfl) :
  VE X (.Call (.Name "tuple" p) (e::es) [] pos) (gN dM gs):=yHJ zIL yCG hm (by decide +kernel) ha hg 'd' 'd' he JT
noncomputable def i4:List D->Option (List Bool)
 |[]=>AA []
 |.bl b::ds=>(i4 ds).map (b::·)
 |_::_=>AI
theorem zUE:∀{ds:List D} {bs:List Bool},i4 ds=AA bs->ds=bs.map D.bl:=by
 intro ds
 induction ds with
 |nil=>intro bs h;rw[i4] at h;cases h;rfl
 |cons d ds ih =>
  intro bs h
  cases d with
  |bl b =>
   rw[i4] at h;obtain⟨r,h1,h2⟩:=BQ.mp h;subst h2;rw[ih h1];rfl
  |_=>simp[i4] at h
def pH:List D->Out D
 |[.lst ds]=>match i4 ds with
  |some bs=>.ok (.bl (bs.all id))
  |none=>.bad
 |_=>.bad
theorem yCH:lC K (Ta K) pH:=λvs xs F H d Q s r hf k=>by
 unfold pH at hf;split at hf
 .split at hf
  .rename_i bs eb
   cases hf;have:=zUE eb;subst this
   cases r with
   |cons r rr =>
    cases rr;obtain⟨l,ys,rfl,h1,h2⟩:=r.isRefL;have:=h2.vbl;subst this;exact{l,bs,rfl,h1.imp s.rd id,k _ F H (.refl s) (.bl _)}
  .cases hf
 .cases hf
theorem yE5(hc:X.calm=AL)(hm:X.mg "all"=AI)(ha:VA X (e::es) gs)(hg:Gl X "all":=by rfl)(he:AO (e::es) X.env=(AD,eval e X.env)::AO es X.env:=by rfl)(JT:(DH pos (AO es X.env)).any (·.1)=AD:=by rfl) :
  VE X (.Call (.Name "all" p) (e::es) [] pos) (gN pH gs):=Ai (zTM hc) yCH hm (by decide +kernel) ha hg 'd' 'd' he JT
noncomputable def fQ:List D->Out D
 |[.int i,.int j]=>.ok (.int (if j<i then j else i))
 |_=>.bad
theorem Zy:lC K (λxs H Q=>∃i j,xs=[.int i,.int j]/\Q (.int (if j<i then j else i)) H) fQ:=λvs xs F H d Q s r hf k=>by
 unfold fQ at hf;split at hf
 .cases hf
  cases r with
  |cons r rr=>cases rr with
   |cons r' rr=>cases rr;obtain rfl:=r.vI;(first|obtain rfl:=r'.vI|obtain rfl:=r'.vB|obtain rfl:=r'.vS|obtain rfl:=r'.vN|cases r');exact{_,_,rfl,k _ F H (.refl s) (.int _)}
 .cases hf
theorem Ls(hc:X.calm=AL)(hm:X.mg "min"=AI)(ha:VA X (e::es) gs)(hg:Gl X "min":=by rfl)(he:AO (e::es) X.env=(AD,eval e X.env)::AO es X.env:=by rfl)(JT:(DH pos (AO es X.env)).any (·.1)=AD:=by rfl) :
  VE X (.Call (.Name "min" p) (e::es) [] pos) (gN fQ gs):=Ai (zPX hc) Zy hm (by decide +kernel) ha hg 'd' 'd' he JT
end
section
variable{K:AC}{E:Ev}{a b:CU}{ga gb gc ge:G}{gs:List G}
theorem Sim.setO{t:Bool}{d d':D}{ad:AQ}(S:Sim K H₀ τ F H σ E)(e:E[i]?=AA (.own t d))(ea:σ[i]?=AA (AA (.ref ad)))(h:OwnAt K F (DU H ad o) ad d') :
  Sim K H₀ τ F (DU H ad o) σ (E.set i (.own t d'))/\Stp (DT σ E) F H F (DU H ad o) (DT σ (E.set i (.own t d'))):=by
 obtain⟨a',a1,a2,a3,a4,a5⟩:=S.own i t d e;rw[ea] at a1;cases a1;have hi:i<E.length:=(AR.mp e).1;have ow:DT σ E ad:={i,t,d,e,ea}
 have HV:∀(j:Nat) t' x,(E.set i (.own t d'))[j]?=AA (.own t' x)->(j=i/\t'=t/\x=d')\/(j≠i/\E[j]?=AA (.own t' x)):=λj t' x z=>by
  by_cases hj:i=j
  .subst hj;rw[BF hi] at z;cases z;exact .inl {rfl,rfl,rfl}
  .rw[A4 hj] at z;exact .inr {FH hj,z}
 have Ht:∀(j:Nat) t' x,(E.set i (.own t d'))[j]?=AA (.own t' x)->∃mB x',E[j]?=AA (.own mB x'):=λj t' x z=>by
  rcases HV j t' x z with⟨rfl,_,_⟩|⟨_,z⟩
  .exact{_,_,e}
  .exact{_,_,z}
 refine{{λb u z=>?_,by rw[BZ];exact S.len,λj x z=>?_,λj t' x z=>?_,λj l t1 t2 x y b z1 z2=>?_},{λb u z _ n ho=>?_,λb z=>?_,.refl _,λb u z=>.inl (by rw[z];exact nofun),λb ⟨j,t',x,z1,z2⟩=>?_}}
 .have:b≠ad:=λy=>by rw[y,a2] at z;cases z
  rw[EL this];exact S.sub b u z
 .by_cases hj:i=j
  .subst hj;rw[BF hi] at z;cases z
  .rw[A4 hj] at z;exact S.val j x z
 .rcases HV j t' x z with⟨rfl,rfl,rfl⟩|⟨hj,z⟩
  .exact{ad,ea,a2,h,a4,a5}
  .obtain⟨c,c1,c2,c3,c4⟩:=S.own j t' x z
   have hc:c≠ad:=λy=>hj (S.inj j i t' t x d ad z e (by rw[c1,y]) ea);exact{c,c1,c2,c3.mono (.refl _) (EL hc),c4}
 .obtain⟨_,_,w1⟩:=Ht j _ _ z1
  obtain⟨_,_,w2⟩:=Ht l _ _ z2;exact S.inj j l _ _ _ _ b w1 w2
 .rw[EL (λy=>ho (by rw[y];exact ow))];exact z
 .by_cases hb:b=ad
  .rw[hb,G3] at z;cases z
  .rw[EL hb] at z;exact z
 .obtain⟨mB,x',w⟩:=Ht j t' x z1
  exact .inl {j,mB,x',w,z2}
def yI(K:AC)(r:V->List V->Hp->VK->Prop)(f:List D->List D->Out (D×List D)):Prop:=∀(F H:Hp) (l:AQ) vs ds args xs d UR Q,Sub F H->H l=AA (.lst vs)->Reps K F vs ds->Reps K F args xs->f ds xs=.ok (d,UR) ->
 (∀y jM,Rep K F y d->Reps K F jM UR->Q y (DU H l (.lst jM)))->r (.ref l) args H Q
def Q7(i:Nat)(f:List D->List D->Out (D×List D))(gs:List G):G:=λE=>match E[i]? with
 |some (.own _ (.lst _))=>(NL gs E).bind λp=>match p.2[i]? with
  |some (.own t (.lst ds))=>(f ds p.1).bind λq=>.ok (q.1,p.2.set i (.own t (.lst q.2)))
  |_=>.bad
 |_=>.bad
theorem Ah{r:V->List V->Hp->VK->Prop}{f:List D->List D->Out (D×List D)}(hs:yI K r f){Q:VK}(h:tV K H₀ (Q7 i f gs) σ H Q) :
  ∃v,σ[i]?=AA (AA v)/\yQ K "list" v H/\eG K H₀ gs σ H λxs H2=>r v xs H2 Q:=by
 obtain⟨τ,F,E,d,E',S,hg,k⟩:=h;unfold Q7 at hg;split at hg
 .rename_i t0 kF e0
  obtain⟨p,e1,hg⟩:=pA3 hg;split at hg
  .rename_i t ds e2
   obtain⟨q,e3,hg⟩:=pA3 hg;cases hg;obtain⟨ad,a1,a2,⟨Vs,a3,_⟩,_⟩:=S.own i _ _ e0;refine{_,a1,.inl {rfl,Vs,SqL.of a3},τ,F,E,p.1,p.2,S,e1,λargs F1 H1 s1 S1 r1=>?_};obtain⟨ad',b1,b2,⟨vs,b3,b4⟩,_⟩:=S1.own i _ _ e2;rw[a1] at b1;cases b1;refine hs F1 H1 ad vs ds args p.1 q.1 q.2 Q S1.sub b3 b4 r1 e3 λy jM ry rvs=>?_;obtain⟨S2,s2⟩:=S1.setO (o:=.lst jM) (d':=.lst q.2) e2 a1 {jM,G3,rvs};exact k y F1 _ (s1.trans s2) S2 ry
  .cases hg
 .cases hg
variable{q:fD}
def VQ(ds xs:List D):Out (D×List D):=match xs with
 |[d]=>few ds.length (.ok (.non,ds++[d]))
 |_=>.bad
theorem zRJ:yI K Cd VQ:=λF H l vs ds args xs d UR Q s h r ra hf k=>by
 unfold VQ at hf;split at hf
 .obtain⟨hl,hf⟩:=W4 hf
  cases hf
  cases ra with
  |cons r1 rr =>
   cases rr;exact{l,vs,_,rfl,rfl,h,by rw[r.length];exact bE hl,k _ _ .non (r.append (.cons r1 .nil))}
 .cases hf
noncomputable def dL(ds xs:List D):Out (D×List D):=match xs with
 |[]=>match ds[ds.length-1]? with
  |some d=>.ok (d,ds.dropLast)
  |none=>.bad
 |_=>.bad
theorem Reps.dropLast{vs:List V}{ds:List D}(r:Reps K F vs ds):Reps K F vs.dropLast ds.dropLast:=by
 rw[X5,X5,r.length];exact r.take _
theorem yCI:yI K Tf dL:=λF H l vs ds args xs d UR Q s h r ra hf k=>by
 unfold dL at hf;split at hf
 .split at hf
  .rename_i d' e
   cases hf;cases ra;obtain⟨v,h1,h2⟩:=r.get e;exact{l,vs,v,rfl,rfl,h,by rw[r.length];exact h1,k _ _ h2 r.dropLast}
  .cases hf
 .cases hf
def i9(ds xs:List D):Out (D×List D):=match xs with
 |[.int i]=>guard (0<=i/\i<ds.length/\ds.length<10000) (match ds[i.toNat]? with
  |some d=>.ok (d,ds.eraseIdx i.toNat)
  |none=>.bad)
 |_=>.bad
theorem zUF:yI K Mc i9:=λF H l vs ds args xs d UR Q s h r ra hf k=>by
 unfold i9 at hf;split at hf
 .rename_i i
  obtain⟨⟨g1,g2,g3⟩,hf⟩:=eD hf;split at hf
  .rename_i d' e
   cases hf
   cases ra with
   |cons r1 rr =>
    cases rr;obtain rfl:=r1.vI;obtain⟨v,h1,h2⟩:=r.get e;exact{l,vs,i,i.toNat,v,rfl,rfl,h,by omega,by omega,by rw[r.length];exact VD g1 g2,h1,k _ _ h2 (r.eraseIdx _)}
  .cases hf
 .cases hf
theorem xM(i:Nat)(ha:VA X [e] gs)(hN:X.N[i]?=AA xn:=by rfl)(hv:ZA X.env.scope xn:=by first|exact BN rfl|exact D9 (BN rfl)|exact D9 (D9 rfl))(hd:(xn==("__debug__":CK))=AD:=by decide)(LR:(xn==("__classdict__":CK))=AD:=by decide)
  (OT:K1 (.Name xn q) "append" X.env (eval (.Name xn q) X.env)=eval (.Name xn q) X.env:=by rfl)
  (cL:((DH GO (AO [e] X.env)).all (λx=>!x.1)&&(iH GO (VH [] X.env)).all (λx=>x.1.isSome)
   && decide ([e].length+([]:List OC).length+(if([]:List OC).isEmpty then 0 else 1)<30))=AL:=by rfl)
  (OQ:(ME.endLine==GO.line)=AL:=by rfl) (hs:AO [e] X.env=(AD,eval e X.env)::AO [] X.env:=by rfl) (RJ:(DH GO (AO [] X.env)).any (·.1)=AD:=by rfl) :
  VE X (.Call (.Attribute (.Name xn q) "append" ME) [e] [] GO) (Q7 i VQ gs) :=
 (wE G1 LI LH xP (fY hN hv hd LR) ha OT cL OQ hs RJ).imp λσ H Q h=>Ah zRJ h
theorem Zx(i:Nat)(ha:VA X [e] gs)(hN:X.N[i]?=AA xn:=by rfl)(hv:ZA X.env.scope xn:=by first|exact BN rfl|exact D9 (BN rfl)|exact D9 (D9 rfl))(hd:(xn==("__debug__":CK))=AD:=by decide)(LR:(xn==("__classdict__":CK))=AD:=by decide)
  (OT:K1 (.Name xn q) "pop" X.env (eval (.Name xn q) X.env)=eval (.Name xn q) X.env:=by rfl)
  (cL:((DH GO (AO [e] X.env)).all (λx=>!x.1)&&(iH GO (VH [] X.env)).all (λx=>x.1.isSome)
   && decide ([e].length+([]:List OC).length+(if([]:List OC).isEmpty then 0 else 1)<30))=AL:=by rfl)
  (OQ:(ME.endLine==GO.line)=AL:=by rfl) (hs:AO [e] X.env=(AD,eval e X.env)::AO [] X.env:=by rfl) (RJ:(DH GO (AO [] X.env)).any (·.1)=AD:=by rfl) :
  VE X (.Call (.Attribute (.Name xn q) "pop" ME) [e] [] GO) (Q7 i i9 gs) :=
 (wE G1 VM VL zS6 (fY hN hv hd LR) ha OT cL OQ hs RJ).imp λσ H Q h=>Ah zUF h
theorem yE6(i:Nat)(hN:X.N[i]?=AA xn:=by rfl)(hv:ZA X.env.scope xn:=by first|exact BN rfl|exact D9 (BN rfl)|exact D9 (D9 rfl))(hd:(xn==("__debug__":CK))=AD:=by decide)(LR:(xn==("__classdict__":CK))=AD:=by decide)
  (OT:K1 (.Name xn q) "pop" X.env (eval (.Name xn q) X.env)=eval (.Name xn q) X.env:=by rfl) (OQ:(ME.endLine==GO.line)=AL:=by rfl) :
  VE X (.Call (.Attribute (.Name xn q) "pop" ME) [] [] GO) (Q7 i dL []) :=
 (yA7 G1 VM VL yA9 (fY hN hv hd LR) OT OQ).imp λσ H Q h=>by
  obtain⟨v,h1,h2,τ,F,E,ds,E',S,hg,k⟩:=Ah yCI h;cases hg;exact{v,h1,h2,k [] F H .refl S .nil}
theorem RepK.put(k:Key){d:D}{vs:List (Key×V)}{ds:List (Key×D)}(r:RepK K F vs ds)(h:Rep K F v d):RepK K F (QE vs k v) (PB ds k d):=by
 have any:∀{vs:List (Key×V)} {ds:List (Key×D)},RepK K F vs ds->(vs.any λkv=>decide (kv.1=k))=(ds.any λkv=>decide (kv.1=k)):=by
  intro vs ds r
  induction vs generalizing ds with
  |nil=>cases r;rfl
  |cons x xs ih=>cases r with|cons h r=>rw[FK,FK,ih r]
 have mp:∀{vs:List (Key×V)} {ds:List (Key×D)},RepK K F vs ds->RepK K F (vs.map λkv=>if kv.1=k then(kv.1,v) else kv) (ds.map λkv=>if kv.1=k then(kv.1,d) else kv):=by
  intro vs ds r
  induction vs generalizing ds with
  |nil=>cases r;exact .nil
  |cons x xs ih =>
   cases r with
   |@cons k' v' d' _ _ h' r =>
    rw[AX,AX]
    by_cases e:k'=k
    .simp only[e,if_true];exact .cons h (ih r)
    .simp only[e,if_false];exact .cons h' (ih r)
 have ap:∀{vs:List (Key×V)} {ds:List (Key×D)},RepK K F vs ds->RepK K F (vs++[(k,v)]) (ds++[(k,d)]):=by
  intro vs ds r
  induction vs generalizing ds with
  |nil=>cases r;exact .cons h .nil
  |cons x xs ih=>cases r with|cons h' r=>exact .cons h' (ih r)
 unfold QE PB;rw[any r];split
 .exact mp r
 .exact ap r
theorem RepT.put(k:List Int){d:D}{vs:List (List Key×V)}{ds:List (List Int×D)}(r:RepT K F vs ds)(h:Rep K F v d):RepT K F (QE vs (k.map CJ) v) (PB ds k d):=by
 have dec:∀k':List Int,decide (k'.map (CJ:Int->Key)=k.map CJ)=decide (k'=k):=λk'=>by
  by_cases e:k'=k
  .simp[e]
  .have e':¬k'.map (CJ:Int->Key)=k.map CJ:=λz=>e (wZ z)
   simp[e,e']
 have any:∀{vs:List (List Key×V)} {ds:List (List Int×D)},RepT K F vs ds->(vs.any λkv=>decide (kv.1=k.map CJ))=(ds.any λkv=>decide (kv.1=k)):=by
  intro vs ds r
  induction vs generalizing ds with
  |nil=>cases r;rfl
  |cons x xs ih=>cases r with|@cons k' _ _ _ _ h r=>rw[FK,FK,ih r];show(decide _||_)=(decide _||_);rw[dec k']
 have mp:∀{vs:List (List Key×V)} {ds:List (List Int×D)},RepT K F vs ds->RepT K F (vs.map λkv=>if kv.1=k.map CJ then(kv.1,v) else kv) (ds.map λkv=>if kv.1=k then(kv.1,d) else kv):=by
  intro vs ds r
  induction vs generalizing ds with
  |nil=>cases r;exact .nil
  |cons x xs ih =>
   cases r with
   |@cons k' v' d' _ _ h' r =>
    rw[AX,AX]
    by_cases e:k'=k
    .simp only[e,if_true];exact .cons h (ih r)
    .have e':¬k'.map (CJ:Int->Key)=k.map CJ:=λz=>e (wZ z)
     simp only[e,e',if_false];exact .cons h' (ih r)
 have ap:∀{vs:List (List Key×V)} {ds:List (List Int×D)},RepT K F vs ds->RepT K F (vs++[(k.map CJ,v)]) (ds++[(k,d)]):=by
  intro vs ds r
  induction vs generalizing ds with
  |nil=>cases r;exact .cons h .nil
  |cons x xs ih=>cases r with|cons h' r=>exact .cons h' (ih r)
 unfold QE PB;rw[any r];split
 .exact mp r
 .exact ap r
def kZ(x k v:D):Out D:=match x,k with
 |.lst ds,.int i=>match WR ds.length i with
  |some j=>.ok (.lst (ds.set j v))
  |none=>.bad
 |.dk kvs,k=>match dU k with
  |some k=>few kvs.length (.ok (.dk (PB kvs k v)))
  |none=>.bad
 |.dt kvs,.tup ks=>match QR ks with
  |some ns=>few kvs.length (.ok (.dt (PB kvs ns v)))
  |none=>.bad
 |_,_=>.bad
def QQ(i:Nat)(gk gv:G):GS:=λE=>match E[i]? with
 |some (.own _ _)=>(gv E).bind λv=>(gk v.2).bind λk=>match k.2[i]? with
  |some (.own t d)=>(kZ d k.1 v.1).bind λd'=>.ok (.nx (k.2.set i (.own t d')))
  |_=>.bad
 |_=>.bad
theorem bI{gk gv:G}(i:Nat)(hu:X.A.units+64<GQ)(hk:VE X kx gk)(Hy:VE X JO gv)
  (hN:X.N[i]?=AA xn:=by rfl) (hv:ZA X.env.scope xn:=by first|exact BN rfl|exact D9 (BN rfl)|exact D9 (D9 rfl)) (hd:(xn==("__debug__":CK))=AD:=by decide) (LR:(xn==("__classdict__":CK))=AD:=by decide)
  (hs:IH JO (AA (.Subscript (.Name xn q) kx V3)) V6.line X.env=pure AD:=by rfl)
  (mR:ZK [.Subscript (.Name xn q) kx V3] JO V6.line X.env=pure AD:=by rfl) (hw:ZL [.Subscript (.Name xn q) kx V3] JO X.env=pure AI:=by rfl)
  (h1:(HD [.Subscript (.Name xn q) kx V3] X.env).map (·.2)=[KR (.Subscript (.Name xn q) kx V3) X.env]:=by rfl)
  (ha:∀v,KR (.Subscript (.Name xn q) kx V3) X.env v=(do
   let ov <-IW [v] (eval (.Name xn q) X.env)
   let iv <-IW [v,ov] (eval kx X.env)
   IV V3
   IW [v,ov,iv] (setItem ov iv v)
   release [v,ov,iv] []):=by intro _;rfl):VS X (.Assign [.Subscript (.Name xn q) kx V3] JO V6) (QQ i gk gv):=λAE s σ H D' I h=>by
 obtain⟨τ,F,E,r,S,hg,k⟩:=h;unfold QQ at hg;split at hg
 .rename_i t0 d0 e0
  obtain⟨v,e1,hg⟩:=pA3 hg;obtain⟨ky,e2,hg⟩:=pA3 hg;split at hg
  .rename_i t d e3
   obtain⟨d',e4,hg⟩:=pA3 hg;cases hg;obtain⟨ad,a1,_⟩:=S.own i _ _ e0;have pn:=fY (pos:=q) hN hv hd LR
   have fin:∀{F2 H2:Hp} {o:HO},Stp (DT σ E) F H F2 H2 (DT σ ky.2)->Sim X.K X.H₀ τ F2 H2 σ ky.2->OwnAt X.K F2 (DU H2 ad o) ad d'->D'.nx σ (DU H2 ad o):=λ{F2 H2 o} s2 S2 ow=>by
    obtain⟨S3,s3⟩:=S2.setO (o:=o) (d':=d') e3 a1 ow;exact k σ F2 _ (s2.trans s3) S3
   have own:∀{F2 H2:Hp},Sim X.K X.H₀ τ F2 H2 σ ky.2->OwnAt X.K F2 H2 ad d:=λ{F2 H2} S2=>by
    obtain⟨ad',b1,_,b3,_⟩:=S2.own i t d e3;rw[a1] at b1;cases b1;exact b3
   cases d with
   |lst ds =>
    refine Bk Hy (yAS pn hk zS4 ha) mR hw h1 AE s σ H D' I ?_;refine{τ,F,E,v.1,v.2,S,e1,λvv F1 H1 s1 S1 r1=>{_,a1,τ,F1,v.2,ky.1,ky.2,S1,e2,λkk F2 H2 s2 S2 r2=>?_}};obtain⟨vs,o1,o2⟩:=own S2;generalize hy:ky.1=y at e4 r2
    cases y with
    |int ii =>
     have e4:(match WR ds.length ii with|some j=>Out.ok (D.lst (ds.set j v.1))|none=>.bad)=.ok d':=e4;obtain rfl:=r2.vI;split at e4
     .rename_i j ej
      cases e4;exact{ad,vs,ii,j,rfl,rfl,o1,by rw[o2.length];exact ej,fin (s1.trans s2) S2 {_,G3,o2.set j (r1.le s2.le)}}
     .cases e4
    |_=>cases e4
   |dk kvs =>
    refine Cc 'o' pn hk Hy hs AE s σ H D' I ?_;refine{τ,F,E,v.1,v.2,S,e1,λvv F1 H1 s1 S1 r1=>{_,a1,τ,F1,v.2,ky.1,ky.2,S1,e2,λkk F2 H2 s2 S2 r2=>?_}};obtain⟨vs,o1,o2⟩:=own S2;have e4:(match dU ky.1 with|some k=>few kvs.length (Out.ok (D.dk (PB kvs k v.1)))|none=>.bad)=.ok d':=e4;split at e4
    .rename_i k' ek
     obtain⟨hl,e4⟩:=W4 e4;cases e4
     have nV:kk=kV k':=by
      generalize hy:ky.1=y at ek r2;cases y<;>first|cases ek|skip
      .obtain rfl:=r2.vI;rfl
      .obtain rfl:=r2.vS;rfl
     subst nV;exact{ad,_,rfl,DPut.kk o1 (by rw[o2.length];exact bE hl),fin (s1.trans s2) S2 {_,G3,o2.put k' (r1.le s2.le)}}
    .cases e4
   |dt kvs =>
    refine Cc 'o' pn hk Hy hs AE s σ H D' I ?_;refine{τ,F,E,v.1,v.2,S,e1,λvv F1 H1 s1 S1 r1=>{_,a1,τ,F1,v.2,ky.1,ky.2,S1,e2,λkk F2 H2 s2 S2 r2=>?_}};obtain⟨vs,o1,o2⟩:=own S2;generalize hy:ky.1=y at e4 r2
    cases y with
    |tup ks =>
     have e4:(match QR ks with|some ns=>few kvs.length (Out.ok (D.dt (PB kvs ns v.1)))|none=>.bad)=.ok d':=e4;split at e4
     .rename_i ns ek
      obtain⟨hl,e4⟩:=W4 e4;cases e4;have:=rS ek;subst this;generalize j3:ns.map D.int=kk2 at r2
      cases r2 with
      |tup hb rb =>
       subst j3;have:=rb.vint;subst this;refine{ad,_,rfl,DPut.t (k:=ns.map CJ) o1 ?_ (by rw[o2.length];exact bE hl),fin (s1.trans s2) S2 {_,G3,o2.put ns (r1.le s2.le)}};rw[D2];exact S2.sub _ _ hb
      |@tupK a xs hb nb =>
       cases xs with
       |nil=>exact absurd rfl nb
       |cons x xs =>
        cases ns with
        |nil=>cases j3
        |cons n ns=>cases j3
     .cases e4
    |_=>cases e4
   |_=>cases e4
  .cases hg
 .cases hg
end
section
variable{K:AC}{E:Ev}{a b:CU}{ga gb gc ge:G}{gs:List G}
noncomputable def yR:D->String
 |.non=>"NoneType"
 |.bl _=>"bool"
 |.int _=>"int"
 |.str _=>"str"
 |.tup _=>"tuple"
 |.lst _=>"list"
 |.dk _=>"dict"
 |.dt _=>"dict"
def sH(t c:String):Bool:=t==c||(t=="bool"&&c=="int")
def oB(c:String)(g:G):G:=λE=>(g E).bind λp=>.ok (.bl (sH (yR p.1) c),p.2)
theorem zUG{Ex:AH->AT->Prop}{bb:Bool}(I:Inv X AE σ H s){ad:AQ}(h:SqL X.K H ad vs)
  (e:BP X.K (.type "list") cv=AA bb) (hq:∀tk,Q (.bool bb) { s with toks:=tk }):AZ (A3 X.prog X.w) A (call (.builtin "isinstance") [.ref ad,cv]) Q Ex s:=by
 obtain⟨CA,r,pl,z⟩:=I.list h;obtain⟨o,h1,h2,_⟩:=pl.isList;exact DA OY I.kIn {o,h1,h2} e (λz=>nomatch z) hq
theorem Qa{Ex:AH->AT->Prop}{bb:Bool}(I:Inv X AE σ H s){ad:AQ}(h:(∃kvs,Rd H ad (.dK kvs))\/∃kvs,Rd H ad (.dT kvs))
  (e:BP X.K (.type "dict") cv=AA bb) (hq:∀tk,Q (.bool bb) { s with toks:=tk }):AZ (A3 X.prog X.w) A (call (.builtin "isinstance") [.ref ad,cv]) Q Ex s:=by
 rcases h with⟨kvs,h⟩|⟨kvs,h⟩
 .obtain⟨_,_,vs,_,o,es,ep,h1,h2,_⟩:=(show ObjOk X.prog X.w H s.heap ad (.dK kvs) from h.ok I.hok)
  exact DA LA I.kIn {o,h1,h2.1} e (λz=>nomatch z) hq
 .obtain⟨_,_,xs,_,o,es,ep,h1,h2,_⟩:=(show ObjOk X.prog X.w H s.heap ad (.dT kvs) from h.ok I.hok)
  exact DA LA I.kIn {o,h1,h2.1} e (λz=>nomatch z) hq
structure IsC(c:String):Prop where
 k:∀(K:AC) (t:String),t∈["NoneType","bool","int","str","tuple","list","dict"]->BP K (.type t) (.type c)=AA (sH t c)
theorem yE7:IsC "int":={λK t h=>by simp only[BD,CZ,or_false] at h;rcases h with rfl|rfl|rfl|rfl|rfl|rfl|rfl<;>rfl}
theorem zUH:IsC "bool":={λK t h=>by simp only[BD,CZ,or_false] at h;rcases h with rfl|rfl|rfl|rfl|rfl|rfl|rfl<;>rfl}
theorem Pz:IsC "tuple":={λK t h=>by simp only[BD,CZ,or_false] at h;rcases h with rfl|rfl|rfl|rfl|rfl|rfl|rfl<;>rfl}
def yCJ(K:AC)(c:String):List V->Hp->VK->Prop:=λxs H Q=>∃v F d,xs=[v,.ty c]/\Sub F H/\Rep K F v d/\Q (.bl (sH (yR d) c)) H
theorem zO7{cn:String}(ic:IsC cn):CallR X (.builtin "isinstance") (yCJ X.K cn):=by
 intro AE s σ H xs us Q I r h;obtain⟨v,F,d,rfl,sb,rd,q⟩:=h
 cases r with
 |cons r1 r2 =>
  cases r2 with
  |cons r2 r3 =>
   cases r3;cases r2;have fin:∀{bb:Bool} (tk:Nat),sH (yR d) cn=bb->EP X AE σ Q (.bool bb) { s with toks:=tk }:=λtk e=>by subst e;exact{.bl _,H,I.tok tk,rfl,q}
   cases d with
   |non=>obtain rfl:=rd.vN;exact xR I r1 .non (ic.k _ _ 's') λtk=>fin tk rfl
   |bl b=>obtain rfl:=rd.vB;exact xR I r1 (.bl _) (ic.k _ _ 's') λtk=>fin tk rfl
   |int i=>obtain rfl:=rd.vI;exact xR I r1 (.int _) (ic.k _ _ 's') λtk=>fin tk rfl
   |str i=>obtain rfl:=rd.vS;exact xR I r1 (.str _) (ic.k _ _ 's') λtk=>fin tk rfl
   |lst ds =>
    obtain⟨l,ys,rfl,h1,h2⟩:=rd.isRefL;cases r1;exact zUG I (h1.imp sb.rd id) (ic.k _ _ 's') λtk=>fin tk rfl
   |tup ds =>
    obtain⟨l,ys,rfl,h2,h1⟩:=rd.tupSq;cases r1;exact zTK I (h1 F H (.refl _) sb) (ic.k _ _ 's') λtk=>fin tk rfl
   |dk kvs =>
    cases rd with
    |dk h1 _=>cases r1;exact Qa I (.inl {_,sb.rd h1}) (ic.k _ _ 's') λtk=>fin tk rfl
   |dt kvs =>
    cases rd with
    |dt h1 _=>cases r1;exact Qa I (.inr {_,sb.rd h1}) (ic.k _ _ 's') λtk=>fin tk rfl
theorem Az{cn:String}{cx:CK}{cp:fD}(ic:IsC cn)(hm:X.mg "isinstance"=AI)(hmc:X.mg cx=AI)(hvc:GD cx=AA (.type cn))(ha:VE X a ga)(hg:Gl X "isinstance":=by rfl)(hgc:Gl X cx:=by rfl)(hnc:cx≠"__name__":=by decide)(hdc:(cx==("__debug__":CK))=AD:=by decide)
  (mR:AO [.Name cx cp] X.env=(AD,eval (.Name cx cp) X.env)::AO [] X.env:=by rfl)
  (he:AO (a::[.Name cx cp]) X.env=(AD,eval a X.env)::AO [.Name cx cp] X.env:=by rfl) (JT:(DH pos (AO [.Name cx cp] X.env)).any (·.1)=AD:=by rfl) :
  VE X (.Call (.Name "isinstance" p) [a,.Name cx cp] [] pos) (oB cn ga) :=
 (xF (zO7 ic) hg hm (by decide +kernel) (R8 ha (R8 (Nz (v:=.ty cn) hgc hmc hvc rfl hnc hdc) HU mR) he) 'd' 'd' he JT).imp λσ H Q h=>by
  obtain⟨τ,F,E,d,E',S,hg,k⟩:=h;obtain⟨q,e1,hg⟩:=pA3 hg;cases hg;exact{τ,F,E,q.1,q.2,S,e1,λv F1 H1 s1 S1 r1=>{v,F1,q.1,rfl,S1.sub,r1,k _ F1 H1 s1 S1 (.bl _)}}
theorem wP:FE X (.Dict [] [] pos) (gC (.dk [])):=bM.imp λσ H Q h q hq=>by
 obtain⟨τ,F,E,d,E',S,hg,k⟩:=h;cases hg;have n:=pA6 (H':=DU H q (.dK [])) S.sub (Gr.new hq);exact k q F _ n.stp (S.new n) (pAG S.sub hq) hq {_,G3,.nil} (S.fresh hq)
theorem Zw:FE X (.Dict [] [] pos) (gC (.dt [])):=bL.imp λσ H Q h q hq=>by
 obtain⟨τ,F,E,d,E',S,hg,k⟩:=h;cases hg;have n:=pA6 (H':=DU H q (.dT [])) S.sub (Gr.new hq);exact k q F _ n.stp (S.new n) (pAG S.sub hq) hq {_,G3,.nil} (S.fresh hq)
def Ay(gk gv:G):G:=λE=>(gk E).bind λp=>(gv p.2).bind λq=>match dU p.1 with
 |some k=>.ok (.dk [(k,q.1)],q.2)
 |none=>.bad
theorem Ua{y:D}{kk:V}{k':Key}(ek:dU y=AA k')(r2:Rep K F kk y):kk=kV k':=by
 cases y<;>first|cases ek|skip
 .obtain rfl:=r2.vI;rfl
 .obtain rfl:=r2.vS;rfl
theorem Zv{gk gv:G}(hk:VE X kx gk)(hv:VE X vx gv):FE X (.Dict [AA kx] [vx] pos) (Ay gk gv):=(zXC (zS9 hk hv zXB) rfl rfl 's' (by show 1<=15;decide)).imp λσ H Q h q hq=>by
 obtain⟨τ,F,E,d,E',S,hg,k⟩:=h;obtain⟨p,e1,hg⟩:=pA3 hg;obtain⟨r,e2,hg⟩:=pA3 hg;split at hg
 .rename_i k' ek
  cases hg;have n:=pA6 (H':=DU H q (.dK [])) S.sub (Gr.new hq);have S0:=S.new n
  have keep:∀{Ea Eb:Ev} {Fa Ha Fb Hb:Hp},Stp (DT σ Ea) Fa Ha Fb Hb (DT σ Eb)->Fa q=AI->¬DT σ Ea q->Ha q=AA (.dK [])->Fb q=AI/\¬DT σ Eb q/\Hb q=AA (.dK []):=by
   intro Ea Eb Fa Ha Fb Hb st a1 a2 a3;refine{?_,λz=>(st.own q z).elim a2 λz=>by (rw[a3] at z;cases z),st.keep q _ a3 trivial a1 a2}
   cases z:Fb q with
   |none=>rfl
   |some u =>
    rcases st.new q u z with z|z|z
    .exact absurd a1 z
    .exact absurd trivial (z _ a3)
    .exact absurd z a2
  refine{τ,F,E,p.1,p.2,S0,e1,λkk F1 H1 s1 S1 r1=>{τ,F1,p.2,r.1,r.2,S1,e2,λvv F2 H2 s2 S2 r2=>?_}};obtain⟨f1,m1,h1⟩:=keep s1 (pAG S.sub hq) (S.fresh hq) G3;obtain⟨f2,m2,h2⟩:=keep s2 f1 m1 h1;have:=Ua ek r1;subst this;refine{h2,[(k',vv)],rfl,by show 1<=15;decide,?_}
  have st:Stp (DT σ E) F H F2 (DU H2 q (.dK [(k',vv)])) (DT σ r.2):=by
   have Z7:=((n.stp (ow:=DT σ E)).trans s1).trans s2;refine{λa u e hw nf ho=>?_,λa e=>?_,Z7.le,Z7.new,Z7.own}
   .rw[EL (T4 e hq)];exact Z7.keep a u e hw nf ho
   .by_cases ha:a=q
    .rw[ha];exact hq
    .rw[EL ha] at e;exact Z7.dom a e
  exact k q F2 _ st (S2.off f2 m2) f2 hq {_,G3,.cons r2 .nil} m2
 .cases hg
def aZ(gd gk gx:G):G:=λE=>(gd E).bind λp=>(gk p.2).bind λq=>(gx q.2).bind λr=>match fT p.1 q.1 with
 |some o=>.ok (o.getD r.1,r.2)
 |none=>.bad
theorem Tz{gd gk gx:G}{o dx:CU}(hu:X.A.units+64<GQ)(ho:VE X o gd)(hk:VE X kx gk)(hx:VE X dx gx)(m:M2 X o "get" ME kx dx GO:=by exact{rfl,rfl,rfl,rfl}):VE X (.Call (.Attribute o "get" ME) [kx,dx] [] GO) (aZ gd gk gx):=(zTA 'l' ho hk hx m).imp λσ H Q h=>by
 obtain⟨τ,F,E,d,E',S,hg,k⟩:=h;obtain⟨p,e1,hg⟩:=pA3 hg;obtain⟨q,e2,hg⟩:=pA3 hg;obtain⟨r,e3,hg⟩:=pA3 hg;split at hg
 .rename_i od eo
  cases hg;refine{τ,F,E,p.1,p.2,S,e1,λv F1 H1 s1 S1 r1=>?_}
  have isd:∃ad,v=.ref ad/\Fp H1 ad:=by
   generalize hy:p.1=y at eo r1
   cases y with
   |dk kvs=>cases r1 with|dk h1 _=>exact{_,rfl,.inl {_,S1.sub.rd h1}}
   |dt kvs=>cases r1 with|dt h1 _=>exact{_,rfl,.inr {_,S1.sub.rd h1}}
   |_=>cases eo
  obtain⟨ad,rfl,hd⟩:=isd;refine{ad,rfl,hd,τ,F1,p.2,q.1,q.2,S1,e2,λkk F2 H2 s2 S2 r2=>{τ,F2,q.2,r.1,r.2,S2,e3,λz F3 H3 s3 S3 r3=>?_}};obtain⟨a',ov,ea,g,ro⟩:=pAI S3.sub ((r1.le s2.le).le s3.le) (r2.le s3.le) eo;cases ea;refine{ov,g,k _ F3 H3 ((s1.trans s2).trans s3) S3 ?_}
  cases od with
  |none=>have:=ro.none_of;subst this;exact r3
  |some d0=>obtain⟨w,rfl,KH⟩:=ro.some_of;exact KH
 .cases hg
def So:D->Out Bool
 |.non=>.ok AD
 |.bl b=>.ok b
 |.int i=>.ok (i != 0)
 |.lst ds=>.ok (!ds.isEmpty)
 |.tup ds=>.ok (!ds.isEmpty)
 |.str z=>few z.length (.ok ((z.length:Int) != 0))
 |_=>.bad
def YX(g:G):Ev->Out (Bool×Ev):=λE=>(g E).bind λp=>(So p.1).bind λb=>.ok (b,p.2)
theorem Reps.isEmpty{vs:List V}{ds:List D}(r:Reps K F vs ds):vs.isEmpty=ds.isEmpty:=by (cases r)<;>rfl
theorem rP(ha:VE X a ga)(he:∀RB,UX a X.env RB=(do let v <-RB;IV a.pos;IW [v] (truthy v)):=by intro _;rfl):VT X a (YX ga):=(zSY ha he).imp λσ H Q h=>by
 obtain⟨τ,F,E,d,E',S,hg,k⟩:=h;obtain⟨p,e1,hg⟩:=pA3 hg;obtain⟨b,e2,hg⟩:=pA3 hg;cases hg;refine{τ,F,E,p.1,p.2,S,e1,λv F1 H1 s1 S1 r1=>{d,?_,k F1 H1 s1 S1}};generalize hy:p.1=y at e2 r1
 cases y with
 |non=>obtain rfl:=r1.vN;cases e2;rfl
 |bl b=>obtain rfl:=r1.vB;cases e2;rfl
 |int i=>obtain rfl:=r1.vI;cases e2;rfl
 |str z =>
  obtain rfl:=r1.vS;obtain⟨hl,e2⟩:=W4 e2;cases e2;exact{bO hl,rfl}
 |lst ds =>
  cases e2;obtain⟨l,ys,rfl,h1,h2⟩:=r1.isRefL;exact .inl {ys,h1.imp S1.sub.rd id,by rw[h2.isEmpty]}
 |tup ds =>
  cases e2;obtain⟨l,ys,rfl,h2,h1⟩:=r1.tupSq;exact .inr (.inl {ys,h1 F1 H1 (.refl _) S1.sub,by rw[h2.isEmpty]})
 |_=>cases e2
noncomputable def R1(lo:Int)(n:Nat):List D:=(C9 n).map λi:Nat=>D.int (lo+(i:Int))
theorem Py(lo:Int)(n:Nat):Walks K (pP lo n) F (R1 lo n):=λi F1 H1 l s=>by
 have hl:(R1 lo n).length=n:=by simp[R1]
 refine{λhi=>by rw[hl] at hi;exact hi,λhi=>by rw[hl] at hi;rw[hi];exact AM _,λx H' d e ⟨e1,y⟩=>?_};subst e1 y;unfold R1 at e;rw[AU] at e
 cases q:(C9 n)[i]? with
 |none=>rw[q] at e;cases e
 |some j =>
  rw[q] at e
  have:j=i:=by
   obtain⟨h1,h2⟩:=AR.mp q;rw[List.getElem_range] at h2;exact h2.symm
  subst this;cases e;exact{F1,.refl s,.int _}
def lM(i:Int):Prop:=-1000000<=i/\i<=1000000
instance (i:Int):Decidable (lM i):=inferInstanceAs (Decidable (_/\_))
def bC(g:G):GI:=λE=>(g E).bind λp=>match p.1 with|.int j=>guard (lM j) (.ok (R1 0 j.toNat,p.2))|_=>.bad
def qH(g g':G):GI:=λE=>(g E).bind λp=>(g' p.2).bind λq=>match p.1,q.1 with|.int i,.int j=>guard (lM i/\lM j) (.ok (R1 i (j-i).toNat,q.2))|_,_=>.bad
theorem xO(hm:X.mg "range"=AI)(ha:VE X a ga)(hg:Gl X "range":=by rfl)(hs:AO [a] X.env=[(AD,eval a X.env)]:=by rfl)(YE:AO [a] X.env=(AD,eval a X.env)::AO [] X.env:=by rfl):VI X tg (.Call (.Name "range" p) [a] [] pos) (bC ga):=(Qu hg hm (R8 ha HU YE) hs).imp λσ H Q h=>by
 obtain⟨τ,F,E,ds,E',S,hg,k⟩:=h;obtain⟨q,e1,hg⟩:=pA3 hg;refine{τ,F,E,q.1,q.2,S,e1,λv F1 H1 s1 S1 r1=>?_};split at hg
 .rename_i j ej
  obtain⟨⟨g1,g2⟩,hg⟩:=eD hg;cases hg;rw[ej] at r1;obtain rfl:=r1.vI;exact{j,rfl,by lia,by lia,k _ F1 H1 s1 S1 (Py 0 _)}
 .cases hg
theorem zRO(hm:X.mg "range"=AI)(ha:VE X a ga)(hb:VE X b gb)(hg:Gl X "range":=by rfl)(hs:AO [a,b] X.env=[(AD,eval a X.env),(AD,eval b X.env)]:=by rfl)(MR:AO [b] X.env=[(AD,eval b X.env)]:=by rfl)
  (YE:AO [a,b] X.env=(AD,eval a X.env)::AO [b] X.env:=by rfl) (mR:AO [b] X.env=(AD,eval b X.env)::AO [] X.env:=by rfl):VI X tg (.Call (.Name "range" p) [a,b] [] pos) (qH ga gb):=(zPV hg hm (R8 ha (R8 hb HU mR) YE) hs MR).imp λσ H Q h=>by
 obtain⟨τ,F,E,ds,E',S,hg,k⟩:=h;obtain⟨q,e1,hg⟩:=pA3 hg;obtain⟨r,e2,hg⟩:=pA3 hg;refine{τ,F,E,q.1,q.2,S,e1,λv F1 H1 s1 S1 r1=>{τ,F1,q.2,r.1,r.2,S1,e2,λu F2 H2 s2 S2 r2=>?_}};split at hg
 .rename_i i j ei ej
  obtain⟨⟨⟨g1,g2⟩,g3,g4⟩,hg⟩:=eD hg;cases hg;rw[ei] at r1;rw[ej] at r2;obtain rfl:=r1.vI;obtain rfl:=r2.vI;exact{i,j,rfl,{by lia,by lia,by lia,by lia},k _ F2 H2 (s1.trans s2) S2 (Py i _)}
 .cases hg
noncomputable def iU(ds:List D):List D:=ds.zipIdx.map λp=>.tup [.int (p.2:Int),p.1]
theorem zUI{ds:List D}{d:D}(e:(iU ds)[i]?=AA d):∃d0,ds[i]?=AA d0/\d=.tup [.int (i:Int),d0]:=by
 unfold iU at e;rw[AU,List.getElem?_zipIdx] at e
 cases q:ds[i]? with
 |none=>rw[q] at e;cases e
 |some d0=>rw[q] at e;cases e;exact{d0,rfl,by simp}
def Ax(g:G):GI:=λE=>(g E).bind λp=>match p.1 with
 |.lst ds=>.ok (iU ds,p.2)
 |_=>.bad
theorem zUJ(hm:X.mg "enumerate"=AI)(ha:VE X a ga)(hg:Gl X "enumerate":=by rfl)(hs:AO [a] X.env=[(AD,eval a X.env)]:=by rfl)(YE:AO [a] X.env=(AD,eval a X.env)::AO [] X.env:=by rfl):VI X tg (.Call (.Name "enumerate" p) [a] [] pos) (Ax ga):=λAE s σ H R I h=>by
 obtain⟨τ,F,E,ds,E',S,u0,k⟩:=h;obtain⟨q,e1,u0⟩:=pA3 u0;have hl:∀kF:List D,(iU kF).length=kF.length:=λkF=>by simp[iU]
 split at u0
 .rename_i kF ed
  cases u0;refine zT3 hg hm (R8 ha HU YE) hs AE s σ H R I {τ,F,E,q.1,q.2,S,e1,λv F1 H1 s1 S1 r1=>?_};rw[ed] at r1;obtain⟨l,ys,rfl,h1,h2⟩:=r1.isRefL;refine{l,rfl,{ys,h1.imp S1.sub.rd id},k _ F1 H1 s1 S1 λi F2 H2 l2 s2=>?_};have sq:SqL X.K H2 l ys:=h1.imp (λh=>s2.rd (l2.rd h)) id;refine{λhi=>?_,λhi=>{ys,sq,by rw[h2.length,hi,hl];exact AM _},λx H' d e ⟨pp,xx,ex,hp,eH,y⟩=>?_}
  .have hv:i<ys.length:=by rw[h2.length];rw[hl] at hi;exact hi
   exact{ys,ys[i],sq,by simp[hv]}
  .subst ex eH
   obtain⟨d0,z1,z2⟩:=zUI e;subst z2;obtain⟨w,w1,w2⟩:=h2.get z1;rw[y ys sq] at w1;cases w1;have n:=New.laid (o:=.tup [.int i,xx]) s2 hp;exact{_,n,.tup G3 (.cons (.int _) (.cons ((w2.le l2).le n.1.le) .nil))}
 .cases u0
def kY(ds es:List D):List D:=(ds.zip es).map λp=>.tup [p.1,p.2]
theorem Zu{ds es:List D}{d:D}(e:(kY ds es)[i]?=AA d):∃d0 d1,ds[i]?=AA d0/\es[i]?=AA d1/\d=.tup [d0,d1]:=by
 unfold kY at e;rw[AU] at e
 cases q:(ds.zip es)[i]? with
 |none=>rw[q] at e;cases e
 |some z =>
  rw[q] at e;cases e;obtain⟨h1,h2⟩:=U1.mp q;exact{_,_,h1,h2,rfl}
def Ep(g g':G):GI:=λE=>(g E).bind λp=>(g' p.2).bind λq=>match p.1,q.1 with
 |.tup ds,.tup es=>.ok (kY ds es,q.2)
 |_,_=>.bad
theorem yCM(hm:X.mg "zip"=AI)(ha:VE X a ga)(hb:VE X b gb)(hg:Gl X "zip":=by rfl)(hs:AO [a,b] X.env=[(AD,eval a X.env),(AD,eval b X.env)]:=by rfl)(MR:AO [b] X.env=[(AD,eval b X.env)]:=by rfl)
  (YE:AO [a,b] X.env=(AD,eval a X.env)::AO [b] X.env:=by rfl) (mR:AO [b] X.env=(AD,eval b X.env)::AO [] X.env:=by rfl):VI X tg (.Call (.Name "zip" p) [a,b] [] pos) (Ep ga gb):=(yBL hg hm (R8 ha (R8 hb HU mR) YE) hs MR).imp λσ H Q h=>by
 obtain⟨τ,F,E,ds,E',S,hg,k⟩:=h;obtain⟨q,e1,hg⟩:=pA3 hg;obtain⟨r,e2,hg⟩:=pA3 hg;refine{τ,F,E,q.1,q.2,S,e1,λv F1 H1 s1 S1 r1=>{τ,F1,q.2,r.1,r.2,S1,e2,λu F2 H2 s2 S2 r2=>?_}};split at hg
 .rename_i kF Xv ei ej
  cases hg;rw[ei] at r1;rw[ej] at r2;obtain⟨l,ys,rfl,h2,h1⟩:=(r1.le s2.le).tupSq;obtain⟨m,zs,rfl,h4,h3⟩:=r2.tupSq;refine{l,m,rfl,{ys,h1 F2 H2 (.refl _) S2.sub},{zs,h3 F2 H2 (.refl _) S2.sub},k _ F2 H2 (s1.trans s2) S2 λi F3 H3 l3 s3=>?_};have sq:=h1 F3 H3 l3 s3;have Ge:=h3 F3 H3 l3 s3;have hl:(kY kF Xv).length=min kF.length Xv.length:=by simp[kY]
  refine{λhi=>?_,λhi=>{ys,zs,sq,Ge,?_},λx H' d e ⟨pp,xx,yy,ex,hp,eH,y1,y2⟩=>?_}
  .rw[hl] at hi
   have hv:i<ys.length:=by rw[h2.length];lia
   have hw:i<zs.length:=by rw[h4.length];lia
   exact{ys,zs,ys[i],zs[i],sq,Ge,by simp[hv],by simp[hw]}
  .rw[hl] at hi
   rw[h2.length,h4.length];lia
  .subst ex eH
   obtain⟨d0,d1,z1,z2,z3⟩:=Zu e;subst z3;obtain⟨w,w1,w2⟩:=h2.get z1;obtain⟨w',Vq,w2'⟩:=h4.get z2;rw[y1 ys sq] at w1;cases w1;rw[y2 zs Ge] at Vq;cases Vq;have n:=New.laid (o:=.tup [xx,yy]) s3 hp;exact{_,n,.tup G3 (.cons ((w2.le l3).le n.1.le) (.cons ((w2'.le l3).le n.1.le) .nil))}
 .cases hg
def Ff(g:G):G:=λE=>(g E).bind λp=>match p.1 with|.int j=>guard (0<=j/\j<=1000) (.ok (.lst (R1 0 j.toNat),p.2))|_=>.bad
theorem zMX{rp gU:fD}(hc:X.calm=AL)(hm:X.mg "range"=AI)(Iz:X.mg "list"=AI)(ha:VE X a ga)(hg:Gl X "range":=by rfl)(hgl:Gl X "list":=by rfl)
  (YE:AO [a] X.env=(AD,eval a X.env)::AO [] X.env:=by rfl) (Ip:(DH gU (AO [] X.env)).any (·.1)=AD:=by rfl)
  (he:AO [.Call (.Name "range" rp) [a] [] gU] X.env=(AD,eval (.Call (.Name "range" rp) [a] [] gU) X.env)::AO [] X.env:=by rfl) (JT:(DH pos (AO [] X.env)).any (·.1)=AD:=by rfl) :
  FE X (.Call (.Name "list" p) [.Call (.Name "range" rp) [a] [] gU] [] pos) (Ff ga) :=
 (xQ (zIS hc) hgl Iz (by decide +kernel) (R8 (xQ zTH hg hm (by decide +kernel) (R8 ha HU YE) 'd' 'd' YE Ip) HU he) 'd' 'd' he JT).imp λσ H Q h=>by
  obtain⟨τ,F,E,d,E',S,hg,k⟩:=h;obtain⟨q,e1,hg⟩:=pA3 hg;refine{τ,F,E,q.1,q.2,S,e1,λv F1 H1 s1 S1 r1=>?_};split at hg
  .rename_i j ej
   obtain⟨⟨g1,g2⟩,hg⟩:=eD hg;cases hg;rw[ej] at r1;obtain rfl:=r1.vI;refine{j,rfl,λpp hp=>{pp,j.toNat,rfl,by rw[G3,aV g1],by lia,λl hl=>?_}};have n:=pA6 (H':=DU (DU H1 pp (.rng 0 j)) l (.lst ((C9 j.toNat).map λi:Nat=>V.int (i:Int)))) S1.sub ((Gr.new hp).trans (Gr.new hl));have cG:H1 l=AI:=(Gr.new hp).dom l hl;refine k l F1 _ (s1.trans n.stp) (S1.new n) (pAG S1.sub cG) (s1.dom l cG) {_,G3,?_} (S1.fresh cG);have:R1 0 j.toNat=((C9 j.toNat).map λi:Nat=>(i:Int)).map D.int:=by unfold R1;rw[D2];congr 1;funext i;simp
   rw[this,show((C9 j.toNat).map λi:Nat=>V.int (i:Int))=((C9 j.toNat).map λi:Nat=>(i:Int)).map V.int by rw[D2];rfl];exact Reps.ints _
  .cases hg
end
section
variable{K:AC}{E:Ev}{a b:CU}{g ga gb gc ge:G}{gs:List G}
def D.kids:D->Bool
 |.lst ds=>pA9 ds
 |.dk kvs=>pA9 (kvs.map (·.2))
 |.dt kvs=>pA9 (kvs.map (·.2))
 |_=>AD
def Ag(is:List Nat)(g:G):G:=λE=>(g (NY is E)).bind λp=>if p.1.kids=AL then .ok (p.1,E) else .bad
theorem RepK.flat2(ht:∀a vs,F a=AA (.tup vs)->F2 a=AA (.tup vs)){vs:List (Key×V)}{ds:List (Key×D)}(r:RepK K F vs ds):pA9 (ds.map (·.2))=AL->RepK K F2 vs ds:=(pAB ht).2.2.1 r
theorem RepT.flat2(ht:∀a vs,F a=AA (.tup vs)->F2 a=AA (.tup vs)){vs:List (List Key×V)}{ds:List (List Int×D)}(r:RepT K F vs ds):pA9 (ds.map (·.2))=AL->RepT K F2 vs ds:=(pAB ht).2.2.2 r
theorem yE9(is:List Nat)(h:FE X e g):FE X e (Ag is g):=by
 rintro AE s σ H Q I ⟨τ,F,E,d,E',S,hg,k⟩;obtain⟨p,eg,hg⟩:=pA3 hg;split at hg
 .rename_i hl
  cases hg;obtain⟨S1,no⟩:=S.lend is;refine GN (h AE s σ H (λv H'=>∃ad F' XB,v=.ref ad/\Stp (λ_=>False) (W2 σ E is F H) H F' H' XB/\Sub F' H'/\F' ad=AI/\H ad=AI/\OwnAt X.K F' H' ad p.1) I {τ,_,_,p.1,p.2,S1,eg,λad F' H' st S' n1 n2 ow _=>{ad,F',_,rfl,st.toF no,S'.sub,n1,n2,ow}}) λu s' q0=>?_;obtain⟨v,H',I',rv,ad,F',XB,ev,st,sb,n1,n2,ow⟩:=q0;subst ev;obtain⟨t1,t2,t3,h1,_⟩:=S.back is st sb;have ht:∀a vs,F' a=AA (.tup vs)->VU σ E is F' a=AA (.tup vs):=λa vs e=>h1 a _ e λo w ho=>{λz=>by subst z;exact ho,λz=>HO.noConfusion z}
  have nl:¬Lent σ E is ad:=λz=>by
   obtain⟨_,⟨o,ho,_⟩,_⟩:=S.owned z.ow;rw[n2] at ho;cases ho
  have hh:ZX σ E is H H' ad=H' ad:=by unfold ZX;rw[if_neg nl]
  refine{.ref ad,_,I'.thaw t1,rv,k ad _ _ t2 t3 (by unfold VU;rw[if_neg nl];exact n1) n2 ?_ (S.fresh n2)};generalize hy:p.1=y at ow hl
  cases y with
  |lst ds=>obtain⟨vs,q,r⟩:=ow;exact{vs,hh.trans q,Reps.flat2 ht r hl}
  |dk ds=>obtain⟨vs,q,r⟩:=ow;exact{vs,hh.trans q,RepK.flat2 ht r hl}
  |dt ds=>obtain⟨vs,q,r⟩:=ow;exact{vs,hh.trans q,RepT.flat2 ht r hl}
  |_=>exact ow.elim
 .cases hg
def oD(m:Mr)(gf:G)(gs:List G):G:=λE=>(gf E).bind λf=>(NL gs f.2).bind λp=>(m (.own AL f.1::p.1.map Sl.val)).bind λq=>.ok (q.2.1,p.2)
theorem zUK{gf:G}(hn:gs.length+1=np){Q:VK}(h:tV K H₀ (oD m gf gs) σ H Q):qO (NO K np m) [] E0 (qM (tF K H₀ gf) (eG K H₀ gs)) σ H Q:=by
 obtain⟨τ,F,E,d,E',S,hg,k⟩:=h;obtain⟨f,e0,hg⟩:=pA3 hg;obtain⟨p,e1,hg⟩:=pA3 hg;obtain⟨q,e2,hg⟩:=pA3 hg;cases hg;refine{τ,F,E,f.1,f.2,S,e0,λad F0 H0 s0 S0 n1 n2 ow no=>{τ,F0,f.2,p.1,p.2,S0,e1,λvs F1 H1 s1 S1 r1=>?_}};obtain⟨o,ho,hw⟩:=ow.ho;have k1:H1 ad=AA o:=s1.keep ad o ho hw n1 no;have f1:F1 ad=AI:=s1.nF n1 ho hw no;have TC:OwnAt K F1 H1 ad f.1:=ow.mono s1.le (k1.trans ho.symm);have no1:¬DT σ p.2 ad:=λz=>(s1.own ad z).elim no λz=>by (rw[ho] at z;cases z)
 rw[DC];refine{by rw[BC,r1.length,jH e1,hn],ad,F1,_,q.1,q.2.1,q.2.2,pAF S1.sub r1 f1 TC,Eg,e2,λv F2 H2 s2 S2 rr=>?_};have s2:Stp (DT ((V.ref ad::vs).map AA) (.own AL f.1::p.1.map Sl.val)) F1 H1 F2 H2 (DT ((V.ref ad::vs).map AA) (.own AL q.2.2::p.1.map Sl.val)):=s2;have eR:∀b,DT σ p.2 b->b≠ad:=λb z y=>no1 (by rw[<-y];exact z)
 have Sm:Sim K H₀ τ F2 H2 σ p.2:=by
  refine{S2.sub,S1.len,λj d' z=>?_,λj t' d' z=>?_,S1.inj}
  .obtain⟨v,h1,h2⟩:=S1.val j d' z
   exact{v,h1,h2.le s2.le}
  .obtain⟨c,c1,c2,c3,c4⟩:=S1.own j t' d' z
   obtain⟨oc,g7,Wu⟩:=c3.ho;have vJ:c≠ad:=eR c {j,t',d',z,c1};exact{c,c1,s2.nF c2 g7 Wu λy=>vJ (jL y),c3.mono s2.le ((s2.keep c oc g7 Wu c2 λy=>vJ (jL y)).trans g7.symm),c4}
 have jQ:=s0.trans s1
 have st:Stp (DT σ E) F H F2 H2 (DT σ p.2):=by
  refine{λb u z Hx n hb=>?_,λb z=>jQ.dom b (s2.dom b z),jQ.le.trans s2.le,λb u z=>?_,jQ.own}
  .have hb1:=jQ.keep b u z Hx n hb
   exact s2.keep b u hb1 Hx (jQ.nF n z Hx hb) λy=>by rw[jL y,n2] at z;cases z
  .rcases s2.new b u z with y|y|y
   .cases w:F1 b with
    |none=>exact absurd w y
    |some u'=>exact jQ.new b u' w
   .exact jQ.nw y
   .rw[jL y];exact .inr (.inl (.none n2))
 cases hb:q.1 with
 |false =>
  rw[hb] at rr;exact k v F2 H2 st Sm rr
 |true =>
  rw[hb] at rr;obtain⟨c,rfl,h1,h2,h3,h4⟩:=rr;obtain⟨o',eQ,_⟩:=h2.ho;have nc:∀b,DT σ p.2 b->b≠c:=λb z y=>by subst y;exact S1.fresh h3 z
  refine k _ (DU F2 c o') H2 {st.keep,st.dom,st.le.trans (.of_gr (Gr.new h1)),λb u z=>?_,st.own} {λb u z=>?_,Sm.len,λj d' z=>?_,λj t' d' z=>?_,Sm.inj} (h2.rep h1 eQ)
  .by_cases hb:b=c
   .subst hb;exact .inr (.inl (.none (jQ.dom b h3)))
   .rw[EL hb] at z;exact st.new b u z
  .by_cases hb:b=c
   .subst hb;rw[G3] at z;rw[eQ];exact z
   .rw[EL hb] at z;exact Sm.sub b u z
  .obtain⟨v,y1,y2⟩:=Sm.val j d' z
   exact{v,y1,y2.le (.of_gr (Gr.new h1))}
  .obtain⟨b,y1,y2,y3,y4⟩:=Sm.own j t' d' z
   exact{b,y1,by rw[EL (nc b {j,t',d',z,y1})];exact y2,y3.mono (.of_gr (Gr.new h1)) rfl,y4}
theorem Zt{gf:G}(C:N3 X.prog X.w X.K X.mg X.base x k np m)(hr:Room k X.A)(hf:FE X e gf)(ha:VA X es gs)(hn:gs.length+1=np:=by rfl)(hg:Gl X x:=by rfl)(RL:(x==("__debug__":CK))=AD:=by decide)
  (he:AO (e::es) X.env=(AD,eval e X.env)::AO es X.env:=by rfl) (JT:(DH pos (AO es X.env)).any (·.1)=AD:=by rfl):VE X (.Call (.Name x p) (e::es) [] pos) (oD m gf gs):=by
 obtain⟨f,fd,ps,Fn,hm,hk,hb⟩:=C;exact(rM Fn hr hg hm hk hb .nil wA (R8 hf ha he) RL he JT).imp λ_ _ _ h=>zUK hn h
theorem zMY{iter:CU}{t:Tg}{ge:G}(n:CompNm X scope cl own CP js)(hc:X.calm=AL)(hi:VI X tg iter gi)
  (hg:∀C s H fp,VG (L7 X scope cl (own++CP) C s H fp) tg t) (ht:∀C s H fp,sK (L7 X scope cl (own++CP) C s H fp) ifs tt) (he:∀C s H fp,VE (L7 X scope cl (own++CP) C s H fp) NR ge)
  (hN:X.N.Nodup) (hx:X.N[i]?=AA x) (hl:X.env.scope.names.lookup x=AA .local)
  (mO:IH (.ListComp NR [{tg,iter,ifs,0}] scope pos) (AA (.Name x NP)) V6.line X.env=pure AL)
  (JI:t.ltn own.length=AL:=by rfl) (hj:js.Nodup:=by decide) (hs:∀x,C6 iter X.env x=pure x:=by intro _;rfl):VS X (.Assign [.Name x NP] (.ListComp NR [{tg,iter,ifs,0}] scope pos) V6) (J4 (.nm i) (W3 gi own.length js t tt ge)) :=
 λAE s σ H D' I h=>by
  refine Rl (g:=λH=>tG X.K H t) (tt:=λH=>tT X.K H tt) (te:=λH=>tV X.K H ge) n hc hi hg ht he hN hx hl mO hs AE s σ H D' I ?_;refine Nt JI hj (pA7 ?_);obtain⟨τ,F,E,r,S,hg,k⟩:=h;obtain⟨p,e1,hg⟩:=pA3 hg;obtain⟨E1,e2,hg⟩:=pA3 hg;cases hg;rw[V1] at e2;cases e2;refine{τ,F,E,p.1,p.2,S,e1,λv F1 H1 s1 S1 r1=>?_};obtain⟨S2,h2⟩:=S1.put (i:=i) r1;exact k _ F1 H1 (s1.weak h2) S2
theorem Fun.cal{ps:List CK}{st:E6}(Fn:Fun K x x st f fd)(h:FnOk P w K mg base LO k f fd ps (NO K np m))(hm:mg x=AA (.ref f))(hb:Binds K fd ps []):N3 P w K mg base x k np m:={f,fd,ps,h,hm,Fn.kp,hb}
end
theorem kX{Pr:α->Prop}:∀p∈([]:List α),Pr p:=λp hp=>nomatch hp
theorem eJ{Pr:α->Prop}{a:α}(h:Pr a):∀p∈[a],Pr p:=λp hp=>by rw[A5.mp hp];exact h
theorem Fh{Pr:α->Prop}{a:α}{l:List α}(h:Pr a)(t:∀p∈l,Pr p):∀p∈a::l,Pr p:=λp hp=>by
 rcases BD.mp hp with rfl|hp
 .exact h
 .exact t p hp
theorem zA{Pr:α->Prop}{a b:α}(h1:Pr a)(h2:Pr b):∀p∈[a,b],Pr p:=Fh h1 (eJ h2)
theorem yZ{Pr:α->Prop}{a b c:α}(h1:Pr a)(h2:Pr b)(h3:Pr c):∀p∈[a,b,c],Pr p:=Fh h1 (zA h2 h3)
theorem Fi{Pr:α->Prop}{a b c d:α}(h1:Pr a)(h2:Pr b)(h3:Pr c)(h4:Pr d):∀p∈[a,b,c,d],Pr p:=Fh h1 (yZ h2 h3 h4)
section
variable{a b:CU}{ga gb:G}
theorem yHL{t:Ev->Out (Bool×Ev)}(hc:VT X c t)(ha:FE X a ga)(hb:FE X b gb):FE X (.IfExp c a b pos) (sJ t ga gb):=(Pc hc ha hb).imp λσ H Q q=>by
 obtain⟨τ,F,E,d,E',S,hg,k⟩:=q;obtain⟨p,ea,hg⟩:=pA3 hg;refine{τ,F,E,p.1,p.2,S,ea,λF1 H1 st1 S1=>?_}
 by_cases hp:p.1=AL
 .rw[if_pos hp] at hg ⊢
  exact{τ,F1,p.2,d,E',S1,hg,λad F2 H2 st2 S2 n1 n2 ow no=>k ad F2 H2 (st1.trans st2) S2 n1 (st1.dom ad n2) ow no}
 .rw[if_neg hp] at hg ⊢
  exact{τ,F1,p.2,d,E',S1,hg,λad F2 H2 st2 S2 n1 n2 ow no=>k ad F2 H2 (st1.trans st2) S2 n1 (st1.dom ad n2) ow no}
end
section
variable{K:AC}{ge:G}
theorem pAK{o:HL}{u:HO}(s:Sub F H)(h:F a=AA u)(hd:qK u):New F H (DU F a (.frz o u)) (DU H a (.frz o u)):=by
 have hh:=s a u h;refine{{λb v e _ n _=>?_,λb e=>?_,λb v e=>?_,λb v e=>?_,λ_ z=>z.elim},λb v e=>?_}
 .rw[EL (λz=>by rw[z,h] at n;cases n)];exact e
 .by_cases hb:b=a
  .rw[hb,G3] at e;cases e
  .rw[EL hb] at e;exact e
 .by_cases hb:b=a
  .subst hb;rw[h] at e;cases e;exact .inr (.inl {hd,o,G3})
  .exact .inl (by rw[EL hb];exact e)
 .by_cases hb:b=a
  .subst hb;exact .inl (by rw[h];exact nofun)
  .rw[EL hb] at e;exact .inl (by rw[e];exact nofun)
 .by_cases hb:b=a
  .subst hb;rw[G3] at e ⊢;exact e
  .rw[EL hb] at e ⊢;exact s b v e
theorem New.tup{p:AQ}{vs:List V}(s:Sub F H)(h:H p=AA (.tup vs)):∃F',New F H F' H/\F' p=AA (.tup vs):=by
 cases hf:F p with
 |some u =>
  have:=s p u hf;rw[h] at this;cases this;exact{F,.refl s,hf}
 |none =>
  refine{DU F p (.tup vs),{{λ_ _ e _ _ _=>e,λ_ e=>e,.of_gr (Gr.new hf),λb v e=>?_,λ_ z=>z.elim},λb v e=>?_},G3}
  .by_cases hb:b=p
   .subst hb
    refine .inr (.inl λo e' hw=>?_);rw[h] at e';cases e';exact hw
   .rw[EL hb] at e;exact .inl (by rw[e];exact nofun)
  .by_cases hb:b=p
   .subst hb;rw[G3] at e;rw[h];exact e
   .rw[EL hb] at e;exact s b v e
def rY(k:List Int):D:=.tup (k.map D.int)
theorem RepT.keysAt{vs:List (List Key×V)}{ds:List (List Int×D)}(r:RepT K F vs ds):vs.map (·.1)=ds.map λkv=>kv.1.map CJ :=
 r.rec1 (T:=λvs ds=>vs.map (·.1)=ds.map λkv=>kv.1.map CJ) rfl λ_ _ ih=>congrArg (_::·) ih
theorem RepK.keysAt{vs:List (Key×V)}{ds:List (Key×D)}(r:RepK K F vs ds):vs.map (·.1)=ds.map (·.1) :=
 r.rec1 (R:=λvs ds=>vs.map (·.1)=ds.map (·.1)) rfl λ_ _ ih=>congrArg (_::·) ih
theorem Ru{o:HL}{kvs:List (Key×V)}{ds:List (Key×D)}(h:F a=AA (.frz o (.dK kvs)))(r:RepK K F kvs ds):Walks K (zF a o kvs) F (ds.map λkv=>iO kv.1):=λi F1 H1 l s=>by
 have hf:F1 a=AA (.frz o (.dK kvs)):=by
  rcases l a _ h with z|⟨z,_⟩|⟨_,_,_,z,_⟩
  .exact z
  .exact z.elim
  .cases z
 have hh:=s _ _ hf;have hl:(ds.map λkv=>iO kv.1).length=kvs.length:=by rw[AJ,r.length]
 refine{λhi=>{AN hi (CO hl),hh},λhi=>{by lia,hh},λx H' d e ⟨e1,k,ex,ek⟩=>?_};subst e1 ex;rw[r.keysAt,AU] at ek;rw[AU] at e
 cases q:ds[i]? with
 |none=>rw[q] at e;cases e
 |some kv =>
  rw[q] at e ek;cases e;cases ek;exact{F1,.refl s,Mw _}
theorem Rt{o:HL}{ds:List (List Int×D)}(h:F a=AA (.frz o (.dT kvs)))(r:RepT K F kvs ds):Walks K (Vk a o kvs) F (ds.map λkv=>rY kv.1):=λi F1 H1 l s=>by
 have hf:F1 a=AA (.frz o (.dT kvs)):=by
  rcases l a _ h with z|⟨z,_⟩|⟨_,_,_,z,_⟩
  .exact z
  .exact z.elim
  .cases z
 have hh:=s _ _ hf;have hl:(ds.map λkv=>rY kv.1).length=kvs.length:=by rw[AJ,r.length]
 refine{λhi=>{AN hi (CO hl),hh},λhi=>{by lia,hh},λx H' d e ⟨e1,p,k,ex,ek,ep⟩=>?_};subst e1 ex;rw[r.keysAt,AU] at ek;rw[AU] at e
 cases q:ds[i]? with
 |none=>rw[q] at e;cases e
 |some kv =>
  rw[q] at e ek;cases e;cases ek;obtain⟨F',n,hp⟩:=New.tup s ep;refine{F',n,.tup hp ?_};rw[D2];exact Reps.ints kv.1
def NK(g:G):GI:=λE=>(g E).bind λp=>match p.1 with
 |.lst ds=>.ok (ds,p.2)
 |.tup ds=>.ok (ds,p.2)
 |.dk kvs=>.ok (kvs.map λkv=>iO kv.1,p.2)
 |.dt kvs=>.ok (kvs.map λkv=>rY kv.1,p.2)
 |_=>.bad
theorem bD(h:VE X e ge):VI X tg e (NK ge):=λAE s σ H R I q=>by
 obtain⟨τ,F,E,ds,E',S,hg,k⟩:=q;obtain⟨p,e1,hg⟩:=pA3 hg;split at hg
 .rename_i UR ed
  cases hg;exact zXR h AE s σ H R I {τ,F,E,ds,p.2,S,by unfold Vf;rw[e1];show(match p.1 with|.lst ds=>Out.ok (ds,p.2)|_=>.bad)=_;rw[ed],k}
 .rename_i UR ed
  cases hg;exact yBX h AE s σ H R I {τ,F,E,ds,p.2,S,by unfold Ve;rw[e1];show(match p.1 with|.tup ds=>Out.ok (ds,p.2)|_=>.bad)=_;rw[ed],k}
 .rename_i kvs ed
  cases hg
  -- which of both it is shows when the JO is there
  refine GN (h AE s σ H (λx H1=>∃F1,Stp (DT σ E) F H F1 H1 (DT σ p.2)/\Sim X.K X.H₀ τ F1 H1 σ p.2/\Rep X.K F1 x (.dk kvs)) I {τ,F,E,p.1,p.2,S,e1,λv F1 H1 s1 S1 r1=>{F1,s1,S1,by rw[<-ed];exact r1}}) λv s1 q0=>?_;obtain⟨x,H1,I1,r1,F1,st,S1,rr⟩:=q0
  cases rr with
  |dk hr r =>
   rename_i a kv;cases r1;rcases hr with hr|⟨o,hr⟩
   .have ha:=S1.sub _ _ hr
    obtain⟨o,ho,I2⟩:=I1.freezeK ha;obtain⟨es,ep,KH,z1,z2,z3⟩:=lR (I1.hok a _ ha);obtain⟨o',q1,q2,q3⟩:=id KH.ex;rw[ho] at q1;cases q1;have n:=pAK (o:=o) S1.sub hr trivial;refine oU KH λh' kk ki=>?_;refine{s1.heap.objs.size,[s1.heap.objs.size],_,_,_,rfl,I2.kept (t':=s1.toks) kk,xS a _ o kv es ep q3 z1,ki,λb hb=>?_,k _ _ _ (st.trans n.stp) (S1.new n) (Ru G3 (r.le n.1.le))};have e:b=s1.heap.objs.size:=by simpa using hb
    subst e;exact I2.fpOk (AM _) (I2.hok.fresh (AM _))
   .have ha:=S1.sub _ _ hr
    obtain⟨ho,hx⟩:=I1.hok a _ ha;obtain⟨es,ep,KH,z1,z2,z3⟩:=lR hx;obtain⟨o',q1,q2,q3⟩:=id KH.ex;rw[ho] at q1;cases q1;refine oU KH λh' kk ki=>?_;refine{s1.heap.objs.size,[s1.heap.objs.size],_,_,_,rfl,I1.kept (t':=s1.toks) kk,xS a _ o kv es ep q3 z1,ki,λb hb=>?_,k _ _ _ st S1 (Ru hr r)};have e:b=s1.heap.objs.size:=by simpa using hb
    subst e;exact I1.fpOk (AM _) (I1.hok.fresh (AM _))
 .rename_i kvs ed
  cases hg;refine GN (h AE s σ H (λx H1=>∃F1,Stp (DT σ E) F H F1 H1 (DT σ p.2)/\Sim X.K X.H₀ τ F1 H1 σ p.2/\Rep X.K F1 x (.dt kvs)) I {τ,F,E,p.1,p.2,S,e1,λv F1 H1 s1 S1 r1=>{F1,s1,S1,by rw[<-ed];exact r1}}) λv s1 q0=>?_;obtain⟨x,H1,I1,r1,F1,st,S1,rr⟩:=q0
  cases rr with
  |dt hr r =>
   rename_i a kv;cases r1;rcases hr with hr|⟨o,hr⟩
   .have ha:=S1.sub _ _ hr
    obtain⟨o,ho,I2⟩:=I1.freeze ha;obtain⟨es,ep,KH,z1,z2,z3⟩:=oG (I1.hok a _ ha);obtain⟨o',q1,q2,q3⟩:=id KH.ex;rw[ho] at q1;cases q1;have n:=pAK (o:=o) S1.sub hr trivial;refine oU KH λh' kk ki=>?_;refine{s1.heap.objs.size,[s1.heap.objs.size],_,_,_,rfl,I2.kept (t':=s1.toks) kk,Qf a _ o kv es ep q3 z1,ki,λb hb=>?_,k _ _ _ (st.trans n.stp) (S1.new n) (Rt G3 (r.le n.1.le))};have e:b=s1.heap.objs.size:=by simpa using hb
    subst e;exact I2.fpOk (AM _) (I2.hok.fresh (AM _))
   .have ha:=S1.sub _ _ hr
    obtain⟨ho,hx⟩:=I1.hok a _ ha;obtain⟨es,ep,KH,z1,z2,z3⟩:=oG hx;obtain⟨o',q1,q2,q3⟩:=id KH.ex;rw[ho] at q1;cases q1;refine oU KH λh' kk ki=>?_;refine{s1.heap.objs.size,[s1.heap.objs.size],_,_,_,rfl,I1.kept (t':=s1.toks) kk,Qf a _ o kv es ep q3 z1,ki,λb hb=>?_,k _ _ _ st S1 (Rt hr r)};have e:b=s1.heap.objs.size:=by simpa using hb
    subst e;exact I1.fpOk (AM _) (I1.hok.fresh (AM _))
 .cases hg
end
theorem walk_v{l:QM}{d:DefRec}{K:Params->AC}{lv:Nat}(hn:l.most=AA 63)(vD:d.params.defaults=[])(hr:Room lv P8)
  (hY:∀(w:DY) (h:DZ),YP w h->(K w.params).In h) (tK:∀w:DY,Tabs (K w.params) q) (hm:∀ns:List Int,ns.length<=63->∃b d',m [.val (.lst (ns.map D.int))]=.ok (b,.bl AL,d'))
  (F:∀(w:DY) (mg:CK->Option AH) (fa:AQ) (h:DZ),(K w.params).In h->h.Ns BL mg->mg d.name=AA (.ref fa) ->
   ∃fd:JN,(∀(s:AT) (u:AH),SU s fd {[u],[]} [("script",u)])/\∀base:DZ,(K w.params).In base->base.Ns BL mg->CB (K w.params) base->FnOk l.prog w (K w.params) mg base LO lv fa fd ["script"] (NO (K w.params) 1 m)) :
  fC q YC XP YP l.row.toRowW d [] (λf vs=>ZP f vs) :=
 L2.walk_of (n:=63) (k:=lv) (x:="script") (CX:=λ_=>LO) (sp:=λw=>NO (K w.params) 1 m) hn 'd' vD hr hY tK F (λw H a ns hl _ hS=>by
  obtain⟨b,d',e⟩:=hm ns hl;refine{rfl,0,H,_,b,_,d',{λ_ _ z=>z,rfl,λi d0 z=>?_,λi t d0 z=>?_,λi j t u d1 d2 a' z=>?_},λi t d0 z=>?_,e,λv F' H' st S r=>?_}
  .cases i with
   |zero=>cases z;exact{_,rfl,.lst hS (Reps.ints ns)}
   |succ i=>simp at z
  .cases i with
   |zero=>cases z
   |succ i=>simp at z
  .cases i with
   |zero=>cases z
   |succ i=>simp at z
  .cases i with
   |zero=>cases z
   |succ i=>simp at z
  .cases b with
   |false=>obtain rfl:=r.vB;rfl
   |true=>obtain⟨_,_,_,ow,_⟩:=r;exact ow.elim) λ_ _ _ _ _ z=>z
end L2
namespace L2
open PySem
theorem fn_bad{K:AC}{ps:List CK}:FnOk P w K mg base LO k f fd ps (NO K np λ_=>.bad) :=
 {(λvs H Q E h=>by obtain⟨_,_,_,_,_,_,_,_,_,hm,_⟩:=h;cases hm),(λA outer s H args us vs Q E hr e b v h=>by obtain⟨_,_,_,_,_,_,_,_,_,hm,_⟩:=h;cases hm)}
end L2
variable{gi:L2.GI}{tt:L2.Ev->L2.Out (Bool×L2.Ev)}{c':AQ}{q:CK}{QW:AH}
namespace L2
open PySem PySem.Spec PyProof.Rows
section
variable{K:AC}{E:Ev}{acc:AQ}
def oN(gk gv:G):GM:=λd E=>(gk E).bind λp=>(gv p.2).bind λq=>match d,dU p.1 with|.dk kvs,AA k=>few kvs.length (.ok (.dk (PB kvs k q.1),q.2))|_,_=>.bad
theorem zRQ{gk gv:G}{N:St->Hp->Prop}(h:yT K H₀ acc k (oN gk gv) σ H N):Bh acc (tV K H₀ gk) (tV K H₀ gv) σ H N:=by
 obtain⟨τ,F,E,d,d',E',S,f,n,o,hg,k⟩:=h;obtain⟨p,e1,hg⟩:=pA3 hg;obtain⟨q,e2,hg⟩:=pA3 hg;split at hg
 .rename_i k' ek _ _
  obtain⟨hz,hg⟩:=W4 hg;cases hg;refine{τ,F,E,p.1,p.2,S,e1,λx F5 H5 s5 S5 r5=>?_};refine{τ,F5,p.2,q.1,q.2,S5,e2,λy F6 H6 s6 S6 r6=>?_};obtain⟨f6,m6,ys,h6,r2⟩:=v4 (s5.trans s6) f n o;exact{ys,k',h6,Ua ek r5,by rw[r2.length];exact bE hz,k σ F6 _ (Ur (s5.trans s6)) (S6.off f6 m6) f6 m6 {_,G3,r2.put k' r6} λ_ _=>rfl}
 .cases hg
theorem Zs{iter:CU}{t:Tg}{gk gv:G}(n:CompNm X scope cl own CP js)(hc:X.calm=AL)(hi:VI X tg iter gi)
  (hg:∀C s H fp,VG (L7 X scope cl (own++CP) C s H fp) tg t) (ht:∀C s H fp,sK (L7 X scope cl (own++CP) C s H fp) ifs tt) (hk:∀C s H fp,VE (L7 X scope cl (own++CP) C s H fp) kx gk) (hv:∀C s H fp,VE (L7 X scope cl (own++CP) C s H fp) vx gv)
  (JI:t.ltn own.length=AL:=by rfl) (hj:js.Nodup:=by decide) (hs:∀x,C6 iter X.env x=pure x:=by intro _;rfl):FE X (.DictComp kx vx [{tg,iter,ifs,0}] scope pos) (lN gi own.length js (.dk []) t tt (oN gk gv)) :=
 (zTG (g:=λH=>tG X.K H t) (tt:=λH=>tT X.K H tt) (tk:=λH=>tV X.K H gk) (tv:=λH=>tV X.K H gv) n hc hi hg ht hk hv hs).imp λσ H Q h =>
  Nu (λJ H2 q acc ha=>tWalkC.imp (λ_ _ _ z=>zRQ z) (λσ H=>Nx σ H) (λx σ H=>Nv x σ H) (q acc ha)) (Pj (o:=.dK []) (d0:=.dk []) (λF H a=>{[],G3,.nil}) JI hj h)
end
section
variable{K:AC}{E:Ev}{g:G}{q:fD}
end
theorem zO9{a b:Int}{c:AH}(l:List AH)(h:TriplesOk l)(e:P7 pos (l++[ES a,ES b,c])=AA cv):P7 pos l=AA cv\/cv=c:=by
 fun_induction TriplesOk l with
 |case1 =>
  simp only[FX,P7,ES] at e;split at e
  .cases e;exact .inr rfl
  .cases e
 |case2 a' t b' u x rest ih =>
  simp only[MO,P7] at e ⊢;split at e
  .rename_i hc;rw[if_pos hc];exact .inl e
  .rename_i hc;rw[if_neg hc];exact ih h e
 |case3 l h1 h2=>exact h.elim
def LamStp(T:AQ)(q:CK)(H H':Hp):Prop:=H'=H\/∃ps Z8 c' o,H T=AA (.tbl q ps)/\H c'=AI/\c'≠T/\H'=DU (DU H T (.tbl q Z8)) c' (.frz o (.own c'))
section
variable{σ:List (Option V)}
theorem Inv.pinNew{o:HL}(I:Inv X AE σ H s)(hfr:o.isFreed=AD)(hd:∀v,o.data≠.cell v):Inv X ((s.heap.objs.size,o)::AE) σ H { s with heap:=s.heap.push o,toks:=t' }:=by
 have I1:Inv X AE σ H { s with heap:=s.heap.push o,toks:=t' }:=I.un (t':=t') (Un.kept λb u e=>AF _ e) (I.hok.kept λb u e=>AF _ e);refine{I1.ok,I1.os,I1.bare,I1.base,I1.loc,I1.cell,I1.free,I1.freeC,λp hp=>?_,I1.hok,I1.len};rcases BY.mp hp with hp|hp
 .exact I1.pin p (DB _ hp)
 .rcases BD.mp hp with rfl|hp
  .exact{AV _ hfr,I.hok.fresh (AM _),FM I.lt,I.nofs (AM _),hd}
  .exact I1.pin p (BM _ hp)
theorem Inv.table{T:AQ}{ps:Array AH}(I:Inv X AE σ H s)(hT:H T=AA (.tbl q ps))(hx:YU T s.heap h')(j4:s.heap.objs.size<=c')(gY:h'.CodeRec (.ref c') q)(zP:h'.get? T=AA (KS (ps++#[ES pos.line,ES pos.col,.ref c']))) :
  ∃o,Inv X AE σ (DU (DU H T (.tbl q (ps++#[ES pos.line,ES pos.col,.ref c']))) c' (.frz o (.own c'))) { s with heap:=h',toks:=t' }/\H c'=AI/\c'≠T:=by
 obtain⟨c0,o,vs,t,e0,g7,hd,hv⟩:=gY;cases e0;obtain⟨e1,tr,al⟩:=I.hok T _ hT;have eV:H c'=AI:=I.hok.fresh j4;have nJ:c'≠T:=λz=>by rw[z] at eV;rw[eV] at hT;cases hT
 have D8:∀b u,H b=AA u->b≠T->DU (DU H T (.tbl q (ps++#[ES pos.line,ES pos.col,.ref c']))) c' (.frz o (.own c')) b=AA u:=λb u e hb=>by
  rw[EL (λz=>by rw[z,eV] at e;cases e),EL hb];exact e
 have Xm:DU (DU H T (.tbl q (ps++#[ES pos.line,ES pos.col,.ref c']))) c' (.frz o (.own c')) T=AA (.tbl q (ps++#[ES pos.line,ES pos.col,.ref c'])):=by rw[EL (FH nJ),G3]
 have nT:∀b,H b=AI->b≠T:=λb e z=>by rw[z,hT] at e;cases e
 have tY:∀b u,s.heap.get? b=AA u->H b=AI->DU (DU H T (.tbl q (ps++#[ES pos.line,ES pos.col,.ref c']))) c' (.frz o (.own c')) b=AI:=λb u e n=>by
  rw[EL (B0 (AN (A8 e) j4)),EL (nT b n)];exact n
 have mF:∀b u,H b=AA u->(∀ps,u≠.tbl q ps)->b≠T:=λb u e n z=>by rw[z,hT] at e;cases e;exact n _ rfl
 refine{o,I.un (t':=t') {λb u e n _ _=>hx b u (nT b n) e,λb u e n _ _=>{u.slots,hx b u (nT b n) e},λb u e n _=>tY b u e n,λb u e _=>?_,λb xs e=>D8 b _ e (mF b _ e λ_ z=>by cases z),λb ob u e=>D8 b _ e (mF b _ e λ_ z=>by cases z),λb t Z8 e=>?_} (λb u e=>?_),eV,nJ}
 .by_cases hb:b=T
  .subst hb;exact{_,zP}
  .exact{u,hx b u hb e}
 .by_cases hb:b=T
  .subst hb
   rw[hT] at e;cases e;exact{_,Xm}
  .exact{#[],by rw[D8 b _ e hb];simp}
 .by_cases hb:b=c'
  .subst hb
   rw[G3] at e;cases e;exact{g7,{_,g7}}
  .by_cases Jy:b=T
   .subst Jy
    rw[Xm] at e;cases e;refine{zP,by rw[EG];exact TriplesOk_snoc _ _ _ _ tr,λp cv z=>?_};rw[EG] at z;rcases zO9 _ tr z with z|z
    .obtain⟨c2,o2,Vr,t2,r1,r2,r3⟩:=al p cv z
     exact{c2,o2,Vr,t2,r1,D8 c2 _ r2 (mF c2 _ r2 λ_ z=>by cases z),r3}
    .exact{c',o,vs,t,z,G3,hd,hv}
   .rw[EL hb,EL Jy] at e
    refine(I.hok b u e).stay (λd v hc z=>hx d v ?_ z) (λd z=>D8 d _ z (mF d _ z λ_ y=>by cases y)) (λd xs z=>D8 d _ z (mF d _ z λ_ y=>by cases y)) λd ob x z=>D8 d _ z (mF d _ z λ_ y=>by cases y);rcases hc with rfl|hc
    .exact Jy
    .exact mF d _ hc λ_ y=>by cases y
theorem zUL{c T:AQ}{clos:List (CK×AQ)}{body:CU}
  (I:Inv X AE σ H s) (YK:X.env.code=.ref c) (C:JE X.base c T) (tb:TB X.K T q) (hq:X.env.qual++("<lambda>":CK)=q) (Jx:XW scope X.env=pure clos) (nG:defaultsOf ER X.env=([],[]))
  (h:∀(f c':AQ) (pm QW:AH) (s':AT) (H':Hp) (o:HL),Inv X ((f,MM "<lambda>" q ER body scope clos pm c' QW)::AE) σ H' s'->LamStp T q H H'->H' c'=AA (.frz o (.own c'))->s'.heap.CodeRec (.ref c') q->s.heap.objs.size<=f->Q (.ref f) s') :
  AZ (A3 X.prog X.w) A (eval (.Lambda ER body scope pos) X.env) Q E s:=by
 refine PySem.W.kla_eval nG ?_;rw[hq];obtain⟨ps,hT⟩:=I.tab T q tb;obtain⟨e1,tr,al⟩:=I.hok T _ hT;have hg:=I.mod.glob.keeps I.bk
 have hgT:BL≠T:=λz=>by
  obtain⟨o,es,ep,e,hd,_⟩:=hg;rw[z,e1] at e;cases e;cases hd
 have zY:s.heap.BuiltinsAt X.mg T:=by
  obtain⟨bm,ob,b1,b2,b3,b4,b5,b6⟩:=I.mod.bmain;have e3:=I.bk _ _ b3;refine{bm,ob,b1,b2,λz=>?_,λz=>?_,e3,b4,b5,b6}
  .obtain⟨o,es,ep,e,hd,_⟩:=hg
   rw[z,e] at e3;cases e3;rw[hd] at b6;cases b6
  .rw[z,e1] at e3;cases e3;cases b4
 cases hf:P7 pos ps.toList with
 |none =>
  refine PySem.W.kla_makeFunction (mg:=X.mg) Jx I.ok.glob hg YK (C.keeps I.bk) e1 tr hf hgT zY λc' QW h' tk hx j4 JI gY zP=>?_;obtain⟨o,I1,eV,nJ⟩:=I.table (t':=tk) hT hx j4 gY zP;have I2:=I1.pinNew (t':=tk) (o:=MM "<lambda>" q ER body scope clos ((X.mg "__name__").getD .none) c' QW) rfl λv z=>by cases z
  exact h _ c' _ QW _ _ o I2 (.inr {_,_,c',o,hT,eV,nJ,rfl}) G3 (gY.push _) (AY j4 (CN JI))
 |some cv =>
  obtain⟨c',o,vs,t,rfl,r2,r3,r4⟩:=al _ _ hf;refine PySem.W.kla_makeFunctionHit (mg:=X.mg) Jx I.ok.glob hg YK (C.keeps I.bk) e1 tr hf zY λQW h' tk hk hsz=>?_;have I1:Inv X AE σ H { s with heap:=h',toks:=tk }:=I.un (t':=tk) (Un.kept hk) (I.hok.kept hk);have I2:=I1.pinNew (t':=tk) (o:=MM "<lambda>" q ER body scope clos ((X.mg "__name__").getD .none) c' QW) rfl λv z=>by cases z
  exact h _ c' _ QW _ _ o I2 (.inl rfl) r2 {c',o,vs,t,rfl,(I2.hok _ _ r2).1,r3,r4} hsz
end
noncomputable def dS(X:Cx)(A:DJ)(q:CK)(scope:M1)(cl:List (CK×AQ))(nm:List CK)(f:AQ)(cd:AH)(s:AT)(H:Hp):Cx where
 prog:=X.prog
 w:=X.w
 K:=X.K
 mg:=X.mg
 base:=X.base
 A:=A.deeper (OZ q scope s.heap.objs.size f cd cl)
 N:=nm
 s₀:=s
 H₀:=H
 env:=OZ q scope s.heap.objs.size f cd cl
 outer:=X.stack
 stack:=OZ q scope s.heap.objs.size f cd cl::X.stack
 ex:=[]
 fn:=λ_=>AD
 calm:=AL
 pn:=[]
 xe:=λ_ _=>False
structure LamNm(X:Cx)(scope:M1)(cl:List (CK×AQ))(p:CK)(CP:List CK)(js:List Nat):Prop where
 clos:XW scope X.env=pure cl
 kind:scope.kind=.function
 co:scope.isCoroutine=AD
 gen:scope.isGenerator=AD
 nocell:∀y∈scope.names,y.2≠.cell
 dom:∀y∈scope.names,y.2=.free->y.1∈CP
 nm:cl.map (·.1)=CP
 cells:∀p∈cl,X.env.cells.lookup p.1=AA p.2
 slot:CP.map AA=js.map λj=>X.N[j]?
 vis:∀x∈CP,X.env.kindOf x=AA .cell\/X.env.kindOf x=AA .free
 fr:∀x∈CP,scope.names.lookup x=AA .free
 loc:scope.names.lookup p=AA .local
section
variable{p:CK}
theorem LamNm.cl_of(n:LamNm X scope cl p CP js){c:AQ}(h:cl.lookup x=AA c):X.env.cells.lookup x=AA c:=n.cells _ (rT h)
theorem LamNm.has(n:LamNm X scope cl p CP js)(h:x∈CP):∃c,cl.lookup x=AA c:=Du (by rw[n.nm];exact h)
noncomputable def iN(js:List Nat)(v:V)(σ:St):St:=AA v::js.map λj=>(σ[j]?).getD AI
theorem zRR{tk:Nat}(n:LamNm X scope cl p CP js)(I:Inv X AE σ H s)(hA:A.frames=AA X.stack)(hh:A.handled=AI)
  (g8:JC.Ns s.heap.objs.size (λy=>[(p,u)].reverse.lookup y)) (HV:∀b o,s.heap.get? b=AA o->JC.get? b=AA o) (r:RelV v u) :
  Inv (dS X A q scope cl (p::CP) f cd s H) [] (iN js v σ) H { s with heap:=JC,toks:=tk }:=by
 have hl:js.length=CP.length:=by
  have:=congrArg LW n.slot;simpa using this.symm
 refine{{I.tab,I.ok.mod,n.kind,rfl,rfl,AM _,λx y c h1 h2=>I.ok.inj x y c (n.cl_of h1) (n.cl_of h2),λx hx=>?_,(λx c h=>nomatch h),λ_=>hh,WY hA,.inr {rfl,rfl},(λb hb=>nomatch hb),
   I.bs,AY I.ok.bsz I.sz,(λb o e hb=>nomatch hb),(λb hb=>nomatch hb),I.stack,I.stkFree},
  rfl,I.bare,Un.kept HV,{_,g8,λi x v' e1 e2 e3=>?_},λx c e=>?_,I.hok.fresh (AM _),λx c e=>I.freeC x c (n.cl_of e),(λp hp=>nomatch hp),I.hok.kept HV,?_}
 .have hx:scope.names.lookup x=AA .cell\/scope.names.lookup x=AA .free:=hx
  rcases hx with h|h
  .exact absurd rfl (n.nocell _ (rT h))
  .exact n.has (n.dom _ (rT h) rfl)
 .cases i with
  |zero =>
   have e1:AA p=AA x:=e1;have e2:AA (AA v)=AA (AA v'):=e2;cases e1;cases e2;exact{u,r,.inl {n.loc,by show List.lookup p [(p,u)]=AA u;rw[MN,beq_self_eq_true]}}
  |succ i =>
   have e1:CP[i]?=AA x:=e1;have e2:(js.map λj=>(σ[j]?).getD AI)[i]?=AA (AA v'):=e2;rw[AU] at e2
   cases ej:js[i]? with
   |none=>rw[ej] at e2;cases e2
   |some j =>
    rw[ej] at e2;have e2:AA ((σ[j]?).getD AI)=AA (AA v'):=e2
    have hj:X.N[j]?=AA x:=by
     have q:=congrArg (λl=>l[i]?) n.slot;simp only[AU,e1,ej,GK] at q;exact(BK q).symm
    have hv:σ[j]?=AA (AA v'):=by
     cases es:σ[j]? with
     |none=>rw[es] at e2;cases e2
     |some o=>rw[es] at e2;exact e2
    have aA:x∈CP:=CT e1;obtain⟨m0,hn0,p8⟩:=I.loc
    have vis:ZA X.env.scope x:=by
     rcases n.vis x aA with k|k
     .exact .inr (.inl k)
     .exact .inr (.inr k)
    obtain⟨u,r,lk⟩:=p8 j x v' hj hv vis;refine{u,r,.inr {.inr (n.fr x aA),?_}};obtain⟨c,hc⟩:=n.has aA;refine{c,hc,?_};rcases lk with⟨k,_⟩|⟨_,c',YL,z⟩
    .rcases n.vis x aA with k'|k'
     .rw[k] at k';cases k'
     .rw[k] at k';cases k'
    .rw[n.cl_of hc] at YL
     cases YL;obtain⟨o,ho,hd⟩:=z;exact{o,HV _ _ ho,hd}
 .obtain⟨v,o,ho,hd⟩:=I.cell x c (n.cl_of e)
  exact{v,o,HV _ _ ho,hd}
 .show(iN js v σ).length=(p::CP).length
  unfold iN;rw[BC,BC,AJ,hl]
theorem zUM{body:CU}{t:TE}{Q:VK}(n:LamNm X scope cl p CP js)(I:Inv X AE σ H s)(hA:A.frames=AA X.stack)(hr:Room 1 A)
  (ho:s.heap.get? f=AA (MM "<lambda>" q ER body scope cl pm c' QW)) (LR:s.heap.CodeRec (.ref c') q) (OS:NU (cZ "<lambda>" q ER body scope cl pm (.ref c') QW) {[u],[]}=pure [(p,u)])
  (hb:PE (dS X A q scope cl (p::CP) f (.ref c') s H) body t) (r:RelV v u) (hq:t (iN js v σ) H Q) :
  HG (A3 X.prog X.w) A (.call (.ref f) {[u],[]}) (λr s'=>∃u',r=.ok (.ret u')/\CE X.stack X.prog X.w H s Q u' s') s:=by
 refine PySem.W.kla_callFunE (by have:=hr.dp;lia) ho rfl n.co n.gen rfl LR ?_;rw[OS];refine wpAny_pure ?_;refine hZ n.nocell (λy hy=>by rw[A5.mp hy];exact n.loc) (λJC g8 uM=>{I.nolimit.fresh _ uM,?_}) n.kind;have HV:∀b o,s.heap.get? b=AA o->JC.get? b=AA o:=λb o e=>uM.extBut b o (B0 (A8 e)) (AF _ e);have I1:=zRR (q:=q) (f:=f) (cd:=.ref c') (tk:=s.toks+1) n I hA hr.hd g8 HV r;show HG _ _ (.expr body (OZ q scope s.heap.objs.size f (.ref c') cl)) _ _;refine PySem.W.kla_codeExpr (CY (hb [] _ _ _ _ I1 hq) (λu' s' h=>?_) λe s' h=>h.elim);obtain⟨v',H',J,rv,qv⟩:=h;exact{u',rfl,v',H',J.os,J.bare,J.base,J.hok,rv,qv}
end
end L2
variable{p1:fD}
namespace L2
open PySem PySem.Spec PyProof.Rows PySem.W
theorem Paired.perm{F:α->β->Prop}{us ws:List β}(p:ws.Perm us):∀{xs:List α},Paired F xs us->∃ys,ys.Perm xs/\Paired F ys ws:=by
 induction p with
 |nil=>intro xs r;cases r;exact{[],GY _,.nil}
 |cons a _ ih =>
  intro xs r
  cases r with
  |cons h t =>
   obtain⟨ys,q,r'⟩:=ih t;exact{_::ys,q.cons _,.cons h r'}
 |swap a b l =>
  intro xs r
  cases r with
  |cons h t =>
   cases t with
   |cons h' t'=>exact{_::_::_,HN _ _ _,.cons h' (.cons h t')}
 |trans _ _ Z9 ih2 =>
  intro xs r;obtain⟨ys,q,r'⟩:=ih2 r;obtain⟨zs,q2,r2⟩:=Z9 r';exact{zs,q2.trans q,r2}
theorem pAL:∀{kz:List Int},Vals ys us->Paired (λ(a:Int×V) (b:Int×AH)=>a.1=b.1/\RelV a.2 b.2) (kz.zip ys) (kz.zip us):=by
 intro kz r
 induction kz generalizing ys us with
 |nil=>exact .nil
 |cons k kz ih=>cases r with
  |nil=>exact .nil
  |cons h t=>exact .cons {rfl,h} (ih t)
theorem pAM:∀{a:List (Int×V)} {b:List (Int×AH)},Paired (λ(a:Int×V) (b:Int×AH)=>a.1=b.1/\RelV a.2 b.2) a b->Vals (a.map FO) (b.map FO)/\a.map QA=b.map QA
 |_,_,.nil=>{.nil,rfl}
 |_,_,.cons h t=>by
  obtain⟨h1,h2⟩:=pAM t;exact{.cons h.2 h1,by rw[AX,AX,h.1,h2]}
def ZZ(t:Hp->TE)(js:List Nat)(σ:St):List V->List Int->Hp->(List Int->Hp->Prop)->Prop
 |[],acc,H,R=>R acc H
 |y::ys,acc,H,R=>t H (iN js y σ) H λv H'=>∃k,v=.int k/\ZZ t js σ ys (acc++[k]) H' R
theorem yCO{L:AQ}{m m':CK->Option AH}(a:h.Ns L m)(b:h.Ns L m'):m=m':=by
 obtain⟨o,es,ep,e,d,_,f⟩:=a;obtain⟨o',kC,kD,e',d',_,f'⟩:=b;rw[e] at e';cases e';rw[d] at d';cases d'
 funext x
 rw[<-f x,f' x]
structure Mine(X:Cx)(AE:List (AQ×HL))(b:AQ):Prop where
 loc:b≠X.env.locals
 fs:b∉X.fs
 ab:X.s₀.heap.objs.size<=b
 bs:X.base.get? b=AI
 cel:∀x c,X.env.cells.lookup x=AA c->c≠b
 pin:∀p∈X.pn++AE,p.1≠b
theorem Inv.mine(I:Inv X AE σ H s){b:AQ}(h:s.heap.objs.size<=b):Mine X AE b where
 loc:=FM (AN I.lt h)
 fs:=I.nofs h
 ab:=AY I.sz h
 bs:=YT (AY (AY I.ok.bsz I.sz) h)
 cel:=λx c e z=>by
  obtain⟨v,o,ho,_⟩:=I.cell x c e;subst z;exact GB _ (AN (A8 ho) h)
 pin:=λp hp z=>by
  subst z;exact GB _ (AN (A8 (I.pin p hp).1) h)
theorem Inv.stkNo(I:Inv X AE σ H s){b:AQ}(m:Mine X AE b):b∉QU X.stack:=λhb=>by
 rcases BD.mp (I.stkSub b hb) with z|z
 .exact m.loc z
 .exact m.fs z
theorem Inv.unpin{p:AQ×HL}(I:Inv X (p::AE) σ H s):Inv X AE σ H s :=
 {I.ok,I.os,I.bare,I.base,I.loc,I.cell,I.free,I.freeC,λq hq=>I.pin q ((BY.mp hq).elim (DB _) λz=>BM _ (A7 _ z)),I.hok,I.len}
def aY(Q:VK)(ys:List V):List Int->Hp->Prop:=λkz H=>∀ps:List (Int×V),ps.Perm (kz.zip ys)->(ps.Pairwise λa b=>a.1<=b.1)->∀D,H D=AI->Q (.ref D) (DU H D (.lst (ps.map FO)))
section
variable{p:CK}{body:CU}{t:Hp->TE}{o:HL}
theorem zRT{kS:AQ}{kA:Array AH}{e e1:Nat}{kz:List Int}{Q:VK}{P:dC->AT->Prop}
  (I:Inv X AE σ H s) (ma:Mine X AE a) (mk:Mine X AE kS) (zT:kS≠a) (ea:s.heap.get? a=AA (D4 "list" #[] e1)) (ek:s.heap.get? kS=AA (D4 "list" kA e)) (na:H a=AI) (nk:H kS=AI)
  (hk:GF kA.toList kz) (EW:kz.length=CA.length) (eX:CA.length<64) (rv:Vals ys CA)
  (hq:aY Q ys kz H)
  (hP:∀s',EP X AE σ Q (.ref a) s'->P (.done (.ret .none)) s') :
  AZ (A3 X.prog X.w) A (ksk_end a AD CA.toArray e1 (.ref kS) kA) P E s:=by
 obtain⟨m,F⟩:=I.fr
 have N:News X.base X.env.locals s.heap ((rN X.base s.heap X.env.locals).filter (λp=>decide (p.1≠kS/\p.1≠a))++[(kS,D4 "list" kA e),(a,D4 "list" #[] e1)]):=λp hp=>by
  rcases BY.mp hp with hp|hp
  .exact zSV p (DP.mp hp).1
  .rcases BD.mp hp with rfl|hp
   .exact{ek,mk.loc,mk.bs}
   .rw[A5.mp hp];exact{ea,ma.loc,ma.bs}
 refine ksk_end_ (b:=AD) F N zT (λp hp=>(of_decide_eq_true (DP.mp hp).2).1) (λp hp=>(of_decide_eq_true (DP.mp hp).2).2) hk EW eX λh' tk out c F' N' ko=>hP _ ?_;obtain⟨ps,pp,eo,pw⟩:=ko;obtain⟨qs,qp,qr⟩:=Paired.perm pp (pAL (kz:=kz) rv);obtain⟨r1,r2⟩:=pAM qr
 have bU:∀b ob,b≠X.env.locals->b≠kS->b≠a->s.heap.get? b=AA ob->h'.get? b=AA ob:=λb ob h1 h2 h3 eb=>by
  cases g:X.base.get? b with
  |some u =>
   have:=I.bk b u g;rw[eb] at this;cases this;exact F'.keep b _ g
  |none=>exact(N' (b,ob) (A7 _ (DP.mpr {zL8 h1 g eb,decide_eq_true {h2,h3}}))).1
 have hL:∃oL,h'.get? X.env.locals=AA oL:=let ⟨oL,_,_,eL,_⟩:=F'.ns;{oL,eL};have pR:∀b u,H b=AA u->b≠X.env.locals/\b≠kS/\b≠a:=λb u eb=>{λz=>(by rw[z,I.free] at eb;cases eb),λz=>(by rw[z,nk] at eb;cases eb),λz=>(by rw[z,na] at eb;cases eb)};have up:∀b u,H b=AA u->DU H a (.lst (qs.map FO)) b=AA u:=λb u eb=>by rw[EL (pR b u eb).2.2];exact eb
 have hz:(qs.map FO).length<64:=by
  rw[AJ,qp.length_eq,List.length_zip,EW,rv.length];exact AS (kO _ _) eX
 refine{.ref a,DU H a (.lst (qs.map FO)),I.step (g':=s.gens) (d':=s.drawn) (t':=tk) (ch:=[kS,a]) (λb hb=>?_) (λb ob h1 _ hc eb _=>bU b ob h1 (λz=>hc (by simp[z])) (λz=>hc (by simp[z])) eb)
  (λb ob h1 _ hc eb _=>{ob.slots,bU b ob h1 (λz=>hc (by simp[z])) (λz=>hc (by simp[z])) eb}) (λb ob hc eb n=>by rw[EL (λz=>hc (by simp[z]))];exact n) (λb ob hc eb=>?_)
  (λb xs eb=>up b _ eb) (λb ob u eb=>up b _ eb) (λb t ps eb=>{#[],by rw[up b _ eb];simp}) (λm0 Xd=>by rw[yCO Xd F.ns];exact F'.ns) (λb u eb=>?_) I.bare,rfl,hq qs qp ?_ a na}
 .rcases BD.mp hb with rfl|hb
  .exact{.inr mk.ab,mk.loc,mk.cel,mk.pin}
  .rw[A5.mp hb]
   exact{.inr ma.ab,ma.loc,ma.cel,ma.pin}
 .by_cases h1:b=X.env.locals
  .subst h1;exact hL
  .exact{ob,bU b ob h1 (λz=>hc (by simp[z])) (λz=>hc (by simp[z])) eb}
 .by_cases hb:b=a
  .subst hb
   rw[G3] at eb;cases eb;refine{by rw[FZ];lia,out.toList,c,by rw[eo];exact r1,?_};have:=(N' (b,D4 "list" out c) (.head _)).1;simpa using this
  .rw[EL hb] at eb
   refine(I.hok b u eb).stay (λd v hc z=>?_) (λd z=>up d _ z) (λd xs z=>up d _ z) λd ob x z=>up d _ z;rcases hc with rfl|hc
   .obtain⟨h1,h2,h3⟩:=pR d u eb
    exact bU d v h1 h2 h3 z
   .obtain⟨h1,h2,h3⟩:=pR d _ hc
    exact bU d v h1 h2 h3 z
 .have:(qs.map QA).Pairwise (·<=·):=by
   rw[r2,DX];exact pw.imp λh=>by simpa using h
  rw[DX] at this;exact this
end
section
variable{p:CK}{body:CU}{t:Hp->TE}{o:HL}
theorem zPA{kS:AQ}{e1:Nat}{Q:VK}{P:dC->AT->Prop}{vs:Array AH}{tq:kM}(n:LamNm X scope cl p CP js)
  (I:Inv X ((f,kla_obj "<lambda>" q ER body scope cl pm c' QW)::AE) σ H s) (ma:Mine X ((f,kla_obj "<lambda>" q ER body scope cl pm c' QW)::AE) a) (mk:Mine X ((f,kla_obj "<lambda>" q ER body scope cl pm c' QW)::AE) kS) (zT:kS≠a)
  (ea:s.heap.get? a=AA (D4 "list" #[] e1)) (ek:s.heap.get? kS=AA (D4 "list" #[] 0)) (na:H a=AI) (nk:H kS=AI) (hc:H c'=AA (.frz o (.own c'))) (ho:o.data=.fields vs) (hv:vs[1]?=AA (.str q tq))
  (eX:CA.length<64) (rv:Vals ys CA) (hA:A.frames=AA X.stack) (hr:Room 1 A) (OS:∀u,NU (kla_fn "<lambda>" q ER body scope cl pm (.ref c') QW) {[u],[]}=pure [(p,u)])
  (hb:∀s H,PE (dS X A q scope cl (p::CP) f (.ref c') s H) body (t H))
  (TH:ZZ t js σ ys [] H (aY Q ys))
  (hP:∀s',EP X AE σ Q (.ref a) s'->P (.done (.ret .none)) s') :
  AZ (A3 X.prog X.w) A (ksk_rest a (.ref f) AD CA.toArray e1 (.ref kS)) P E s:=by
 unfold ksk_rest;refine AB (E8 ?_)
 first
  |rw[List.forIn_toArray]
  |(rw[<-K6];simp only[List.toList_toArray])
  |rw[<-K6]
 refine AB (ksk_fold (λi s'=>∃kA e H' acc,Inv X ((f,kla_obj "<lambda>" q ER body scope cl pm c' QW)::AE) σ H' s'/\s'.heap.get? a=AA (D4 "list" #[] e1)/\s'.heap.get? kS=AA (D4 "list" kA e)/\H' a=AI/\H' kS=AI /\
  GF kA.toList acc/\acc.length=i/\ZZ t js σ (ys.drop i) acc H' (aY Q ys)/\H' c'=AA (.frz o (.own c'))) CA 0 s
  {#[],0,H,[],I,ea,ek,na,nk,by simpa using IntsAre.nil,rfl,TH,hc} ?step ?done)
 case step =>
  rintro j x s' hx ⟨kA,e,H',acc,I',z8,nV,pW,zM,hk,EW,nD,YL⟩;simp only[EO] at EW nD ⊢;have hj:j<CA.length:=(AR.mp hx).1;have hy:j<ys.length:=by rw[rv.length];exact hj
  obtain⟨u,hu,r⟩:=rv.get (BU hy);rw[hx] at hu;cases hu;rw[FD hy] at nD;have LR:s'.heap.CodeRec (.ref c') q:={c',o,vs,tq,rfl,(I'.hok _ _ YL).1,ho,hv};have hfo:=(I'.pin _ (BM _ (.head _))).1
  have vH:AZ (A3 X.prog X.w) A (call (.ref f) [x]) (λu' eM=>CE X.stack X.prog X.w H' s' (λv Ab=>∃k,v=.int k/\ZZ t js σ (ys.drop (j+1)) (acc++[k]) Ab (aY Q ys)) u' eM) (λ_ _=>False) s' :=
   RP (LS (zUM n I' hA hr hfo LR (OS x) (hb s' H') r nD) λr eM h=>by
    obtain⟨u',rfl,ce⟩:=h
    exact ce)
  refine AB (GH (CY vH (λu' eM he=>?_) λ_ _ hF=>hF.elim));obtain⟨v,Ab,os,bare,un,hok,rv',k,rfl,Jd⟩:=he;obtain⟨t2,rfl⟩:∃t2,u'=.int k t2:=rv';obtain⟨hh,g,d,Vw,Gs⟩:=eM;obtain rfl:Gs=s'.os:=os;have I2:=I'.call (h':=hh) (g':=g) (d':=d) (t':=Vw) (ch:=[]) un hok bare (λb z=>absurd z 's');have Xw:hh.get? kS=AA (D4 "list" kA e):=un.keep kS _ nV zM (I'.stkNo mk) 's';have ea2:hh.get? a=AA (D4 "list" #[] e1):=un.keep a _ z8 pW (I'.stkNo ma) 's';have Wl:=un.free kS _ nV zM 's';have na2:=un.free a _ z8 pW 's';have cN:=un.frzs _ _ _ YL
  have hz:kA.size<=CA.length:=by
   have h1:=hk.length;rw[KL] at h1;lia
  try dsimp only
  have s1:=GL hh kS (C3 (·.push (.int k t2)));obtain⟨e2,Jr⟩:∃c2,(hh.update kS (C3 (·.push (.int k t2)))).get? kS=AA (D4 "list" (kA.push (.int k t2)) c2):={_,WI Xw (·.push (.int k t2))};refine AB (NG Xw rfl ?_ (by rw[FZ];lia) (AY (CO (EB ..)) (by rw[FZ];lia)));have I3:=I2.turned (h':=hh.update kS (C3 (·.push (.int k t2)))) (t':=Vw) (it:=kS) (λb ob hb eb=>(s1.2 b hb).trans eb) Wl mk.loc (.inr mk.ab) mk.cel mk.pin;have el:(kA.push (MI k t2)).toList=kA.toList++[MI k t2]:=by simp
  exact wpAny_pure {rfl,kA.push (.int k t2),e2,Ab,acc++[k],I3,(s1.2 a zT.symm).trans ea2,Jr,na2,Wl,by rw[el];exact ksk_snoc hk,by rw[BH,EW];rfl,Jd,cN}
 case done =>
  rintro s' ⟨kA,e,H',acc,I',z8,nV,pW,zM,hk,EW,nD,YL⟩;rw[EO] at EW nD;rw[JS (by rw[rv.length];exact AM _)] at nD
  try dsimp only
  refine AB (cY nV rfl ?_);refine zRT I'.unpin {ma.loc,ma.fs,ma.ab,ma.bs,ma.cel,λp hp=>ma.pin p ?_} {mk.loc,mk.fs,mk.ab,mk.bs,mk.cel,λp hp=>mk.pin p ?_} zT z8 nV pW zM hk EW eX rv nD hP
  all_goals exact(BY.mp hp).elim (DB _) λz=>BM _ (A7 _ z)
end
section
variable{p:CK}{body:CU}{t:Hp->TE}{o:HL}
theorem zRU{Q:VK}{vs:Array AH}{tq:kM}(n:LamNm X scope cl p CP js)
  (I:Inv X ((f,kla_obj "<lambda>" q ER body scope cl pm c' QW)::AE) σ H s) (hc:H c'=AA (.frz o (.own c'))) (ho:o.data=.fields vs) (hv:vs[1]?=AA (.str q tq))
  (hl:SqL X.K H l ys) (eX:ys.length<64) (hr:Room 3 X.A) (OS:∀u,NU (kla_fn "<lambda>" q ER body scope cl pm (.ref c') QW) {[u],[]}=pure [(p,u)])
  (hb:∀s H,PE (dS X X.A.in1.in1 q scope cl (p::CP) f (.ref c') s H) body (t H)) (TH:ZZ t js σ ys [] H (aY Q ys)) :
  AZ (A3 X.prog X.w) X.A (call (.builtin "sorted") [.ref l] [(EN "key",.ref f)]) (EP X AE σ Q) X.xe s:=by
 obtain⟨CA,rv,pl,z⟩:=I.list hl;have EW:=rv.length;refine call_function_entry_kw kind_sorted plain_sorted entry_sorted (ksk_s1 _ _) ?_;unfold E4.«sorted»;refine AB (m:=checkCount "sorted" 1 1 _) (wpAny_pure ?_);refine AB (collect_list pl.isList ?_ (by rw[FZ];lia));refine AB (QY ?_ (by rw[FZ];lia))
 have hsz:((s.heap.push (D4 "list" #[] 0)).update s.heap.objs.size (C3 (·++CA.toArray))).objs.size=s.heap.objs.size+1:=by
  rw[MP,XT]
 have jZ:(((s.heap.push (D4 "list" #[] 0)).update s.heap.objs.size (C3 (·++CA.toArray))).push (D4 "list" CA.toArray 0)).get? (s.heap.objs.size+1)=AA (D4 "list" CA.toArray 0):=by
  rw[<-hsz];exact AV _ rfl
 have keep:∀b o,s.heap.get? b=AA o->(((s.heap.push (D4 "list" #[] 0)).update s.heap.objs.size (C3 (·++CA.toArray))).push (D4 "list" CA.toArray 0)).get? b=AA o:=λb o q=>by
  have JI:b<s.heap.objs.size:=A8 q;rw[LY _ _ _ (by rw[hsz];exact B0 (JW JI)),OJ _ _ _ _ (B0 JI),LY _ _ _ (B0 JI)];exact q
 have MR:(((s.heap.push (D4 "list" #[] 0)).update s.heap.objs.size (C3 (·++CA.toArray))).push (D4 "list" CA.toArray 0)).objs.size=s.heap.objs.size+2:=by rw[XT,hsz]
 show AZ _ _ _ _ _ { s with heap:=((s.heap.push (D4 "list" #[] 0)).update s.heap.objs.size (C3 (·++CA.toArray))).push (D4 "list" CA.toArray 0) };rw[hsz];generalize hg0:((s.heap.push (D4 "list" #[] 0)).update s.heap.objs.size (C3 (·++CA.toArray))).push (D4 "list" CA.toArray 0)=g0 at jZ keep MR;refine AB (C7 (wpAny_call_entry_kw slot_list_sort {_,jZ,rfl} entry_list_sort ?body (ksk_l1 _ _)))
 case body =>
  show AZ (A3 X.prog X.w) X.A.in1.in1 (E4.«list.sort» {[.ref (s.heap.objs.size+1)],[(EN "key",.ref f)]}) _ _ _;rw[ksk_t1];have s1:=GL g0 (s.heap.objs.size+1) (C3 λ_=>(#[]:Array AH));obtain⟨e1,p7⟩:∃e1,(g0.update (s.heap.objs.size+1) (C3 λ_=>(#[]:Array AH))).get? (s.heap.objs.size+1)=AA (D4 "list" #[] e1):={_,WI jZ λ_=>#[]};unfold ksk_tree;refine AB (cY jZ rfl ?_);refine AB (NG jZ rfl ?_ (by rw[A0,FZ];lia) (BR _));refine AB (VF p7 rfl ?_);refine AB (MG ?_ (by show CA.length<=_;rw[FZ];lia));refine AB (QY ?_ (BR _));refine C7 ?_;have hg1:(g0.update (s.heap.objs.size+1) (C3 λ_=>(#[]:Array AH))).objs.size=s.heap.objs.size+2:=by rw[MP,MR]
  have jS:∀b o,s.heap.get? b=AA o->(((g0.update (s.heap.objs.size+1) (C3 λ_=>(#[]:Array AH))).push (D4 "tuple" CA.toArray 0)).push (D4 "list" #[] 0)).get? b=AA o:=λb o e =>
   AF _ (AF _ ((s1.2 b (B0 (JW (A8 e)))).trans (keep b o e)))
  have Jf:((g0.update (s.heap.objs.size+1) (C3 λ_=>(#[]:Array AH))).push (D4 "tuple" CA.toArray 0)).objs.size=s.heap.objs.size+3:=by rw[XT,hg1]
  have I2:Inv X ((f,kla_obj "<lambda>" q ER body scope cl pm c' QW)::AE) σ H { s with heap:=((g0.update (s.heap.objs.size+1) (C3 λ_=>(#[]:Array AH))).push (D4 "tuple" CA.toArray 0)).push (D4 "list" #[] 0) } :=
   I.un (t':=s.toks) (Un.kept jS) (I.hok.kept jS)
  refine zPA (s:={ s with heap:=((g0.update (s.heap.objs.size+1) (C3 λ_=>(#[]:Array AH))).push (D4 "tuple" CA.toArray 0)).push (D4 "list" #[] 0) }) (a:=s.heap.objs.size+1) (kS:=((g0.update (s.heap.objs.size+1) (C3 λ_=>(#[]:Array AH))).push (D4 "tuple" CA.toArray 0)).objs.size) n I2 (I.mine (KI _)) (I.mine (by rw[Jf];exact A2 _ 3)) (by rw[Jf];intro z;have:s.heap.objs.size+3=s.heap.objs.size+1:=z;lia)
   (AF _ (AF _ p7)) (AV _ rfl) (I.hok.fresh (KI _)) (I.hok.fresh (by rw[Jf];exact A2 _ 3)) hc ho hv (by rw[<-EW];exact eX) rv I.ok.frames hr.in1.in1 OS hb TH λs' h=>{_,rfl,?_}
  exact wpAny_pure {_,rfl,h}
end
theorem LamStp.rd{T:AQ}(st:LamStp T q H H'){u:HO}(h:H a=AA u)(hu:∀ps,u≠.tbl q ps):H' a=AA u:=by
 rcases st with rfl|⟨ps,Z8,c',o,hT,hc,nJ,rfl⟩
 .exact h
 .rw[EL (λz=>by rw[z,hc] at h;cases h),EL (λz=>by rw[z,hT] at h;cases h;exact hu _ rfl)]
  exact h
theorem LamStp.sq{T:AQ}{K:Frag}(st:LamStp T q H H')(h:SqL K H l ys):SqL K H' l ys :=
 h.imp (λz=>z.imp (λz=>st.rd z λ_ y=>by cases y) (λq0=>by obtain⟨o,z⟩:=q0;exact{o,st.rd z λ_ y=>by cases y})) id
def Lr(K:Frag)(T:AQ)(q:CK)(tl:TE)(t:Hp->TE)(js:List Nat):TE:=λσ H Q=>tl σ H λx H1=>∃l ys,x=.ref l/\SqL K H1 l ys/\ys.length<64/\∀H2,LamStp T q H1 H2->ZZ t js σ ys [] H2 (aY Q ys)
section
variable{p:CK}{body:CU}{t:Hp->TE}{c T:AQ}{l:CU}
theorem Pg(hm:X.mg "sorted"=AI)(hl:PE X l tl)(n:LamNm X scope cl p CP js)(hr:Room 3 X.A)(YK:X.env.code=.ref c)(C:CodeHd X.base c T)(tb:TB X.K T q)(hq:X.env.qual++("<lambda>":CK)=q)(nG:defaultsOf ER X.env=([],[]))
  (OS:∀pm c' QW u,NU (kla_fn "<lambda>" q ER body scope cl pm (.ref c') QW) {[u],[]}=pure [(p,u)]) (hb:∀f c' s H,PE (dS X X.A.in1.in1 q scope cl (p::CP) f (.ref c') s H) body (t H)) (hg:Gl X "sorted":=by rfl)
  (he:DH pos (AO [l] X.env)=(AD,eval l X.env)::DH pos (AO [] X.env):=by rfl) (JT:(DH pos (AO [l] X.env)).any (·.1)=AD:=by rfl)
  (aB:AO [l] X.env=(AD,eval l X.env)::AO [] X.env:=by rfl) :
  PE X (.Call (.Name "sorted" p1) [l] [{AA "key",.Lambda ER body scope ZD,SD}] pos) (Lr X.K T q tl t js):=by
 intro AE s σ H Q I h;refine HW (jC I hg hm rfl ?_);refine callWith_kw (GN (R8 hl HU aB pos AE s σ H (λvs H1=>∃l ys,vs=[.ref l]/\SqL X.K H1 l ys/\ys.length<64/\∀H2,LamStp T q H1 H2->ZZ t js σ ys [] H2 (aY Q ys)) I ?_) λus s1 h1=>?_) he JT rfl rfl
 .have h':tl σ H λx H1=>∃l ys,x=.ref l/\SqL X.K H1 l ys/\ys.length<64/\∀H2,LamStp T q H1 H2->ZZ t js σ ys [] H2 (aY Q ys):=h
  show tl σ H λx H1=>∃l ys,[x]=[.ref l]/\SqL X.K H1 l ys/\ys.length<64/\∀H2,LamStp T q H1 H2->ZZ t js σ ys [] H2 (aY Q ys)
  have ee:(λ(x:V) (H1:Hp)=>∃l ys,[x]=[V.ref l]/\SqL X.K H1 l ys/\ys.length<64/\∀H2,LamStp T q H1 H2->ZZ t js σ ys [] H2 (aY Q ys))=λx H1=>∃l ys,x=V.ref l/\SqL X.K H1 l ys/\ys.length<64/\∀H2,LamStp T q H1 H2->ZZ t js σ ys [] H2 (aY Q ys):=by
   funext x H1
   simp only[YS,and_true]
  rw[ee];exact h'
 .obtain⟨vs,H1,I1,r,l',ys,rfl,hs,eX,hk⟩:=h1
  obtain⟨u,rfl,ru⟩:=Y1 r;cases ru;show AZ _ _ (evalAll [(do let v <-eval (.Lambda ER body scope ZD) X.env;IV pos;pure v)]) _ _ s1;refine wpAny_evalAll_cons (AB (zUL I1 YK C tb hq n.clos nG λf c' pm QW s2 H2 o I2 st hc LR hsz=>AB (IG (wpAny_pure (wpAny_evalAll_nil ?_)))));obtain⟨c2,o2,Vr,tq,e2,g2,d2,v2⟩:=LR;cases e2;have:=(I2.hok _ _ hc).1;rw[g2] at this;cases this;exact zRU n I2 hc d2 v2 (st.sq hs) eX hr (OS pm c' QW) (hb f c') (hk H2 st)
end
end L2
variable{E1 E2:L2.Ev}
namespace L2
open PySem PySem.Spec PyProof.Rows
def Lq(ge:G)(ds:List D)(y:D):Out Int:=(ge (.val y::ds.map .val)).bind λr=>match r.1 with|.int k=>.ok k|_=>.bad
def dJ(ge:G)(ds:List D):List D->Out (List Int)
 |[]=>.ok []
 |y::ys=>(Lq ge ds y).bind λk=>(dJ ge ds ys).bind λks=>.ok (k::ks)
noncomputable def shareJ:List Nat->Ev->Ev
 |[],E=>E
 |j::js,E=>shareJ js (match E[j]? with|some (.own _ d)=>E.set j (.val d)|_=>E)
noncomputable def valsJ(E:Ev):List Nat->Option (List D)
 |[]=>AA []
 |j::js=>match E[j]? with
  |some (.val d)=>(valsJ E js).map (d::·)
  |_=>AI
def aX(kz:List Int)(ys:List D)(qs:List (Int×D)):Prop:=qs.Perm (kz.zip ys)/\qs.Pairwise λa b=>a.1<=b.1
section
variable{K:AC}{E:Ev}{T:AQ}
theorem LamStp.new(s:Sub F H)(st:LamStp T q H H'):∃F',New F H F' H':=by
 rcases st with rfl|⟨ps,Z8,c',o,hT,hc,nJ,rfl⟩
 .exact{F,.refl s}
 .have hFc:F c'=AI:=by
   cases e:F c' with
   |none=>rfl
   |some u=>rw[s _ _ e] at hc;cases hc
  have ot:∀a,a≠T->a≠c'->DU (DU H T (.tbl q Z8)) c' (.frz o (.own c')) a=H a:=λa h1 h2=>by rw[EL h2,EL h1]
  have tt:DU (DU H T (.tbl q Z8)) c' (.frz o (.own c')) T=AA (.tbl q Z8):=by rw[EL (FH nJ),G3]
  refine{λa=>if a=T then(F T).map λ_=>.tbl q Z8 else F a,{λa u e hw _ _=>?_,λa e=>?_,λa u e=>?_,λa u e=>?_,λ_ z=>z.elim},λa u e=>?_}
  .rw[ot a (λz=>by rw[z,hT] at e;cases e;exact hw) (λz=>by rw[z,hc] at e;cases e)];exact e
  .by_cases h1:a=T
   .rw[h1,tt] at e;cases e
   .by_cases h2:a=c'
    .rw[h2];exact hc
    .rw[ot a h1 h2] at e;exact e
  .by_cases h1:a=T
   .subst h1
    have:=s _ _ e;rw[hT] at this;cases this;exact .inr (.inr {q,ps,Z8,rfl,by rw[if_pos rfl,e];rfl})
   .exact .inl (by rw[if_neg h1];exact e)
  .by_cases h1:a=T
   .subst h1
    rw[if_pos rfl] at e
    cases e1:F a with
    |none=>rw[e1] at e;cases e
    |some v=>exact .inl nofun
   .rw[if_neg h1] at e;exact .inl (by rw[e];exact nofun)
  .dsimp only at e
   by_cases h1:a=T
   .subst h1
    rw[if_pos rfl] at e
    cases e1:F a with
    |none=>rw[e1] at e;cases e
    |some v=>rw[e1] at e;cases e;exact tt
   .rw[if_neg h1] at e
    rw[ot a h1 (λz=>by rw[z,hFc] at e;cases e)];exact s a u e
theorem Sim.shareJ:∀(js:List Nat) {F:Hp} {E:Ev},Sim K H₀ τ F H σ E->∃F',Stp (DT σ E) F H F' H (DT σ (L2.shareJ js E))/\Sim K H₀ τ F' H σ (L2.shareJ js E)
 |[],F,E,S=>{F,.refl,S}
 |j::js,F,E,S=>by
  unfold L2.shareJ;split
  .rename_i t d e
   obtain⟨a,F1,_,st,S1,_⟩:=S.share e;obtain⟨F2,st2,S2⟩:=Sim.shareJ js S1;exact{F2,st.trans st2,S2}
  .exact Sim.shareJ js S
theorem Sim.valsJ(S:Sim K H₀ τ F H σ E):∀{js:List Nat} {ds:List D},L2.valsJ E js=AA ds->∃ws,(js.map λj=>(σ[j]?).getD AI)=ws.map AA/\Reps K F ws ds
 |[],_,e=>by cases e;exact{[],rfl,.nil}
 |j::js,ds,e=>by
  unfold L2.valsJ at e;split at e
  .rename_i d ej
   cases e2:L2.valsJ E js with
   |none=>rw[e2] at e;cases e
   |some UR =>
    rw[e2] at e;cases e;obtain⟨ws,h1,h2⟩:=S.valsJ e2;obtain⟨v,hv,hr⟩:=S.val j d ej;exact{v::ws,by rw[AX,h1,hv];rfl,.cons hr h2}
  .cases e
theorem yCP{ge:G}{ds:List D}(hv:L2.valsJ E js=AA ds){R:List Int->Hp->Prop}:∀{ys:List D} {vs:List V} {acc kz:List Int} {F H:Hp},Sim K H₀ τ F H σ E->Reps K F vs ys->dJ ge ds ys=.ok kz ->
  (∀F' H',New F H F' H'->R (acc++kz) H')->ZZ (λH=>tV K H ge) js σ vs acc H R
  := by
 intro ys
 induction ys with
 |nil =>
  intro vs acc kz F H S r e k;cases r;cases e;have:=k F H (.refl S.sub);rw[DC] at this;exact this
 |cons y ys ih =>
  intro vs acc kz F H S r e k
  cases r with
  |@cons v _ jM _ ry rys =>
  unfold dJ at e;obtain⟨k1,e1,e⟩:=pA3 e;obtain⟨ks,e2,e⟩:=pA3 e;cases e;unfold Lq at e1;obtain⟨rr,e3,e1⟩:=pA3 e1;obtain⟨ws,hws,rws⟩:=S.valsJ hv;have nI:iN js v σ=(v::ws).map AA:=by unfold iN;rw[hws];rfl
  show tV K H ge (iN js v σ) H _;rw[nI];refine{0,F,(y::ds).map Sl.val,rr.1,rr.2,Sim.args S.sub (.cons ry rws),e3,λv2 F2 H2 st S2 r2=>?_};split at e1
  .rename_i kk ek
   cases e1;rw[ek] at r2;obtain rfl:=r2.vI;have n:New F H F2 H2:={{λa o q1 q2 q3 _=>st.keep a o q1 q2 q3 (v7 a),st.dom,st.le,λa o z=>(st.new a o z).imp_right λz=>z.imp_right λz=>(v7 a z).elim,λ_ z=>z.elim},S2.sub}
   exact{_,rfl,ih (S.new n) (rys.le n.1.le) e2 λF' H' n'=>by
    rw[CF]
    exact k F' H' (n.trans n')}
  .cases e1
theorem yHM{ys:List D}:∀{kz:List Int},Reps K F vs ys->Paired (λ(b:Int×D) (a:Int×V)=>a.1=b.1/\Rep K F a.2 b.2) (kz.zip ys) (kz.zip vs):=by
 intro kz r
 induction kz generalizing vs ys with
 |nil=>exact .nil
 |cons k kz ih=>cases r with
  |nil=>exact .nil
  |cons h t=>exact .cons {rfl,h} (ih t)
theorem Tx:∀{a:List (Int×D)} {b:List (Int×V)},Paired (λ(b:Int×D) (a:Int×V)=>a.1=b.1/\Rep K F a.2 b.2) a b->Reps K F (b.map FO) (a.map FO)/\a.map QA=b.map QA
 |_,_,.nil=>{.nil,rfl}
 |_,_,.cons h t=>by
  obtain⟨h1,h2⟩:=Tx t;exact{.cons h.2 h1,by rw[AX,AX,h.1,h2]}
theorem Pf{gl ge:G}{Q:VK}(h:∃τ F E ys E1 ds kz,Sim K H₀ τ F H σ E/\gl E=.ok (.lst ys,E1)/\ys.length<64/\L2.valsJ (L2.shareJ js E1) js=AA ds/\dJ ge ds ys=.ok kz /\
   ∀qs,aX kz ys qs->∀a F' H',Stp (DT σ E) F H F' H' (DT σ (L2.shareJ js E1))->Sim K H₀ τ F' H' σ (L2.shareJ js E1)->F' a=AI->H a=AI->OwnAt K F' H' a (.lst (qs.map FO))->¬DT σ (L2.shareJ js E1) a->Q (.ref a) H') :
  Lr K T q (tV K H₀ gl) (λH=>tV K H ge) js σ H Q:=by
 obtain⟨τ,F,E,ys,E1,ds,kz,S,e1,eX,hv,hk,k⟩:=h;refine{τ,F,E,_,_,S,e1,λv F1 H1 st1 S1 r1=>?_}
 cases r1 with
 |@lst l vs _ sq rs =>
 refine{l,vs,rfl,sq.imp S1.sub.rd id,by rw[rs.length];exact eX,λH2 ls=>?_};obtain⟨F2,n2⟩:=ls.new S1.sub;obtain⟨F3,KJ,S3⟩:=(S1.new n2).shareJ js;have Wd:Reps K F3 vs ys:=(rs.le n2.1.le).le KJ.le;refine yCP hv S3 Wd hk λF4 H4 n4 ps pp pw D hD=>?_;rw[FX] at pp;have rs4:=Wd.le n4.1.le;obtain⟨qs,qp,qr⟩:=Paired.perm pp (yHM (kz:=kz) rs4);obtain⟨r5,r6⟩:=Tx qr
 have hF:F4 D=AI:=by
  cases e:F4 D with
  |none=>rfl
  |some u=>rw[n4.2 _ _ e] at hD;cases hD
 have n5:New F4 H4 F4 (DU H4 D (.lst (ps.map FO))):=pA6 n4.2 (Gr.new hD);have S4:=S3.new n4;have st:Stp (DT σ E) F H F4 (DU H4 D (.lst (ps.map FO))) (DT σ (L2.shareJ js E1)):=(((st1.trans n2.stp).trans KJ).trans n4.stp).trans n5.stp;refine k qs {qp,?_} D F4 _ st (S4.new n5) hF ?_ {_,G3,r5} (S4.fresh hD)
 .have:(qs.map QA).Pairwise (·<=·):=by rw[r6,DX];exact pw
  rw[DX] at this;exact this
 .exact(((st1.trans n2.stp).trans KJ).trans n4.stp:Stp (DT σ E) F H F4 H4 _).dom D hD
end
section
variable{K:AC}{g:GS}
theorem yCR{t:Tg}{E:Ev}{ds:List D}{r:Fl}(k:FlOk K H₀ τ (DT σ E) F H D' r)(s1:Stp (DT σ E) F H F1 H1 (DT σ E1))(S1:Sim K H₀ τ F1 H1 σ E1)(w1:Walks K J F1 ds)(hg:SX t g ds E1=.ok r) :
  ∃W:Nat->Nat->St->Hp->Prop,(∃m,W 0 m σ H1)/\∀i m σ H,W i m σ H ->
   (J.stop i H/\D'.nx σ H)\/(J.go i H/\∃N:St->Hp->Prop,(∀σ' H',N σ' H'->∃m',m'<m/\W (i+1) m' σ' H')/\∀x H',J.yld i H x H'->tG K H₀ t x σ H' λσ2 H2=>tS K H₀ g { D' with nx:=N,ct:=N,bk:=D'.nx } σ2 H2):=by
 refine{λi m σ2 H2=>m=ds.length-i/\i<=ds.length/\∃F2 E2,Sim K H₀ τ F2 H2 σ2 E2/\Stp (DT σ E) F H F2 H2 (DT σ2 E2)/\Le F1 F2/\SX t g (ds.drop i) E2=.ok r,{_,rfl,BR _,F1,E1,S1,s1,.refl _,by rw[N0];exact hg},?_};rintro i m σ2 H2 ⟨rfl,zU,F2,E2,S2,s2,l2,h2⟩;obtain⟨w2,w3,w4⟩:=w1 i F2 H2 l2 S2.sub
 by_cases hi:i<ds.length
 .obtain⟨d,hd⟩:∃d,ds[i]?=AA d:={ds[i],by simp[hi]}
  have vC:ds.drop i=d::ds.drop (i+1):=by
   rw[FD hi];have:ds[i]=d:=by rw[BU hi] at hd;exact BK hd
   rw[this]
  rw[vC,SX] at h2;obtain⟨E3,e3,h2⟩:=pA3 h2;obtain⟨q,e4,h2⟩:=pA3 h2;refine .inr {w2 hi,λσ5 H5=>∃F5 E5,Sim K H₀ τ F5 H5 σ5 E5/\Stp (DT σ E) F H F5 H5 (DT σ5 E5)/\Le F1 F5/\SX t g (ds.drop (i+1)) E5=.ok r,λσ5 H5 ⟨F5,E5,a1,a2,a3,a4⟩=>{_,by omega,rfl,hi,F5,E5,a1,a2,a3,a4},λx H' y=>?_};obtain⟨F3,n3,r3⟩:=w4 x H' d hd y;refine{τ,F3,E2,d,E3,S2.new n3,r3,e3,λσ4 S4 h4 _=>{τ,F3,E3,q,S4,e4,?_}};have s4:Stp (DT σ E) F H F3 H' (DT σ4 E3):=(s2.trans n3.stp).weak h4;have l3:Le F1 F3:=l2.trans n3.1.le
  cases q with
  |nx E5=>exact λσ5 F5 H5 s5 S5=>{F5,E5,S5,s4.trans s5,l3.trans s5.le,h2}
  |ct E5=>exact λσ5 F5 H5 s5 S5=>{F5,E5,S5,s4.trans s5,l3.trans s5.le,h2}
  |bk E5=>cases h2;exact λσ5 F5 H5 s5 S5=>k σ5 F5 H5 (s4.trans s5) S5
  |rt b d E5=>cases h2;exact λσ5 v F5 H5 s5 S5 q=>k σ5 v F5 H5 (s4.trans s5) S5 (q.pre s4)
 .have hi:i=ds.length:=by omega
  rw[JS 'o',SX] at h2;cases h2;exact .inl {w3 hi,k σ2 F2 H2 s2 S2}
end
def lL(gl:G)(js:List Nat)(ge:G):Ev->Out ((List D×List Int)×Ev):=λE=>(gl E).bind λp=>match p.1,valsJ (shareJ js p.2) js with
 |.lst ys,AA ds=>if ys.length<64 then(dJ ge ds ys).bind λkz=>.ok ((ys,kz),shareJ js p.2) else .bad
 |_,_=>.bad
theorem Px{gl ge:G}{E:Ev}{ys:List D}{kz:List Int}(h:lL gl js ge E=.ok ((ys,kz),E2)) :
  ∃E1 ds,gl E=.ok (.lst ys,E1)/\ys.length<64/\valsJ (shareJ js E1) js=AA ds/\dJ ge ds ys=.ok kz/\E2=shareJ js E1:=by
 unfold lL at h;obtain⟨p,e,h⟩:=pA3 h;obtain⟨d,E1⟩:=p;dsimp only at h
 cases hv:valsJ (shareJ js E1) js with
 |none=>rw[hv] at h;cases d<;>cases h
 |some ds =>
  rw[hv] at h
  cases d with
  |lst ys' =>
   dsimp only at h
   by_cases hl:ys'.length<64
   .rw[if_pos hl] at h
    obtain⟨kz',e3,h⟩:=pA3 h;cases h;exact{E1,ds,e,hl,hv,e3,rfl}
   .rw[if_neg hl] at h;cases h
  |_=>cases h
noncomputable def hush:List Nat->Ev->Ev
 |[],E=>E
 |k::ks,E=>hush ks (match E[k]? with|some (.val _)=>E.set k .no|_=>E)
theorem Sim.hush{K:AC}{H₀ F H:Hp}{τ:AQ}{σ:St}:∀(ks:List Nat) {E:Ev},Sim K H₀ τ F H σ E->Sim K H₀ τ F H σ (L2.hush ks E)/\∀a,DT σ (L2.hush ks E) a->DT σ E a
 |[],_,S=>{S,λ_ h=>h}
 |k::ks,E,S=>by
  rw[L2.hush];split
  .rename_i d e
   have hk:=(AR.mp e).1
   have HV:∀(j:Nat) s,(E.set k .no)[j]?=AA s->s≠.no->E[j]?=AA s:=λj s q n=>by
    by_cases hj:k=j
    .subst hj;rw[BF hk] at q;exact absurd (BK q).symm n
    .rw[A4 hj] at q;exact q
   have S1:Sim K H₀ τ F H σ (E.set k .no):={S.sub,by rw[BZ];exact S.len,λj d q=>S.val j d (HV j _ q (λz=>by cases z)),λj t d q=>S.own j t d (HV j _ q (λz=>by cases z)),
    λi j t u d d' a q1 q2=>S.inj i j t u d d' a (HV i _ q1 (λz=>by cases z)) (HV j _ q2 (λz=>by cases z))}
   obtain⟨S2,h2⟩:=Sim.hush ks S1;refine{S2,λa h=>?_};obtain⟨j,t,d,q1,q2⟩:=h2 a h;exact{j,t,d,HV j _ q1 (λz=>by cases z),q2}
  .exact Sim.hush ks S
open Classical in
def qS(gl:G)(js:List Nat)(ge:G):G:=λE=>(lL gl js ge E).bind λp=>if h:∃zs,∀qs,aX p.1.2 p.1.1 qs->qs.map FO=zs then .ok (.lst h.choose,p.2) else .bad
open Classical in
def qG(gl:G)(js:List Nat)(ge:G)(t:Tg)(g:GS)(ks:List Nat):GS:=λE=>(lL gl js ge E).bind λp=>if h:∃E1,∀qs,aX p.1.2 p.1.1 qs->∃E2,SX t g (qs.map FO) p.2=.ok (.nx E2)/\hush ks E2=E1 then .ok (.nx h.choose) else .bad
section
variable{body:CU}{c T:AQ}{l:CU}{gl ge:G}
structure LamOk(X:Cx)(scope:M1)(cl:List (CK×AQ))(x:CK)(CP:List CK)(js:List Nat)(q:CK)(ER:Arguments)(body:CU)(c T:AQ):Prop where
 nm:LamNm X scope cl x CP js
 room:Room 3 X.A
 code:X.env.code=.ref c
 hd:JE X.base c T
 tb:TB X.K T q
 qual:∃n:CK,X.env.qual=n/\n++("<lambda>":CK)=q
 dflt:defaultsOf ER X.env=([],[])
 bind:∀pm c' QW u,NU (cZ "<lambda>" q ER body scope cl pm (.ref c') QW) {[u],[]}=pure [(x,u)]
theorem LamOk.qu(n:LamOk X scope cl x CP js q ER body c T):X.env.qual++("<lambda>":CK)=q:=by
 obtain⟨m,h1,h2⟩:=n.qual;rw[h1];exact h2
theorem Zr(hm:X.mg "sorted"=AI)(hl:VE X l gl)(n:LamOk X scope cl x CP js q ER body c T)(hb:∀f c' s H,VE (dS X X.A.in1.in1 q scope cl (x::CP) f (.ref c') s H) body ge)(hg:Gl X "sorted":=by rfl)
  (he:DH pos (AO [l] X.env)=(AD,eval l X.env)::DH pos (AO [] X.env):=by rfl) (JT:(DH pos (AO [l] X.env)).any (·.1)=AD:=by rfl)
  (aB:AO [l] X.env=(AD,eval l X.env)::AO [] X.env:=by rfl) :
  FE X (.Call (.Name "sorted" p1) [l] [{AA "key",.Lambda ER body scope ZD,SD}] pos) (qS gl js ge) :=
 (Pg (t:=λH=>tV X.K H ge) hm hl n.nm n.room n.code n.hd n.tb n.qu n.dflt n.bind hb hg he JT aB).imp λσ H Q h=>by
  obtain⟨τ,F,E,d,E',S,hg,k⟩:=h;unfold qS at hg;obtain⟨⟨⟨ys,kz⟩,E2⟩,e1,hg⟩:=pA3 hg;obtain⟨E1,ds,a1,a2,a3,a4,rfl⟩:=Px e1;split at hg
  .rename_i h
   cases hg;exact Pf {τ,F,E,ys,E1,ds,kz,S,a1,a2,a3,a4,λqs hq a F' H' st S' n1 n2 ow no=>k a F' H' st S' n1 n2 (by rw[<-h.choose_spec qs hq];exact ow) no}
  .cases hg
theorem Zq{bd:List E6}{t:Tg}{g:GS}{ks:List Nat}(hp:UZ (A3 X.prog X.w) X.A X.env X.xe)(hc:X.calm=AL)(hm:X.mg "sorted"=AI)(hl:VE X l gl)(n:LamOk X scope cl x CP js q ER body c T)
  (hb:∀f c' s H,VE (dS X X.A.in1.in1 q scope cl (x::CP) f (.ref c') s H) body ge) (hgt:VG X tg t) (hbd:ZB X bd g) (hg:Gl X "sorted":=by rfl)
  (he:DH pos (AO [l] X.env)=(AD,eval l X.env)::DH pos (AO [] X.env):=by rfl) (JT:(DH pos (AO [l] X.env)).any (·.1)=AD:=by rfl)
  (aB:AO [l] X.env=(AD,eval l X.env)::AO [] X.env:=by rfl)
  (hs:∀x,C6 (.Call (.Name "sorted" p1) [l] [{AA "key",.Lambda ER body scope ZD,SD}] pos) X.env x=pure x:=by intro _;rfl) :
  VS X (.For tg (.Call (.Name "sorted" p1) [l] [{AA "key",.Lambda ER body scope ZD,SD}] pos) bd [] V6) (qG gl js ge t g ks) :=
 (oJ hp hc (Ny (Pg (t:=λH=>tV X.K H ge) hm hl n.nm n.room n.code n.hd n.tb n.qu n.dflt n.bind hb hg he JT aB)) hgt hbd hs).imp λD' σ H h=>by
  obtain⟨τ,F,E,r,S,hg,k⟩:=h;unfold qG at hg;obtain⟨⟨⟨ys,kz⟩,E2⟩,e1,hg⟩:=pA3 hg;obtain⟨E1,ds,a1,a2,a3,a4,rfl⟩:=Px e1;split at hg
  .rename_i hr
   cases hg;refine Pf {τ,F,E,ys,E1,ds,kz,S,a1,a2,a3,a4,λqs hq a F' H' st S' n1 n2 ow no=>?_};obtain⟨vs,ha,rv⟩:=ow;have gr:Gr F' (DU F' a (.lst vs)):=Gr.new n1
   have S2:Sim X.K X.H₀ τ (DU F' a (.lst vs)) H' σ (shareJ js E1):=by
    refine{λb u e=>?_,S'.len,λi d e=>?_,λi t d e=>?_,S'.inj}
    .by_cases hb:b=a
     .subst hb;rw[G3] at e;rw[ha];exact e
     .rw[EL hb] at e;exact S'.sub b u e
    .obtain⟨v,h1,h2⟩:=S'.val i d e;exact{v,h1,h2.le (.of_gr gr)}
    .obtain⟨b,h1,h2,h3,h4⟩:=S'.own i t d e
     refine{b,h1,?_,h3.mono (.of_gr gr) rfl,h4};rw[EL (λz=>no {i,t,d,e,by rw[<-z];exact h1})];exact h2
   have st2:Stp (DT σ E) F H (DU F' a (.lst vs)) H' (DT σ (shareJ js E1)):={st.keep,st.dom,st.le.trans (.of_gr gr),λb u e=>by
    by_cases hb:b=a
    .subst hb;exact .inr (.inl (.none n2))
    .rw[EL hb] at e;exact st.new b u e,st.own}
   obtain⟨E',nC,hh⟩:=hr.choose_spec qs hq;rw[<-hh] at k;have k':FlOk X.K X.H₀ τ (DT σ E) F H D' (.nx E'):=λσ' F' H' st S=>k σ' F' H' (st.weak (S.hush ks).2) (S.hush ks).1;exact{a,rfl,{vs,.inl (.inl ha)},yCR k' st2 S2 (Ri (.inl (.inl G3)) (rv.le (.of_gr gr))) nC}
  .cases hg
end
theorem Pe{α:Type}:∀l:List α,(C9 l.length).filterMap (λi=>l[i]?)=l
 |[]=>rfl
 |a::l=>by
  rw[BC,List.range_succ_eq_map,E7];simp only[List.getElem?_cons_zero,O8]
  congr 1
  exact Pe l
theorem zJE(CA:List AH):aH CA.toArray AI AI (AA (-1))=CA.reverse.toArray:=by
 have h:=picked_rev CA.length;unfold aH
 have e:sliceRange (G7 AI AI (AA (-1)) CA.toArray.size).1 (G7 AI AI (AA (-1)) CA.toArray.size).2.1 (G7 AI AI (AA (-1)) CA.toArray.size).2.2=(C9 CA.length).map λk=>CA.length-1-k:=by
  rw[<-h];simp[G7,Builtin.Str.strSliceIndices]
 rw[e]
 congr 1
 rw[O8]
 have g:∀ks:List Nat,(∀k∈ks,k<CA.length)->ks.filterMap ((λi=>CA.toArray[i]?)∘λk=>CA.length-1-k)=ks.filterMap λi=>CA.reverse[i]?:=by
  intro ks
  induction ks with
  |nil=>intro _;rfl
  |cons k ks ih =>
   intro hk
   have e:((λi=>CA.toArray[i]?)∘λk=>CA.length-1-k) k=CA.reverse[k]?:=by
    show CA.toArray[CA.length-1-k]?=CA.reverse[k]?;rw[List.getElem?_reverse (hk k (.head _)),List.getElem?_toArray]
   rw[E7,E7,e,ih λk YJ=>hk k (.tail _ YJ)]
 refine(g _ λk hk=>HA.mp hk).trans ?_;have:=Pe CA.reverse;rw[OI] at this;exact this
section
variable{st:CU}{ts:TE}
def yFA(K:AC)(te ts:TE):TE:=λσ H Q=>te σ H λx H1=>ts σ H1 λy H2=>y=.int (-1)/\∃a xs,x=.ref a/\SqL K H2 a xs/\∀p,H2 p=AI->Q (.ref p) (DU H2 p (.lst xs.reverse))
theorem Zp(he:PE X e te)(hs:PE X st ts):PE X (.Subscript e (.Slice AI AI (AA st) p2) pos) (yFA X.K te ts):=by
 intro AE s σ H Q I h;refine Subscript_ (GN (he AE s σ H _ I h) λv s1 ⟨x,H1,I1,r1,q1⟩=>?_);refine wpAny_Slice ?_;rw[evalPart_none];refine wpAny_pure (wpAny_pure ?_);rw[evalPart_some];refine GN (hs AE s1 σ H1 _ I1 q1) λu s3 q0=>?_;obtain⟨y,H3,I3,r3,q3⟩:=q0;obtain⟨rfl,a,xs,rfl,hx,q⟩:=q3;obtain⟨t,rfl⟩:=r3;cases r1;have I4:Inv X AE σ H3 { s3 with heap:=s3.heap.push { cls:=.type "slice",data:=.fields #[.none,.none,.int (-1) t] } }:=I3.kept (t':=s3.toks) λb ob q=>AF _ q;obtain⟨CA,r,ht,hz⟩:=I4.list hx;have EW:=r.length;show AZ (A3 X.prog X.w) X.A (ZM e (.Slice AI AI (AA st) p2) (.ref a) (.ref s3.heap.objs.size)) (EP X AE σ Q) X.xe { s3 with heap:=s3.heap.push { cls:=.type "slice",data:=.fields #[.none,.none,.int (-1) t] } };refine iB (ops:=[.ref a,.ref s3.heap.objs.size]) ht.isList.typeIs SJ.lookup ?_ (by with_unfolding_all rfl);refine ZJ ht.isList (RZ ..) .none .none (.int (-1) t) 's' ?_ (by rw[A0]<;>lia);rw[zJE];refine{.ref (s3.heap.push { cls:=.type "slice",data:=.fields #[.none,.none,.int (-1) t] }).objs.size,_,I4.laid (t':=s3.toks) (o:=.lst xs.reverse) (λb ob q=>AF _ q) (AM _) ?_,rfl,q _ (I4.hok.fresh (AM _))};refine{by rw[OI];exact hz,CA.reverse,0,?_,AV _ rfl};exact Vals.reverse r
end
def yH(ge gs:G):G:=λE=>(ge E).bind λp=>(gs p.2).bind λq=>match p.1 with
 |.lst xs=>if q.1 matches .int (-1) then .ok (.lst xs.reverse,q.2) else .bad
 |_=>.bad
section
variable{st:CU}{ge gs:G}
theorem yFB(he:VE X e ge)(hs:VE X st gs):FE X (.Subscript e (.Slice AI AI (AA st) p2) pos) (yH ge gs):=(Zp he hs).imp λσ H Q h=>by
 obtain⟨τ,F,E,d,E',S,hg,k⟩:=h;unfold yH at hg;obtain⟨p,e1,hg⟩:=pA3 hg;obtain⟨q,e2,hg⟩:=pA3 hg;refine{τ,F,E,p.1,p.2,S,e1,λv F1 H1 st1 S1 r1=>{τ,F1,p.2,q.1,q.2,S1,e2,λu F2 H2 st2 S2 r2=>?_}};obtain⟨pd,pE⟩:=p;obtain⟨qd,qE⟩:=q
 cases pd with
 |lst xs =>
  dsimp only at hg r2 r1;split at hg
  .cases hg
   obtain rfl:=r2.vI
   cases r1 with
   |@lst a vs _ sq rs =>
   refine{rfl,a,vs,rfl,(sq.imp (λz=>st2.le.rd z) id).imp S2.sub.rd id,λD hD=>?_};have n5:New F2 H2 F2 (DU H2 D (.lst vs.reverse)):=pA6 S2.sub (Gr.new hD)
   have hF:F2 D=AI:=by
    cases e:F2 D with
    |none=>rfl
    |some u=>rw[S2.sub _ _ e] at hD;cases hD
   exact k D F2 _ ((st1.trans st2).trans n5.stp) (S2.new n5) hF ((st1.trans st2).dom D hD) {_,G3,(rs.le st2.le).reverse} (S2.fresh hD)
  .cases hg
 |_=>cases hg
end
theorem Tw{nm:List CK}{g:G}(hr:Room 3 X.A)
  (h:(dS X X.A.in1.in1 q scope cl nm f cd s H).A.units+64<GQ->VE (dS X X.A.in1.in1 q scope cl nm f cd s H) e g):VE (dS X X.A.in1.in1 q scope cl nm f cd s H) e g :=
 h (hr.in1.in1.deeper _).units
section
variable{K:AC}{c T:AQ}{Wk:AH}{Wj:Option AQ}{sl sY:Array (Option AH)}{vs:Array AH}
theorem tabIn_of(a:BW K BL x=AA (AA (.ref f)))(l:K.lookup f=AA {oc,od,.func fd,sl})(hc:fd.code=.ref c)(m:K.lookup c=AA {Wk,Wj,.fields vs,sY})(hv:vs[11]?=AA (.ref T)):EI K x=AA (c,T):=by
 unfold EI;rw[a];simp only[l,hc,m,hv]
theorem zUN(a:BW K BL x=AA AI):EI K x=AI:=by
 unfold EI;rw[a]
inductive TabE(K:AC)(q:CI)(x:CK):Option AQ->Prop
 |no:BW K BL x=AA AI->TabE K q x AI
 |tab {c T:AQ} {d:DefRec}:EI K x=AA (c,T)->K.lookup T=AI->(recsOf q).find? (λe=>e.name==x)=AA d->TabE K q x (AA T)
theorem Tabs.of{q:CI}{ts:List (CK×Option AQ)}(h:∀p∈ts,TabE K q p.1 p.2)(hn:ts.map (·.1)=gD)(ap:ts.Pairwise λa b=>a.2=AI\/a.2≠b.2):Tabs K q:=by
 have g:∀{x:CK} {t:Option AQ},TabE K q x t->∀c T,EI K x=AA (c,T)->t=AA T/\K.lookup T=AI/\∃d,(recsOf q).find? (λe=>e.name==x)=AA d:=λ{x t} h c T e=>by
  cases h with
  |no z=>rw[zUN z] at e;cases e
  |tab z1 z2 z3=>rw[z1] at e;cases e;exact{rfl,z2,_,z3}
 have all:∀x∈gD,∃t,(x,t)∈ts:=λx hx=>by
  rw[<-hn] at hx;obtain⟨p,hp,rfl⟩:=DL.mp hx;exact{_,hp}
 refine{λx hx c T e=>let ⟨t,z⟩:=all x hx;(g (h _ z) c T e).2.2,λx hx c T e=>let ⟨t,z⟩:=all x hx;(g (h _ z) c T e).2.1,λx hx y hy c c' T e e'=>?_};obtain⟨t,z⟩:=all x hx;obtain⟨u,z'⟩:=all y hy;have a:=(g (h _ z) c T e).1;have b:=(g (h _ z') c' T e').1;dsimp only at a b;subst a b;clear g all hn hx hy h e e'
 induction ts with
 |nil=>cases z
 |cons p r ih =>
  obtain⟨a1,a2⟩:=JB.mp ap;rcases BD.mp z with e|z1<;>rcases BD.mp z' with e'|z2
  .rw[<-e] at e';cases e';rfl
  .subst e;rcases a1 _ z2 with w|w
   .cases w
   .exact absurd rfl w
  .subst e';rcases a1 _ z1 with w|w
   .cases w
   .exact absurd rfl w
  .exact ih a2 z1 z2
theorem tabs5{q:CI}{t1 t2 t3 t4 t5:Option AQ}(h1:TabE K q "holders" t1)(h2:TabE K q "_law_table" t2)(h3:TabE K q "_law_back" t3)(h4:TabE K q "_law_kept_right" t4)(h5:TabE K q "law" t5)
  (ap:[t1,t2,t3,t4,t5].Pairwise λa b=>a=AI\/a≠b):Tabs K q :=
 Tabs.of (ts:=[("holders",t1),("_law_table",t2),("_law_back",t3),("_law_kept_right",t4),("law",t5)]) (λp hp=>by
  simp only[BD,CZ,or_false] at hp;rcases hp with rfl|rfl|rfl|rfl|rfl
  .exact h1
  .exact h2
  .exact h3
  .exact h4
  .exact h5) rfl (DX (f:=(FO:CK×Option AQ->Option AQ)) (R:=λa b=>a=AI\/a≠b) |>.mp ap)
end
end L2
namespace HT
open PySem PySem.Spec PyProof.Rows
end HT
namespace L2
open PySem PySem.Spec PyProof.Rows
section
variable{st:CU}{ts:TE}
end
end L2
namespace HT
open PySem PySem.Spec PyProof.Rows
section
open PySem.SeqAt
open PySem.AutoSeq1 (wpAny_loadPart')
open PySem.MeetsSeq PySem.MeetsSeq2 PySem.MeetsSeq3
end
end HT
variable{bm:List AH}{YB:String}{s₀:AT}{kn:CK}{WA:AQ}{ie ik:Nat}
namespace L2
open PySem PySem.Spec PyProof.Rows
section
variable{K:AC}{a b st:CU}{ga gb ge gs:G}{gss:List G}
end
section
variable{K:AC}
end
structure ExK(K:AC)(C:AQ)(bm:List AH)(YB:String):Prop where
 ex:JX K C bm YB=AL
 ga:KW K (.ref C) "__getattribute__"=AA (AA (.builtin "BaseException.__getattribute__"))
 gb:KW K (.ref C) "__getattr__"=AA AI
 ha:KW K (.ref C) "__class__"=AA (AA (.builtin "object.__class__"))
 hn:YN K (.builtin "object.__class__") "__get__"=AA (AA (.builtin "getset_descriptor.__get__"))
 ht:aP K (.builtin "object.__class__")=AA AL
 hm:SN K C (.type "object")=AA AL
 hb:SN K C (.type "BaseException")=AA AL
def XAt(x C:AQ)(h:DZ):Prop:=∃o,h.get? x=AA o/\o.cls=.ref C
section
variable{K:AC}{x:AQ}
open PySem.W Builtin Builtin.ObjectAttr Builtin.Getset_descriptor in
theorem XAt.type(I:XAt x C h):Looks M h (typeOf (.ref x)) (.ref C):=by
 obtain⟨o,e,c⟩:=I;exact c▸(Looks.ld e).andThen .now
open PySem.W Builtin Builtin.ObjectAttr Builtin.Getset_descriptor in
theorem ExK.find(Z:ExK K C bm YB)(X:K.In h):Looks M h (find (.ref x) (.ref C) "__class__") (.bind (.builtin "getset_descriptor.__get__") (.builtin "object.__class__")) :=
 (looks_findIn X Z.ha).andThen ((show Looks M h (getOf (AA (.builtin "object.__class__"))) (AA (.builtin "getset_descriptor.__get__")) from looks_specialIn X Z.hn).andThen
  ((show Looks M h (dataDescriptor? (AA (.builtin "object.__class__")) (AA (.builtin "getset_descriptor.__get__"))) (AA (.builtin "getset_descriptor.__get__",.builtin "object.__class__")) from(looks_takesIn X Z.ht).andThen .now).andThen (Looks.tag .now)))
open PySem.W Builtin Builtin.ObjectAttr Builtin.Getset_descriptor in
theorem ExK.get(Z:ExK K C bm YB)(X:K.In s.heap)(I:XAt x C s.heap){tp:AH}(q:R (.ok (.ret (.ref C))) s):HG (A3 prog w) A (.call (.builtin "getset_descriptor.__get__") {[.builtin "object.__class__",.ref x,tp],[]}) R s:=by
 obtain⟨hh,g,dr,t,os⟩:=s;have L0:=I.type (M:=A3 prog w);have L1:=looks_mroIn (M:=A3 prog w) X Z.hm;refine iG KF.slot_gs.plain KF.entry_gs (KF.slot_gs.check _ _ _ _ _ _ _ _ KF.type_class (KF.args_gs _ _ _) ?_);unfold E4.«getset_descriptor.__get__» descrGet;rw[dga_obj];refine AB (wpAny_pure ?_);unfold descrGetter descrCheckInstance descrNameAndClass isInstance;simp only[KF.owner_class]
 repeat lk
 refine{Code.quiet_builtin _ (by decide +kernel),codeAny_builtin KF.entry_class ?_};unfold E4.«object.__class__» shownTypeOf
 repeat lk
 exact q
open PySem.W Builtin Builtin.ObjectAttr Builtin.Getset_descriptor in
theorem ExK.cls(Z:ExK K C bm YB)(X:K.In s.heap)(I:XAt x C s.heap){Q:Option AH->AT->Prop}(q:Q (AA (.ref C)) { s with toks:=s.toks+1 }):AZ (A3 prog w) A (getAttr? (.ref x) "__class__") Q E s:=by
 obtain⟨hh,g,d,t,os⟩:=s;have L0:=I.type (M:=A3 prog w);have L1:=looks_findIn (M:=A3 prog w) X Z.ga;have L2:=Z.find (M:=A3 prog w) (x:=x) X;have L3:=looks_findIn (M:=A3 prog w) X Z.gb;have L4:=looks_mroIn (M:=A3 prog w) X Z.hb;have hk:builtinKind "BaseException.__getattribute__"=AA .slot:=by decide +kernel
 have mQ:splitId "BaseException.__getattribute__"=AA ("BaseException","__getattribute__"):=by decide +kernel
 have ha:=λn=>F.args_bexc_ga (.ref x) n;have RH:(OG "BaseException.__getattribute__"==OG "object.__getattribute__")=AD:=by decide +kernel
 unfold getAttr? getAttrBy? getAttrBy;refine AB (wpAny_mkText (AB (GH (C7 (AB (L0.at (AB (L1.at ?_))))))));show AZ _ _ (if(onTheHeap (DI C)&&OG "BaseException.__getattribute__"==OG "object.__getattribute__")=AL then _ else getAttrByItsOwn _ _ _ _ _ _) _ _ _;rw[RH,kR,if_neg CG];unfold getAttrByItsOwn;refine AB (L3.at (AB (GH (C7 ?_))));show AZ _ _ (bindSpecial _ _ >>= _) _ _ _;rw[F.excAttr_ValueError.ga.bind];refine AB (wpAny_pure (RP (iG F.excAttr_ValueError.ga.plain F.entry_bexc_ga ?_)));simp only[checkBuiltinCall,hk,mQ];unfold isInstance
 repeat lk
 refine wpAny_run (h:=AI) (Z.get (s:={hh,g,d,t+1,os}) X I ?_);exact wpAny_pure (wpAny_pure (handed_on rfl (wpAny_pure q)))
open PySem.W Builtin Builtin.ObjectAttr Builtin.Getset_descriptor in
theorem ExK.kit(Z:ExK K C bm YB):KitX K (.ref x) (.ref C) (XAt x C) where
 ty:=λ_ _ _ I=>I.type
 it:=λ_ _ X _=>by
  have z:=Z.ex;unfold excIn at z;split at z
  .rename_i ho
   intro A' Q' E' s' k q;unfold isType loadHead;exact AB (wpAny_loadPart (k _ _ (X _ _ ho)) (wpAny_pure q))
  .cases z
 ne:=λh tp dd CA n sl X htp=>by
  refine QC.mpr λq=>?_;obtain rfl:C=tp:=Value.ref.inj (beq_iff_eq.mp q);have z:=Z.ex;unfold excIn at z;split at z
  .rename_i ho
   have e:=congrArg Obj.cls (BK ((X _ _ ho).symm.trans htp));exact absurd (Value.type.inj e) 'd'
  .cases z
 ca:=λX I k=>Z.cls X I k
end
structure Fly(P:CI)(w:DY)(C:AQ)(outer:List WK)(H:Hp)(s:AT)(a:AQ)(H1:Hp)(h1:DZ)(fr:List AQ)(a0:AH)(s':AT):Prop where
 os:s'.os=s.os
 bare:M5 s'.gens
 un:Un (QU outer) [] H H1 s.heap h1
 hok:HOk P w H1 h1
 frs_:∀b∈fr,H1 b=AI/\(b∈QU outer\/s.heap.objs.size<=b)/\∃o,h1.get? b=AA o/\∀vs,o.data≠.fields vs
 new:h1.get? a=AI
 fl:Heap.FlyingW (IQ h1 fr) outer a (.ref C) a0 s'.heap
 up:h1.UpToSlots s'.heap
def QF(P:CI)(w:DY)(C:AQ):CXT:=λouter H s E e s'=>∃a H1 h1 fr a0,e=.ref a/\Fly P w C outer H s a H1 h1 fr a0 s'/\E (.ref C) AI H1
section
variable{h2:DZ}{fr:List AQ}{a0:AH}
theorem Fly.kept(F:Fly P w C outer H s a H1 h1 fr a0 s')(st:(IQ h1 fr).StaysIn h2)(up:h1.UpToSlots h2):Un (QU outer) [] H H1 s.heap h2/\HOk P w H1 h2:=by
 have any:∀b o,h1.get? b=AA o->(b∉fr->h2.get? b=AA o)/\∃o',h2.get? b=AA o'/\(b∈fr->∃sl,o'={ o with slots:=sl }):=λb o e=>by
  refine{λn=>st b o (NV _ e n),?_}
  by_cases hb:b∈fr
  .obtain⟨_,_,o',e',d⟩:=F.frs_ b hb
   rw[e] at e';cases e';obtain⟨sl,q⟩:=up b o e d;exact{_,q,λ_=>{sl,rfl}}
  .exact{o,st b o (NV _ e hb),λz=>absurd z hb}
 have HV:∀b o,s.heap.get? b=AA o->b∉QU outer->b∉fr:=λb o e n z=>by
  rcases(F.frs_ b z).2.1 with q|q
  .exact n q
  .exact absurd (A8 e) (U0.mpr q)
 refine{{λb o e n hb hx=>(any b o (F.un.keep b o e n hb hx)).1 (HV b o e hb),λb o e n hb hx=>?_,F.un.free,λb o e hx=>?_,F.un.tups,F.un.frzs,F.un.tbls},λb u e=>?_}
 .obtain⟨sl,q⟩:=F.un.slot b o e n hb hx
  by_cases hf:b∈fr
  .obtain⟨o',q1,q2⟩:=(any b _ q).2
   obtain⟨sY,rfl⟩:=q2 hf;exact{sY,q1}
  .exact{sl,(any b _ q).1 hf}
 .obtain⟨o',q⟩:=F.un.there b o e hx
  obtain⟨o2,q2,_⟩:=(any b o' q).2;exact{o2,q2}
 .refine(F.hok b u e).stay (λc v hc q=>(any c v q).1 λz=>?_) (λ_ q=>q) (λ_ _ q=>q) λ_ _ _ q=>q
  have n:=(F.frs_ c z).1;rcases hc with rfl|hc
  .rw[n] at e;cases e
  .rw[n] at hc;cases hc
end
section
variable{K:AC}{E:XK}
theorem zPB{vs:List AH}(I:Inv (OL (QF P w C) P w K mg base N qual scope f cd A outer s₀ H₀ E) AE σ H s)(hx:Heap.MadeExcOf s.heap h' a (.ref C) vs)
  (q:E (.ref C) AI H):(OL (QF P w C) P w K mg base N qual scope f cd A outer s₀ H₀ E).xe (.ref a) { s with heap:=h' }:=by
 have WU:∀env∈(OL (QF P w C) P w K mg base N qual scope f cd A outer s₀ H₀ E).stack,∀b,env.frame=AA b->b∈QU (OL (QF P w C) P w K mg base N qual scope f cd A outer s₀ H₀ E).stack:=λenv he b hb=>HH.mpr {env,he,hb};refine wpAny_leaves_madeW (base:=IQ s.heap (QU (OL (QF P w C) P w K mg base N qual scope f cd A outer s₀ H₀ E).stack)) I.ok.frames rfl (λb o e=>X0 _ e) (PySem.W.funFrames_hide I.stack WU) hx λh2 t fl _ _ up=>?_;refine{a,H,s.heap,_,.ref t,rfl,{I.os,I.bare,I.base,I.hok,λb hb=>{I.stkFree b hb,?_,(I.stack.mem hb).2},hx.new,fl,(Heap.UpToSlots.of_keeps hx.keeps).trans up},q};rcases BD.mp (I.stkSub b hb) with e|e
 .exact .inr (CO e.symm)
 .exact .inl e
theorem Zo(X:K.In h)(Z:JX K C bm YB=AL):∃tl N nm q bs hd sn sub ab col dd k0 k1 k2 k3 k5 mN,h.get? C=AA (excClassObj nm q C N bs tl hd sn sub ab col dd k0 k1 k2 k3 k5 YB)/\h.Ns N mN/\mN "__init__"=AI/\OwnTail h bm tl:=by
 unfold JX at Z;split at Z
 .rename_i dd cd sl ho
  split at Z
  .rename_i C' tl k0 k1 k2 k3 n k5 em es
   simp only[EU,beq_iff_eq,LZ] at Z;obtain⟨⟨⟨⟨⟨e1,e2⟩,e3⟩,e4⟩,e5⟩,e6⟩:=Z;cases cd;cases sl;dsimp only at em e3 e5 e6 es;subst e1 e2 em e3 es;exact{tl,_,_,_,_,_,_,_,_,_,dd,k0,k1,k2,k3,k5,_,X _ _ ho,.of_isNs (PySem.W.isNs_of_in X e5),PySem.W.nsMap_none_of_in X e5 e6,PySem.W.tail_of_in X e4}
  .cases Z
 .cases Z
theorem zUO{np:fD}{ta:TA}{B ini:String}(FB:ExcBaseFacts B YB ini bm)(Z:JX K C bm YB=AL)(hm:mg x=AA (.ref C))(hh:A.handled=AI)
  (ha:PA (OL (QF P w C) P w K mg base N qual scope f cd A outer s₀ H₀ E) (e::es) ta) (hg:Gl (OL (QF P w C) P w K mg base N qual scope f cd A outer s₀ H₀ E) x:=by rfl) (hd:(x==("__debug__":CK))=AD:=by decide)
  (he:AO (e::es) (FR qual scope s₀.heap.objs.size f cd)=(AD,eval e (FR qual scope s₀.heap.objs.size f cd))::AO es (FR qual scope s₀.heap.objs.size f cd):=by rfl)
  (JT:(DH GO (AO es (FR qual scope s₀.heap.objs.size f cd))).any (·.1)=AD:=by rfl) :
  PS (OL (QF P w C) P w K mg base N qual scope f cd A outer s₀ H₀ E) (.Raise (AA (.Call (.Name x np) (e::es) [] GO)) AI pos) (λD σ H=>ta σ H λvs H1=>vs.length<=sizeLine/\E (.ref C) AI H1):=by
 intro AE s σ H D I h;obtain⟨tl,Nn,nm,q,bs,hdct,sn,sub,ab,col,dd,k0,k1,k2,k3,k5,mN,hC,hN,hni,TL⟩:=Zo (K:=K) (h:=base) I.ok.mod.kin Z;refine wpAny_Raise_call_subT (C:=C) (nm:=nm) (q:=q) (N:=Nn) (bs:=bs) (bm:=tl) (hdct:=hdct) (sn:=sn) (sub:=sub) (ab:=ab) (col:=col) (dd:=dd) (k0:=k0) (k1:=k1) (k2:=k2) (k3:=k3) (k5:=k5) FB (mN:=mN) (TL.hasType FB.hasBase) hh ?_ hni (oQ I hg hm {rfl,?_} hd)
 .show(DH GO (AO (e::es) (FR qual scope s₀.heap.objs.size f cd))).any (·.1)=AD
  rw[he];exact JT
 .have h:=ha GO AE s σ H _ I h
  show AZ _ _ (evalArgs (.ref C) AL (DH GO (AO (e::es) (FR qual scope s₀.heap.objs.size f cd))) []) _ _ _;have h:AZ (A3 P w) _ (spliced (DH GO (AO (e::es) (FR qual scope s₀.heap.objs.size f cd)))) _ _ s:=h;rw[he] at h ⊢;refine NW (CY h (λus s2 q=>?_) λ_ _ y=>y);obtain⟨vs,H1,I1,r,z,q⟩:=q;exact{rfl,by rw[<-r.length];exact z,I1.bk _ _ hC,hN.keeps I1.bk,TL.keeps I1.bk,λh' a m=>zPB I1 m q}
end
theorem Inv.frame{t:Nat}{m':CK->Option AH}(I:Inv X AE σ H s)(hs:DG X.env.locals s.heap h')(hn:h'.Ns X.env.locals m')(hl:σ'.length=σ.length)
  (hv:∀(i:Nat) (x:CK) (v:V),X.N[i]?=AA x->σ'[i]?=AA (AA v)->ZA X.env.scope x->∃u,RelV v u/\Ti X.env h' m' x u):Inv X AE σ' H { s with heap:=h',toks:=t }:=by
 obtain⟨m,⟨oL,es,ep,jZ,r⟩,_⟩:=id I.loc;have ne:∀b o,X.s₀.heap.get? b=AA o->b≠X.env.locals:=λb o e=>B0 (AN (A8 e) I.ok.above);refine{I.ok,I.os,I.bare,{λb o e n hb hx=>(hs.2 b (ne b o e)).trans (I.base.keep b o e n hb hx),λb o e n hb hx=>?_,I.base.free,λb o e hx=>?_,I.base.tups,I.base.frzs,I.base.tbls},{m',hn,hv},λy c e=>?_,I.free,I.freeC,λp hp=>?_,λb u e=>?_,hl.trans I.len}
 .obtain⟨sl,e1⟩:=I.base.slot b o e n hb hx
  exact{sl,(hs.2 b (ne b o e)).trans e1}
 .obtain⟨o',e1⟩:=I.base.there b o e hx
  exact{o',(hs.2 b (ne b o e)).trans e1}
 .obtain⟨v,z⟩:=I.cell y c e
  exact{v,z.sameBut hs (I.cne y c e)}
 .obtain⟨e,n,ne,nf,d⟩:=I.pin p hp
  exact{(hs.2 p.1 ne).trans e,n,ne,nf,d}
 .refine(I.hok b u e).stay (λc v hc q=>(hs.2 c ?_).trans q) (λ_ q=>q) (λ_ _ q=>q) λ_ _ _ q=>q
  rintro rfl;rcases hc with rfl|hc
  .rw[I.free] at e;cases e
  .rw[I.free] at hc;cases hc
theorem zRX{Q:Unit->AT->Prop}(I:Inv X AE σ H s)(hN:X.N.Nodup)(hi:X.N[i]?=AA x)(hk:X.env.scope.names.lookup x=AA .local)(hv:σ[i]?=AA (AA v))
  (h:∀s',Inv X AE (σ.set i AI) H s'->Q () s'):AZ M A (unbindName X.env x) Q E s:=by
 obtain⟨m,hn,hl⟩:=id I.loc;obtain⟨u,_,q⟩:=hl i x v hi hv (.inl hk);rcases q with⟨_,hm⟩|⟨q,_⟩
 .refine wpAny_unbindName_local hk hn hm (by rw[I.ok.kind];rfl) λh' z Iw hs=>h _ (I.frame hs Iw (BZ ..) λj y w e1 e2 e3=>?_)
  have hj:i≠j:=λe=>by
   subst e;rw[BF (AR.mp hv).1] at e2;cases e2
  rw[A4 hj] at e2;obtain⟨u',r',q⟩:=hl j y w e1 e2 e3;have hy:y≠x:=λe=>hj (xH hN hi (e▸e1));refine{u',r',?_};rcases q with⟨k,e⟩|⟨k,c,e,z'⟩
  .exact .inl {k,(if_neg hy).trans e}
  .exact .inr {k,c,e,z'.sameBut hs (I.cne y c e)}
 .have q:X.env.scope.names.lookup x=AA .cell\/X.env.scope.names.lookup x=AA .free:=q
  rw[hk] at q;rcases q with q|q<;>cases q
noncomputable def Cx.hot(X:Cx)(a:AQ):Cx:={ X with A:=X.A.mark (AA (.ref a)),calm:=AD,xe:=λ_ _=>False }
theorem Inv.heat(I:Inv X AE σ H s)(a:AQ):Inv (X.hot a) AE σ H s :=
 {{I.ok.tab,I.ok.mod,I.ok.kind,I.ok.glob,I.ok.blt,I.ok.above,I.ok.inj,I.ok.has,I.ok.cab,(λz=>by cases z),I.ok.frames,I.ok.stk,I.ok.exf,I.ok.bs,I.ok.bsz,I.ok.noex,I.ok.exfs,I.ok.funs,I.ok.frf},I.os,I.bare,I.base,I.loc,I.cell,I.free,I.freeC,I.pin,I.hok,I.len}
theorem pAN(ok:X.Ok)(I:Inv (X.hot a) AE σ H s):Inv X AE σ H s:={ok,I.os,I.bare,I.base,I.loc,I.cell,I.free,I.freeC,I.pin,I.hok,I.len}
def Af(A:DJ):DJ:={ A with handled:=AI }
def yY(P:CI)(w:DY)(K:AC)(mg:CK->Option AH)(base:DZ)(N:List CK)(qual:CK)(scope:M1)(f:AQ)(cd:AH)(A:DJ)(outer:List WK)(s:AT)(H:Hp):Cx :=
 { OL LO P w K mg base N qual scope f cd A outer s H E0 with calm:=AD,xe:=λ_ _=>False }
section
variable{K:AC}
theorem yHN{st:E6}{ps:List CK}{Q:VK}(F:Fun K x qual st f fd)(S:FnScope N ps (J5 st))
  (hr:Room (k+1) (Af A)) (e0:Env0 P w K mg base A outer s H) (hb:SU s fd {us,[]} (ps.zip us)) (hl:vs.length=ps.length) (r:Vals vs us)
  (KO:∀G5,∃t,PSs (yY P w K mg base N qual (J5 st) f G5 A outer s H) (U7 st) t/\t { nx:=λ_ H'=>Q .non H',rt:=Q } (start N vs) H) :
  HG (A3 P w) A (.call (.ref f) {us,[]}) (CR LO outer P w H s Q E0) s:=by
 obtain⟨oc,od,kV,RN,pm,an,G5,ct,ZC,rfl,lk,LR⟩:=F.ex;have KX:K.In s.heap:=e0.mod.kin.keeps λb o e=>(e0.bs b o e).1;have Hm:s.heap.NoLimit:=e0.mod.nolimit.keeps λb o e=>(e0.bs b o e).1;refine fB (A:=A) hr.depth (KX _ _ lk) rfl S.co S.gen rfl (X2 KX LR) (hb _ _ _ _ ?_);refine XS S.kind (λy hy=>?_) λenv he s1 x=>?_
 .rcases S.par y.1 (IZ hy).1 with q|q
  .exact .inl q
  .exact .inr {q,MK _ _ _ (.inl q)}
 subst he;refine{Hm.keeps x.toInCall.keep,codeAny_func ?_};obtain⟨t,ht,hq⟩:=KO G5;have e1:Env0 P w K mg base (Af A) outer s H:={e0.tab,e0.frames,e0.mod,e0.bs,e0.bsz,e0.funs,e0.frf,e0.hok,e0.bare};have I:=Qp (CX:=LO) (E:=E0) (qual:=qual) (f:=f) (cd:=G5) S hr.hd e1 hl r x
 have I:Inv (yY P w K mg base N qual (J5 st) f G5 A outer s H) [] (start N vs) H s1 :=
  {{I.ok.tab,I.ok.mod,I.ok.kind,I.ok.glob,I.ok.blt,I.ok.above,I.ok.inj,I.ok.has,I.ok.cab,(λz=>by cases z),I.ok.frames,I.ok.stk,I.ok.exf,I.ok.bs,I.ok.bsz,I.ok.noex,I.ok.exfs,I.ok.funs,I.ok.frf},I.os,I.bare,I.base,I.loc,I.cell,I.free,I.freeC,I.pin,I.hok,I.len}
 refine CY (ht [] s1 (start N vs) H _ I hq) (λfl s' hs=>?_) λe s' hs=>hs.elim
 cases fl with
 |ret u =>
  obtain⟨v,σ',H',J,rv,q⟩:=hs;exact{v,H',J.os,J.bare,J.base,J.hok,rv,q}
 |next =>
  obtain⟨σ',H',J,q⟩:=hs;exact{.non,H',J.os,J.bare,J.base,J.hok,rfl,q}
 |brk=>obtain⟨_,_,_,q⟩:=hs;exact q.elim
 |cont=>obtain⟨_,_,_,q⟩:=hs;exact q.elim
end
def Ux(a:AQ)(b:Bool):TE:=λσ H Q=>σ[0]?=AA (AA (.ref a))/\Q (.bl b) H
def pN(a:AQ)(bs:List Bool):TA:=λσ H Q=>σ[0]?=AA (AA (.ref a))/\Q (bs.map V.bl) H
theorem bB{n:CK}{ce:CU}{cv:V}{uc:AH}{b:Bool}(hX:∀AE σ H s,Inv X AE σ H s->XAt a C s.heap)(Z:ExK X.K C bm YB)(hm:X.mg "isinstance"=AI)(hc:PE X ce (tC cv))(hv:∀u,RelV cv u->u=uc)(he:BP X.K (.ref C) uc=AA b)
  (hN:X.N[0]?=AA n:=by rfl) (hl:ZA X.env.scope n:=by first|exact BN rfl|exact D9 (BN rfl)) (hg:Gl X "isinstance":=by rfl) (hd:(n==("__debug__":CK))=AD:=by decide) (LR:(n==("__classdict__":CK))=AD:=by decide)
  (h1:AO [.Name n p1,ce] X.env=(AD,eval (.Name n p1) X.env)::AO [ce] X.env:=by rfl) (h2:AO [ce] X.env=(AD,eval ce X.env)::AO [] X.env:=by rfl) (JT:(DH pos (AO [ce] X.env)).any (·.1)=AD:=by rfl) :
  PE X (.Call (.Name "isinstance" p) [.Name n p1,ce] [] pos) (Ux a b):=by
 have hc:CallR X (.builtin "isinstance") (λxs H Q=>xs=[.ref a,cv]/\Q (.bl b) H)/\PE X ce (tC cv):={λAE s σ H xs us Q I r h=>by
  obtain⟨rfl,q⟩:=h
  cases r with
  |cons r1 r2 =>
   cases r2 with
   |cons r2 r3 =>
    cases r3;cases r1;obtain rfl:=hv _ r2
    exact DA Z.kit I.kIn (hX _ _ _ _ I) he (λz=>nomatch z) λtk=>{.bl b,H,I.tok tk,rfl,q},hc}
 refine(xF hc.1 hg hm Boot.isinstance (R8 (fY hN hl hd LR) (R8 hc.2 HU h2) h1) 'd' 'd' h1 JT).imp λσ H Q h=>?_;exact{_,h.1,rfl,h.2}
theorem Aw:PA X [] (pN a []):=λpos AE s σ H Q I h=>HU pos AE s σ H Q I h.2
theorem a9{b:Bool}{bs:List Bool}(h:PE X e (Ux a b))(r:PA X es (pN a bs))(hs:AO (e::es) X.env=(AD,eval e X.env)::AO es X.env:=by rfl):PA X (e::es) (pN a (b::bs)) :=
 λpos AE s σ H Q I q=>R8 h r hs pos AE s σ H Q I {q.1,q.1,q.2}
def yCT(a:AQ)(l1 l2 l3:List Bool):TS:=k7 (iP (oA (pN a l1)) (Z1 1)) (k7 (iP (jJ En (ZY 1) (oA (pN a l2))) (Z1 1)) (Ts (jJ En (ZY 1) (oA (pN a l3)))))
def KU(P:CI)(w:DY)(K:AC)(mg:CK->Option AH)(base:DZ)(f C:AQ)(bs:List Bool):Prop :=
 ∀(A:DJ) (outer:List WK) (s:AT) (H:Hp) (a:AQ) (Q:VK),Room 2 (Af A)->Env0 P w K mg base A outer s H->XAt a C s.heap->H a=AI->a∉QU outer ->
  (∀p H',Gr H H'->H p=AI->H' p=AA (.lst (bs.map V.bl))->Q (.ref p) H')->HG (A3 P w) A (.call (.ref f) {[.ref a],[]}) (CR LO outer P w H s Q E0) s
section
variable{K:AC}{st:E6}{l1 l2 l3:List Bool}
theorem zUP{n:CK}(Fn:Fun K x x st f fd)(S:FnScope [n,kn] [n] (J5 st))(hb:Binds K fd [n] [])(hz:l1.length+l2.length+l3.length<=100)
  (KO:∀G5 A outer s H a,(∀AE σ H' s',Inv (yY P w K mg base [n,kn] x (J5 st) f G5 A outer s H) AE σ H' s'->XAt a C s'.heap)->PSs (yY P w K mg base [n,kn] x (J5 st) f G5 A outer s H) (U7 st) (yCT a l1 l2 l3)) :
  KU P w K mg base f C (l1++l2++l3):=λA outer s H a Q hr e0 ha hn ho k=>by
 obtain⟨o,p7,YF⟩:=ha;refine yHN (k:=1) (vs:=[.ref a]) (us:=[.ref a]) Fn S hr e0 ?_ rfl (.cons rfl .nil) λG5=>{_,KO G5 A outer s H a λAE σ H' s' I=>{o,I.base.keep a o p7 hn ho (by exact CZ),YF},?_}
 .exact hb s [.ref a] (e0.mod.kin.keeps λb o e=>(e0.bs b o e).1) rfl
 .have z:∀n,n<=100->n<=sizeLine:=λn h=>AY h 'd'
  refine{rfl,by rw[AJ];exact z _ 'l',λp1 h1=>{_,rfl,rfl,by rw[AJ];exact z _ 'l',λp2 h2=>?_}};have n21:=T4 (G3 (H:=H) (a:=p1) (o:=.lst (l1.map V.bl))) h2;refine{p1,p2,_,_,rfl,rfl,by rw[EL n21];exact G3,G3,by rw[AJ,AJ];exact z _ 'l',λp3 h3=>?_};refine{_,rfl,rfl,by rw[AJ];exact z _ 'l',λp4 h4=>?_};have n43:=T4 (G3 (a:=p3)) h4;refine{p3,p4,_,_,rfl,rfl,by rw[EL n43];exact G3,G3,by simp only[AJ,BH];exact z _ 'l',λp5 h5=>?_};refine k p5 _ ((((Gr.new h1).trans (Gr.new h2)).trans (Gr.new h3)).trans ((Gr.new h4).trans (Gr.new h5))) ?_ ?_
  .exact Gr.dom ((((Gr.new h1).trans (Gr.new h2)).trans (Gr.new h3)).trans (Gr.new h4)) _ h5
  .rw[G3,FY,FY]
end
theorem ObjOk.there(x:ObjOk P w H h a o):∃ob,h.get? a=AA ob:=by
 cases o with
 |lst xs=>obtain⟨_,_,_,_,e⟩:=x;exact{_,e}
 |tup xs=>obtain⟨_,_,_,o,e,_⟩:=x;exact{_,e}
 |dK kvs=>obtain⟨_,_,_,_,o,es,ep,e,_⟩:=x;exact{_,e}
 |dT kvs=>obtain⟨_,_,_,_,o,es,ep,e,_⟩:=x;exact{_,e}
 |set S n=>obtain⟨ob,es,ep,t,e,c⟩:=x;exact{_,e}
 |ins C dx fs=>obtain⟨_,_,_,e,_⟩:=x;exact{_,e}
 |own y=>exact x
 |xd fs=>obtain⟨mA,⟨od,es,ep,e,c⟩,r⟩:=x;exact{_,e}
 |rng lo hi=>obtain⟨t,u,v,e⟩:=x;exact{_,e}
 |frz ob u=>exact{_,x.1}
 |tbl q ps=>exact{_,x.1}
 |met f y=>exact{_,x}
 |ext φ=>exact x.2.1
theorem zUQ{bs:List Bool}{W n kf:CK}{np XH p3 p4:fD}{fr:List AQ}{a0:AH}{D:Ends}(I:Inv X AE σ H s)(F:Fly X.prog X.w C X.stack H s a H1 h1 fr a0 s')
  (KK:KU X.prog X.w X.K X.mg X.base f C bs) (hr:Room 2 X.A) (hkf:X.mg kf=AA (.ref f)) (hkk:EJ X.K (.ref f)=AL) (hW:X.mg W=AA (.ref WA)) (hx:NH X.K (.ref C) (.ref WA)=AA AL)
  (hN:X.N.Nodup) (hi:X.N[ie]?=AA n) (hj:X.N[ik]?=AA kn) (LL:ie≠ik) (WU:X.env.scope.names.lookup n=AA .local) (RK:X.env.scope.names.lookup kn=AA .local)
  (stk:X.stack=X.env::X.outer) (hf:X.env.frame=AA X.env.locals)
  (q:∀p H',Gr H1 H'->H1 p=AI->H' p=AA (.lst (bs.map V.bl))->D.nx ((σ.set ik (AA (.ref p))).set ie AI) H')
  (Jl:Gl X W:=by rfl) (Jk:Gl X kf:=by rfl) (Jv:(W==("__debug__":CK))=AD:=by decide) (Ju:(kf==("__debug__":CK))=AD:=by decide) (Js:(n==("__debug__":CK))=AD:=by decide) (zW:(n==("__classdict__":CK))=AD:=by decide)
  (he:AO [.Name n p1] X.env=(AD,eval (.Name n p1) X.env)::AO [] X.env:=by rfl) (mO:IH (.Call (.Name kf p2) [.Name n p1] [] SD) (AA (.Name kn p3)) XH.line X.env=pure AD:=by rfl) :
  AZ (A3 X.prog X.w) X.A (aJ (.ref a) X.env) (λ_ ON=>AZ (A3 X.prog X.w) X.A (setFlight (.ref a) AI) (λ_ UK =>
   AZ (A3 X.prog X.w) X.A (handleBy (.ref a) X.env [.ExceptHandler (AA (.Name W np)) (AA n) [.Assign [.Name kn p3] (.Call (.Name kf p2) [.Name n p1] [] SD) XH] p4]) (SP X AE D) X.xe UK) X.xe ON) X.xe s':=by
 have t9:∀h5,(IQ h1 fr).StaysIn h5->h1.UpToSlots h5->Inv X AE σ H1 { s' with heap:=h5 }:=λh5 st up=>by
  obtain⟨un,hok⟩:=F.kept st up;exact I.call' (s':={ s' with heap:=h5 }) (ch:=[]) F.os un hok F.bare λb z=>absurd z 's'
 have na:H1 a=AI:=by
  cases z:H1 a with
  |none=>rfl
  |some u =>
   obtain⟨o,e⟩:=(F.hok a u z).there;rw[F.new] at e;cases e
 have aL:a∉QU X.stack:=λz=>by
  obtain⟨_,o,e,_⟩:=I.stack.mem z;obtain⟨o',e'⟩:=F.un.there a o e 's';rw[F.new] at e';cases e'
 have Yf:a≠X.env.locals:=λz=>aL (by rw[stk,z];unfold QU;rw[E7,hf];exact BB);refine wpAny_looks_onW (by rw[I.ok.frames,stk]) hf (stk▸F.fl) λh4 Jq up4=>?_;refine wpAny_landsW Jq λh5 Ke zG=>?_;have zG:=(F.up.trans up4).trans zG;have I5:=t9 h5 Ke.1 zG;refine wpAny_handleBy_cons (codeAny_handlers_test (oQ (I5.heat a) Jl hW ?_ Jv)) (by intro z;cases z);refine(PySem.W.exm_one I5.kIn (XAt.type Ke.there) hx).here ?_;refine codeAny_handlers_suite_as ?_;refine lands_againW Ke λh6 Xs up6=>?_;have I6:=t9 h6 Xs.1 (zG.trans up6);obtain⟨oa,vs,ea,ca,da,_⟩:=Xs.first;refine Df (v:=.ref a) I6 hN hi (.inl WU) rfl (λs7 I7 hs7=>?_) (.inr WU);obtain⟨c,sb,hc⟩:=hs7
 have ea7:s7.heap.get? a=AA oa:=by
  refine(sb.2 a λz=>?_).trans ea;rcases hc with hc|hc
  .exact Yf (z.trans hc)
  .obtain⟨v,o,e,d⟩:=I6.cell n c hc
   have e:h6.get? c=AA o:=e;rw[<-z,ea] at e;cases e;rw[da] at d;cases d
 have I7:Inv (X.hot a) ((a,oa)::AE) _ H1 s7:=(I7.heat a).pins_of λp hp=>by
  rcases BD.mp hp with rfl|hp
  .exact{ea7,na,Yf,λz=>aL (by rw[stk];unfold QU;rw[E7,hf];exact A7 _ z),λv d=>by rw[da] at d;cases d}
  .exact I7.pin p (BM _ hp)
 have Jg:ie < σ.length:=by rw[I.len];exact(AR.mp hi).1
 have eR:n≠kn:=λe=>LL (xH hN hi (e▸hj))
 have sX:AZ (A3 X.prog X.w) (X.hot a).A (execs [.Assign [.Name kn p3] (.Call (.Name kf p2) [.Name n p1] [] SD) XH] X.env) (λfl s8=>fl=.next/\∃p H',Gr H1 H'/\H1 p=AI/\H' p=AA (.lst (bs.map V.bl))/\Inv (X.hot a) ((a,oa)::AE) ((σ.set ie (AA (.ref a))).set ik (AA (.ref p))) H' s8) (λ_ _=>False) s7:=by
  refine KQ (CY (Q:=λfl s8=>fl=.next/\∃p H',Gr H1 H'/\H1 p=AI/\H' p=AA (.lst (bs.map V.bl))/\Inv (X.hot a) ((a,oa)::AE) ((σ.set ie (AA (.ref a))).set ik (AA (.ref p))) H' s8) ?_ (λfl s8 z=>?_) λ_ _ z=>z)
  .refine SH (HW (oQ (X:=X.hot a) I7 Jk hkf ?_ Ju)) mO
   refine OB (h₀:=X.base) I7.ok.mod.kin hkk (GN (R8 (fY (X:=X.hot a) hi (.inl WU) Js zW) HU he SD _ s7 _ H1 (λvs H2=>vs=[.ref a]/\H2=H1) I7 {_,BF Jg,rfl,rfl}) λus s8 z=>?_) he rfl;obtain⟨vs,H2,I8,r8,rfl,rfl⟩:=z
   cases r8 with
   |cons r8 r9 =>
    cases r8;cases r9;refine{I8.kIn,RP (LS (KK (X.hot a).A X.stack s8 H2 a (λv H'=>∃p,v=.ref p/\Gr H2 H'/\H2 p=AI/\H' p=AA (.lst (bs.map V.bl))) {rfl,hr.dp,hr.un,hr.gd} I8.env0 ?_ na aL λp H' g1 g2 g3=>{p,rfl,g1,g2,g3}) λr s9 hq=>?_)}
    .exact{oa,(I8.pin (a,oa) (BM _ BB)).1,ca}
    .cases r with
     |error e=>exact hq.elim
     |ok fl =>
      cases fl with
      |ret u =>
       obtain⟨v,H3,I9,rv,p,rfl,g1,g2,g3⟩:=I8.after hq;cases rv;exact xG (X:=X.hot a) (v:=.ref p) I9 hN hj (.inl RK) rfl (λGn vY=>{rfl,p,H3,g1,g2,g3,vY}) (.inr RK)
      |next=>exact hq.elim
      |brk=>exact hq.elim
      |cont=>exact hq.elim
  .obtain⟨rfl,z⟩:=z
   exact IF {rfl,z}
 refine CY sX (λfl s8 z=>?_) λ_ _ z=>z.elim;obtain⟨rfl,p,H',g,hp,hl,I8⟩:=z;have I8:=(pAN I.ok I8).pins_of (pins':=AE) λp hp=>I8.pin p (BM _ (A7 _ hp));refine AB (wpAny_bindName (xG I8 hN hi (.inl WU) (v:=.non) rfl (λs9 I9=>?_) (.inr WU)));refine NF (zRX I9 hN hi WU (v:=.non) (by rw[BF (by rw[BZ,BZ];exact Jg)]) λGn vY=>?_);refine{(σ.set ik (AA (.ref p))).set ie AI,H',vY.weak (by simp only[BZ]) λi v e=>?_,q p H' g hp hl}
 by_cases h1:ie=i
 .subst h1
  rw[BF (by rw[BZ];exact Jg)] at e;cases e
 .rw[A4 h1] at e
  rw[A4 h1,A4 h1]
  by_cases h2:ik=i
  .subst h2
   have cJ:ik < σ.length:=by rw[I.len];exact(AR.mp hj).1
   rw[BF cJ] at e;rw[BF (by rw[BZ];exact cJ)];exact e
  .rw[A4 h2] at e
   rw[A4 h2,A4 h1];exact e
abbrev GX:=Ev->Out Ev
def tX(K:AC)(H₀:Hp)(W:Hp->Prop)(g:GX):TS:=λ_ σ H=>∃τ F E E',Sim K H₀ τ F H σ E/\g E=.ok E'/\∀F' H',Stp (DT σ E) F H F' H' (λ_=>False)->Sub F' H'->W H'
def Sn(gs:List G):GX:=λE=>(NL gs E).bind λp=>few p.1.length (.ok p.2)
def yG(t:Ev->Out (Bool×Ev))(g:GX):GX:=λE=>(t E).bind λp=>if p.1=AL then g p.2 else .bad
section
variable{K:AC}{E:XK}
theorem zRZ{np:fD}{gs:List G}{rest:List E6}{B ini:String}(FB:ExcBaseFacts B YB ini bm)(Z:JX K C bm YB=AL)(hm:mg x=AA (.ref C))(hh:A.handled=AI)
  (ha:VA (OL (QF P w C) P w K mg base N qual scope f cd A outer s₀ H₀ E) (e::es) gs) (hg:Gl (OL (QF P w C) P w K mg base N qual scope f cd A outer s₀ H₀ E) x:=by rfl) (hd:(x==("__debug__":CK))=AD:=by decide)
  (he:AO (e::es) (FR qual scope s₀.heap.objs.size f cd)=(AD,eval e (FR qual scope s₀.heap.objs.size f cd))::AO es (FR qual scope s₀.heap.objs.size f cd):=by rfl)
  (JT:(DH GO (AO es (FR qual scope s₀.heap.objs.size f cd))).any (·.1)=AD:=by rfl) :
  PSs (OL (QF P w C) P w K mg base N qual scope f cd A outer s₀ H₀ E) (.Raise (AA (.Call (.Name x np) (e::es) [] GO)) AI pos::rest) (tX K H₀ (λH'=>E (.ref C) AI H') (Sn gs)) :=
 (Z2 (zUO FB Z hm hh ha hg hd he JT) De).imp λD σ H h=>by
  obtain⟨τ,F,E1,E2,S,hg,k⟩:=h;obtain⟨p,e1,hg⟩:=pA3 hg;obtain⟨hl,hg⟩:=W4 hg;exact{τ,F,E1,p.1,p.2,S,e1,λvs F1 H1 s1 S1 r1=>{by rw[r1.length];exact CN (bE hl),k F1 H1 (s1.weak λ_ z=>z.elim) S1.sub}}
end
section
variable{W:Hp->Prop}{gx:GX}
theorem yCU{a rest:List E6}{t:Ev->Out (Bool×Ev)}(hc:VT X c t)(ha:PSs X a (tX X.K X.H₀ W gx)):PSs X (.If c a [] pos::rest) (tX X.K X.H₀ W (yG t gx)) :=
 (Z2 (Aq hc ha T7) De).imp λD σ H h=>by
  obtain⟨τ,F,E1,E2,S,hg,k⟩:=h;obtain⟨p,e1,hg⟩:=pA3 hg;refine{τ,F,E1,p.1,p.2,S,e1,λF1 H1 s1 S1=>?_}
  by_cases hp:p.1=AL
  .rw[if_pos hp] at hg ⊢
   exact{τ,F1,p.2,E2,S1,hg,λF2 H2 s2 b=>k F2 H2 (s1.trans s2) b}
  .rw[if_neg hp] at hg;cases hg
end
theorem Sim.pad{K:AC}{ds:List D}(N:List CK)(s:Sub F H)(r:Reps K F vs ds):Sim K H₀ τ F H (start N vs) (ds.map Sl.val++BG (N.length-ds.length) .no):=by
 have lv:=r.length;have S:=Sim.args (K:=K) (H₀:=H₀) (τ:=τ) s r
 have YM:∀(i:Nat) x,(ds.map Sl.val++BG (N.length-ds.length) Sl.no)[i]?=AA x->x≠.no->i<ds.length/\(ds.map Sl.val)[i]?=AA x:=λi x q n=>by
  by_cases hi:i<ds.length
  .rw[B9 (by rw[AJ];exact hi)] at q;exact{hi,q}
  .rw[BX (by rw[AJ];exact EV hi),DR] at q
   split at q
   .cases q;exact absurd rfl n
   .cases q
 have no:∀(i:Nat) t d,(ds.map Sl.val++BG (N.length-ds.length) Sl.no)[i]?≠AA (.own t d):=λi t d q=>by
  have:=(YM i _ q λz=>by cases z).2;rw[AU] at this
  cases z:ds[i]? with
  |none=>rw[z] at this;cases this
  |some x=>rw[z] at this;cases this
 refine{s,?_,λi d q=>?_,λi t d q=>absurd q (no i t d),λi j t u d e a q=>absurd q (no i t d)}
 .unfold start
  rw[BH,BH,C2,C2,AJ,AJ,lv]
 .obtain⟨hi,q⟩:=YM i _ q λz=>by cases z
  unfold start;rw[B9 (by rw[AJ,lv];exact hi)];exact S.val i d q
def sC(K:AC)(C:AQ)(np:Nat)(mx:List D->Out Ev):Sp:=λvs H _ E=>vs.length=np/\∃F ds z,Sub F H/\Reps K F vs ds/\mx ds=.ok z/\∀F' H',New F H F' H'->E (.ref C) AI H'
noncomputable def Ed(n:Nat)(g:GX):List D->Out Ev:=λds=>g (ds.map Sl.val++BG (n-ds.length) .no)
def rX(P:CI)(w:DY)(K:AC)(mg:CK->Option AH)(base:DZ)(C:AQ)(x:CK)(k np:Nat)(mx:List D->Out Ev):Prop :=
 ∃(f:AQ) (fd:JN) (ps:List CK),FnOk P w K mg base (QF P w C) k f fd ps (sC K C np mx)/\mg x=AA (.ref f)/\EJ K (.ref f)=AL/\Binds K fd ps []
section
variable{K:AC}
theorem Sk{st:E6}{ps:List CK}{gx:GX}(Fn:Fun K x qual st f fd)(S:FnScope N ps (J5 st))
  (KO:∀(G5:AH) (A:DJ) (outer:List WK) (s:AT) (H:Hp) (E:XK),Room k (A.deeper (FR qual (J5 st) s.heap.objs.size f G5))->A.handled=AI ->
   PSs (OL (QF P w C) P w K mg base N qual (J5 st) f G5 A outer s H E) (U7 st) (tX K H (λH'=>E (.ref C) AI H') gx)):FnOk P w K mg base (QF P w C) (k+1) f fd ps (sC K C ps.length (Ed N.length gx)):=by
 obtain⟨oc,od,kV,RN,pm,an,G5,ct,ZC,rfl,lk,LR⟩:=Fn.ex;refine At lk LR S (λvs H Q E h=>h.1) λA outer s H vs Q E hr aC=>{_,KO G5 A outer s H E hr hr.hd,?_};obtain⟨hl,F,ds,z,sb,r,hm,q⟩:=aC;have S:=Sim.pad (K:=K) (H₀:=H) (τ:=f) N sb r;refine{f,F,_,z,S,hm,λF' H' st Gm=>q F' H' {{λa o e1 e2 e3 _=>st.keep a o e1 e2 e3 λz=>?_,st.dom,st.le,λa o e=>?_,λ_ z=>z.elim},Gm}}
 .obtain⟨i,t,d,e,_⟩:=z
  by_cases hi:i<ds.length
  .rw[B9 (by rw[AJ];exact hi),AU,BU hi] at e;cases e
  .rw[BX (by rw[AJ];exact EV hi),DR] at e
   split at e<;>cases e
 .rcases st.new a o e with z|z|⟨i,t,d,e,_⟩
  .exact .inl z
  .exact .inr (.inl z)
  .by_cases hi:i<ds.length
   .rw[B9 (by rw[AJ];exact hi),AU,BU hi] at e;cases e
   .rw[BX (by rw[AJ];exact EV hi),DR] at e
    split at e<;>cases e
theorem pAO{ps:List CK}{st:E6}{mx:List D->Out Ev}(Fn:Fun K x x st f fd)(h:FnOk P w K mg base (QF P w C) k f fd ps (sC K C np mx))(hm:mg x=AA (.ref f))(hb:Binds K fd ps []):rX P w K mg base C x k np mx:={f,fd,ps,h,hm,Fn.kp,hb}
end
def kW(g:GS)(gs:List G)(mx:List D->Out Ev)(ik ie:Nat)(bs:List Bool):GS:=λE=>match g E with
 |.ok r=>.ok r
 |_=>(NL gs E).bind λp=>(mx p.1).bind λ_=>.ok (.nx ((p.2.set ik (.val (.lst (bs.map D.bl)))).set ie .no))
theorem Sim.lose{K:AC}{E:Ev}{u:Option V}(S:Sim K H₀ τ F H σ E):Sim K H₀ τ F H (σ.set i u) (E.set i .no)/\∀a,DT (σ.set i u) (E.set i .no) a->DT σ E a:=by
 have HV:∀(j:Nat) x,(E.set i Sl.no)[j]?=AA x->x≠.no->E[j]?=AA x/\(σ.set i u)[j]?=σ[j]?:=λj x q n=>by
  by_cases hj:i=j
  .subst hj
   by_cases hi:i<E.length
   .rw[BF hi] at q;cases q;exact absurd rfl n
   .rw[NM (by rw[BZ];exact EV hi)] at q;cases q
  .rw[A4 hj] at q;exact{q,A4 hj}
 have ow:∀{j:Nat} {t d},(E.set i Sl.no)[j]?=AA (.own t d)->E[j]?=AA (.own t d)/\(σ.set i u)[j]?=σ[j]?:=λ{j t d} q=>HV j _ q λz=>by cases z
 refine{{S.sub,by rw[BZ,BZ];exact S.len,λj d q=>?_,λj t d q=>?_,λj k t1 t2 d1 d2 a q1 q2 z1 z2=>?_},λa ⟨j,t,d,q1,q2⟩=>?_}
 .obtain⟨q1,q2⟩:=HV j _ q λz=>by cases z
  rw[q2];exact S.val j d q1
 .rw[(ow q).2];exact S.own j t d (ow q).1
 .rw[(ow q1).2] at z1
  rw[(ow q2).2] at z2;exact S.inj j k _ _ _ _ a (ow q1).1 (ow q2).1 z1 z2
 .rw[(ow q1).2] at q2
  exact{j,t,d,(ow q1).1,q2}
theorem Ng{K:AC}{F:Hp}:∀(bs:List Bool),Reps K F (bs.map V.bl) (bs.map D.bl)
 |[]=>.nil
 |b::bs=>.cons (.bl b) (Ng bs)
theorem yCW{fk:AQ}{bs:List Bool}{W n kf tn:CK}{nw XH p3 p4 p5 p6:fD}{gs:List G}{g:GS}{mx:List D->Out Ev}
  (hb:VS X (.Assign [.Name tn p5] (.Call (.Name x p6) (e::es) [] GO) ME) g) (CL:rX X.prog X.w X.K X.mg X.base C x k np mx) (hr:Room k X.A) (ha:VA X (e::es) gs)
  (KK:KU X.prog X.w X.K X.mg X.base fk C bs) (mU:Room 2 X.A) (hkf:X.mg kf=AA (.ref fk)) (hkk:EJ X.K (.ref fk)=AL) (hW:X.mg W=AA (.ref WA)) (hx:NH X.K (.ref C) (.ref WA)=AA AL)
  (hN:X.N.Nodup) (hi:X.N[ie]?=AA n) (hj:X.N[ik]?=AA kn) (LL:ie≠ik) (WU:X.env.scope.names.lookup n=AA .local) (RK:X.env.scope.names.lookup kn=AA .local)
  (stk:X.stack=X.env::X.outer:=by rfl) (hf:X.env.frame=AA X.env.locals:=by rfl) (uK:X.xe=λ_ _=>False:=by rfl) (zV:gs.length=np:=by rfl)
  (Jl:Gl X W:=by rfl) (Jk:Gl X kf:=by rfl) (hgx:Gl X x:=by rfl) (Jv:(W==("__debug__":CK))=AD:=by decide) (Ju:(kf==("__debug__":CK))=AD:=by decide) (hdx:(x==("__debug__":CK))=AD:=by decide) (Js:(n==("__debug__":CK))=AD:=by decide) (zW:(n==("__classdict__":CK))=AD:=by decide)
  (he:AO [.Name n p1] X.env=(AD,eval (.Name n p1) X.env)::AO [] X.env:=by rfl) (mO:IH (.Call (.Name kf p2) [.Name n p1] [] SD) (AA (.Name kn p3)) XH.line X.env=pure AD:=by rfl)
  (Jr:AO (e::es) X.env=(AD,eval e X.env)::AO es X.env:=by rfl) (JT:(DH GO (AO es X.env)).any (·.1)=AD:=by rfl) (hsx:IH (.Call (.Name x p6) (e::es) [] GO) (AA (.Name tn p5)) ME.line X.env=pure AD:=by rfl) :
  VS X (.Try [.Assign [.Name tn p5] (.Call (.Name x p6) (e::es) [] GO) ME] [.ExceptHandler (AA (.Name W nw)) (AA n) [.Assign [.Name kn p3] (.Call (.Name kf p2) [.Name n p1] [] SD) XH] p4] [] [] pos) (kW g gs mx ik ie bs):=by
 intro AE s σ H D' I h;obtain⟨τ,F,E,r,S,hg,q⟩:=h;refine wpAny_Try_except ?_;unfold kW at hg;split at hg
 .rename_i r' eg
  cases hg;refine KQ (CY (hb AE s σ H D' I {τ,F,E,r,S,eg,q}) (λfl s1 z=>?_) λe s1 z=>?_)
  .cases fl with
   |next=>exact IF (IF z)
   |brk=>exact z
   |cont=>exact z
   |ret u=>exact z
  .rw[uK] at z;exact z.elim
 .obtain⟨p,e1,hg⟩:=pA3 hg
  obtain⟨z,e2,hg⟩:=pA3 hg;cases hg;obtain⟨f,fd,ps,Fn,hm,hk,hbn⟩:=CL;refine KQ (SH (HW (oQ I hgx hm ?_ hdx)) hsx);refine OB (h₀:=X.base) I.ok.mod.kin hk (CY (ha GO AE s σ H (λvs H1=>∃F1,Stp (DT σ E) F H F1 H1 (DT σ p.2)/\Sim X.K X.H₀ τ F1 H1 σ p.2/\Reps X.K F1 vs p.1) I {τ,F,E,p.1,p.2,S,e1,λvs F1 H1 s1 S1 r1=>{F1,s1,S1,r1}}) (λus s1 z0=>?_) λ_ _ z=>by rw[uK] at z;exact z.elim) Jr JT;obtain⟨vs,H1,I1,r1,F1,s1',S1,rp⟩:=z0;refine{I1.kIn,?_}
  have hl:us.length=ps.length:=by
   rw[<-r1.length];exact Fn.len vs H1 (λ_ _=>False) (λcls _ H2=>cls=.ref C/\∃F2,New F1 H1 F2 H2) {by rw[rp.length,jH e1];exact zV,F1,p.1,z,S1.sub,rp,e2,λF2 H2 n=>{rfl,F2,n}}
  refine RP (LS (Fn.run X.A X.stack s1 H1 {us,[]} us vs (λ_ _=>False) (λcls _ H2=>cls=.ref C/\∃F2,New F1 H1 F2 H2) hr I1.env0 ?_ r1 {by rw[rp.length,jH e1];exact zV,F1,p.1,z,S1.sub,rp,e2,λF2 H2 n=>{rfl,F2,n}}) λrr s2 hq=>?_)
  .have:=hbn s1 us I1.kIn (by rw[DC];exact hl)
   rw[DC] at this;exact this
  .cases rr with
   |ok fl =>
    cases fl with
    |ret u=>obtain⟨_,_,_,_,_,_,_,z⟩:=hq;exact z.elim
    |next=>exact hq.elim
    |brk=>exact hq.elim
    |cont=>exact hq.elim
   |error ee =>
    obtain⟨a,H2,h1,fr,a0,rfl,Fy,_,F2,n2⟩:=hq;refine zUQ (D:=D') I1 Fy KK mU hkf hkk hW hx hN hi hj LL WU RK stk hf (λpp H3 gr hp hl3=>?_) Jl Jk Jv Ju Js zW he mO;have n3:=n2.trans (New.gro n2.2 gr);have rr:Rep X.K (gro F2 H2 H3) (.ref pp) (.lst (bs.map D.bl)):=.lst (.inl (.inl (by rw[wS hp];exact hl3))) (Ng bs);obtain⟨S4,w4⟩:=(S1.new n3).put (i:=ik) rr;obtain⟨S5,w5⟩:=S4.lose (i:=ie) (u:=AI);exact q _ _ _ (((s1'.trans n3.stp).weak w4).weak w5) S5
section
variable{K:AC}
end
end L2
namespace L2
open PySem
structure TryS(P:CI)(w:DY)(K:AC)(mg:CK->Option AH)(base:DZ)(C WA fk:AQ)(bs:List Bool):Prop where
 KK:KU P w K mg base fk C bs
 hkf:mg "_law_kinds"=AA (.ref fk)
 hkk:EJ K (.ref fk)=AL
 hW:mg "WayError"=AA (.ref WA)
 hx:NH K (.ref C) (.ref WA)=AA AL
end L2
namespace L2
open PySem PySem.Spec PyProof.Rows
section
variable{d:AQ}{es:Array JY}
end
end L2
variable{gm:L2.GM}{E':L2.Ev}{m:L2.Mr}{t2:Bool}
namespace L2
open PySem
theorem HK{x:Out α}{a:α}{f:α->Out β}{r:Out β}(h:x=.ok a)(h2:f a=r):x.bind f=r:=by rw[h];exact h2
theorem HS{g g':GS}{E:Ev}{r:Out Fl}(h:g E=.ok (.nx E1))(h2:g' E1=r):G4 g g' E=r:=by
 unfold G4;rw[h];exact h2
theorem qR{g g':GS}{E:Ev}{b:Bool}{d:D}(h:g E=.ok (.rt b d E1)):G4 g g' E=.ok (.rt b d E1):=by
 unfold G4;rw[h];rfl
theorem ZV{t:Ev->Out (Bool×Ev)}{g g':GS}{E:Ev}{r:Out Fl}(h:t E=.ok (AL,E1))(h2:g E1=r):OD t g g' E=r:=by
 unfold OD;rw[h];exact h2
theorem TU{t:Ev->Out (Bool×Ev)}{g g':GS}{E:Ev}{r:Out Fl}(h:t E=.ok (AD,E1))(h2:g' E1=r):OD t g g' E=r:=by
 unfold OD;rw[h];exact h2
theorem xL{t:Tg}{g:GS}(P:Nat->Ev->Prop):∀{ds:List D} {E:Ev} (o:Nat),P o E ->
  (∀i d E,ds[i]?=AA d->P (o+i) E->∃E1,V1 t d E=.ok E1/\∃E2,g E1=.ok (.nx E2)/\P (o+(i+1)) E2)->∃E',SX t g ds E=.ok (.nx E')/\P (o+ds.length) E'
 |[],E,o,h0,_=>{E,rfl,h0}
 |d::ds,E,o,h0,hs=>by
  obtain⟨E1,e1,E2,e2,p2⟩:=hs 0 d E rfl h0
  obtain⟨E',e',p'⟩:=xL P (ds:=ds) (E:=E2) (o+1) p2 λi d' E3 hd hp=>by
   have:=hs (i+1) d' E3 (by simpa using hd) (by rw[show o+(i+1)=o+1+i by lia];exact hp);rw[show o+(i+1+1)=o+1+(i+1) by lia] at this;exact this
  refine{E',?_,?_}
  .unfold SX;rw[e1];simp only[Out.bind];rw[e2];exact e'
  .rw[BC,show o+(ds.length+1)=o+1+ds.length by lia];exact p'
theorem gA{t:Tg}{g:GS}{E:Ev}{ds:List D}(P:Nat->Ev->Prop)(hi:gi E=.ok (ds,E1))(h0:P 0 E1)
  (hs:∀i d E,ds[i]?=AA d->P i E->∃E1,V1 t d E=.ok E1/\∃E2,g E1=.ok (.nx E2)/\P (i+1) E2):∃E',QD gi t g E=.ok (.nx E')/\P ds.length E':=by
 obtain⟨E',e,p⟩:=xL (t:=t) (g:=g) P (ds:=ds) (E:=E1) 0 h0 (λi d E hd hp=>by
  rw[EO] at hp ⊢;exact hs i d E hd hp)
 refine{E',?_,by simpa using p};unfold QD;rw[hi];exact e
theorem qQ{t:Ev->Out (Bool×Ev)}{g:GS}(P:Nat->Ev->Prop)(Q:Ev->Prop)
  (hs:∀n E,P n E->(∃E1,t E=.ok (AD,E1)/\Q E1)\/(∃E1 E2 m,t E=.ok (AL,E1)/\g E1=.ok (.nx E2)/\m<n/\P m E2)) :
  ∀(fuel n:Nat) (E:Ev),n<fuel->P n E->∃E',WS t g fuel E=.ok (.nx E')/\Q E'
 |0,n,E,hn,_=>by lia
 |fuel+1,n,E,hn,h=>by
  rcases hs n E h with⟨E1,e1,q⟩|⟨E1,E2,m,e1,e2,hm,p⟩
  .refine{E1,?_,q}
   unfold WS;rw[e1];rfl
  .obtain⟨E',e',q⟩:=qQ P Q hs fuel m E2 (AN hm (IB hn)) p
   refine{E',?_,q};unfold WS;rw[e1];simp only[Out.bind,if_true];rw[e2];exact e'
theorem Y2{x:Out α}(h:n<10000):few n x=x:=if_pos h
theorem yCX{t:Tg}(f:D->List D)(M:Nat)(P:Ev->Prop):∀{ds acc:List D} {E:Ev},P E->acc.length+ds.length * M<10000->(∀d∈ds,(f d).length<=M) ->
  (∀d∈ds,∀(acc:List D) (E:Ev),acc.length+M<10000->P E->∃E1,V1 t d E=.ok E1/\∃b E2,tt E1=.ok (b,E2)/\((b=AL/\∃E3,gm (.lst acc) E2=.ok (.lst (acc++f d),E3)/\P E3)\/(b=AD/\f d=[]/\P E2))) ->
  ∃E',YW t tt gm ds (.lst acc) E=.ok (.lst (acc++ds.flatMap f),E')/\P E'
  := by
 intro ds
 induction ds with
 |nil=>intro acc E h0 _ _ _;exact{E,by simp[YW],h0}
 |cons d ds ih =>
  intro acc E h0 hl hM hs;rw[BC,Nat.succ_mul] at hl;obtain⟨E1,e1,b,E2,e2,h⟩:=hs d BB acc E 'l' h0;have hd:=hM d BB;rcases h with⟨rfl,E3,e3,p⟩|⟨rfl,ef,p⟩
  .obtain⟨E',e',p'⟩:=ih (acc:=acc++f d) (E:=E3) p (by rw[BH];lia) (λd hd=>hM d (A7 _ hd)) λd hd=>hs d (A7 _ hd)
   refine{E',?_,p'};unfold YW;rw[e1];simp only[Out.bind];rw[e2];simp only[if_true];rw[e3];simp only;rw[e',FV,CF]
  .obtain⟨E',e',p'⟩:=ih (acc:=acc) (E:=E2) p 'l' (λd hd=>hM d (A7 _ hd)) λd hd=>hs d (A7 _ hd)
   refine{E',?_,p'};unfold YW;rw[e1];simp only[Out.bind];rw[e2];simp only[if_false,D3];rw[e',FV,ef,FX]
theorem Zn{ge:G}{acc:List D}{E:Ev}{x:D}(h:ge E=.ok (x,E'))(hl:acc.length<10000):Am ge (.lst acc) E=.ok (.lst (acc++[x]),E'):=HK h (Y2 hl)
theorem zUR{t:Tg}{E:Ev}{ds:List D}(f:D->List D)(M:Nat)(P:Ev->Prop)(hi:gi E=.ok (ds,E1))(h0:P (WO k js E1))(hl:ds.length * M<10000)(hM:∀d∈ds,(f d).length<=M)
  (hs:∀d∈ds,∀(acc:List D) (E:Ev),acc.length+M<10000->P E->∃E1,V1 t d E=.ok E1/\∃b E2,tt E1=.ok (b,E2)/\((b=AL/\∃E3,gm (.lst acc) E2=.ok (.lst (acc++f d),E3)/\P E3)\/(b=AD/\f d=[]/\P E2)))
  (hb:∀Ec,P Ec->Z6 E1 Ec k js=E1):lN gi k js (.lst []) t tt gm E=.ok (.lst (ds.flatMap f),E1):=by
 obtain⟨E',e',p'⟩:=yCX f M P (ds:=ds) (acc:=[]) h0 (by simpa using hl) hM hs;unfold lN;rw[hi];simp only[Out.bind];rw[e'];simp only[Out.bind,FX];rw[hb _ p']
theorem rF{t:Tg}{ge:G}{E:Ev}{ds:List D}(f:D->List D)(P:Ev->Prop)(hi:gi E=.ok (ds,E1))(h0:P (WO k js E1))(hl:ds.length<10000)
  (hs:∀d∈ds,∀E,P E->∃E1,V1 t d E=.ok E1/\∃b E2,tt E1=.ok (b,E2)/\((b=AL/\∃x E3,ge E2=.ok (x,E3)/\f d=[x]/\P E3)\/(b=AD/\f d=[]/\P E2)))
  (hb:∀Ec,P Ec->Z6 E1 Ec k js=E1):W3 gi k js t tt ge E=.ok (.lst (ds.flatMap f),E1):=by
 by_cases hP:∀d∈ds,∃E,P E
 .refine zUR f 1 P hi h0 'l' (λd hd=>?_) (λd hd acc E cP hE=>?_) hb
  .obtain⟨E,hE⟩:=hP d hd
   obtain⟨_,_,_,_,_,⟨_,x,_,_,ef,_⟩|⟨_,ef,_⟩⟩:=hs d hd E hE
   .rw[ef];exact AM _
   .rw[ef];exact BR _
  .obtain⟨E1,e1,b,E2,e2,⟨hb,x,E3,e3,ef,p⟩|h⟩:=hs d hd E hE
   .exact{E1,e1,b,E2,e2,.inl {hb,E3,by rw[ef];exact Zn e3 (AS (A2 _ _) cP),p}}
   .exact{E1,e1,b,E2,e2,.inr h}
 .exact absurd (λd hd=>{_,h0}) hP
def Pl(n:Nat)(d:D):Prop:=∃p,d.py=AA p/\p.depth<=n/\p.canLay0=AL
def Pls(n:Nat)(ds:List D):Prop:=∃ps,pAH ds=AA ps/\Q2 ps<=n/\FS ps=AL
theorem Pl.int(n:Nat)(i:Int):Pl n (.int i):={_,rfl,BR _,rfl}
theorem Pls.nil(n:Nat):Pls n []:={_,rfl,BR _,rfl}
theorem Pls.cons{d:D}{ds:List D}(h:Pl n d)(t:Pls n ds):Pls n (d::ds):=by
 obtain⟨p,e,a,b⟩:=h;obtain⟨ps,e2,a2,b2⟩:=t;exact{p::ps,by simp[pAH,e,e2],by simp only[Q2];lia,by simp[FS,b,b2]}
theorem Pls.tup{n:Nat}{ds:List D}(t:Pls n ds):Pl (n+1) (.tup ds):=by
 obtain⟨ps,e2,a2,b2⟩:=t;exact{.tuple ps,by simp[D.py,e2],by simp only[II];lia,b2}
theorem Pls.lst{n:Nat}{ds:List D}(t:Pls n ds):Pl (n+1) (.lst ds):=by
 obtain⟨ps,e2,a2,b2⟩:=t;exact{.list ps,by simp[D.py,e2],by simp only[II];lia,b2}
theorem Pls.of{α:Type}{n:Nat}{f:α->D}:∀{xs:List α},(∀x∈xs,Pl n (f x))->Pls n (xs.map f)
 |[],_=>.nil n
 |x::xs,h=>.cons (h x BB) (Pls.of λy hy=>h y (A7 _ hy))
theorem Pls.ints(n:Nat)(ns:List Int):Pls n (ns.map D.int):=Pls.of λ_ _=>.int _ _
theorem zUS{d:D}(h:Pl 60 d):Y9 d d=.ok (.bl AL):=by
 obtain⟨p,e,a,b⟩:=h;unfold Y9;simp only[e];rw[if_pos (AY (kO _ _) a),SeqAt.eqv_refl p b]
theorem Zm(a b:Int):Y9 (.int a) (.int b)=.ok (.bl (decide (a=b))):=by
 simp only[Y9,D.py,II,EE]
 by_cases h:a=b<;>simp[h]
theorem rE(a b:Int):M8 (.int a) (.int b)=.ok (.bl (decide (a≠b))):=by
 simp only[M8,D.py,II,EE]
 by_cases h:a=b<;>simp[h]
theorem zUT(a:Int):M8 (.int a) .non=.ok (.bl AL):=by
 simp[M8,D.py,II,EE]
theorem Nf{ds:List D}(h:Pls n ds):M8 (.lst ds) (.lst [])=.ok (.bl (!ds.isEmpty)):=by
 obtain⟨ps,e2,a2,b2⟩:=h;have e0:pAH []=AA []:=by simp[pAH]
 unfold M8;simp only[D.py,e2,e0,Option.map];rw[if_pos (by simp only[II,Q2];lia),EE]
 cases ds with
 |nil=>rw[e0] at e2;cases e2;rfl
 |cons d ds =>
  cases ps with
  |nil =>
   simp only[pAH] at e2;split at e2<;>simp at e2
  |cons p ps=>rfl
theorem Cq:∀ns:List Int,pAH (ns.map D.int)=AA (ns.map YO)
 |[]=>by simp[pAH]
 |n::ns=>by simp[pAH,D.py,Cq ns]
theorem Zl(x:Int)(ns:List Int):U8 (.int x) (.lst (ns.map D.int))=.ok (.bl (decide (x∈ns))):=by
 simp only[U8,Cq,D.py];rw[if_pos (show II (.int x)<=60 from BR _),Cs]
theorem Bv(x:Int)(ns:List Int):U8 (.int x) (.tup (ns.map D.int))=.ok (.bl (decide (x∈ns))):=by
 simp only[U8,Cq,D.py];rw[if_pos (show II (.int x)<=60 from BR _),Cs]
theorem zM0(ps:List (Int×Int)):lB [.lst (ps.map VX)]=.ok (.lst ((Y3 ps).map VX)):=by
 cases ps with
 |nil=>simp[lB,QR,oC,Y3]
 |cons p ps =>
  have:=yA (p::ps);simp only[lB];rw[this,show QR ((p::ps).map VX)=AI from rfl]
theorem qP{xs:List α}{i:Int}{x:α}(h0:0<=i)(h:xs[i.toNat]?=AA x):atI xs i=AA x:=by
 have:=Ob (xs:=xs) (j:=i.toNat) h
 rwa [show((i.toNat:Nat):Int)=i by lia] at this
theorem Bc{i:Int}(h0:0<=i)(h:i<n):WR n i=AA i.toNat:=by
 unfold WR;rw[if_pos h0,if_pos h]
section
variable[DecidableEq κ]
theorem zJH(kvs:List (κ×D))(k:κ)(v:D):M6 (PB kvs k v) k=AA v:=by
 unfold PB;split
 .rename_i h
  unfold M6
  induction kvs with
  |nil=>simp at h
  |cons kv kvs ih =>
   by_cases e:kv.1=k
   .simp[e]
   .simp only[FK,e,decide_false,Bool.false_or] at h
    have:=ih h;simpa[e] using this
 .rename_i h
  unfold M6;rw[dF]
  have:(kvs.find? λkv=>decide (kv.1=k))=AI:=by
   rw[List.find?_eq_none];intro x hx z;exact h (IM.mpr {x,hx,z})
  rw[this];simp
theorem zM1(kvs:List (κ×D)){k k':κ}(v:D)(hk:k'≠k):M6 (PB kvs k v) k'=M6 kvs k':=by
 unfold PB;split
 .rename_i hh
  clear hh;unfold M6
  induction kvs with
  |nil=>rfl
  |cons kv kvs ih =>
   rw[AX]
   by_cases e:kv.1=k
   .rw[if_pos e,DQ,DQ]
    have:¬kv.1=k':=λz=>hk (z.symm.trans e);simp only[this,decide_false];exact ih
   .rw[if_neg e,DQ,DQ]
    by_cases e2:kv.1=k'
    .simp[e2]
    .simp only[e2,decide_false]
     exact ih
 .unfold M6
  rw[dF];have:(List.find? (λkv:κ×D=>decide (kv.1=k')) [(k,v)])=AI:=by simp[FH hk]
  rw[this];simp
theorem Cp(kvs:List (κ×D))(k:κ)(v:D):(PB kvs k v).length<=kvs.length+1:=by
 unfold PB;split
 .simp
 .simp
end
theorem SY{gs:List G}{E:Ev}{ds:List D}{b:Bool}{d d':D}(h1:NL gs E=.ok (ds,E'))(h2:m (ds.map Sl.val)=.ok (b,d,d')):MX m gs E=.ok (d,E'):=HK h1 (HK h2 rfl)
theorem zUU{E:Ev}:NL [] E=.ok ([],E):=rfl
theorem Q8{g:G}{gs:List G}{E:Ev}{d:D}{ds:List D}(h1:g E=.ok (d,E1))(h2:NL gs E1=.ok (ds,E2)):NL (g::gs) E=.ok (d::ds,E2):=HK h1 (HK h2 rfl)
theorem MA{g:G}{E:Ev}{d:D}(h1:g E=.ok (d,E1)):NL [g] E=.ok ([d],E1):=Q8 h1 zUU
theorem TW{f:List D->Out D}{gs:List G}{E:Ev}{ds:List D}{d:D}(h1:NL gs E=.ok (ds,E'))(h2:f ds=.ok d):gN f gs E=.ok (d,E'):=HK h1 (HK h2 rfl)
theorem wJ{gs:List G}{E:Ev}{ds:List D}(h1:NL gs E=.ok (ds,E'))(h2:ds.length<10000):YZ gs E=.ok (.tup ds,E'):=HK h1 (Y2 h2)
theorem i8{gs:List G}{E:Ev}{ds:List D}(h1:NL gs E=.ok (ds,E'))(h2:ds.length<10000):KE gs E=.ok (.lst ds,E'):=HK h1 (Y2 h2)
theorem R6{g:G}{E:Ev}{d:D}(h:g E=.ok (d,E')):N1 g E=.ok (.rt AD d E'):=HK h rfl
theorem Nd{g:G}{E:Ev}{d:D}(h:g E=.ok (d,E')):v8 g E=.ok (.rt AL d E'):=HK h rfl
theorem O4{g:G}{t:Tg}{E:Ev}{d:D}(h:g E=.ok (d,E'))(h2:V1 t d E'=.ok E2):J4 t g E=.ok (.nx E2):=HK h (HK h2 rfl)
theorem Z3{g:G}{E:Ev}{d:D}(h:g E=.ok (d,E')):VY i g E=.ok (.nx (E'.set i (.own AD d))):=HK h rfl
theorem wO{g:G}{E:Ev}{d:D}(h:g E=.ok (d,E')):dW g E=.ok (.nx E'):=HK h rfl
theorem F8{f:D->D->Out D}{ga gb:G}{E:Ev}{x y d:D}(h1:ga E=.ok (x,E1))(h2:gb E1=.ok (y,E2))(h3:f x y=.ok d):g2 f ga gb E=.ok (d,E2):=HK h1 (HK h2 (HK h3 rfl))
theorem PD{g:G}{E:Ev}{b:Bool}(h:g E=.ok (.bl b,E')):gB g E=.ok (b,E'):=HK h rfl
theorem lI{g:G}{E:Ev}{d:D}{b:Bool}(h:g E=.ok (d,E'))(h2:So d=.ok b):YX g E=.ok (b,E'):=HK h (HK h2 rfl)
theorem Ci{t:Ev->Out (Bool×Ev)}{E:Ev}{b:Bool}(h:t E=.ok (b,E')):fR t E=.ok (!b,E'):=HK h rfl
theorem yFD{t u:Ev->Out (Bool×Ev)}{E:Ev}{r:Out (Bool×Ev)}(h:t E=.ok (AD,E'))(h2:u E'=r):yK t u E=r:=HK h h2
theorem oM{t u:Ev->Out (Bool×Ev)}{E:Ev}{r:Out (Bool×Ev)}(h:t E=.ok (AL,E'))(h2:u E'=r):fW t u E=r:=HK h h2
theorem Bb{t u:Ev->Out (Bool×Ev)}{E:Ev}(h:t E=.ok (AD,E')):fW t u E=.ok (AD,E'):=HK h rfl
theorem Y5{g:G}{E:Ev}{d:D}(h:g (NY is E)=.ok (d,E'))(h2:dX is E d=AL):OK is g E=.ok (d,E):=HK h (if_pos h2)
theorem zY0{g:G}{E:Ev}{d:D}(h:g (NY is E)=.ok (d,E'))(h2:d.kids=AL):Ag is g E=.ok (d,E):=HK h (if_pos h2)
theorem X8{g:Ev->Out (Bool×Ev)}{E:Ev}{d:Bool}(h:g (NY is E)=.ok (d,E')):TY is g E=.ok (d,E):=HK h rfl
theorem Q6{gb:GS}{sl:Ev}{b:Bool}{d:D}{r:Out (Bool×D×D)}(h:gb (sl++BG (n-sl.length) .no)=.ok (.rt b d E'))(h2:fin sl E' b d=r):P2 n gb sl=r:=HK h h2
theorem wN{c:String}{g:G}{E:Ev}{d:D}(h:g E=.ok (d,E')):oB c g E=.ok (.bl (sH (yR d) c),E'):=HK h rfl
theorem Ch{g:G}{E:Ev}{j:Int}(h:g E=.ok (.int j,E'))(h2:lM j):bC g E=.ok (R1 0 j.toNat,E'):=HK h (if_pos h2)
theorem zY1{g g':G}{E:Ev}{i j:Int}(h:g E=.ok (.int i,E1))(h1:g' E1=.ok (.int j,E'))(h2:lM i/\lM j):qH g g' E=.ok (R1 i (j-i).toNat,E'):=HK h (HK h1 (if_pos h2))
theorem rD{g:G}{E:Ev}{ds:List D}(h:g E=.ok (.lst ds,E')):NK g E=.ok (ds,E'):=HK h rfl
theorem Cg{g:G}{E:Ev}{ds:List D}(h:g E=.ok (.tup ds,E')):NK g E=.ok (ds,E'):=HK h rfl
theorem bH{gk gv:G}{E:Ev}{t:Bool}{d0 d v k d':D}(h0:E[i]?=AA (.own t2 d0))(h1:gv E=.ok (v,E1))(h2:gk E1=.ok (k,E2))(h3:E2[i]?=AA (.own t d))(h4:kZ d k v=.ok d'):QQ i gk gv E=.ok (.nx (E2.set i (.own t d'))):=by
 unfold QQ;rw[h0];simp only;rw[h1];simp only[Out.bind];rw[h2];simp only[h3];rw[h4]
theorem Pd{gs:List G}{E:Ev}{t:Bool}{d0 d x d':D}{ds:List D}{b:Bool}(h0:E[i]?=AA (.own t2 d0))(h1:NL gs E=.ok (ds,E1))(h2:E1[i]?=AA (.own t d))(h3:m (.own AL d::ds.map Sl.val)=.ok (b,x,d')):K7 m i gs E=.ok (x,E1.set i (.own t d')):=by
 unfold K7;rw[h0];simp only;rw[h1];simp only[Out.bind,h2];rw[h3]
theorem oR{f:List D->List D->Out (D×List D)}{gs:List G}{E:Ev}{t:Bool}{xs0 xs:List D}{ds UR:List D}{x:D}(h0:E[i]?=AA (.own t2 (.lst xs0)))(h1:NL gs E=.ok (ds,E1))(h2:E1[i]?=AA (.own t (.lst xs)))(h3:f xs ds=.ok (x,UR)):Q7 i f gs E=.ok (x,E1.set i (.own t (.lst UR))):=by
 unfold Q7;rw[h0];simp only;rw[h1];simp only[Out.bind,h2];rw[h3]
theorem zUV{gf:G}{gs:List G}{E:Ev}{d x d':D}{ds:List D}{b:Bool}(h0:gf E=.ok (d,E1))(h1:NL gs E1=.ok (ds,E2))(h3:m (.own AL d::ds.map Sl.val)=.ok (b,x,d')):oD m gf gs E=.ok (x,E2):=HK h0 (HK h1 (HK h3 rfl))
theorem zUW{gs:List G}{E:Ev}{ds:List D}{d d':D}(h1:NL gs E=.ok (ds,E'))(h2:m (ds.map Sl.val)=.ok (AL,d,d')):oE m gs E=.ok (d,E'):=HK h1 (HK h2 rfl)
theorem Lp{gd gk gx:G}{E E3:Ev}{a k x:D}{o:Option D}(h1:gd E=.ok (a,E1))(h2:gk E1=.ok (k,E2))(h3:gx E2=.ok (x,E3))(h4:fT a k=AA o):aZ gd gk gx E=.ok (o.getD x,E3):=HK h1 (HK h2 (HK h3 (by simp only[h4])))
theorem yFE{ga gb:G}{E:Ev}{r:Out (D×Ev)}(h:ga E=.ok (.bl AL,E1))(h2:gb E1=r):Ek ga gb E=r:=HK h h2
theorem yCY{ga:G}{E:Ev}{b:Bool}(h:ga E=.ok (.bl b,E1)):Ej ga E=.ok (.bl (!b),E1):=HK h rfl
theorem Tv{ds:List D}(h:ds.length=n):Q5 [.lst ds]=.ok (.int n):=by subst h;rfl
theorem yFF{ds:List D}(h:ds.length=n):Q5 [.tup ds]=.ok (.int n):=by subst h;rfl
theorem Uh{a b c:List D}(h:a.length+b.length<10000)(e:a++b=c):MW (.lst a) (.lst b)=.ok (.lst c):=by subst e;exact Y2 h
theorem Lo{o:Option D}{d:D}(h:o=AA d):(match o with|some d=>Out.ok d|none=>.bad)=.ok d:=by subst h;rfl
theorem rZ{ds:List D}{i:Int}{d:D}(h:atI ds i=AA d):FI (.lst ds) (.int i)=.ok d:=Lo h
theorem yHO{ds:List D}{i:Int}{d:D}(h:atI ds i=AA d):FI (.tup ds) (.int i)=.ok d:=Lo h
theorem zY2{o:Option (Option D)}{d:D}(h:o=AA (AA d)):(match o with|some (AA d)=>Out.ok d|_=>.bad)=.ok d:=by subst h;rfl
theorem Dz{kvs:List (Key×D)}{i:Int}{d:D}(h:M6 kvs (.inl i)=AA d):FI (.dk kvs) (.int i)=.ok d:=zY2 (congrArg AA h)
theorem Ak{ds:List D}{i:Int}{v:D}(h:WR ds.length i=AA j):kZ (.lst ds) (.int i) v=.ok (.lst (ds.set j v)):=by
 show(match WR ds.length i with|some j=>Out.ok (D.lst (ds.set j v))|none=>.bad)=_;rw[h]
theorem Ug{kvs:List (Key×D)}{i:Int}{v:D}(h:kvs.length<10000):kZ (.dk kvs) (.int i) v=.ok (.dk (PB kvs (.inl i) v)):=Y2 h
theorem Rr(x:Int)(ns:List Int):R7 (.int x) (.tup (ns.map D.int))=.ok (.bl (decide (x∉ns))):=by
 rw[R7,Bv];simp[Out.bind]
theorem zPC(x:Int)(ns:List Int):R7 (.int x) (.lst (ns.map D.int))=.ok (.bl (decide (x∉ns))):=by
 rw[R7,Zl];simp[Out.bind]
theorem Rs{f:D->List D}{g:Int->D}(p:Int->Bool)(h:∀x,f (.int x)=if p x=AL then[g x] else[]):∀l:List Int,(l.map D.int).flatMap f=(l.filter p).map g
 |[]=>rfl
 |x::l=>by
  rw[AX,FV,Rs p h l,h x,J8]
  by_cases e:p x=AL
  .rw[if_pos e,if_pos e];rfl
  .rw[if_neg e,if_neg e];rfl
end L2
variable{vn vg:L2.V}{u4 u5 u6:Option L2.V}{ρ:Int->AQ}{Fs Hs:L2.Hp}{IN:AQ->Prop}{g':Int->List Int}{tb:L2.TS}
namespace L2
open PySem PySem.Spec PyProof.Rows
def Lm(tl:TE):TI:=λσ H R=>tl σ H λx H1=>∃a o kvs,x=.ref a/\H1 a=AA (.frz o (.dK kvs))/\R (zF a o kvs) H1
theorem zUX{l:CU}(hl:PE X l tl):PI X tg l (Lm tl):=by
 intro AE s σ H R I h;refine GN (hl AE s σ H _ I h) λv s1 q0=>?_;obtain⟨x,H1,I1,r1,a,o,kvs,e,ha,q⟩:=q0;subst e;cases r1;obtain⟨ho,hx⟩:=I1.hok a _ ha;obtain⟨es,ep,KH,e1,e2,e3⟩:=lR hx;obtain⟨o',q1,q2,q3⟩:=id KH.ex;rw[ho] at q1;cases q1;refine oU KH λh' k ki=>?_;refine{s1.heap.objs.size,[s1.heap.objs.size],_,_,_,rfl,I1.kept (t':=s1.toks) k,xS a _ o kvs es ep q3 e1,ki,λb hb=>?_,q};have e:b=s1.heap.objs.size:=by simpa using hb
 subst e;exact I1.fpOk (AM _) (I1.hok.fresh (AM _))
section
variable{K:AC}{E:Ev}{ow M:AQ->Prop}
theorem Stp.fr(h:∀a,¬ow a)(x:Stp ow F H F1 H1 TC):Stp M F H F1 H1 M :=
 {λa o e w n _=>x.keep a o e w n (h a),x.dom,x.le,λa o e=>(x.new a o e).imp_right λz=>z.imp_right λq=>(h a q).elim,λ_ q=>.inl q}
theorem Cf{b:AQ}(e:DU H a o b=AI):H b=AI:=by
 by_cases z:b=a
 .rw[z,G3] at e;cases e
 .rw[EL z] at e;exact e
theorem Stp.mine(h:M a):Stp M F H F (DU H a o) M :=
 {λb u e _ _ n=>by rw[EL (λz:b=a=>n (by rw[z];exact h))];exact e,λb e=>Cf e,.refl _,λb u e=>.inl (by rw[e];exact nofun),λ_ q=>.inl q}
theorem pAP{M':AQ->Prop}{p:AQ}(h:H p=AI)(hM:∀b,M' b->M b\/b=p):Stp M F H F (DU H p o) M' :=
 {λb u e _ _ _=>by rw[EL (T4 e h)];exact e,λb e=>Cf e,.refl _,λb u e=>.inl (by rw[e];exact nofun),λb q=>(hM b q).imp id λz:b=p=>by rw[z];exact h}
theorem yC3(s:Sub F H)(hl:E.length=σ.length)(hv:∀(i:Nat) d,E[i]?=AA (.val d)->∃v,σ[i]?=AA (AA v)/\Rep K F v d)(ho:∀(i:Nat) t d,E[i]?≠AA (.own t d)):Sim K H₀ τ F H σ E :=
 {s,hl,hv,λi t d e=>absurd e (ho i t d),λi j t u d d' a e=>absurd e (ho i t d)}
def jK:Option D->Sl
 |none=>.no
 |some d=>.val d
def gE(net A1:D)(x2 x3 x4 x5:Option D):Ev:=[.val net,.val A1,jK x2,jK x3,jK x4,jK x5,.no]
theorem Uf{net A1:D}{x2 x3 x4 x5:Option D}:∀(i:Nat) t d,(gE net A1 x2 x3 x4 x5)[i]?≠AA (.own t d)
 |0,_,_=>λh=>by cases h
 |1,_,_=>λh=>by cases h
 |2,_,_=>λh=>by cases x2<;>cases h
 |3,_,_=>λh=>by cases x3<;>cases h
 |4,_,_=>λh=>by cases x4<;>cases h
 |5,_,_=>λh=>by cases x5<;>cases h
 |6,_,_=>λh=>by cases h
 |_+7,_,_=>λh=>by cases h
theorem oK{net A1:D}{x2 x3 x4 x5:Option D}(a:AQ):¬DT σ (gE net A1 x2 x3 x4 x5) a:=(λq0=>by obtain⟨i,t,d,e,_⟩:=q0;exact Uf i t d e)
def OptR(K:AC)(F:Hp)(u:Option V)(x:Option D):Prop:=∀d,x=AA d->∃v,u=AA v/\Rep K F v d
theorem OptR.none{u:Option V}:OptR K F u AI:=λ_ h=>by cases h
theorem OptR.some{v:V}{d:D}(h:Rep K F v d):OptR K F (AA v) (AA d):=λ_ e=>by cases e;exact{_,rfl,h}
theorem OptR.sl{u:Option V}{x:Option D}{d:D}(h:OptR K F u x)(e:jK x=.val d):∃v,u=.some v/\Rep K F v d:=by
 cases x with
 |none=>cases e
 |some y=>cases e;exact h _ rfl
theorem wI{net A1:D}{x2 x3 x4 x5:Option D}{u2 u3:Option V}(s:Sub F H)(hn:Rep K F vn net)(hg:Rep K F vg A1)(h2:OptR K F u2 x2)(h3:OptR K F u3 x3)(h4:OptR K F u4 x4)(h5:OptR K F u5 x5) :
  Sim K H₀ τ F H [AA vn,AA vg,u2,u3,u4,u5,u6] (gE net A1 x2 x3 x4 x5):=by
 refine yC3 s rfl (λi d e=>?_) Uf
 have op:∀{u:Option V} {x:Option D},OptR K F u x->AA (jK x)=AA (.val d)->∃v,AA u=AA (AA v)/\Rep K F v d:=λh e=>by
  obtain⟨v,rfl,r⟩:=h.sl (BK e);exact{v,rfl,r}
 match i,e with
 |0,e=>cases e;exact{_,rfl,hn}
 |1,e=>cases e;exact{_,rfl,hg}
 |2,e=>exact op h2 e
 |3,e=>exact op h3 e
 |4,e=>exact op h4 e
 |5,e=>exact op h5 e
 |6,e=>cases e
 |_+7,e=>cases e
noncomputable def UB(ρ:Int->AQ)(l:List Int):List (Key×V):=l.map λp=>(CJ p,V.ref (ρ p))
structure Rws(F H:Hp)(a:AQ)(ρ:Int->AQ)(l:List Int)(g:Int->List Int):Prop where
 at':∀p∈l,H (ρ p)=AA (.lst ((g p).map V.int))/\F (ρ p)=AI/\ρ p≠a
 inj:∀p∈l,∀q∈l,ρ p=ρ q->p=q
theorem Oo{ρ:Int->AQ}{p:Int}:∀{l:List Int},p∈l->P3 (UB ρ l) (CJ p:Key)=AA (.ref (ρ p))
 |x::l,h=>by
  unfold P3 UB;rw[AX,DQ]
  by_cases e:x=p
  .subst e;simp
  .have:decide ((CJ x:Key)=CJ p)=AD:=decide_eq_false λz=>e (HY z)
   simp only[this];exact Oo (l:=l) ((BD.mp h).resolve_left (FH e))
theorem zUY{p:Int}{r:AQ}{l:List Int}(h:p∉l):QE (UB ρ l) (CJ p:Key) (.ref r)=UB (λq=>if q=p then r else ρ q) (l++[p]):=by
 unfold QE;rw[if_neg]
 .unfold UB
  rw[FY]
  congr 1
  .exact IR λq hq=>by
    have:q≠p:=λz=>h (z▸hq);simp only[this,if_false]
  .simp
 .unfold UB
  simp only[WW,IM,R0,decide_eq_true_eq,not_exists,not_and];exact λq hq z=>h (HY z▸hq)
structure Tb(K:AC)(net A1:D)(vn vg:V)(ow:AQ->Prop)(Fs Hs F H:Hp)(M:AQ->Prop):Prop where
 sub:Sub F H
 n:Rep K F vn net
 g:Rep K F vg A1
 st:Stp ow Fs Hs F H M
variable{net A1:D}
theorem Tb.to(T:Tb K net A1 vn vg IN Fs Hs F H M){M':AQ->Prop}(s:Stp M F H F1 H1 M')(sb:Sub F1 H1):Tb K net A1 vn vg IN Fs Hs F1 H1 M' :=
 {sb,T.n.le s.le,T.g.le s.le,T.st.trans s}
theorem Tb.step(T:Tb K net A1 vn vg IN Fs Hs F H M)(h:∀a,¬ow a)(s:Stp ow F H F1 H1 TC)(sb:Sub F1 H1):Tb K net A1 vn vg IN Fs Hs F1 H1 M:=T.to (s.fr h) sb
theorem Rws.step{l:List Int}{g:Int->List Int}(R:Rws F H a ρ l g)(h:∀a,¬ow a)(s:Stp ow F H F1 H1 TC):Rws F1 H1 a ρ l g :=
 {λp hp=>let ⟨x,y,z⟩:=R.at' p hp;{s.keep _ _ x trivial y (h _),s.nF y x trivial (h _),z},R.inj}
theorem Sub.off(s:Sub F H)(h:F a=AI):Sub F (DU H a o):=λb u e=>by
 rw[EL (T4 e h)];exact s b u e
theorem Sub.both(s:Sub F H):Sub (DU F a o) (DU H a o):=λb u e=>by
 by_cases z:b=a
 .rw[z,G3] at e ⊢;exact e
 .rw[EL z] at e ⊢;exact s b u e
def Sj(K:AC)(H₀:Hp)(m:Mr):TS:=yP (tI K H₀ (NK (MX m [BA 0,BA 1,gC .non]))) (Z1 3) (Uk (ZY 2) (ZY 3) (oA yO))
def tabIn(K:AC)(H₀:Hp):TS:=yP (Lm (ZY 2)) (Z1 3) (Tr (tT K H₀ (gB (g2 R7 (BA 3) (BA 5)))) (Us (Uy K "list" Cd (jJ wR (ZY 2) (ZY 3)) (qM (ZY 4) yO))) Ut)
def Dy(K:AC)(H₀:Hp)(m:Mr):TS:=yP (Mm (ZY 2)) (Z1 4) (k7 (iP (tV K H₀ (MX m [BA 0,BA 1,BA 4])) (Z1 5)) (tabIn K H₀))
structure TabC(m:Mr)(E:Ev)(net A1:D)(L:List Int)(left:Int->List Int):Prop where
 env:E=[.val net,.val A1,.own AD (.dk []),.no,.no,.no,.no]
 all:∃b d',m [.val net,.val A1,.val .non]=.ok (b,.lst (L.map D.int),d')
 nd:L.Nodup
 len:L.length<=1000
 each:∀c∈L,∃b d',m [.val net,.val A1,.val (.int c)]=.ok (b,.lst ((left c).map D.int),d')
noncomputable def iT(L:List Int)(left:Int->List Int):D:=.dk (L.map λp=>(CJ p,.lst ((L.filter λc=>decide (p∉left c)).map D.int)))
open Classical in
def k6(m:Mr):GS:=λE=>if h:∃q:(D×D)×List Int×(Int->List Int),TabC m E q.1.1 q.1.2 q.2.1 q.2.2 then .ok (.nx (gE h.choose.1.1 h.choose.1.2 (AA (iT h.choose.2.1 h.choose.2.2)) AI AI AI)) else .bad
theorem tab_of{r:Fl}(h:k6 m E=.ok r):∃net A1 L left,TabC m E net A1 L left/\r=.nx (gE net A1 (AA (iT L left)) AI AI AI):=by
 unfold k6 at h;split at h
 .rename_i e
  cases h;exact{_,_,_,_,e.choose_spec,rfl}
 .cases h
theorem On{a b:List Int}(h:a.map D.int=b.map D.int):a=b:=by
 have:=congrArg QR h;rw[Dg,Dg] at this;exact BK this
theorem zY5{L:List Int}{left:Int->List Int}(h:TabC m E net A1 L left):k6 m E=.ok (.nx (gE net A1 (AA (iT L left)) AI AI AI)):=by
 have e:∃q:(D×D)×List Int×(Int->List Int),TabC m E q.1.1 q.1.2 q.2.1 q.2.2:={((net,A1),L,left),h};unfold k6;rw[dif_pos e];have z:=e.choose_spec;generalize e.choose=q at z;obtain⟨⟨n',g'⟩,L',jR⟩:=q;have ee:=h.env.symm.trans z.env;injection ee with e1 ee;injection ee with e2 ee;injection e1 with e1;injection e2 with e2;simp only at e1 e2 z ⊢;subst e1 e2;obtain⟨b,d,x⟩:=h.all;obtain⟨b',d',y⟩:=z.all;rw[x] at y;have eL:L=L':=On (by injection y with y;injection y with _ y;injection y with y;injection y);subst eL
 have:iT L jR=iT L left:=by
  unfold iT
  congr 1
  refine IR λp hp=>?_
  congr 3
  refine dG λc hc=>?_;obtain⟨b,d,x⟩:=h.each c hc;obtain⟨b',d',y⟩:=z.each c hc;rw[x] at y;have:left c=jR c:=On (by injection y with y;injection y with _ y;injection y with y;injection y);rw[this]
 rw[this]
theorem Pw{ρ:Int->AQ}{g:Int->List Int}:∀{l:List Int},(∀p∈l,F (ρ p)=AA (.lst ((g p).map V.int)))->RepK K F (UB ρ l) (l.map λp=>(CJ p,.lst ((g p).map D.int)))
 |[],_=>.nil
 |p::l,h=>.cons (.lst (.inl (.inl (h p BB))) (Reps.ints _)) (Pw λq hq=>h q (A7 _ hq))
end
theorem Le.frz{F F':Hp}(l:Le F F'){a:AQ}{o:HL}{u:HO}(h:F a=AA (.frz o u)):F' a=AA (.frz o u):=by
 rcases l a _ h with z|⟨z,_⟩|⟨_,_,_,z,_⟩
 .exact z
 .exact z.elim
 .cases z
theorem yFI{p:Prop}[Decidable p]{A:Prop}(h:¬p)(b:B):if p then A else B:=by rw[if_neg h];exact b
theorem yFJ{p:Prop}[Decidable p]{A:Prop}(h:p)(b:A):if p then A else B:=by rw[if_pos h];exact b
theorem sI(h:n+64<GQ):n+1<GQ:=by omega
theorem xK{L:List Int}(h:i<L.length)(q:Int):q∈L.take (i+1)↔q∈L.take i\/q=L[i]:=by
 rw[BJ h,BY,A5]
theorem Co{L:List Int}(nd:L.Nodup)(h:i<L.length):L[i]∉L.take i:=λz=>by
 have:(L.take (i+1)).Nodup:=nd.sublist (QB _ _);rw[BJ h,GU] at this;exact this.2.2 _ z _ (A5.mpr rfl) rfl
theorem Ll{L:List Int}{k:Key}(h:i<L.length)(e:((UB ρ L).map (·.1))[i]?=AA k):k=.inl L[i]:=by
 unfold UB at e;rw[D2,AU,BU h] at e;exact(BK e).symm
theorem rC{L:List Int}:(UB ρ L).length=L.length:=AJ ..
theorem Rws.congr{l:List Int}{g:Int->List Int}(R:Rws F H a ρ l g)(h:∀p∈l,g p=g' p):Rws F H a ρ l g':={λp hp=>by rw[<-h p hp];exact R.at' p hp,R.inj}
theorem Rws.app{l:List Int}{g:Int->List Int}{p c:Int}(R:Rws F H a ρ l g)(hp:p∈l)(h1:g' p=g p++[c])(h2:∀q∈l,q≠p->g' q=g q) :
  Rws F (DU H (ρ p) (.lst ((g p).map V.int++[.int c]))) a ρ l g':={λq hq=>by
 obtain⟨x,y,z⟩:=R.at' q hq;refine{?_,y,z}
 by_cases e:q=p
 .subst e;rw[G3,h1,FY];rfl
 .rw[EL (λw=>e (R.inj q hq p hp w)),x,h2 q hq e],R.inj}
theorem Aj{g:TG}(I:Nat->St->Hp->Prop)(h0:I 0 σ H)(hg:∀i σ H,i<n->I i σ H->J.go i H)(hd:∀σ H,I n σ H->J.stop n H/\D'.nx σ H)
  (hs:∀i σ H x H',i<n->I i σ H->J.yld i H x H'->g x σ H' λσ2 H2=>tb { D' with nx:=I (i+1),ct:=I (i+1),bk:=D'.nx } σ2 H2) :
  ∃W:Nat->Nat->St->Hp->Prop,(∃m,W 0 m σ H)/\∀i m σ H,W i m σ H ->
   (J.stop i H/\D'.nx σ H)\/(J.go i H/\∃N:St->Hp->Prop,(∀σ' H',N σ' H'->∃m',m'<m/\W (i+1) m' σ' H')/\∀x H',J.yld i H x H'->g x σ H' λσ2 H2=>tb { D' with nx:=N,ct:=N,bk:=D'.nx } σ2 H2):=by
 refine{λi m σ H=>m=n-i/\i<=n/\I i σ H,{n,rfl,BR _,h0},λi m σ H h=>?_};have hm:=h.1;have hi:=h.2.1;have hI:=h.2.2
 by_cases e:i<n
 .exact .inr {hg i σ H e hI,I (i+1),λσ' H' h=>{n-(i+1),by omega,rfl,e,h},λx H' y=>hs i σ H x H' e hI y}
 .have e:i=n:=by omega
  rw[e] at hI ⊢;exact .inl (hd σ H hI)
section
variable{K:AC}{E:Ev}{net A1:D}{o:HL}{L xs:List Int}{c:Int}{g:Int->List Int}{u3:Option V}
structure Tm(K:AC)(net A1:D)(vn vg:V)(IN:AQ->Prop)(Fs Hs:Hp)(a:AQ)(o:HL)(ρ:Int->AQ)(L:List Int)(g:Int->List Int)(F H:Hp):Prop where
 tb:Tb K net A1 vn vg IN Fs Hs F H (λb=>∃p∈L,b=ρ p)
 fr:F a=AA (.frz o (.dK (UB ρ L)))
 rw:Rws F H a ρ L g
theorem Tm.congr{g':Int->List Int}(T:Tm K net A1 vn vg IN Fs Hs a o ρ L g F H)(h:∀p∈L,g p=g' p):Tm K net A1 vn vg IN Fs Hs a o ρ L g' F H:={T.tb,T.fr,T.rw.congr h}
theorem Tm.step{ow TC:AQ->Prop}{F1 H1:Hp}(T:Tm K net A1 vn vg IN Fs Hs a o ρ L g F H)(h:∀a,¬ow a)(s:Stp ow F H F1 H1 TC)(sb:Sub F1 H1):Tm K net A1 vn vg IN Fs Hs a o ρ L g F1 H1:={T.tb.step h s sb,s.le.frz T.fr,T.rw.step h s}
theorem Tm.app{p:Int}{g':Int->List Int}(T:Tm K net A1 vn vg IN Fs Hs a o ρ L g F H)(hp:p∈L)(h1:g' p=g p++[c])(h2:∀q∈L,q≠p->g' q=g q):Tm K net A1 vn vg IN Fs Hs a o ρ L g' F (DU H (ρ p) (.lst ((g p).map V.int++[.int c]))) :=
 {T.tb.to (Stp.mine {p,hp,rfl}) (T.tb.sub.off (T.rw.at' p hp).2.1),T.fr,T.rw.app hp h1 h2}
def Vl(K:AC)(net A1:D)(vn vg:V)(IN:AQ->Prop)(Fs Hs:Hp)(a:AQ)(o:HL)(ρ:Int->AQ)(L:List Int)(g:Nat->Int->List Int)(w4 w5 w6:Option V)(xs:Option (V×List Int))(i:Nat)(σ:St)(H:Hp):Prop :=
 ∃F u3 u4 u5,σ=[AA vn,AA vg,AA (.ref a),u3,u4,u5,w6]/\Tm K net A1 vn vg IN Fs Hs a o ρ L (g i) F H/\∀v ys,xs=AA (v,ys)->Rep K F v (.lst (ys.map D.int))/\u4=w4/\u5=w5
theorem zPD(T:Tm K net A1 vn vg IN Fs Hs a o ρ L g F H)(nd:L.Nodup)(hl:∀p∈L,(g p).length<9000)(rv:Rep K F v (.lst (xs.map D.int)))
  (k:∀F' H' u3,Tm K net A1 vn vg IN Fs Hs a o ρ L (λp=>g p++if p∉xs then[c] else[]) F' H'->D'.nx [AA vn,AA vg,AA (.ref a),u3,AA (.int c),AA v,u6] H') :
  tabIn K H₀ D' [AA vn,AA vg,AA (.ref a),u3,AA (.int c),AA v,u6] H:=by
 refine{_,rfl,a,o,UB ρ L,rfl,T.tb.sub _ _ T.fr,Aj (n:=L.length) (Vl K net A1 vn vg IN Fs Hs a o ρ L (λi p=>g p++if p∈L.take i/\p∉xs then[c] else[]) (AA (.int c)) (AA v) u6 (AA (v,xs))) {F,u3,_,_,rfl,T.congr λp _=>by simp,λ_ _ e=>by cases e;exact{rv,rfl,rfl}} (λi σ H hi h=>?_) (λσ H h=>?_) λi σ H x H2 JI h y=>?_}
 .obtain⟨F,_,_,_,_,T,_⟩:=h
  exact{by rw[rC];exact hi,T.tb.sub _ _ T.fr}
 .obtain⟨F,u3,u4,u5,rfl,T,hv⟩:=h
  obtain⟨_,rfl,rfl⟩:=hv v xs rfl;refine{{by rw[rC];exact AM _,T.tb.sub _ _ T.fr},k F H u3 (T.congr λp hp=>?_)};dsimp only;rw[D5];simp only[hp,true_and]
 .obtain⟨F,u3,u4,u5,rfl,T,hv⟩:=h
  obtain⟨rv,rfl,rfl⟩:=hv v xs rfl;obtain⟨rfl,kk,rfl,ek⟩:=y;obtain rfl:=Ll JI ek;obtain⟨p,hp⟩:∃p,p=L[i]:={_,rfl};have cD:p∈L:=by rw[hp];exact HB JI
  have Im:p∉L.take i:=by rw[hp];exact Co nd JI
  have tm:∀q,q∈L.take (i+1)↔q∈L.take i\/q=p:=by rw[hp];exact xK JI
  have tn:∀q,q≠p->(q∈L.take (i+1)↔q∈L.take i):=λq e=>(tm q).trans {λz=>z.resolve_right e,.inl};rw[<-hp];refine{a,F,gE net A1 AI (AA (.int p)) AI (AA (.lst (xs.map D.int))),decide (p∉xs),_,wI T.tb.sub T.tb.n T.tb.g .none (.some (.int p)) .none (.some rv),PD (F8 (x:=.int p) (y:=.lst (xs.map D.int)) rfl rfl (zPC p xs)),λF3 H3 s3 S3=>?_};have T3:=T.step oK s3 S3.sub;have Wc:=rv.le s3.le
  by_cases hx:p∈xs
  .refine yFI (by simp[hx]) {F3,AA (.int p),_,_,rfl,T3.congr λq hq=>?_,λ_ _ e=>by cases e;exact{Wc,rfl,rfl}}
   by_cases e:q=p
   .subst e;simp[hx]
   .simp only[tn q e]
  .obtain⟨h1,h2,h3⟩:=T3.rw.at' p cD
   refine yFJ (by simp[hx]) {_,rfl,_,rfl,a,.ref (ρ p),rfl,.inl {UB ρ L,.inl p,.inr {o,S3.sub _ _ T3.fr},rfl,(Oo cD).symm},.inl {rfl,_,SqL.of h1},_,rfl,ρ p,_,.int c,rfl,rfl,h1,bE ?_,F3,AA (.int p),_,_,rfl,?_,λ_ _ e=>by cases e;exact{Wc,rfl,rfl}}
   .have:=hl p cD
    rw[AJ,BH];split
    .simp only[EK];omega
    .simp only[I0];omega
   .refine T3.app cD ?_ λq hq e=>?_
    .dsimp only
     rw[if_pos {(tm p).mpr (.inr rfl),hx},if_neg (λz=>Im z.1),DC]
    .simp only[tn q e]
theorem zR5{left:Int->List Int}(T:Tb K net A1 vn vg IN Fs Hs F H (λb=>b=a\/∃p∈L,b=ρ p))(nd:L.Nodup)(EW:L.length<=1000)(fa:F a=AI)(ha:H a=AA (.dK (UB ρ L)))(R:Rws F H a ρ L (λ_=>[]))
  (each:∀c∈L,∃b d',m [.val net,.val A1,.val (.int c)]=.ok (b,.lst ((left c).map D.int),d'))
  (k:∀F' H' u3 u4 u5 o,Tm K net A1 vn vg IN Fs Hs a o ρ L (λp=>L.filter λc=>decide (p∉left c)) F' H'->D'.nx [AA vn,AA vg,AA (.ref a),u3,u4,u5,u6] H') :
  Dy K H₀ m D' [AA vn,AA vg,AA (.ref a),u3,u4,u5,u6] H:=by
 refine{_,rfl,a,UB ρ L,rfl,ha,λo=>?_}
 have T1:Tm K net A1 vn vg IN Fs Hs a o ρ L (λ_=>[]) (DU F a (.frz o (.dK (UB ρ L)))) (DU H a (.frz o (.dK (UB ρ L)))):=by
  refine{T.to {λb u e _ _ n=>?_,λb e=>Cf e,.of_gr (Gr.new fa),λb u e=>?_,λb q=>.inl (.inr q)} T.sub.both,G3,{λp hp=>?_,R.inj}}
  .rw[EL (λz=>n (.inl z))];exact e
  .by_cases z:b=a
   .exact .inr (.inr (.inl z))
   .rw[EL z] at e;exact .inl (by rw[e];exact nofun)
  .have z:=(R.at' p hp).2.2
   rw[EL z,EL z];exact R.at' p hp
 refine Aj (n:=L.length) (Vl K net A1 vn vg IN Fs Hs a o ρ L (λi p=>(L.take i).filter λc=>decide (p∉left c)) AI AI u6 AI) {_,u3,u4,u5,rfl,T1.congr λp _=>by simp,λ_ _ e=>by cases e} (λi σ H hi h=>?_) (λσ H h=>?_) λi σ H x H2 JI h y=>?_
 .obtain⟨F,_,_,_,_,T,_⟩:=h
  exact{by rw[rC];exact hi,T.tb.sub _ _ T.fr}
 .obtain⟨F,u3,u4,u5,rfl,T,_⟩:=h
  exact{{by rw[rC];exact AM _,T.tb.sub _ _ T.fr},k F H u3 u4 u5 o (T.congr λp hp=>by dsimp only;rw[D5])}
 .obtain⟨F,u3,u4,u5,rfl,T,_⟩:=h
  obtain⟨rfl,kk,rfl,ek⟩:=y;obtain rfl:=Ll JI ek;obtain⟨c,hc⟩:∃c,c=L[i]:={_,rfl};obtain⟨b,d',hm⟩:=each c (by rw[hc];exact HB JI);rw[<-hc];refine{a,F,gE net A1 AI AI (AA (.int c)) AI,.lst ((left c).map D.int),_,wI T.tb.sub T.tb.n T.tb.g .none .none (.some (.int c)) .none,SY (ds:=[net,A1,.int c]) rfl hm,λv F3 H3 s3 S3 r3=>?_};refine zPD (c:=c) (T.step oK s3 S3.sub) nd (λp _=>?_) r3 λF5 H5 Ga T5=>{F5,Ga,_,_,rfl,T5.congr λp hp=>?_,λ_ _ e=>by cases e}
  .have:=HQ (λc=>decide (p∉left c)) (L.take i)
   rw[ET] at this;dsimp only;omega
  .dsimp only
   rw[BJ JI,aT,<-hc]
   congr 1
   by_cases e:p∈left c
   .simp[e]
   .simp[e]
theorem k4{l:List α}(h:n+1=l.length):∃a t,l=a::t/\n=t.length:=by
 cases l with
 |nil=>simp at h
 |cons a t=>exact{a,t,rfl,Nat.succ.inj h}
theorem yFK{l:List α}(h:7=l.length):∃a b c d e f g,l=[a,b,c,d,e,f,g]:=by
 obtain⟨a,t0,e0,h0⟩:=k4 h;obtain⟨b,t1,e1,h1⟩:=k4 h0;obtain⟨c,t2,e2,h2⟩:=k4 h1;obtain⟨d,t3,e3,h3⟩:=k4 h2;obtain⟨e,t4,e4,h4⟩:=k4 h3;obtain⟨f,t5,e5,h5⟩:=k4 h4;obtain⟨g,t6,e6,h6⟩:=k4 h5;exact{a,b,c,d,e,f,g,by rw[e0,e1,e2,e3,e4,e5,e6,List.eq_nil_of_length_eq_zero h6.symm]}
def yHP(K:AC)(net A1:D)(vn vg:V)(ow:AQ->Prop)(F H F1:Hp)(a:AQ)(L:List Int)(u4 u5 u6:Option V)(i:Nat)(σ':St)(H':Hp):Prop :=
 ∃F' u3 ρ,σ'=[AA vn,AA vg,AA (.ref a),u3,u4,u5,u6]/\Tb K net A1 vn vg ow F H F' H' (λb=>b=a\/∃p∈L.take i,b=ρ p)/\Le F1 F'/\F' a=AI/\H' a=AA (.dK (UB ρ (L.take i)))/\Rws F' H' a ρ (L.take i) (λ_=>[])
open Classical in
theorem zUZ{gr:GS}(h:tS K H₀ (G4 (k6 m) gr) D' σ H):k7 (Sj K H₀ m) (k7 (Dy K H₀ m) (tS K H₀ gr)) D' σ H:=by
 obtain⟨τ,F,E,r,S,hg,k⟩:=h;obtain⟨r1,e1,hg⟩:=pA3 hg;obtain⟨net,A1,L,left,⟨rfl,⟨b0,d0,PK⟩,nd,EW,each⟩,rfl⟩:=tab_of e1;obtain⟨w0,w1,w2,u3,u4,u5,u6,rfl⟩:=yFK S.len;obtain⟨vn,hvn,rn⟩:=S.val 0 net rfl;obtain⟨vg,hvg,rg⟩:=S.val 1 A1 rfl;obtain⟨a,ha,fa,⟨kv0,eS,rk0⟩,na,_⟩:=S.own 2 AD (.dk []) rfl;cases rk0;cases hvn;cases hvg;cases ha;have pU:DT [AA vn,AA vg,AA (.ref a),u3,u4,u5,u6] [.val net,.val A1,.own AD (.dk []),.no,.no,.no,.no] a:={2,AD,.dk [],rfl,rfl};generalize DT [AA vn,AA vg,AA (.ref a),u3,u4,u5,u6] [.val net,.val A1,.own AD (.dk []),.no,.no,.no,.no]=ow at pU k;refine{τ,F,gE net A1 AI AI AI AI,L.map D.int,_,wI S.sub rn rg .none .none .none .none,rD (SY (ds:=[net,A1,.non]) rfl PK),λJ F1 H1 s1 S1 w1=>?_};have T0:Tb K net A1 vn vg ow F H F H (λb=>b=a):={S.sub,rn,rg,Stp.refl.weak λb h=>by rw[h];exact pU};have T1:=T0.step oK s1 S1.sub;have fa1:F1 a=AI:=s1.nF fa eS trivial (oK _);have ha1:H1 a=AA (.dK []):=s1.keep _ _ eS trivial fa (oK _);refine Aj (n:=L.length) (yHP K net A1 vn vg ow F H F1 a L u4 u5 u6) {F1,u3,λ_=>a,rfl,T1.to (Stp.refl.weak λb h=>h.elim id λ⟨p,hp,_⟩=>by simp at hp) T1.sub,.refl _,fa1,ha1,{λp hp=>by simp at hp,λp hp=>by simp at hp}} (λi σ Hj hi h=>?_) (λσ Hj h=>?_) λi σ Hj x H2 JI h y=>?_
 .obtain⟨F',_,_,_,T',l',_⟩:=h
  exact(w1 i F' Hj l' T'.sub).1 (by rw[AJ];exact hi)
 .obtain⟨F',u3,ρ,rfl,T',l',z7,cQ,R'⟩:=h
  refine{(w1 L.length F' Hj l' T'.sub).2.1 (by rw[AJ]),?_};rw[D5] at T' cQ R';refine zR5 (H₀:=H₀) (m:=m) (left:=left) T' nd EW z7 cQ R' each λF5 H5 u3 u4 u5 o Kx=>?_;have T5:=Kx.tb;have hf5:=Kx.fr;have R5:=Kx.rw
  -- all is shared from now on
  have Wp:∀b u,(if ∃p∈L,b=ρ p then H5 b else F5 b)=AA u->H5 b=AA u:=λb u e=>by
   by_cases z:∃p∈L,b=ρ p
   .rw[if_pos z] at e;exact e
   .rw[if_neg z] at e;exact T5.sub b u e
  have hl:Le F5 (λb=>if ∃p∈L,b=ρ p then H5 b else F5 b):=λb u e=>.inl (by
   by_cases z:∃p∈L,b=ρ p
   .show(if ∃p∈L,b=ρ p then H5 b else F5 b)=_
    rw[if_pos z];exact T5.sub b u e
   .show(if ∃p∈L,b=ρ p then H5 b else F5 b)=_
    rw[if_neg z];exact e)
  have T6:Tb K net A1 vn vg ow F H (λb=>if ∃p∈L,b=ρ p then H5 b else F5 b) H5 (λ_=>False):=by
   refine T5.to (M':=λ_=>False) {λb u e _ _ _=>e,λb e=>e,hl,λb u e=>?_,λb z=>HF z} Wp
   by_cases z:∃p∈L,b=ρ p
   .exact .inr (.inr z)
   .have e:(if ∃p∈L,b=ρ p then H5 b else F5 b)=_:=e
    rw[if_neg z] at e;exact .inl (by rw[e];exact nofun)
  refine{τ,_,_,r,wI Wp T6.n T6.g (.some (.dk (.inr {o,hl.frz hf5}) (Pw λp hp=>?_))) .none .none .none,hg,k.pre (T6.st.weak λb z=>(oK b z).elim)};show(if ∃p'∈L,ρ p=ρ p' then H5 (ρ p) else F5 (ρ p))=_;rw[if_pos {p,hp,rfl}];exact(R5.at' p hp).1
 .obtain⟨F',u3,ρ,rfl,T',l',z7,cQ,R'⟩:=h
  obtain⟨F2,n2,r2⟩:=(w1 i F' Hj l' T'.sub).2.2 x H2 (.int L[i]) (by rw[AU,BU JI];rfl) y;obtain⟨p,hp⟩:∃p,p=L[i]:={_,rfl};have Im:p∉L.take i:=by rw[hp];exact Co nd JI
  rw[<-hp] at r2;cases r2;have no:∀a:AQ,¬(λ_:AQ=>False) a:=λ_ z=>z;have T2:=T'.step no n2.1 n2.2;have R2:=R'.step no n2.1;have Xt:F2 a=AI:=n2.1.nF z7 cQ trivial (no a);have Ka:H2 a=AA (.dK (UB ρ (L.take i))):=n2.1.keep _ _ cQ trivial z7 (no a);refine{BR _,λq hq=>{_,rfl,_,rfl,a,_,rfl,DPut.kk (k:=.inl p) (by rw[EL (T4 Ka hq)];exact Ka) ?_,F2,AA (.int p),λz=>if z=p then q else ρ z,rfl,?_,l'.trans n2.1.le,Xt,?_,?_}}
  .rw[rC,ET];exact bE 'o'
  .have fq:F2 q=AI:=pAG n2.2 hq
   refine(T2.to (M':=λb=>b=a\/∃z∈L.take (i+1),b=if z=p then q else ρ z) (pAP hq λb h=>?_) (n2.2.off fq)).to (Stp.mine (.inl rfl)) ((n2.2.off fq).off Xt);rcases h with h|⟨z,hz,h⟩
   .exact .inl (.inl h)
   .by_cases e:z=p
    .rw[if_pos e] at h;exact .inr h
    .rw[if_neg e] at h
     exact .inl (.inr {z,((xK JI z).mp hz).resolve_right (by rw[<-hp];exact e),h})
  .rw[G3,zUY Im,BJ JI,<-hp]
  .have ne:∀z∈L.take i,ρ z≠q:=λz hz=>T4 (R2.at' z hz).1 hq
   have qa:q≠a:=FH (T4 Ka hq);have mem:∀z,z∈L.take (i+1)->z≠p->z∈L.take i:=λz hz e=>((xK JI z).mp hz).resolve_right (by rw[<-hp];exact e);refine{λz hz=>?_,λz hz z' eN h=>?_}
   .by_cases e:z=p
    .simp only[e,if_true]
     rw[EL qa,G3];exact{rfl,pAG n2.2 hq,qa}
    .simp only[e,if_false]
     obtain⟨x,y,w⟩:=R2.at' z (mem z hz e);rw[EL w,EL (ne z (mem z hz e))];exact{x,y,w}
   .by_cases e:z=p
    .by_cases e':z'=p
     .rw[e,e']
     .simp only[e,e',if_true,if_false] at h
      exact absurd h.symm (ne z' (mem z' eN e'))
    .by_cases e':z'=p
     .simp only[e,e',if_true,if_false] at h
      exact absurd h (ne z (mem z hz e))
     .simp only[e,e',if_false] at h
      exact R2.inj z (mem z hz e) z' (mem z' eN e') h
theorem zY8{gr:GS}{s2 s3:E6}{rest:List E6}(h2:PS X s2 (Sj X.K X.H₀ m))(h3:PS X s3 (Dy X.K X.H₀ m))(hr:ZB X rest gr):ZB X (s2::s3::rest) (G4 (k6 m) gr):=(Z2 h2 (Z2 h3 hr)).imp λ_ _ _ h=>zUZ h
end
def yHQ(n:Nat):List D:=(C9 n).map λi:Nat=>D.int ((n:Int)-1-(i:Int))
def yHR(g:G):GI:=λE=>(g E).bind λp=>match p.1 with|.int j=>guard (0<=j/\j<=1000) (.ok (yHQ j.toNat,p.2))|_=>.bad
section
variable{a:CU}{ga:G}
def gJ:CK->List (CK ⊕ G)->G
 |acc,[],E=>.ok (.str acc,E)
 |acc,.inl c::r,E=>gJ (acc++c) r E
 |acc,.inr g::r,E=>(g E).bind λp=>match p.1 with
  |.int a=>guard (0<=a/\a<100) (gJ (acc++(toString a:CK)) r p.2)
  |_=>.bad
inductive JP(X:Cx):List CU->List (CK ⊕ G)->Prop
 |nil:JP X [] []
 |txt {c:CK} {j pos} {es:List CU} {ps:List (CK ⊕ G)} (h:c.length<=100) (r:JP X es ps):JP X (.Constant (.str c) j pos::es) (.inl c::ps)
 |val {e:CU} {g:G} {pos:fD} {es:List CU} {ps:List (CK ⊕ G)} (h:VE X e g) (r:JP X es ps):JP X (.FormattedValue e (-1) AI pos::es) (.inr g::ps)
theorem yC5:∀n:Nat,n<100->(toString (n:Int):CK).length<=100:=by decide +kernel
theorem yC6:∀n:Nat,n<100->n.log2<1920:=by decide +kernel
theorem zY9{ps:List (CK ⊕ G)}(h:JP X es ps):∀{acc:CK} {AE:List (AQ×HL)} {s:AT} {σ:St} {H:Hp} {Q:VK},acc.length+100 * ps.length<10000->Inv X AE σ H s->tV X.K X.H₀ (gJ acc ps) σ H Q ->
  AZ (A3 X.prog X.w) X.A (joinParts acc (evalEach es X.env)) (EP X AE σ Q) X.xe s:=by
 induction h with
 |nil =>
  intro acc AE s σ H Q hl I q;obtain⟨τ,F,E,d,E',S,hg,k⟩:=q;cases hg;exact joinParts_nil {.str acc,H,I.tok _,{_,rfl},k _ F H .refl S (.str _)} (bO (by simpa using hl))
 |@txt c j pos es ps hc r ih =>
  intro acc AE s σ H Q hl I q
  have nC:(acc++c).length+100 * ps.length<10000:=by
   rw[ZN];rw[BC] at hl;lia
  show AZ _ _ (joinParts acc (eval (.Constant (.str c) j pos) X.env::evalEach es X.env)) _ _ _;exact joinParts_cons (Calls.Constant_str {bO 'l',ih nC (I.tok _) q})
 |@val e g pos es ps h r ih =>
  intro acc AE s σ H Q hl I q;obtain⟨τ,F,E,d,E',S,hg,k⟩:=q;obtain⟨p,e1,hg⟩:=pA3 hg;show AZ _ _ (joinParts acc (eval (.FormattedValue e (-1) AI pos) X.env::evalEach es X.env)) _ _ _;refine joinParts_cons (FormattedValue_plain (CY (h AE s σ H _ I {τ,F,E,p.1,p.2,S,e1,λv F1 H1 s1 S1 r1=>({F1,s1,S1,r1}:∃F1,Stp (DT σ E) F H F1 H1 (DT σ p.2)/\Sim X.K X.H₀ τ F1 H1 σ p.2/\Rep X.K F1 v p.1)}) (λu s1 z=>?_) λ_ _ z=>z));obtain⟨v,H1,I1,rv,F1,st,S1,r1⟩:=z;split at hg
  .rename_i n en
   obtain⟨⟨g1,g2⟩,hg⟩:=eD hg;rw[en] at r1;obtain rfl:=r1.vI;obtain⟨t,rfl⟩:=rv;have ea:((n.toNat:Nat):Int)=n:=aV g1;have h1:=yC5 n.toNat 'l';rw[ea] at h1;refine formatField_int_small (by have:=yC6 n.toNat 'l';rwa [show n.natAbs=n.toNat by lia]) {bO ?_,ih ?_ ((I1.tok _).tok _) {τ,F1,p.2,d,E',S1,hg,λv F2 H2 s2 S2 r2=>k v F2 H2 (st.trans s2) S2 r2}}
   .rw[ZN];rw[BC] at hl;lia
   .rw[ZN];rw[BC] at hl;lia
  .cases hg
theorem yC7{sS sR:CU}{rest:List CU}{ps:List (CK ⊕ G)}(h:JP X (sS::sR::rest) ps)(hl:ps.length<=50:=by decide):VE X (.JoinedStr (sS::sR::rest) pos) (gJ OH ps) :=
 λAE s σ H Q I q=>JoinedStr_many (zY9 h (by have:OH.length=0:=rfl;lia) I q)
end
section
variable{K:AC}{E:Ev}{net:D}{vb:V}{L:List Int}{c gi:Int}{g:Int->List Int}{u2:Option V}{left:Int->Int->List Int}
end
section
variable{K:AC}{E:XK}
theorem yFL:wH (QF P w C) (OL (QF P w C) P w K mg base N qual scope f cd A outer s₀ H₀ E) E:=by
 intro AE σ H s e s' I h;obtain⟨a,H1,h1,fr,a0,rfl,F,q⟩:=h;have WU:s₀.heap.objs.size∈QU (OL (QF P w C) P w K mg base N qual scope f cd A outer s₀ H₀ E).stack:=HH.mpr {FR qual scope s₀.heap.objs.size f cd,BB,rfl};obtain⟨o,ho,_⟩:=(I.stack.mem WU).2;have JI:=A8 ho;have I1:Inv (OL (QF P w C) P w K mg base N qual scope f cd A outer s₀ H₀ E) AE σ H1 { s with heap:=h1 }:=I.call (h':=h1) (g':=s.gens) (d':=s.drawn) (t':=s.toks) (ch:=[]) F.un F.hok I.bare (λb z=>absurd z 's');refine wpAny_leaves_onW (base:=IQ h1 fr) I.ok.frames rfl F.fl λh' fl up=>?_;refine{a,H1,h1,fr,a0,rfl,{F.os.trans I.os,F.bare,I1.base,F.hok,λb hb=>?_,F.new,fl,F.up.trans up},q};obtain⟨h1,h2,h3⟩:=F.frs_ b hb;refine{h1,?_,h3};rcases h2 with h2|h2
 .rcases BD.mp (I.stkSub b h2) with e|e
  .exact .inr (CO e.symm)
  .exact .inl e
 .exact .inr (AY (CN JI) h2)
def Uv(K:AC)(H₀:Hp)(W:Hp->Prop)(gs:List G)(mx:List D->Out Ev):TE:=λσ H _=>∃τ F E p z,Sim K H₀ τ F H σ E/\NL gs E=.ok p/\mx p.1=.ok z/\∀F' H',Stp (DT σ E) F H F' H' (λ_=>False)->Sub F' H'->W H'
def Fe(gs:List G)(mx:List D->Out Ev):GX:=λE=>(NL gs E).bind λp=>(mx p.1).bind λ_=>.ok p.2
theorem Zc{mx:List D->Out Ev}{gs:List G}(CL:rX P w K mg base C x k np mx)(hr:Room k (OL (QF P w C) P w K mg base N qual scope f cd A outer s₀ H₀ E).A)
  (ha:VA (OL (QF P w C) P w K mg base N qual scope f cd A outer s₀ H₀ E) (e::es) gs) (zV:gs.length=np:=by rfl) (hg:Gl (OL (QF P w C) P w K mg base N qual scope f cd A outer s₀ H₀ E) x:=by rfl) (RL:(x==("__debug__":CK))=AD:=by decide)
  (he:AO (e::es) (FR qual scope s₀.heap.objs.size f cd)=(AD,eval e (FR qual scope s₀.heap.objs.size f cd))::AO es (FR qual scope s₀.heap.objs.size f cd):=by rfl)
  (JT:(DH pos (AO es (FR qual scope s₀.heap.objs.size f cd))).any (·.1)=AD:=by rfl) :
  PE (OL (QF P w C) P w K mg base N qual scope f cd A outer s₀ H₀ E) (.Call (.Name x p) (e::es) [] pos) (Uv K H₀ (λH'=>E (.ref C) AI H') gs mx):=by
 obtain⟨f',fd,ps,Fn,hm,hk,hb⟩:=CL;refine(rM Fn hr hg hm hk hb .nil yFL ha RL he JT).imp λσ H Q h=>?_;obtain⟨τ,F,E1,p,z,S,e1,e2,k⟩:=h;refine{τ,F,E1,p.1,p.2,S,e1,λvs F1 H1 s1 S1 r1=>?_};refine{by rw[DC,r1.length,jH e1];exact zV,F1,p.1,z,S1.sub,by rw[DC];exact r1,e2,λF' H' n=>k F' H' ((s1.trans n.stp).weak λ_ z=>z.elim) n.2}
theorem Zb{gs:List G}{mx:List D->Out Ev}{rest:List E6}{W:Hp->Prop}(he:PE X e te)(ht:∀σ H Q,Uv X.K X.H₀ W gs mx σ H Q->te σ H Q):PSs X (.Return (AA e) pos::rest) (tX X.K X.H₀ W (Fe gs mx)) :=
 (Z2 (rB he) De).imp λD σ H h=>by
  obtain⟨τ,F,E1,E2,S,hg,k⟩:=h;obtain⟨p,e1,hg⟩:=pA3 hg;obtain⟨z,e2,hg⟩:=pA3 hg;exact ht σ H _ {τ,F,E1,p,z,S,e1,e2,k}
end
end L2
variable{AK D7:Int}{aw OF:List (Option Int)}{GG cs:List Int}{φ:Int->Option Int}
namespace My
open PySem L2
noncomputable def SZ(i:Nat):E6:=PySem.Challenge.pw_waymusts_k05_musts_by_closing.main.body.getD i (.Pass {0,0,0,0})
structure Bt(mg:CK->Option AH):Prop where
 b_ValueError:mg "ValueError"=AI
 b_all:mg "all"=AI
 b_bool:mg "bool"=AI
 b_enumerate:mg "enumerate"=AI
 b_isinstance:mg "isinstance"=AI
 b_len:mg "len"=AI
 b_list:mg "list"=AI
 b_min:mg "min"=AI
 b_range:mg "range"=AI
 b_sorted:mg "sorted"=AI
 b_tuple:mg "tuple"=AI
 b_zip:mg "zip"=AI
abbrev yD:E6:=SZ 13
abbrev xW:E6:=SZ 20
abbrev Ds:E6:=SZ 23
abbrev Dr:E6:=SZ 24
abbrev Dq:E6:=SZ 25
abbrev Dp:E6:=SZ 28
abbrev Do:E6:=SZ 31
abbrev Dj:E6:=SZ 32
abbrev Dn:E6:=SZ 14
abbrev Dv:E6:=SZ 26
abbrev Dt:E6:=SZ 15
abbrev Dl:E6:=SZ 27
abbrev Da:E6:=SZ 16
abbrev Cz:E6:=SZ 18
abbrev Cy:E6:=SZ 30
abbrev oW:E6:=SZ 19
abbrev pC:E6:=SZ 29
abbrev wM:E6:=SZ 21
abbrev Di:E6:=SZ 33
abbrev fP:E6:=SZ 34
theorem UC{P:List CK}{sc:M1}(h1:sc.kind=.function:=by rfl)(h2:sc.isCoroutine=AD:=by rfl)(h3:sc.isGenerator=AD:=by rfl)(h4:N.Nodup:=by decide +kernel)(h5:N.take P.length=P:=by rfl)(h6:∀x∈P,sc.names.lookup x=AA .local\/sc.names.lookup x=AA .cell:=by decide +kernel)(h7:∀y∈sc.names,y.2≠.free:=by decide +kernel):FnScope N P sc:={h1,h2,h3,h4,h5,h6,h7}
theorem cn(h1:XW scope X.env=pure cl)(h2:scope.kind=.function:=by rfl)(h3:∀y∈scope.names,y.2≠.cell:=by decide +kernel)(h4:∀y∈scope.names,y.2=.local->scope.names.lookup y.1=AA .local:=by decide +kernel)(h5:∀y∈scope.names,y.2=.free->y.1∈CP:=by decide +kernel)(h6:cl.map (·.1)=CP:=by rfl)
  (h7:∀p∈cl,X.env.cells.lookup p.1=AA p.2:=by first|exact kX|exact eJ rfl|exact zA rfl rfl|exact yZ rfl rfl rfl|exact Fi rfl rfl rfl rfl) (h8:CP.map AA=js.map λj=>X.N[j]?:=by rfl)
  (h9:∀x∈CP,X.env.kindOf x=AA .cell\/X.env.kindOf x=AA .free:=by first|exact kX|(refine eJ ?_<;>first|exact BN rfl|exact D9 rfl)|(refine zA ?_ ?_<;>first|exact BN rfl|exact D9 rfl)|(refine yZ ?_ ?_ ?_<;>first|exact BN rfl|exact D9 rfl)|(refine Fi ?_ ?_ ?_ ?_<;>first|exact BN rfl|exact D9 rfl))
  (h10:∀x∈CP,(SK scope X.env).names.lookup x=AA .cell\/(SK scope X.env).names.lookup x=AA .free:=by first|exact kX|(refine eJ ?_<;>first|exact BN rfl|exact D9 rfl)|(refine zA ?_ ?_<;>first|exact BN rfl|exact D9 rfl)|(refine yZ ?_ ?_ ?_<;>first|exact BN rfl|exact D9 rfl)|(refine Fi ?_ ?_ ?_ ?_<;>first|exact BN rfl|exact D9 rfl))
  (h11:∀x∈own,x∉CP:=by decide +kernel) (h12:∀x∈own,scope.names.lookup x=AA .local:=by decide +kernel):CompNm X scope cl own CP js:={h1,h2,h3,h4,h5,h6,h7,h8,h9,h10,h11,h12}
theorem eF(i:Nat)(hN:(own++CP).Nodup:=by decide +kernel)(hi:(own++CP)[i]?=AA x:=by rfl)(hx:L2.Loc (L7 X scope cl (own++CP) C s H fp).env.scope x:=by exact BN rfl)(hf:(L7 X scope cl (own++CP) C s H fp).fn x=AL\/(L7 X scope cl (own++CP) C s H fp).env.scope.names.lookup x=AA .local:=by exact D9 rfl):VG (L7 X scope cl (own++CP) C s H fp) (.Name x pos) (.nm i):=W5 hN hi hx hf
theorem Za{g:TG}{tt:TT}{acc:AQ}{σ₀:St}{N:St->Hp->Prop}(Pv:Nat->List V->St->Hp->Prop)(h0:Pv 0 [] σ₀ (DU H1 acc (.lst [])))(ha:∀i ys σ H,i<=n->Pv i ys σ H->H acc=AA (.lst ys))
  (hs:∀i ys σ H,i<n->Pv i ys σ H->J.go i H/\∀x H',J.yld i H x H'->g x σ H' λσ2 H2=>tt σ2 H2 λb H3 =>
   if b=AL then te σ2 H3 λy H4=>H4 acc=AA (.lst ys)/\ys.length<sizeLine/\∃m',m'<n-i/\m'=n-(i+1)/\i+1<=n/\Pv (i+1) (ys++[y]) σ2 (DU H4 acc (.lst (ys++[y])))
   else ∃m',m'<n-i/\m'=n-(i+1)/\i+1<=n/\Pv (i+1) ys σ2 H3)
  (hd:∀ys σ H,Pv n ys σ H->J.stop n H/\N σ H) (mg:∀x σ H P P',(∀σ2 H2,P σ2 H2->P' σ2 H2)->g x σ H P->g x σ H P') (mt:∀σ H P P',(∀b H2,P b H2->P' b H2)->tt σ H P->tt σ H P') (me:∀σ H P P',(∀v H2,P v H2->P' v H2)->te σ H P->te σ H P'):tWalkC J g tt (iX acc te) σ₀ (DU H1 acc (.lst [])) N:=by
 refine{λi m σ H=>m=n-i/\i<=n/\∃ys,Pv i ys σ H,{n,by lia,BR _,[],h0},?_};rintro i m σ H ⟨rfl,hi,ys,p⟩
 by_cases JI:i<n
 .obtain⟨go,st⟩:=hs i ys σ H JI p
  refine .inr {go,λx H' y=>mg _ _ _ _ _ (λσ2 H2 q=>mt _ _ _ _ (λb H3 q=>?_) q) (st x H' y)}
  cases b with
  |true =>
   rw[if_pos rfl] at q ⊢;exact me _ _ _ _ (λv H4 ⟨q1,q2,m',a,b,c,q3⟩=>{ys,q1,q2,m',a,b,c,_,q3}) q
  |false =>
   rw[if_neg CG] at q ⊢;obtain⟨m',a,b,c,q3⟩:=q;exact{m',a,b,c,_,q3}
 .have e:i=n:=by lia
  subst e;exact .inl (hd ys σ H p)
theorem Dh(f:α->Bool){l:List α}{x:α}(h:l[i]?=AA x):(l.take (i+1)).filter f=(l.take i).filter f++(if f x=AL then[x] else[]):=by
 obtain⟨hi,e⟩:=AR.mp h;rw[BJ hi,aT,e]
 by_cases hf:f x=AL
 .simp[hf]
 .simp[hf]
theorem Om{K:AC}{H:Hp}:∀{zs:List V} {ps:List (Int×Int)} {i:Nat} {z:V},PairsAt K H zs ps->zs[i]?=AA z->∃(q:AQ) (x y:Int),z=.ref q/\SqT K H q [.int x,.int y]/\ps[i]?=AA (x,y)
 |_,_,_,_,.nil,h=>by simp at h
 |_,_,0,_,.cons ⟨q,e,s⟩ t,h=>by simp at h;subst h;exact{q,_,_,e,s,rfl}
 |_,_,i+1,_,.cons _ t,h=>by simp at h;simpa using Om t h
theorem Gr.acc{H1 H':Hp}{acc:AQ}{o:HO}(g:Gr H1 H')(h:H1 acc=AI):Gr H1 (DU H' acc o):=λb u e=>by
 rw[EL (T4 e h)];exact g b u e
def yHS(K:AC)(H:Hp)(q:AQ)(AK:Int)(ps:List (Int×Int)):Prop:=∃(t:AQ) (zs:List V),SqT K H q [.int AK,.ref t]/\SqT K H t zs/\PairsAt K H zs ps
noncomputable def TV(ps:List (Int×Int))(j:Nat):List Int:=(ps.filter λp=>decide (p.1=(j:Int))).map (·.2)
def Yz(H:Hp)(L:AQ)(rs:List AQ)(AK:Int)(ps:List (Int×Int)):Prop:=H L=AA (.lst (rs.map V.ref))/\(rs.length:Int)=AK/\∀(j:Nat) (hj:j<rs.length),H rs[j]=AA (.lst ((TV ps j).map V.int))
def Yy(K:AC):Sp:=λvs H Q _=>∃(q:AQ) (AK:Int) (ps:List (Int×Int)),vs=[.ref q]/\yHS K H q AK ps/\ps.length<=1000/\0<=AK/\AK<=100/\(∀p∈ps,0<=p.1/\p.1<AK) /\
 ∀(L:AQ) (H':Hp) (rs:List AQ),Gr H H'->Yz H' L rs AK ps->H L=AI->(∀r∈rs,H r=AI)->Q (.ref L) H'
section
variable{K:AC}
theorem Y7:FnScope ["net","many","lanes","nexts","one","other"] ["net"] (J5 yD):={rfl,rfl,rfl,by decide +kernel,rfl,by decide +kernel,by decide +kernel}
theorem yHT:((["place"]:List CK)++([]:List CK)).Nodup:=by decide +kernel
theorem zU0(F:Fun K "next_places" "next_places" yD f fd)(T:Bt mg):FnOk P w K mg base LO 1 f fd ["net"] (Yy K):=by
 refine F.ok Y7 (λvs H Q E h=>?_) (λG5 A outer s H vs Q E hr h=>?_)
 .obtain⟨q,AK,ps,rfl,_⟩:=h
  rfl
 .obtain⟨q,AK,ps,rfl,⟨t,zs,hq,ht,uO⟩,JT,Xd,YH,hrg,q0⟩:=h
  refine{_,Z2 (Bk (pv 0) (Bl rfl (rR (fZ (i:=1) Y7.nd rfl (BN rfl)) (rR (fZ (i:=2) Y7.nd rfl (BN rfl)) T8))))
   (Z2 (Rl (i:=3) (own:=["place"]) (CP:=[]) (js:=[]) {rfl,rfl,by decide +kernel,by decide +kernel,by decide +kernel,rfl,kX,rfl,kX,kX,by decide +kernel,by decide +kernel} rfl (Qu rfl T.b_range (R8 (pv 1) HU))
     (λC s H fp=>fZ (i:=0) yHT rfl (BN rfl) (D9 rfl)) (λC s H fp=>X9) (λC s H fp=>lP HU) Y7.nd rfl rfl rfl)
   (Z2 (oJ CH rfl (Mf (pv 2)) (Bl rfl (rR (fZ (i:=4) Y7.nd rfl (BN rfl)) (rR (fZ (i:=5) Y7.nd rfl (BN rfl)) T8)))
    (jG (Cj (wE G1 LI LH xP (As YA (pv 3) (pv 4) (λ_ _=>rfl)) (R8 (pv 5) HU)))))
   (jG (rB (pv 3))))),?_}
  have sm:∀n:Nat,n<=1000->n<=sizeLine:=λn h=>CN (Db h);have hzl:zs.length=ps.length:=Paired.length uO;refine{_,rfl,q,_,rfl,hq,rfl,_,_,rfl,_,_,rfl,rfl,?_};refine{_,rfl,_,rfl,by lia,by lia,λacc cP=>?_}
  refine Za (J:=pP 0 AK.toNat) (g:=Z1 0) (tt:=Tc) (te:=oA yO) (n:=AK.toNat) (λi ys σ H'=>∃(u:Option V) (rs:List AQ),σ=[u]/\ys=rs.map V.ref/\rs.length=i/\rs.Nodup/\(∀r∈rs,H' r=AA (.lst [])/\H r=AI/\r≠acc)/\H' acc=AA (.lst ys)/\Gr H H')
   {AI,[],rfl,rfl,rfl,FP,kX,G3,Gr.new cP} (λi ys σ H' _ ⟨_,_,_,_,_,_,_,h,_⟩=>h) ?_ ?_ (λx σ H P P' h q=>h _ _ q) (λσ H P P' h q=>h _ _ q) (λσ H P P' h q=>{q.1,λp hp=>h _ _ (q.2 p hp)})
  .rintro i ys σ H' hi ⟨u,rs,rfl,rfl,hl,nd,gX,ha,gr⟩
   refine{hi,?_};rintro x Ab ⟨rfl,rfl⟩;refine{sm 0 'd',λpt pZ=>?_};have Xb:pt≠acc:=FH (T4 ha pZ)
   have Ip:H pt=AI:=by
    cases e:H pt with
    |none=>rfl
    |some o=>have:=gr _ _ e;rw[pZ] at this;cases this
   have hnr:pt∉rs:=λz=>by have:=(gX pt z).1;rw[pZ] at this;cases this
   refine{Gr.new pZ _ _ ha,Db (by rw[AJ];lia),_,by lia,rfl,by lia,_,rs++[pt],rfl,by simp,by simp[hl],?_,λr WB=>?_,G3,Gr.acc (gr.trans (Gr.new pZ)) cP}
   .rw[GU]
    exact{nd,EM.mpr {by simp,FP},λa cQ b cO=>by rw[A5.mp cO];exact λz=>hnr (z▸cQ)}
   .rcases BY.mp WB with h|h
    .obtain⟨h1,h2,h3⟩:=gX r h
     exact{by rw[EL h3,EL (T4 h1 pZ)];exact h1,h2,h3}
    .rw[A5.mp h]
     exact{by rw[EL Xb,G3],Ip,Xb}
  .rintro ys σ H2 ⟨u,rs,rfl,rfl,hl,nd,gX,ha,gr⟩
   refine{AM _,?_}
   refine{_,rfl,t,rfl,{_,ht.gr gr},zWY (K:=K) (a:=t) (xs:=zs) (λi σ H3=>∃u4 u5:Option V,σ=[AA (.ref q),AA (.int AK),AA (.ref t),AA (.ref acc),u4,u5]/\H3 acc=AA (.lst (rs.map V.ref))/\(∀(j:Nat) (hj:j<rs.length),H3 rs[j]=AA (.lst ((TV (ps.take i) j).map V.int)))/\Gr H H3)
    {AI,AI,rfl,ha,λj hj=>(gX _ (HB hj)).1,gr} (λi σ H3 _ ⟨_,_,_,_,_,g⟩=>ht.gr g) ?_ ?_}
   .rintro i z σ H3 hi ⟨u4,u5,rfl,z6,pY,g3⟩
    obtain⟨pq,x,y,rfl,NA,Io⟩:=Om (uO.gr g3) hi;obtain⟨x0,x9⟩:=hrg _ (CT Io);have eO:x.toNat<rs.length:=by rw[hl];have:=x9;have:=x0;simp only at *;lia
    have aA:((x.toNat:Nat):Int)=x:=by simp only at x0;lia
    have vK:atI (rs.map V.ref) x=AA (.ref rs[x.toNat]):=by
     have z:=Ob (xs:=rs.map V.ref) (j:=x.toNat) (v:=.ref rs[x.toNat]) (by rw[AU,BU eO];rfl);rw[aA] at z;exact z
    have zU:=(AR.mp Io).1
    have Ih:(TV (ps.take i) x.toNat).length<=1000:=by
     unfold TV;rw[AJ];have h1:=HQ (λp:Int×Int=>decide (p.1=((x.toNat:Nat):Int))) (ps.take i);rw[ET] at h1;lia
    refine{pq,_,rfl,NA,rfl,_,_,rfl,_,_,rfl,rfl,?_};refine{_,rfl,_,rfl,acc,_,_,_,rfl,rfl,SqL.of z6,vK,.inl {rfl,_,SqL.of (pY _ eO)},_,rfl,rs[x.toNat],_,_,rfl,rfl,pY _ eO,Db (by rw[AJ];exact Ih),_,_,rfl,?_,λj hj=>?_,?_}
    .rw[EL (FH (gX _ (HB eO)).2.2)]
     exact z6
    .have hf:=Dh (λp:Int×Int=>decide (p.1=(j:Int))) Io
     by_cases Xh:j=x.toNat
     .subst Xh
      rw[G3];unfold TV;rw[hf,if_pos (decide_eq_true (show x=((x.toNat:Nat):Int) from aA.symm))];simp
     .have eR:rs[j]≠rs[x.toNat]:=λz=>by
       rcases Nat.lt_or_gt_of_ne Xh with h|h
       .exact EF.mp nd _ _ hj eO h z
       .exact EF.mp nd _ _ eO hj h z.symm
      rw[EL eR,pY j hj];unfold TV;rw[hf,if_neg (by simp only[decide_eq_true_eq];lia),DC]
    .exact Gr.acc g3 (gX _ (HB eO)).2.1
   .rintro σ H3 ⟨u4,u5,rfl,z6,pY,g3⟩
    rw[hzl,D5] at pY;exact{_,rfl,q0 acc H3 rs g3 {z6,by rw[hl];lia,pY} cP λr WB=>(gX r WB).2.1}
end
def dR(AK:Int)(ps:List (Int×Int)):D:=.lst ((C9 AK.toNat).map λj=>.lst ((TV ps j).map D.int))
def yF(AK:Int)(ps:List (Int×Int)):D:=.tup [.int AK,.tup (ps.map VX)]
def sG(sl:Ev)(q:Int×List (Int×Int)):Prop:=sl=[.val (yF q.1 q.2)]/\0<=q.1/\q.1<=100/\q.2.length<=1000/\∀p∈q.2,0<=p.1/\p.1<q.1
open Classical in
def jI:Mr:=λsl=>if h:∃q,sG sl q then .ok (AD,dR h.choose.1 h.choose.2,.non) else .bad
theorem yFM{sl:Ev}{r:Bool×D×D}(h:jI sl=.ok r):∃AK ps,sG sl (AK,ps)/\r=(AD,dR AK ps,.non):=by
 unfold jI at h
 by_cases e:∃q,sG sl q
 .rw[dif_pos e] at h;cases h;exact{_,_,e.choose_spec,rfl}
 .rw[dif_neg e] at h;cases h
theorem yFN(h:sG [.val (yF AK ps)] (AK,ps)):jI [.val (yF AK ps)]=.ok (AD,dR AK ps,.non):=by
 have e:∃q,sG [.val (yF AK ps)] q:={_,h};unfold jI;rw[dif_pos e];have z:=e.choose_spec.1;generalize e.choose=q at z;injection z with z _;injection z with z;injection z with z;injection z with z1 z2;injection z1 with z1;injection z2 with z2 _;injection z2 with z2;have:=congrArg jE z2;rw[yA,yA] at this;injection this with this;rw[<-z1,<-this]
theorem pAQ{K:AC}(s:Sub F H):∀{ps:List (Int×Int)} {ys:List V},Reps K F ys (ps.map VX)->PairsAt K H ys ps:=λr=>pA0 (r.prs s) λ_ _ ⟨q,e,h⟩=>{q,e,SqT.of h}
theorem zHG{K:AC}(Fn:Fun K "next_places" "next_places" yD f fd)(T:Bt mg):FnOk P w K mg base LO 1 f fd ["net"] (NO K 1 jI) :=
 FnOk.imp (zU0 Fn T) λvs H Q E h=>by
  obtain⟨hl,τ,F,sl,b,d,d',S,sh,hm,k⟩:=h;obtain⟨AK,ps,⟨rfl,g1,g2,g3,g4⟩,er⟩:=yFM hm;cases er;obtain⟨v,e1,r⟩:=S.val 0 _ rfl;obtain⟨v',rfl⟩:=List.length_eq_one_iff.mp hl;cases e1;obtain⟨q,ws,rfl,r2,sq⟩:=r.tupSq
  cases r2 with
  |cons ra r2 =>
   cases r2 with
   |cons rb r2 =>
    cases r2;cases ra;obtain⟨t,zs,rfl,r3,sq3⟩:=rb.tupSq;refine{q,AK,ps,rfl,{t,zs,sq F H (.refl _) S.sub,sq3 F H (.refl _) S.sub,pAQ S.sub r3},g3,g1,g2,g4,λL H' rs gr na hL gX=>?_};have n:=New.gro (F:=F) S.sub gr;refine k _ _ _ n.stp (S.new n) ?_;obtain⟨n1,n2,n3⟩:=na;have hL':gro F H H' L=AA (.lst (rs.map V.ref)):=by rw[wS hL];exact n1
    refine .lst (.inl (.inl hL')) ?_
    have J6:∀(l:List AQ) (o:Nat),(∀r∈l,H r=AI)->(∀(j:Nat) (hj:j<l.length),H' l[j]=AA (.lst ((TV ps (o+j)).map V.int))) ->
      Reps K (gro F H H') (l.map V.ref) ((List.range' o l.length).map λj=>D.lst ((TV ps j).map D.int)):=by
     intro l
     induction l with
     |nil=>intro o _ _;exact .nil
     |cons a l ih =>
      intro o h1 h2;rw[AX,BC,List.range'_succ,AX];refine .cons ?_ (ih (o+1) (λr hr=>h1 r (A7 _ hr)) λj hj=>?_)
      .have:=h2 0 's'
       have hA':gro F H H' a=AA (.lst ((TV ps o).map V.int)):=by rw[wS (h1 a BB)];simpa using this
       exact .lst (.inl (.inl hA')) (Reps.ints _)
      .have:=h2 (j+1) (by simp;lia)
       rw[show o+1+j=o+(j+1) by lia];simpa using this
    have:=J6 rs 0 gX (by simpa using n3);rw[show rs.length=AK.toNat by lia] at this;rw[List.range_eq_range'];exact this
def Se:GS :=
 (G4 (OD (gB (g2 dN (g2 FI (BA 0) (BA 1)) (gC .non)))
 Eh
 RA)
 (G4 (VY 2 (KE [(BA 1)]))
 (G4 (WS (TY [2] (gB (g2 M8 (g2 FI (BA 0) (g2 FI (BA 2) (g1 U3 (gC (.int 1))))) (g2 FI (BA 2) (g1 U3 (gC (.int 1)))))))
 (dW (Q7 2 VQ [(OK [2] (g2 FI (BA 0) (g2 FI (BA 2) (g1 U3 (gC (.int 1))))))])) 100000)
 (N1 (OK [2] (gN dM [(yH (BA 2) (g1 U3 (gC (.int 1))))]))))))
def pB:Mr:=P2 3 Se
theorem MB:FnScope ["held","place","line"] ["held","place"] (J5 xW):=UC
theorem zJO{K:AC}(Fn:Fun K "musts_held" "musts_held" xW f fd)(T:Bt mg) :FnOk P w K mg base LO 1 f fd ["held","place"] (NO K 2 pB) :=
 WP Fn MB λG5 A outer s H E hr=>by
  have hu:=hr.units;unfold Se
  exact(IT (WQ (Bi (MQ hu (CQ 0) (CQ 1)) iV)
   (KG Mk)
   W6)
   (IT (Z4 (i:=2) MB.nd rfl (BN rfl) (TX (ED (CQ 1) F9)))
   (IT (xE 100000 CH (lO [2] (fU hu (MQ hu (CQ 0) (MQ hu (CQ 2) (qJ IJ))) (MQ hu (CQ 2) (qJ IJ))))
   (KG (w9 (xM 2 (ED (Y0 [2] (MQ hu (CQ 0) (MQ hu (CQ 2) (qJ IJ)))) F9)))))
   (KG (QT (Y0 [2] (oS T.b_tuple (ED (pA8 (yFB (CQ 2) (qJ IJ))) F9))))))))
def Dw:GX :=
 (yG (gB (g2 dN (g2 FI (BA 0) (BA 1)) (gC .non))) (Sn [(gJ OH [.inl "no way leads to ",.inr (BA 1)])]))
def yC:List D->Out Ev:=Ed 3 Dw
theorem zJP{K:AC}(Fn:Fun K "musts_held" "musts_held" xW f fd)(T:Bt mg)(hmC:mg "NotReached"=AA (.ref C))(Z:JX K C [.type "ValueError",.type "Exception",.type "BaseException",.type "object"] "ValueError.__new__"=AL) :FnOk P w K mg base (QF P w C) 1 f fd ["held","place"] (sC K C 2 yC) :=
 Sk Fn MB λG5 A outer s H E hr hh=>by
  have hu:=hr.units;unfold Dw;exact(yCU (Bi (MQ hu (CQ 0) (CQ 1)) iV) (zRZ PySem.F.excBase_ValueError Z hmC hh (ED (yC7 (.txt 'd' (.val (CQ 1) .nil))) F9)))
def Sa:GS :=
 (G4 (OD (gB (g2 Z5 (BA 1) (gN Q5 [(BA 0)])))
 (N1 (g2 FI (BA 0) (BA 1)))
 RA)
 (N1 (gC (.int 0))))
def o8:Mr:=P2 2 Sa
theorem zM7:FnScope ["script","k"] ["script","k"] (J5 Ds):=UC
theorem zLM{K:AC}(Fn:Fun K "_law_cell" "_law_cell" Ds f fd)(T:Bt mg) :FnOk P w K mg base LO 1 f fd ["script","k"] (NO K 2 o8) :=
 WP Fn zM7 λG5 A outer s H E hr=>by
  have hu:=hr.units;unfold Sa
  exact(IT (WQ (Al hu (CQ 1) (lA T.b_len (ED (CQ 0) F9)))
   (KG (QT (MQ hu (CQ 0) (CQ 1))))
   W6)
   (KG (QT IJ)))
def Rz:GS :=
 (G4 (OD (gB (g2 Fc (BA 0) (g2 ZW (gC (.int 10)) (gC (.int 18)))))
 (v8 (KE [(g2 iQ (BA 0) (g2 ZW (gC (.int 10)) (gC (.int 18)))),(g2 SW (BA 0) (gC (.int 2305843009213693951))),(BA 1)]))
 RA)
 (v8 (KE [(gC (.int 0)),(g2 SW (BA 0) (gC (.int 2305843009213693951))),(BA 1)])))
def o7:Mr:=P2 2 Rz
theorem zM8:FnScope ["cell","turn"] ["cell","turn"] (J5 Dr):=UC
theorem zLN{K:AC}(Fn:Fun K "_law_well" "_law_well" Dr f fd)(T:Bt mg) :FnOk P w K mg base LO 1 f fd ["cell","turn"] (NO K 2 o7) :=
 WP Fn zM8 λG5 A outer s H E hr=>by
  have hu:=hr.units;unfold Rz
  exact(IT (WQ (yE2 (CQ 0) (wB IJ IJ))
   (KG (Ni (TX (ED (Ap (CQ 0) (wB IJ IJ)) (ED (i6 (CQ 0) IJ) (ED (CQ 1) F9))))))
   W6)
   (KG (Ni (TX (ED IJ (ED (i6 (CQ 0) IJ) (ED (CQ 1) F9)))))))
def Ry:GS :=
 (G4 (OD (TY [0] (gB (g2 Ez (g2 FI (BA 0) (gC (.int 0))) (gC (.int 0)))))
 (G4 (J4 (.nm 2) (OK [0] (g2 SW (g2 FI (BA 0) (gC (.int 0))) (BA 1))))
 (G4 (QQ 0 (gC (.int 0)) (OK [0] (g2 lD (g2 FI (BA 0) (gC (.int 0))) (BA 1))))
 (N1 (BA 2))))
 RA)
 (G4 (QQ 0 (gC (.int 2)) (OK [0] (g2 MW (g2 FI (BA 0) (gC (.int 2))) (gC (.int 1)))))
 (G4 (J4 (.nm 3) (gC (.int 2305843009213693951)))
 (G4 (J4 (.nm 4) (OK [0] (g2 SW (g2 MW (g2 FI (BA 0) (gC (.int 1))) (g2 W0 (gC (.int 1000003)) (g2 FI (BA 0) (gC (.int 2))))) (BA 3))))
 (G4 (J4 (.nm 4) (OK [0] (g2 SW (g2 MW (g2 MW (g2 W0 (BA 4) (BA 4)) (g2 W0 (gC (.int 7919)) (g2 ZW (g2 FI (BA 0) (gC (.int 2))) (gC (.int 2))))) (gC (.int 5))) (BA 3))))
 (N1 (g2 SW (g2 lD (g2 SW (g2 ZW (BA 4) (gC (.int 3))) (BA 3)) (gC (.int 13))) (BA 1))))))))
def LD:Mr:=P2 5 Ry
theorem J0:FnScope ["bag","many","found","p","n"] ["bag","many"] (J5 Dq):=UC
theorem zLO{K:AC}(Fn:Fun K "_law_take" "_law_take" Dq f fd)(T:Bt mg) :FnOk P w K mg base LO 1 f fd ["bag","many"] (NO K 2 LD) :=
 WP Fn J0 λG5 A outer s H E hr=>by
  have hu:=hr.units;unfold Ry
  exact(IT (WQ (lO [0] (yE1 (MQ hu (CQ 0) IJ) IJ))
   (IT (QS (i:=2) J0.nd rfl (BN rfl) (Y0 [0] (i6 (MQ hu (CQ 0) IJ) (CQ 1))))
   (IT (bI 0 hu IJ (Y0 [0] (Lv (MQ hu (CQ 0) IJ) (CQ 1))))
   (KG (QT (CQ 2)))))
   W6)
   (IT (bI 0 hu IJ (Y0 [0] (Y4 (MQ hu (CQ 0) IJ) IJ)))
   (IT (QS (i:=3) J0.nd rfl (BN rfl) IJ)
   (IT (QS (i:=4) J0.nd rfl (BN rfl) (Y0 [0] (i6 (Y4 (MQ hu (CQ 0) IJ) (wC IJ (MQ hu (CQ 0) IJ))) (CQ 3))))
   (IT (QS (i:=4) J0.nd rfl (BN rfl) (Y0 [0] (i6 (Y4 (Y4 (wC (CQ 4) (CQ 4)) (wC IJ (wB (MQ hu (CQ 0) IJ) IJ))) IJ) (CQ 3))))
   (KG (QT (i6 (Lv (i6 (wB (CQ 4) IJ) (CQ 3)) IJ) (CQ 1)))))))))
def Sd:GS :=
 (G4 (VY 3 (gC (.dk [])))
 (G4 (QD (NK (g2 FI (BA 0) (gC (.int 1)))) (.tp [(.nm 4),(.nm 5)])
 (QQ 3 (BA 4) (OK [3] (g2 MW (aZ (BA 3) (BA 4) (KE [])) (KE [(BA 5)])))))
 (G4 (VY 6 (sJ (gB (g2 M8 (BA 1) (BA 2))) (Ay (BA 1) (gC (.bl AL))) (gC (.dk []))))
 (G4 (VY 7 (Ag [6] (gN i5 [(BA 6)])))
 (G4 (WS (TY [7] (gB (g2 M8 (BA 7) (KE []))))
 (QD (NK (aZ (BA 3) (Q7 7 dL []) (KE []))) (.nm 5)
 (OD (TY [6] (fW (gB (g2 M8 (BA 5) (BA 2))) (gB (g2 R7 (BA 5) (BA 6)))))
 (G4 (QQ 6 (BA 5) (gC (.bl AL)))
 (dW (Q7 7 VQ [(BA 5)])))
 RA)) 100000)
 (N1 (OK [6] (gN i5 [(BA 6)]))))))))
def pA:Mr:=P2 8 Sd
theorem HC:FnScope ["net","gate","closed","ahead","one","other","found","row"] ["net","gate","closed"] (J5 Dp):=UC
theorem zJQ{K:AC}(Fn:Fun K "_law_reach" "_law_reach" Dp f fd)(T:Bt mg) :FnOk P w K mg base LO 1 f fd ["net","gate","closed"] (NO K 3 pA) :=
 WP Fn HC λG5 A outer s H E hr=>by
  have hu:=hr.units;unfold Sd
  exact(IT (Z4 (i:=3) HC.nd rfl (BN rfl) wP)
   (IT (dZ CH rfl (bD (MQ hu (CQ 0) IJ)) (qY rfl (eE (W5 (i:=4) HC.nd rfl (BN rfl)) (eE (W5 (i:=5) HC.nd rfl (BN rfl)) rJ)))
   (KG (bI 3 hu (CQ 4) (Y0 [3] (Y4 (Tz hu (CQ 3) (CQ 4) (pA8 (TX F9))) (pA8 (TX (ED (CQ 5) F9))))))))
   (IT (Z4 (i:=6) HC.nd rfl (BN rfl) (yHL (fU hu (CQ 1) (CQ 2)) (Zv (CQ 1) iS) wP))
   (IT (Z4 (i:=7) HC.nd rfl (BN rfl) (yE9 [6] (wK rfl T.b_list (ED (CQ 6) F9))))
   (IT (xE 100000 CH (lO [7] (fU hu (CQ 7) (pA8 (TX F9))))
   (KG (dZ CH rfl (bD (Tz hu (CQ 3) (yE6 7) (pA8 (TX F9)))) (W5 (i:=5) HC.nd rfl (BN rfl))
   (KG (WQ (lO [6] (VW.t (Bd (fU hu (CQ 5) (CQ 2)) (Bw (rQ hu (CQ 5) (CQ 6))))))
   (IT (bI 6 hu (CQ 5) iS)
   (KG (w9 (xM 7 (ED (CQ 5) F9)))))
   W6)))))
   (KG (QT (Y0 [6] (pA8 (wK rfl T.b_list (ED (CQ 6) F9)))))))))))
theorem MC:FnScope ["e","kinds"] ["e"] (J5 Do):=UC
theorem ku{K:AC}{c0 c1 c2 c3 c4 c5 c6 c7 c8 c9:AQ}(Fn:Fun K "_law_kinds" "_law_kinds" Do f fd)(T:Bt mg)(hb:Binds K fd ["e"] [])(Z:ExK K C bm YB)(m0:mg "NotReached"=AA (.ref c0))(e0:BP K (.ref C) (.ref c0)=AA AL)(m1:mg "NoPaper"=AA (.ref c1))(e1:BP K (.ref C) (.ref c1)=AA AD)(m2:mg "TooMany"=AA (.ref c2))(e2:BP K (.ref C) (.ref c2)=AA AD)(m3:mg "NoSuch"=AA (.ref c3))(e3:BP K (.ref C) (.ref c3)=AA AD)(m4:mg "NoLane"=AA (.ref c4))(e4:BP K (.ref C) (.ref c4)=AA AD)(m5:mg "NoRound"=AA (.ref c5))(e5:BP K (.ref C) (.ref c5)=AA AD)(m6:mg "NoText"=AA (.ref c6))(e6:BP K (.ref C) (.ref c6)=AA AD)(m7:mg "NoRow"=AA (.ref c7))(e7:BP K (.ref C) (.ref c7)=AA AD)(m8:mg "NoPlace"=AA (.ref c8))(e8:BP K (.ref C) (.ref c8)=AA AD)(m9:mg "NothingLeft"=AA (.ref c9))(e9:BP K (.ref C) (.ref c9)=AA AD)(e10:BP K (.ref C) (.type "ValueError")=AA AL):KU P w K mg base f C [AL,AD,AD,AD,AD,AD,AD,AD,AD,AD,AL] :=
 zUP (l1:=[AL,AD,AD,AD]) (l2:=[AD,AD,AD,AD]) (l3:=[AD,AD,AL]) Fn MC hb 'd' λG5 A outer s H a hX=>by
  exact(Z2 (rA (i:=1) MC.nd rfl (BN rfl) (lP (a9 (bB hX Z T.b_isinstance (eC (v:=.ref c0) rfl m0 rfl) (λ_ h=>h) e0) (a9 (bB hX Z T.b_isinstance (eC (v:=.ref c1) rfl m1 rfl) (λ_ h=>h) e1) (a9 (bB hX Z T.b_isinstance (eC (v:=.ref c2) rfl m2 rfl) (λ_ h=>h) e2) (a9 (bB hX Z T.b_isinstance (eC (v:=.ref c3) rfl m3 rfl) (λ_ h=>h) e3) Aw)))))) (Z2 (rA (i:=1) MC.nd rfl (BN rfl) (wD Mb (pv 1) (lP (a9 (bB hX Z T.b_isinstance (eC (v:=.ref c4) rfl m4 rfl) (λ_ h=>h) e4) (a9 (bB hX Z T.b_isinstance (eC (v:=.ref c5) rfl m5 rfl) (λ_ h=>h) e5) (a9 (bB hX Z T.b_isinstance (eC (v:=.ref c6) rfl m6 rfl) (λ_ h=>h) e6) (a9 (bB hX Z T.b_isinstance (eC (v:=.ref c7) rfl m7 rfl) (λ_ h=>h) e7) Aw))))))) (jG (rB (wD Mb (pv 1) (lP (a9 (bB hX Z T.b_isinstance (eC (v:=.ref c8) rfl m8 rfl) (λ_ h=>h) e8) (a9 (bB hX Z T.b_isinstance (eC (v:=.ref c9) rfl m9 rfl) (λ_ h=>h) e9) (a9 (bB hX Z T.b_isinstance (Nz (v:=.ty "ValueError") rfl T.b_ValueError (by decide +kernel) rfl) (λ_ h=>h) e10) Aw)))))))))
def Rx:GS :=
 (N1 (W3 (bC (gC (.int 11))) 1 [0] (.nm 0) W1 (Vg (g2 Y9 (BA 0) (BA 1)) (g2 Y9 (BA 0) (gC (.int 10))))))
def rV:Mr:=P2 1 Rx
theorem zM9:FnScope ["which"] ["which"] (J5 Dj):=UC
theorem zLP{K:AC}(Fn:Fun K "_law_only" "_law_only" Dj f fd)(T:Bt mg) :FnOk P w K mg base LO 1 f fd ["which"] (NO K 1 rV) :=
 WP Fn zM9 λG5 A outer s H E hr=>by
  have hu:=hr.units;unfold Rx;exact(KG (QT (pA8 (qX (own:=["k"]) (CP:=["which"]) (js:=[0]) (cn rfl) rfl (xO T.b_range IJ) (λC s H fp=>(eF 0)) (λC s H fp=>rH) (λC s H fp=>(yHE (Ee hu (CQ 0) (CQ 1)) (Ui (Ee hu (CQ 0) IJ))))))))
def Sc:GS :=
 (G4 (J4 (.nm 3) (g2 FI (BA 0) (gC (.int 0))))
 (G4 (VY 4 (g2 fN (KE [(gC .non)]) (BA 3)))
 (G4 (OD (gB (g2 U8 (BA 1) (BA 2)))
 (N1 (BA 4))
 RA)
 (G4 (J4 (.nm 5) (MX jI [(BA 0)]))
 (G4 (J4 (.nm 6) (W3 (bC (BA 3)) 1 [2] (.nm 0) W1 (g2 U8 (BA 0) (BA 1))))
 (G4 (QQ 4 (BA 1) (gC (.int 0)))
 (G4 (J4 (.nm 7) (KE [(BA 1)]))
 (G4 (WS (YX (BA 7))
 (G4 (VY 8 (KE []))
 (G4 (QD (NK (BA 7)) (.nm 9)
 (QD (NK (g2 FI (BA 5) (BA 9))) (.nm 10)
 (OD (TY [4] (fW (gB (g2 dN (g2 FI (BA 4) (BA 10)) (gC .non))) (fR (YX (g2 FI (BA 6) (BA 10))))))
 (G4 (QQ 4 (BA 10) (OK [4] (g2 MW (g2 FI (BA 4) (BA 9)) (gC (.int 1)))))
 (dW (Q7 8 VQ [(BA 10)])))
 RA)))
 (J4 (.nm 7) (BA 8)))) 100000)
 (N1 (BA 4))))))))))
def xV:Mr:=P2 11 Sc
theorem FF:FnScope ["net","start","closed","many","away","nexts","shut","layer","further","place","head"] ["net","start","closed"] (J5 Dn):=UC
theorem zJR{K:AC}(Fn:Fun K "lanes_away" "lanes_away" Dn f fd)(T:Bt mg)(SF:N3 P w K mg base "next_places" 1 1 jI):FnOk P w K mg base LO 2 f fd ["net","start","closed"] (NO K 3 xV) :=
 WP Fn FF λG5 A outer s H E hr=>by
  have hu:=hr.units;unfold Sc
  exact(IT (QS (i:=3) FF.nd rfl (BN rfl) (MQ hu (CQ 0) IJ))
   (IT (Z4 (i:=4) FF.nd rfl (BN rfl) (Ud (ED iV F9) (CQ 3)))
   (IT (WQ (yE0 hu (CQ 1) (CQ 2))
   (KG (QT (CQ 4)))
   W6)
   (IT (QS (i:=5) FF.nd rfl (BN rfl) (TZ SF (hr.mono 'd') (ED (CQ 0) F9)))
   (IT (zMY (i:=6) (own:=["place"]) (CP:=["closed"]) (js:=[2]) (cn rfl) rfl (xO T.b_range (CQ 3)) (λC s H fp=>(eF 0)) (λC s H fp=>rH) (λC s H fp=>(yHH hu (CQ 0) (CQ 1))) FF.nd rfl rfl rfl)
   (IT (bI 4 hu (CQ 1) IJ)
   (IT (QS (i:=7) FF.nd rfl (BN rfl) (pA8 (TX (ED (CQ 1) F9))))
   (IT (xE 100000 CH (rP (CQ 7))
   (IT (Z4 (i:=8) FF.nd rfl (BN rfl) (TX F9))
   (IT (dZ CH rfl (bD (CQ 7)) (W5 (i:=9) FF.nd rfl (BN rfl))
   (KG (dZ CH rfl (bD (MQ hu (CQ 5) (CQ 9))) (W5 (i:=10) FF.nd rfl (BN rfl))
   (KG (WQ (lO [4] (VW.t (Bd (Bi (MQ hu (CQ 4) (CQ 10)) iV) (Bw (Be (rP (MQ hu (CQ 6) (CQ 10))))))))
   (IT (bI 4 hu (CQ 10) (Y0 [4] (Y4 (MQ hu (CQ 4) (CQ 9)) IJ)))
   (KG (w9 (xM 8 (ED (CQ 10) F9)))))
   W6)))))
   (KG (QS (i:=7) FF.nd rfl (BN rfl) (CQ 8))))))
   (KG (QT (CQ 4)))))))))))
def Sh:GS :=
 (G4 (VY 2 (gN i5 [(BA 1)]))
 (G4 (VY 3 (KE []))
 (G4 (WS (TY [2] (gB (g2 M8 (BA 2) (KE []))))
 (dW (Q7 3 VQ [(Q7 2 i9 [(K7 LD 0 [(OK [2] (gN Q5 [(BA 2)]))])])])) 100000)
 (N1 (BA 3)))))
def rW:Mr:=P2 4 Sh
theorem J9:FnScope ["bag","some","left","found"] ["bag","some"] (J5 Dv):=UC
theorem zFV{K:AC}(Fn:Fun K "_law_shuffled" "_law_shuffled" Dv f fd)(T:Bt mg)(DW:N3 P w K mg base "_law_take" 1 2 LD):FnOk P w K mg base LO 2 f fd ["bag","some"] (NO K 2 rW) :=
 WP Fn J9 λG5 A outer s H E hr=>by
  have hu:=hr.units;unfold Sh
  exact(IT (Z4 (i:=2) J9.nd rfl (BN rfl) (wK rfl T.b_list (ED (CQ 1) F9)))
   (IT (Z4 (i:=3) J9.nd rfl (BN rfl) (TX F9))
   (IT (xE 100000 CH (lO [2] (fU hu (CQ 2) (pA8 (TX F9))))
   (KG (w9 (xM 3 (ED (Zx 2 (ED (VZ 0 DW (hr.mono 'd') (ED (Y0 [2] (lA T.b_len (ED (CQ 2) F9))) F9)) F9)) F9)))))
   (KG (QT (CQ 3))))))
def Si:GS :=
 (G4 (J4 (.nm 3) (MX xV [(BA 0),(BA 1),(BA 2)]))
 (N1 (gN dM [(W3 (Ax (BA 3)) 2 [] (.tp [(.nm 0),(.nm 1)]) (gB (g2 qL (BA 1) (gC .non))) (BA 0))])))
def pG:Mr:=P2 4 Si
theorem M7:FnScope ["net","gate","closed","away"] ["net","gate","closed"] (J5 Dt):=UC
theorem zG4{K:AC}(Fn:Fun K "reached_past" "reached_past" Dt f fd)(T:Bt mg)(US:N3 P w K mg base "lanes_away" 2 3 xV):FnOk P w K mg base LO 3 f fd ["net","gate","closed"] (NO K 3 pG) :=
 WP Fn M7 λG5 A outer s H E hr=>by
  have hu:=hr.units;unfold Si
  exact(IT (QS (i:=3) M7.nd rfl (BN rfl) (TZ US (hr.mono 'd') (ED (CQ 0) (ED (CQ 1) (ED (CQ 2) F9)))))
   (KG (QT (oS T.b_tuple (ED (pA8 (qX (own:=["place","steps"]) (CP:=[]) (js:=[]) (cn rfl) rfl (zUJ T.b_enumerate (CQ 3)) (λC s H fp=>(qY rfl (eE (eF 0) (eE (eF 1) rJ)))) (λC s H fp=>(Nh (zXY (CQ 1) iV))) (λC s H fp=>(CQ 0)))) F9)))))
def Rq:GS :=
 (G4 (J4 (.nm 2) (g2 FI (KE [(BA 1),(g2 MW (gC (.int 1)) (K7 LD 0 [(BA 1)])),(g2 MW (gC (.int 1)) (K7 LD 0 [(gN fQ [(gC (.int 7)),(BA 1)])]))]) (K7 LD 0 [(gC (.int 3))])))
 (G4 (J4 (.nm 3) (K7 LD 0 [(gC (.int 4))]))
 (G4 (J4 (.nm 4) (g2 FI (KE [(gC (.int 0)),(gC (.int 1)),(K7 LD 0 [(g2 MW (BA 2) (gC (.int 1)))]),(g2 MW (BA 2) (K7 LD 0 [(g2 W0 (gC (.int 5)) (BA 2))])),(gC (.int 120))]) (K7 LD 0 [(gC (.int 5))])))
 (G4 (VY 5 (gC (.dt [])))
 (G4 (QD (qH (gC (.int 1)) (BA 2)) (.nm 6)
 (OD (gB (g2 Z5 (BA 3) (gC (.int 3))))
 (QQ 5 (YZ [(g2 FI (KE [(K7 LD 0 [(BA 6)]),(g2 iQ (g2 iQ (BA 6) (gC (.int 1))) (K7 LD 0 [(gN fQ [(BA 6),(gC (.int 2))])])),(gC (.int 0))]) (BA 3)),(BA 6)]) (gC (.bl AL)))
 RA))
 (G4 (QD (bC (BA 4)) (.nm 7)
 (G4 (J4 (.nm 8) (K7 LD 0 [(BA 2)]))
 (G4 (J4 (.nm 9) (g2 FI (KE [(K7 LD 0 [(BA 2)]),(g2 SW (g2 MW (g2 MW (BA 8) (gC (.int 1))) (K7 LD 0 [(gC (.int 2))])) (BA 2))]) (K7 LD 0 [(gC (.int 2))])))
 (OD (TY [5] (fW (gB (g2 M8 (BA 8) (BA 9))) (gB (g2 Z5 (gN Q5 [(BA 5)]) (gC (.int 120))))))
 (QQ 5 (YZ [(BA 8),(BA 9)]) (gC (.bl AL)))
 RA))))
 (G4 (J4 (.nm 10) (K7 rW 0 [(Ff (BA 2))]))
 (G4 (J4 (.nm 11) (g2 FI (KE [(g2 FI (BA 10) (gC (.int 0))),(g2 FI (BA 10) (gC (.int 0))),(K7 LD 0 [(BA 2)])]) (K7 LD 0 [(gC (.int 3))])))
 (N1 (OK [5] (YZ [(YZ [(BA 2),(gN dM [(gN lB [(W3 (NK (BA 5)) 2 [10] (.tp [(.nm 0),(.nm 1)]) W1 (YZ [(g2 FI (BA 2) (BA 0)),(g2 FI (BA 2) (BA 1))]))])])]),(BA 11)])))))))))))
def pD:Mr:=P2 12 Rq
theorem GA:FnScope ["bag","most","many","way","more","lanes","k","turn","one","other","names","gate"] ["bag","most"] (J5 Dl):=UC
theorem zNA{K:AC}(Fn:Fun K "_law_net" "_law_net" Dl f fd)(T:Bt mg)(DW:N3 P w K mg base "_law_take" 1 2 LD)(QJ:N3 P w K mg base "_law_shuffled" 2 2 rW):FnOk P w K mg base LO 3 f fd ["bag","most"] (NO K 2 pD) :=
 WP Fn GA λG5 A outer s H E hr=>by
  have hu:=hr.units;unfold Rq
  exact(IT (QS (i:=2) GA.nd rfl (BN rfl) (MQ hu (pA8 (TX (ED (CQ 1) (ED (Y4 IJ (VZ 0 DW (hr.mono 'd') (ED (CQ 1) F9))) (ED (Y4 IJ (VZ 0 DW (hr.mono 'd') (ED (Ls rfl T.b_min (ED IJ (ED (CQ 1) F9))) F9))) F9))))) (VZ 0 DW (hr.mono 'd') (ED IJ F9))))
   (IT (QS (i:=3) GA.nd rfl (BN rfl) (VZ 0 DW (hr.mono 'd') (ED IJ F9)))
   (IT (QS (i:=4) GA.nd rfl (BN rfl) (MQ hu (pA8 (TX (ED IJ (ED IJ (ED (VZ 0 DW (hr.mono 'd') (ED (Y4 (CQ 2) IJ) F9)) (ED (Y4 (CQ 2) (VZ 0 DW (hr.mono 'd') (ED (wC IJ (CQ 2)) F9))) (ED IJ F9))))))) (VZ 0 DW (hr.mono 'd') (ED IJ F9))))
   (IT (Z4 (i:=5) GA.nd rfl (BN rfl) Zw)
   (IT (dZ CH rfl (zRO T.b_range IJ (CQ 2)) (W5 (i:=6) GA.nd rfl (BN rfl))
   (KG (WQ (Al hu (CQ 3) IJ)
   (KG (bI 5 hu (lG (ED (MQ hu (pA8 (TX (ED (VZ 0 DW (hr.mono 'd') (ED (CQ 6) F9)) (ED (Ap (Ap (CQ 6) IJ) (VZ 0 DW (hr.mono 'd') (ED (Ls rfl T.b_min (ED (CQ 6) (ED IJ F9))) F9))) (ED IJ F9))))) (CQ 3)) (ED (CQ 6) F9))) iS))
   W6)))
   (IT (dZ CH rfl (xO T.b_range (CQ 4)) (W5 (i:=7) GA.nd rfl (BN rfl))
   (IT (QS (i:=8) GA.nd rfl (BN rfl) (VZ 0 DW (hr.mono 'd') (ED (CQ 2) F9)))
   (IT (QS (i:=9) GA.nd rfl (BN rfl) (MQ hu (pA8 (TX (ED (VZ 0 DW (hr.mono 'd') (ED (CQ 2) F9)) (ED (i6 (Y4 (Y4 (CQ 8) IJ) (VZ 0 DW (hr.mono 'd') (ED IJ F9))) (CQ 2)) F9)))) (VZ 0 DW (hr.mono 'd') (ED IJ F9))))
   (KG (WQ (lO [5] (VW.t (Bd (fU hu (CQ 8) (CQ 9)) (Bw (Al hu (lA T.b_len (ED (CQ 5) F9)) IJ)))))
   (KG (bI 5 hu (lG (ED (CQ 8) (ED (CQ 9) F9))) iS))
   W6)))))
   (IT (QS (i:=10) GA.nd rfl (D9 rfl) (VZ 0 QJ (hr.mono 'd') (ED (pA8 (zMX rfl T.b_range T.b_list (CQ 2))) F9)))
   (IT (QS (i:=11) GA.nd rfl (BN rfl) (MQ hu (pA8 (TX (ED (MQ hu (CQ 10) IJ) (ED (MQ hu (CQ 10) IJ) (ED (VZ 0 DW (hr.mono 'd') (ED (CQ 2) F9)) F9))))) (VZ 0 DW (hr.mono 'd') (ED IJ F9))))
   (KG (QT (Y0 [5] (lG (ED (lG (ED (CQ 2) (ED (oS T.b_tuple (ED (pA8 (zUD T.b_sorted (ED (pA8 (qX (own:=["one","other"]) (CP:=["names"]) (js:=[10]) (cn rfl) rfl (bD (CQ 5)) (λC s H fp=>(qY rfl (eE (eF 0) (eE (eF 1) rJ)))) (λC s H fp=>rH) (λC s H fp=>(lG (ED (MQ hu (CQ 2) (CQ 0)) (ED (MQ hu (CQ 2) (CQ 1)) F9)))))) F9))) F9)) F9))) (ED (CQ 11) F9))))))))))))))
def Pu:GS :=
 (N1 (MX pG [(BA 0),(BA 1),(YZ [])]))
def lU:Mr:=P2 2 Pu
theorem zR6:FnScope ["net","gate"] ["net","gate"] (J5 Da):=UC
theorem zPE{K:AC}(Fn:Fun K "reached" "reached" Da f fd)(T:Bt mg)(KP:N3 P w K mg base "reached_past" 3 3 pG):FnOk P w K mg base LO 4 f fd ["net","gate"] (NO K 2 lU) :=
 WP Fn zR6 λG5 A outer s H E hr=>by
  have hu:=hr.units;unfold Pu;exact(KG (QT (TZ KP (hr.mono 'd') (ED (CQ 0) (ED (CQ 1) (ED (lG F9) F9))))))
def Pt:GS :=
 (G4 (J4 (.nm 3) (MX lU [(BA 0),(BA 1)]))
 (G4 (OD (gB (g2 R7 (BA 2) (BA 3)))
 Eh
 RA)
 (G4 (J4 (.nm 4) (MX pG [(BA 0),(BA 1),(YZ [(BA 2)])]))
 (N1 (gN dM [(W3 (NK (BA 3)) 1 [4] (.nm 0) (gB (g2 R7 (BA 0) (BA 1))) (BA 0))])))))
def lT:Mr:=P2 5 Pt
theorem PF:FnScope ["net","gate","place","all_reached","still"] ["net","gate","place"] (J5 Cz):=UC
theorem zPF{K:AC}(Fn:Fun K "cut_off" "cut_off" Cz f fd)(T:Bt mg)(PL:N3 P w K mg base "reached" 4 2 lU)(KP:N3 P w K mg base "reached_past" 3 3 pG):FnOk P w K mg base LO 5 f fd ["net","gate","place"] (NO K 3 lT) :=
 WP Fn PF λG5 A outer s H E hr=>by
  have hu:=hr.units;unfold Pt
  exact(IT (QS (i:=3) PF.nd rfl (BN rfl) (TZ PL (hr.mono 'd') (ED (CQ 0) (ED (CQ 1) F9))))
   (IT (WQ (rQ hu (CQ 2) (CQ 3))
   (KG Mk)
   W6)
   (IT (QS (i:=4) PF.nd rfl (D9 rfl) (TZ KP (hr.mono 'd') (ED (CQ 0) (ED (CQ 1) (ED (lG (ED (CQ 2) F9)) F9)))))
   (KG (QT (oS T.b_tuple (ED (pA8 (qX (own:=["other"]) (CP:=["still"]) (js:=[4]) (cn rfl) rfl (bD (CQ 3)) (λC s H fp=>(eF 0)) (λC s H fp=>(Nh (rQ hu (CQ 0) (CQ 1)))) (λC s H fp=>(CQ 0)))) F9)))))))
def Dc(zAV:Mr):GS :=
 (G4 (OD (YX (oB "tuple" (BA 1)))
 (G4 (OD (yK (fR (YX (oB "tuple" (BA 0)))) (gB (g2 M8 (gN Q5 [(BA 0)]) (gN Q5 [(BA 1)]))))
 (N1 (gC (.bl AD)))
 RA)
 (N1 (gN pH [(W3 (Ep (BA 0) (BA 1)) 2 [] (.tp [(.nm 0),(.nm 1)]) W1 (MX zAV [(BA 0),(BA 1)]))])))
 RA)
 (N1 (Ek (Ej (oB "bool" (BA 0))) (g2 Y9 (BA 0) (BA 1)))))
def zAV:Nat->Mr
 |0=>λ_=>.bad
 |n+1=>P2 2 (Dc (zAV n))
theorem zR7:FnScope ["found","due"] ["found","due"] (J5 Cy):=UC
theorem Re{P:CI}{w:DY}{K:AC}{mg:CK->Option AH}{base:DZ}{f:AQ}{fd:JN}(Fn:Fun K "_law_is" "_law_is" Cy f fd)(T:Bt mg)(hm:mg "_law_is"=AA (.ref f))(hb:Binds K fd ["found","due"] []) :∀n:Nat,FnOk P w K mg base LO (n+0) f fd ["found","due"] (NO K 2 (zAV n))
 |0=>fn_bad
 |n+1=>by
  have PP:N3 P w K mg base "_law_is" (n+0) 2 (zAV n):=Fun.cal Fn (Re Fn T hm hb  n) hm hb;have hl:n+1+0=(n+0)+1:=by lia
  rw[hl];show FnOk P w K mg base LO ((n+0)+1) f fd ["found","due"] (NO K 2 (P2 2 (Dc (zAV n))))
  exact WP Fn zR7 λG5 A outer s H E hr=>by
   have hu:=hr.units;unfold Dc
   exact(IT (WQ (rP (Az Pz T.b_isinstance T.b_tuple (by decide +kernel) (CQ 1)))
   (IT (WQ (VW.t (yEP (Be (rP (Az Pz T.b_isinstance T.b_tuple (by decide +kernel) (CQ 0)))) (yBQ (fU hu (lA T.b_len (ED (CQ 0) F9)) (lA T.b_len (ED (CQ 1) F9))))))
   (KG (QT iS))
   W6)
   (KG (QT (yE5 rfl T.b_all (ED (pA8 (qX (own:=["one","other"]) (CP:=[]) (js:=[]) (cn rfl) rfl (yCM T.b_zip (CQ 0) (CQ 1)) (λC s H fp=>(qY rfl (eE (eF 0) (eE (eF 1) rJ)))) (λC s H fp=>rH) (λC s H fp=>(TZ PP (hr.mono 'l') (ED (CQ 0) (ED (CQ 1) F9)))))) F9)))))
   W6)
   (KG (QT (yES (yET (Az zUH T.b_isinstance T.b_bool (by decide +kernel) (CQ 0))) (Ui (Ee hu (CQ 0) (CQ 1)))))))
def Ps:GS :=
 (G4 (J4 (.nm 2) (lN (NK (MX lU [(BA 0),(BA 1)])) 1 [0,1] (.dk []) (.nm 0) W1 (oN (BA 0) (MX lT [(BA 1),(BA 2),(BA 0)]))))
 (G4 (VY 3 (g2 fN (KE [(gC .non)]) (g2 FI (BA 0) (gC (.int 0)))))
 (G4 (qG (gN i5 [(BA 2)]) [2] (g1 U3 (gN Q5 [(g2 FI (BA 1) (BA 0))])) (.nm 4)
 (QD (NK (g2 FI (BA 2) (BA 4))) (.nm 5)
 (OD (gB (g2 M8 (BA 5) (BA 4)))
 (QQ 3 (BA 5) (BA 4))
 RA)) [4,5])
 (G4 (QQ 3 (BA 1) (BA 1))
 (N1 (OK [3] (gN dM [(BA 3)])))))))
def lS:Mr:=P2 6 Ps
theorem LN:FnScope ["net","gate","cuts","held","place","below"] ["net","gate"] (J5 oW):=UC
theorem zPG{K:AC}(Fn:Fun K "holders" "holders" oW f fd)(T:Bt mg){cc TT:AQ}(LR:fd.code=.ref cc)(hC:JE base cc TT)(hT:TB K TT ("holders"++".<locals>.<lambda>"))(ZI:N3 P w K mg base "cut_off" 5 3 lT)(PL:N3 P w K mg base "reached" 4 2 lU):FnOk P w K mg base LO 6 f fd ["net","gate"] (NO K 2 lS) :=
 An Fn LN λG5 A outer s H E nH hr=>by
  have hu:=hr.units;have nH:=nH.trans LR;unfold Ps
  exact(IT (QS (i:=2) LN.nd rfl (D9 rfl) (pA8 (Zs (own:=["place"]) (CP:=["net","gate"]) (js:=[0,1]) (cn rfl) rfl (bD (TZ PL (hr.mono 'd') (ED (CQ 0) (ED (CQ 1) F9)))) (λC s H fp=>(eF 0)) (λC s H fp=>rH) (λC s H fp=>(CQ 0)) (λC s H fp=>(TZ ZI (hr.mono 'd') (ED (CQ 1) (ED (CQ 2) (ED (CQ 0) F9))))))))
   (IT (Z4 (i:=3) LN.nd rfl (BN rfl) (Ud (ED iV F9) (MQ hu (CQ 0) IJ)))
   (IT (Zq CH rfl T.b_sorted (pA8 (wK rfl T.b_list (ED (CQ 2) F9))) ({{rfl,rfl,rfl,rfl,by decide +kernel,by decide +kernel,rfl,(eJ rfl),rfl,(eJ (by first|exact BN rfl|exact D9 rfl)),(eJ rfl),rfl},hr.mono 'd',nH,hC,hT,{"holders"++".<locals>.",rfl,(by decide +kernel:("holders"++".<locals>.":CK)++("<lambda>":CK)=("holders"++".<locals>.<lambda>":CK))},rfl,λ_ _ _ _=>rfl}:LamOk _ _ _ "must" ["cuts"] [2] _ _ _ _ _) (λf c s H=>Tw (hr.mono 'd') λhu=>(qJ (lA T.b_len (ED (MQ hu (CQ 1) (CQ 0)) F9)))) (W5 (i:=4) LN.nd rfl (BN rfl))
   (KG (dZ CH rfl (bD (MQ hu (CQ 2) (CQ 4))) (W5 (i:=5) LN.nd rfl (BN rfl))
   (KG (WQ (fU hu (CQ 5) (CQ 4))
   (KG (bI 3 hu (CQ 5) (CQ 4)))
   W6)))))
   (IT (bI 3 hu (CQ 1) (CQ 1))
   (KG (QT (Y0 [3] (oS T.b_tuple (ED (CQ 3) F9)))))))))
def Sb:GS :=
 (G4 (VY 2 (gC (.dk [])))
 (G4 (k6 pA)
 (G4 (VY 6 (gC (.dk [])))
 (G4 (QD (NK (BA 2)) (.nm 3)
 (QQ 6 (BA 3) (gN dM [(qS (g2 FI (BA 2) (BA 3)) [2] (gN Q5 [(g2 FI (BA 1) (BA 0))]))])))
 (N1 (BA 6))))))
def o9:Mr:=P2 7 Sb
theorem GJ:FnScope ["net","gate","rows","place","closed","left","found"] ["net","gate"] (J5 pC):=UC
theorem zJS{K:AC}(Fn:Fun K "_law_table" "_law_table" pC f fd)(T:Bt mg){cc TT:AQ}(LR:fd.code=.ref cc)(hC:JE base cc TT)(hT:TB K TT ("_law_table"++".<locals>.<lambda>"))(OV:N3 P w K mg base "_law_reach" 1 3 pA):FnOk P w K mg base LO 6 f fd ["net","gate"] (NO K 2 o9) :=
 An Fn GJ λG5 A outer s H E nH hr=>by
  have hu:=hr.units;have nH:=nH.trans LR;unfold Sb
  exact(IT (Z4 (i:=2) GJ.nd rfl (D9 rfl) wP)
   (zY8 (m:=pA) (oJ CH rfl (bD (TZ OV (hr.mono 'd') (ED (CQ 0) (ED (CQ 1) (ED iV F9))))) (fZ (i:=3) GJ.nd rfl (BN rfl)) (jG (Cc (sI hu) (pv 2) (pv 3) (lP HU) rfl)))
   (oJ CH rfl (zTN (pv 2)) (fZ (i:=4) GJ.nd rfl (BN rfl)) (Z2 (rA (i:=5) GJ.nd rfl (BN rfl) (TZ OV (hr.mono 'd') (ED (CQ 0) (ED (CQ 1) (ED (CQ 4) F9))))) (jG (oJ CH rfl (zUX (pv 2)) (fZ (i:=3) GJ.nd rfl (BN rfl)) (jG (Aq (rQ hu (CQ 3) (CQ 5)) (jG (Cj (wE G1 LI LH xP (As (Mz hu) (pv 2) (pv 3) (λ_ _=>rfl)) (R8 (pv 4) HU)))) T7))))))
   (IT (Z4 (i:=6) GJ.nd rfl (BN rfl) wP)
   (IT (dZ CH rfl (bD (CQ 2)) (W5 (i:=3) GJ.nd rfl (BN rfl))
   (KG (bI 6 hu (CQ 3) (oS T.b_tuple (ED (pA8 (Zr T.b_sorted (MQ hu (CQ 2) (CQ 3)) ({{rfl,rfl,rfl,rfl,by decide +kernel,by decide +kernel,rfl,(eJ rfl),rfl,(eJ (by first|exact BN rfl|exact D9 rfl)),(eJ rfl),rfl},hr.mono 'd',nH,hC,hT,{"_law_table"++".<locals>.",rfl,(by decide +kernel:("_law_table"++".<locals>.":CK)++("<lambda>":CK)=("_law_table"++".<locals>.<lambda>":CK))},rfl,λ_ _ _ _=>rfl}:LamOk _ _ _ "one" ["rows"] [2] _ _ _ _ _) (λf c s H=>Tw (hr.mono 'd') λhu=>(lA T.b_len (ED (MQ hu (CQ 1) (CQ 0)) F9))))) F9)))))
   (KG (QT (CQ 6)))))))
def Nc:GS :=
 (N1 (MX pB [(MX lS [(BA 0),(BA 1)]),(BA 2)]))
def jD:Mr:=P2 3 Nc
theorem Nb:FnScope ["net","gate","place"] ["net","gate","place"] (J5 wM):=UC
theorem zU1{K:AC}(Fn:Fun K "musts" "musts" wM f fd)(T:Bt mg)(OU:N3 P w K mg base "musts_held" 1 2 pB)(PN:N3 P w K mg base "holders" 6 2 lS):FnOk P w K mg base LO 7 f fd ["net","gate","place"] (NO K 3 jD) :=
 WP Fn Nb λG5 A outer s H E hr=>by
  have hu:=hr.units;unfold Nc;exact(KG (QT (TZ OU (hr.mono 'd') (ED (TZ PN (hr.mono 'd') (ED (CQ 0) (ED (CQ 1) F9))) (ED (CQ 2) F9)))))
def Cn:GX :=
 (Fe [(MX lS [(BA 0),(BA 1)]),(BA 2)] yC)
def xJ:List D->Out Ev:=Ed 3 Cn
theorem zU2{K:AC}(Fn:Fun K "musts" "musts" wM f fd)(T:Bt mg)(MD:rX P w K mg base C "musts_held" 1 2 yC)(OU:N3 P w K mg base "musts_held" 1 2 pB)(PN:N3 P w K mg base "holders" 6 2 lS):FnOk P w K mg base (QF P w C) 7 f fd ["net","gate","place"] (sC K C 3 xJ) :=
 Sk Fn Nb λG5 A outer s H E hr hh=>by
  have hu:=hr.units;unfold Cn;exact(Zb (Zc MD (hr.mono 'd') (ED (TZ PN (hr.mono 'd') (ED (CQ 0) (ED (CQ 1) F9))) (ED (CQ 2) F9))) λ_ _ _ h=>h)
def Rw:GS :=
 (G4 (J4 (.nm 3) (gC .non))
 (G4 (J4 (.nm 4) (KE []))
 (G4 (kW (J4 (.nm 3) (MX jD [(BA 0),(BA 1),(BA 2)])) [(BA 0),(BA 1),(BA 2)] xJ 4 5 [AL,AD,AD,AD,AD,AD,AD,AD,AD,AD,AL])
 (N1 (sJ (gB (g2 Y9 (BA 4) (KE []))) (BA 3) (BA 4))))))
def oZ:Mr:=P2 6 Rw
theorem JZ:FnScope ["net","gate","place","told","kinds","e"] ["net","gate","place"] (J5 Di):=UC
theorem zLT{K:AC}(Fn:Fun K "_law_told" "_law_told" Di f fd)(T:Bt mg){fk:AQ}(ts:TryS P w K mg base C WA fk [AL,AD,AD,AD,AD,AD,AD,AD,AD,AD,AL])(UI:rX P w K mg base C "musts" 7 3 xJ)(hJ:N3 P w K mg base "musts" 7 3 jD):FnOk P w K mg base LO 8 f fd ["net","gate","place"] (NO K 3 oZ) :=
 WP Fn JZ λG5 A outer s H E hr=>by
  have hu:=hr.units;unfold Rw
  exact(IT (QS (i:=3) JZ.nd rfl (BN rfl) iV)
   (IT (QS (i:=4) JZ.nd rfl (BN rfl) (pA8 (TX F9)))
   (IT (yCW (ik:=4) (ie:=5) (QS (i:=3) JZ.nd rfl (BN rfl) (TZ hJ (hr.mono 'd') (ED (CQ 0) (ED (CQ 1) (ED (CQ 2) F9))))) UI (hr.mono 'd') (ED (CQ 0) (ED (CQ 1) (ED (CQ 2) F9))) ts.KK (hr.mono 'd') ts.hkf ts.hkk ts.hW ts.hx JZ.nd rfl rfl 'd' rfl rfl)
   (KG (QT (yHF (yEY hu (CQ 4) (pA8 (TX F9))) (CQ 3) (CQ 4)))))))
def Ue:GS :=
 (G4 (QD (NK (g2 MW (KE [(MX o8 [(BA 0),(gC (.int 0))])]) (Ba (BA 0) (AA (gC (.int 1))) (AA (gC (.int 8)))))) (.nm 1)
 (G4 (J4 (.tp [(.nm 2),(.nm 3)]) (oD pD (oE o7 [(BA 1),(gC (.int 0))]) [(gC (.int 24))]))
 (G4 (J4 (.nm 4) (MX o9 [(BA 2),(BA 3)]))
 (QD (bC (g2 FI (BA 2) (gC (.int 0)))) (.nm 5)
 (G4 (J4 (.nm 6) (MX oZ [(BA 2),(BA 3),(BA 5)]))
 (OD (gB (g2 R7 (BA 5) (BA 4)))
 (OD (gB (g2 M8 (BA 6) (MX rV [(gC (.int 0))])))
 (N1 (gC (.bl AD)))
 RA)
 (OD (fR (YX (MX (zAV 5) [(BA 6),(g2 FI (BA 4) (BA 5))])))
 (N1 (gC (.bl AD)))
 RA)))))))
 (N1 (gC (.bl AL))))
def m_law:Mr:=P2 7 Ue
theorem Q9:FnScope ["script","cell","net","gate","table","place","found"] ["script"] (J5 fP):=UC
theorem yC9{K:AC}(Fn:Fun K "law" "law" fP f fd)(T:Bt mg)(XR:N3 P w K mg base "_law_net" 3 2 pD)(UT:N3 P w K mg base "_law_table" 6 2 o9)(WF:N3 P w K mg base "_law_cell" 1 2 o8)(WC:N3 P w K mg base "_law_well" 1 2 o7)(WD:N3 P w K mg base "_law_told" 8 3 oZ)(WE:N3 P w K mg base "_law_only" 1 1 rV)(PP:N3 P w K mg base "_law_is" 5 2 (zAV 5)):FnOk P w K mg base LO 9 f fd ["script"] (NO K 1 m_law) :=
 WP Fn Q9 λG5 A outer s H E hr=>by
  have hu:=hr.units;unfold Ue
  exact(IT (dZ CH rfl (bD (Y4 (pA8 (TX (ED (TZ WF (hr.mono 'd') (ED (CQ 0) (ED IJ F9))) F9))) (zYA (CQ 0) (Mx IJ) (Mx IJ)))) (W5 (i:=1) Q9.nd rfl (BN rfl))
   (IT (yBV (Zt XR (hr.mono 'd') (yBZ WC (hr.mono 'd') (ED (CQ 1) (ED IJ F9))) (ED IJ F9)) (qY rfl (eE (W5 (i:=2) Q9.nd rfl (BN rfl)) (eE (W5 (i:=3) Q9.nd rfl (BN rfl)) rJ))))
   (IT (QS (i:=4) Q9.nd rfl (BN rfl) (TZ UT (hr.mono 'd') (ED (CQ 2) (ED (CQ 3) F9))))
   (KG (dZ CH rfl (xO T.b_range (MQ hu (CQ 2) IJ)) (W5 (i:=5) Q9.nd rfl (BN rfl))
   (IT (QS (i:=6) Q9.nd rfl (BN rfl) (TZ WD (hr.mono 'd') (ED (CQ 2) (ED (CQ 3) (ED (CQ 5) F9)))))
   (KG (WQ (rQ hu (CQ 5) (CQ 4))
   (KG (WQ (fU hu (CQ 6) (TZ WE (hr.mono 'd') (ED IJ F9)))
   (KG (QT iS))
   W6))
   (KG (WQ (Be (rP (TZ PP (hr.mono 'd') (ED (CQ 6) (ED (MQ hu (CQ 4) (CQ 5)) F9)))))
   (KG (QT iS))
   W6))))))))))
   (KG (QT iS)))
theorem k9{i j:Int}(h:0<j):SW (.int i) (.int j)=.ok (.int (i % j)):=if_pos h
theorem Lk{i j:Int}(h:0<j/\j<2 ^ 200):lD (.int i) (.int j)=.ok (.int (i / j)):=if_pos h
theorem Ae{i j:Int}(h:oT i\/oT j):W0 (.int i) (.int j)=.ok (.int (i * j)):=if_pos h
theorem Ad{i j:Int}(h:0<=j/\j<=1000000/\i.natAbs<2 ^ 64):ZW (.int i) (.int j)=.ok (.int (i ^ j.toNat)):=if_pos h
noncomputable def TR(a b c n:Int)(u2 u3 u4:Sl):Ev:=[.own AL (.lst [.int a,.int b,.int c]),.val (.int n),u2,u3,u4]
theorem Lj{a b c n:Int}{u2 u3 u4:Sl}:TY [0] (gB (g2 Ez (g2 FI (BA 0) (gC (.int 0))) (gC (.int 0)))) (TR a b c n u2 u3 u4)=.ok (decide (0<a),TR a b c n u2 u3 u4) :=
 X8 (PD (F8 (F8 (x:=.lst [.int a,.int b,.int c]) (y:=.int 0) rfl rfl (d:=.int a) rfl) (y:=.int 0) rfl rfl))
theorem zU3{a b c n:Int}(ha:0<a)(hn:1<=n)(ZE:n<2 ^ 200) :
  LD [.own AL (.lst [.int a,.int b,.int c]),.val (.int n)]=.ok (AD,.int (a % n),.lst [.int (a / n),.int b,.int c]):=by
 have h1:0<n:=by lia
 have t:=Lj (a:=a) (b:=b) (c:=c) (n:=n) (u2:=.no) (u3:=.no) (u4:=.no);rw[decide_eq_true ha] at t
 exact Q6 (qR (ZV t (HS (E1:=TR a b c n (.val (.int (a % n))) .no .no) (O4 (Y5 (F8 (F8 (x:=.lst [.int a,.int b,.int c]) (y:=.int 0) rfl rfl (d:=.int a) rfl) (y:=.int n) rfl (k9 h1)) rfl) rfl)
  (HS (E1:=TR (a / n) b c n (.val (.int (a % n))) .no .no) (bH (i:=0) (E1:=TR a b c n (.val (.int (a % n))) .no .no) (E2:=TR a b c n (.val (.int (a % n))) .no .no) (t:=AL) (d:=.lst [.int a,.int b,.int c]) (k:=.int 0) (d':=.lst [.int (a / n),.int b,.int c]) rfl (Y5 (F8 (F8 (x:=.lst [.int a,.int b,.int c]) (y:=.int 0) rfl rfl (d:=.int a) rfl) (y:=.int n) rfl (Lk {h1,ZE})) rfl) rfl rfl rfl) (R6 (d:=.int (a % n)) rfl))))) rfl
def fL(b c:Int):Int:=(b+1000003 * c) % 2305843009213693951
def fK(b c:Int):Int:=(fL b c * fL b c+7919 * c ^ 2+5) % 2305843009213693951
theorem s64{i:Int}(h0:0<=i)(h:i<2305843009213693951):oT i:={by lia,by lia}
theorem zU6{a b c n:Int}(ha:¬0<a)(hc:0<=c)(cN:c<1000000)(hn:1<=n)(ZE:n<2 ^ 200) :
  LD [.own AL (.lst [.int a,.int b,.int c]),.val (.int n)]=.ok (AD,.int (fK b (c+1) ^ 3 % 2305843009213693951 / 13 % n),.lst [.int a,.int b,.int (c+1)]):=by
 have h1:0<n:=by lia
 have m1:0<=fL b (c+1):=K0 _ 'd';have m2:fL b (c+1)<2305843009213693951:=JH _ 'd';have m3:0<=fK b (c+1):=K0 _ 'd';have m4:fK b (c+1)<2305843009213693951:=JH _ 'd';have t:=Lj (a:=a) (b:=b) (c:=c) (n:=n) (u2:=.no) (u3:=.no) (u4:=.no);rw[decide_eq_false ha] at t;have hp:(0:Int)<2305843009213693951:=by decide
 have bag:BA 0 (NY [0] (TR a b (c+1) n .no .no .no))=.ok (.lst [.int a,.int b,.int (c+1)],NY [0] (TR a b (c+1) n .no .no .no)):=rfl
 have s1:QQ 0 (gC (.int 2)) (OK [0] (g2 MW (g2 FI (BA 0) (gC (.int 2))) (gC (.int 1)))) (TR a b c n .no .no .no)=.ok (.nx (TR a b (c+1) n .no .no .no)) :=
  bH (i:=0) (E1:=TR a b c n .no .no .no) (E2:=TR a b c n .no .no .no) (t:=AL) (d:=.lst [.int a,.int b,.int c]) (k:=.int 2) (d':=.lst [.int a,.int b,.int (c+1)]) rfl (Y5 (F8 (F8 (x:=.lst [.int a,.int b,.int c]) (y:=.int 2) rfl rfl (d:=.int c) rfl) (y:=.int 1) rfl rfl) rfl) rfl rfl rfl
 have s3:J4 (.nm 4) (OK [0] (g2 SW (g2 MW (g2 FI (BA 0) (gC (.int 1))) (g2 W0 (gC (.int 1000003)) (g2 FI (BA 0) (gC (.int 2))))) (BA 3))) (TR a b (c+1) n .no (.val (.int 2305843009213693951)) .no)=.ok (.nx (TR a b (c+1) n .no (.val (.int 2305843009213693951)) (.val (.int (fL b (c+1)))))) :=
  O4 (Y5 (d:=.int (fL b (c+1))) (F8 (F8 (F8 (x:=.lst [.int a,.int b,.int (c+1)]) (y:=.int 1) rfl rfl (d:=.int b) rfl) (F8 (x:=.int 1000003) rfl (F8 (x:=.lst [.int a,.int b,.int (c+1)]) (y:=.int 2) rfl rfl (d:=.int (c+1)) rfl) (Ae (.inl {by decide,by decide}))) rfl) (y:=.int 2305843009213693951) rfl (k9 hp)) rfl) rfl
 have s4:J4 (.nm 4) (OK [0] (g2 SW (g2 MW (g2 MW (g2 W0 (BA 4) (BA 4)) (g2 W0 (gC (.int 7919)) (g2 ZW (g2 FI (BA 0) (gC (.int 2))) (gC (.int 2))))) (gC (.int 5))) (BA 3))) (TR a b (c+1) n .no (.val (.int 2305843009213693951)) (.val (.int (fL b (c+1)))))=.ok (.nx (TR a b (c+1) n .no (.val (.int 2305843009213693951)) (.val (.int (fK b (c+1)))))) :=
  O4 (Y5 (d:=.int (fK b (c+1))) (F8 (F8 (F8 (F8 (x:=.int (fL b (c+1))) (y:=.int (fL b (c+1))) rfl rfl (Ae (.inl (s64 m1 m2)))) (F8 (x:=.int 7919) rfl (F8 (F8 (x:=.lst [.int a,.int b,.int (c+1)]) (y:=.int 2) rfl rfl (d:=.int (c+1)) rfl) (y:=.int 2) rfl (Ad {by decide,by decide,by lia})) (Ae (.inl {by decide,by decide}))) rfl) (y:=.int 5) rfl rfl) (y:=.int 2305843009213693951) rfl (k9 hp)) rfl) rfl
 have s5:N1 (g2 SW (g2 lD (g2 SW (g2 ZW (BA 4) (gC (.int 3))) (BA 3)) (gC (.int 13))) (BA 1)) (TR a b (c+1) n .no (.val (.int 2305843009213693951)) (.val (.int (fK b (c+1)))))=.ok (.rt AD (.int (fK b (c+1) ^ 3 % 2305843009213693951 / 13 % n)) (TR a b (c+1) n .no (.val (.int 2305843009213693951)) (.val (.int (fK b (c+1)))))) :=
  R6 (F8 (F8 (F8 (F8 (x:=.int (fK b (c+1))) (y:=.int 3) rfl rfl (Ad {by decide,by decide,by lia})) (y:=.int 2305843009213693951) rfl (k9 hp)) (y:=.int 13) rfl (Lk {by decide,by decide})) (y:=.int n) rfl (k9 h1))
 exact Q6 (HS (TU t rfl) (HS s1 (HS (E1:=TR a b (c+1) n .no (.val (.int 2305843009213693951)) .no) rfl (HS s3 (HS s4 s5))))) rfl
def Bag(k:Nat)(d:D):Prop:=∃a b c:Int,d=.lst [.int a,.int b,.int c]/\0<=c/\c<=k
theorem Bag.mono{k':Nat}{d:D}(h:Bag k d)(l:k<=k'):Bag k' d:=by
 obtain⟨a,b,c,e,h0,h1⟩:=h;exact{a,b,c,e,h0,by lia}
theorem Yx{d:D}{n:Int}(B:Bag k d)(hk:k<900000)(hn:1<=n)(ZE:n<2 ^ 200) :
  ∃r d',LD [.own AL d,.val (.int n)]=.ok (AD,.int r,d')/\0<=r/\r<n/\Bag (k+1) d':=by
 obtain⟨a,b,c,rfl,h0,h1⟩:=B
 by_cases ha:0<a
 .exact{_,_,zU3 ha hn ZE,K0 _ 'l',JH _ 'l',_,_,_,rfl,h0,by lia}
 .exact{_,_,zU6 ha h0 'l' hn ZE,K0 _ 'l',JH _ 'l',_,_,_,rfl,by lia,by lia}
theorem Yw(n:Int):∃d,o7 [.val (.int n),.val (.int 0)]=.ok (AL,d,.non)/\Bag 0 d:=by
 have hp:(0:Int)<2305843009213693951:=by decide
 have pw:∀E:Ev,g2 ZW (gC (.int 10)) (gC (.int 18)) E=.ok (.int 1000000000000000000,E):=λE=>F8 (x:=.int 10) (y:=.int 18) rfl rfl (Ad {by decide,by decide,by decide});have t:gB (g2 Fc (BA 0) (g2 ZW (gC (.int 10)) (gC (.int 18)))) [.val (.int n),.val (.int 0)]=.ok (decide (1000000000000000000<=n),[.val (.int n),.val (.int 0)]):=PD (F8 (x:=.int n) rfl (pw _) rfl)
 by_cases h:1000000000000000000<=n
 .rw[decide_eq_true h] at t
  exact{.lst [.int (n-1000000000000000000),.int (n % 2305843009213693951),.int 0],Q6 (qR (ZV t (Nd (i8 (Q8 (F8 (x:=.int n) rfl (pw _) (d:=.int (n-1000000000000000000)) rfl) (Q8 (F8 (x:=.int n) (y:=.int 2305843009213693951) rfl rfl (k9 hp)) (MA (d:=.int 0) rfl))) (show 3<10000 by decide))))) rfl,_,_,_,rfl,by decide,by decide}
 .rw[decide_eq_false h] at t
  exact{.lst [.int 0,.int (n % 2305843009213693951),.int 0],Q6 (HS (TU t rfl) (Nd (i8 (Q8 (d:=.int 0) rfl (Q8 (F8 (x:=.int n) (y:=.int 2305843009213693951) rfl rfl (k9 hp)) (MA (d:=.int 0) rfl))) (show 3<10000 by decide)))) rfl,_,_,_,rfl,by decide,by decide}
def ID(AK:Int)(ps:List (Int×Int)):D:=.tup [.int AK,.tup (ps.map VX)]
def yFO(p:Int×Int):Int×Int:=(p.2,p.1)
structure Net(AK:Int)(ps:List (Int×Int)):Prop where
 m1:1<=AK
 m2:AK<=24
 len:ps.length<=120
 rg:∀p∈ps,0<=p.1/\p.1<AK/\0<=p.2/\p.2<AK/\p.1≠p.2
 pw:ps.Pairwise λa b=>UA a b=AL
def back(ps:List (Int×Int)):List (Int×Int):=Y3 (ps.map yFO)
theorem Bu(Ec:Ev)(k:Nat):∀(j:Nat) (E:Ev),a8 Ec k [] j E=E
 |_,[]=>rfl
 |j,s::E=>by
  rw[a8,Bu Ec k (j+1) E];cases s<;>rfl
theorem Li{E:Ev}(h:E.length=2):∃x y,E=[x,y]:=by
 match E,h with
 |[x,y],_=>exact{x,y,rfl}
theorem yHU(h:ps.Pairwise λa b=>UA a b=AL):ps.Pairwise λa b=>Y8 a b=AL :=
 h.imp λ{a b} e=>by
  simp only[Y8,UA,decide_eq_true_eq,LZ,decide_eq_false_iff_not] at *;lia
theorem zND{a b:Int×Int}(h:Y8 a b=AL)(hn:a≠b):UA a b=AL:=by
 obtain⟨a1,a2⟩:=a;obtain⟨b1,b2⟩:=b;simp only[Y8,UA,decide_eq_true_eq,LZ,decide_eq_false_iff_not] at *;have:¬(a1=b1/\a2=b2):=(λq0=>by obtain⟨x,y⟩:=q0;exact hn (by rw[x,y]));lia
theorem zU7(h:ps.Nodup):(Y3 ps).Pairwise λa b=>UA a b=AL:=by
 have h2:(Y3 ps).Nodup:=(Dm ps).nodup_iff.mpr h;exact((Ph ps).and h2).imp λ{a b} e=>zND e.1 e.2
theorem zU8{t:Tg}{ge:G}{E:Ev}{ds:List D}(P:Ev->Prop)(hi:gi E=.ok (ds,E1))(h0:P (WO k js E1))(hl:ds.length<10000)
  (hs:∀d∈ds,∀E,P E->∃E1,V1 t d E=.ok E1/\∃E3,ge E1=.ok (.bl AL,E3)/\P E3)
  (hb:∀Ec,P Ec->Z6 E1 Ec k js=E1):W3 gi k js t W1 ge E=.ok (.lst (ds.map λ_=>.bl AL),E1):=by
 have:=rF (t:=t) (tt:=W1) (ge:=ge) (λ_=>[.bl AL]) P hi h0 hl (λd hd E hE=>by
  obtain⟨E1,e1,E3,e3,p⟩:=hs d hd E hE
  exact{E1,e1,AL,E1,rfl,.inl {rfl,_,_,e3,rfl,p}}) hb
 rw[this]
 congr 3
 clear this hi hl hs
 induction ds with
 |nil=>rfl
 |cons p ps ih=>simp only[AX,FV,ih];rfl
theorem zU9(ds:List α):pH [.lst (ds.map λ_=>.bl AL)]=.ok (.bl AL):=by
 have:i4 (ds.map λ_=>D.bl AL)=AA (ds.map λ_=>AL):=by
  induction ds with
  |nil=>rfl
  |cons d ds ih=>simp[i4,ih]
 simp[pH,this]
def LM:Option Int->D
 |none=>.non
 |some i=>.int i
inductive Rc(ps:List (Int×Int))(cl:List Int)(g:Int):Int->Prop
 |refl:g∉cl->Rc ps cl g g
 |step {x y:Int}:Rc ps cl g x->(x,y)∈ps->y∉cl->Rc ps cl g y
def vis(aw:List (Option Int))(x:Int):Prop:=0<=x/\∃v,aw[x.toNat]?=AA (AA v)
noncomputable def WN:List (Option Int)->Nat
 |[]=>0
 |none::r=>WN r+1
 |some _::r=>WN r
theorem Ol:∀{l:List (Option Int)} {i:Nat} {v:Int},l[i]?=AA AI->WN (l.set i (AA v))+1=WN l
 |[],_,_,h=>by simp at h
 |o::l,0,v,h=>by simp at h;subst h;rfl
 |o::l,i+1,v,h=>by
  have:=Ol (l:=l) (i:=i) (v:=v) (by simpa using h);cases o<;>simp[WN]<;>lia
theorem wL:∀l:List (Option Int),WN l<=l.length
 |[]=>AM _
 |none::r=>by have:=wL r;simp[WN];lia
 |some _::r=>by have:=wL r;simp[WN];lia
theorem lQ{j v x:Int}(h0:0<=j)(h1:j.toNat<aw.length):vis (aw.set j.toNat (AA v)) x↔vis aw x\/x=j:=by
 unfold vis
 by_cases e:x=j
 .subst e
  simp only[or_true,iff_true];exact{h0,v,by rw[BF h1]}
 .constructor
  .rintro⟨a,w,b⟩
   rw[A4 'l'] at b;exact .inl {a,w,b}
  .rintro(⟨a,w,b⟩|h)
   .exact{a,w,by rw[A4 'l'];exact b}
   .exact absurd h e
theorem S7{y:Int}:y∈TV ps j↔((j:Int),y)∈ps:=by
 unfold TV;constructor
 .intro h
  obtain⟨p,hp,rfl⟩:=DL.mp h;obtain⟨hp,e⟩:=DP.mp hp;have:=of_decide_eq_true e;rw[<-this];exact hp
 .intro h
  exact DL.mpr {_,DP.mpr {h,decide_eq_true rfl},rfl}
noncomputable def k8(AK:Int)(cl:List Int):D:=.lst ((C9 AK.toNat).map λ(j:Nat)=>.bl (decide ((j:Int)∈cl)))
def env(AK:Int)(ps:List (Int×Int))(cl:List Int)(start:Int)(aw:List (Option Int))(GG:List Int)(u8 u9 u10:Sl):Ev :=
 [.val (ID AK ps),.val (.int start),.val (.tup (cl.map D.int)),.val (.int AK),.own AD (.lst (aw.map LM)),.val (dR AK ps),.val (k8 AK cl),.val (.lst (GG.map D.int)),u8,u9,u10]
abbrev U4(D0:List Int):Sl:=.own AD (.lst (D0.map D.int))
structure Rg(AK:Int)(ps:List (Int×Int)):Prop where
 m1:0<=AK
 m2:AK<=100
 len:ps.length<=1000
 rg:∀p∈ps,0<=p.1/\p.1<AK/\0<=p.2/\p.2<AK
section
variable{cl:List Int}{start:Int}
abbrev Ey:GS:=OD (TY [4] (fW (gB (g2 dN (g2 FI (BA 4) (BA 10)) (gC .non))) (fR (YX (g2 FI (BA 6) (BA 10))))))
 (G4 (QQ 4 (BA 10) (OK [4] (g2 MW (g2 FI (BA 4) (BA 9)) (gC (.int 1)))))
 (dW (Q7 8 VQ [(BA 10)])))
 RA
theorem Tu{x:Int}{o:Option Int}(h0:0<=x)(h:aw[x.toNat]?=AA o):FI (.lst (aw.map LM)) (.int x)=.ok (LM o):=by
 have:=qP (xs:=aw.map LM) (x:=LM o) h0 (by rw[AU,h];rfl);exact rZ this
theorem Yv{x:Int}(h0:0<=x)(h:x<AK):FI (k8 AK cl) (.int x)=.ok (.bl (decide (x∈cl))):=by
 have:=qP (xs:=(C9 AK.toNat).map λ(j:Nat)=>D.bl (decide ((j:Int)∈cl))) (x:=.bl (decide (x∈cl))) h0 (by
  rw[AU,KZ 'l',GK,show((x.toNat:Nat):Int)=x by lia])
 exact rZ this
theorem Yu{x:Int}(h0:0<=x)(h:x<AK):FI (dR AK ps) (.int x)=.ok (.lst ((TV ps x.toNat).map D.int)):=by
 have:=qP (xs:=(C9 AK.toNat).map λ(j:Nat)=>D.lst ((TV ps j).map D.int)) (x:=.lst ((TV ps x.toNat).map D.int)) h0 (by
  rw[AU,KZ 'l',GK])
 exact rZ this
theorem Yt{D0:List Int}{LF D8 v:Int}(hl:aw.length=AK.toNat)(h1:0<=LF)(hv:aw[LF.toNat]?=AA (AA v))(h2:0<=D8)(h3:D8<AK)(hll:D0.length<10000) :
  ∃cV N5,Ey (env AK ps cl start aw GG (U4 D0) (.val (.int LF)) (.val (.int D8)))=.ok (.nx (env AK ps cl start cV GG (U4 N5) (.val (.int LF)) (.val (.int D8)))) /\
   ((aw[D8.toNat]?=AA AI/\D8∉cl/\cV=aw.set D8.toNat (AA (v+1))/\N5=D0++[D8])\/(cV=aw/\N5=D0/\(D8∉cl->vis aw D8))):=by
 obtain⟨o,ho⟩:∃o,aw[D8.toNat]?=AA o:={_,BU 'l'}
 have t1:∀b,(match o with|none=>AL|_=>AD)=b->gB (g2 dN (g2 FI (BA 4) (BA 10)) (gC .non)) (NY [4] (env AK ps cl start aw GG (U4 D0) (.val (.int LF)) (.val (.int D8))))=.ok (b,NY [4] (env AK ps cl start aw GG (U4 D0) (.val (.int LF)) (.val (.int D8)))):=λb hb =>
  PD (F8 (F8 (x:=.lst (aw.map LM)) (y:=.int D8) rfl rfl (Tu h2 ho)) (y:=.non) rfl (by cases o<;>subst hb<;>rfl))
 have t2:fR (YX (g2 FI (BA 6) (BA 10))) (NY [4] (env AK ps cl start aw GG (U4 D0) (.val (.int LF)) (.val (.int D8))))=.ok (!decide (D8∈cl),NY [4] (env AK ps cl start aw GG (U4 D0) (.val (.int LF)) (.val (.int D8)))) :=
  Ci (lI (F8 (x:=k8 AK cl) (y:=.int D8) rfl rfl (Yv h2 h3)) rfl)
 cases o with
 |some w =>
  refine{aw,D0,TU (X8 (Bb (t1 AD rfl))) rfl,.inr {rfl,rfl,λ_=>{h2,w,ho}}}
 |none =>
  by_cases hc:D8∈cl
  .rw[decide_eq_true hc] at t2
   exact{aw,D0,TU (X8 (oM (t1 AL rfl) t2)) rfl,.inr {rfl,rfl,λz=>absurd hc z}}
  .rw[decide_eq_false hc] at t2
   refine{_,_,ZV (X8 (oM (t1 AL rfl) t2)) (HS (E1:=env AK ps cl start (aw.set D8.toNat (AA (v+1))) GG (U4 D0) (.val (.int LF)) (.val (.int D8))) ?_ ?_),.inl {ho,hc,rfl,rfl}}
   .have hb:OK [4] (g2 MW (g2 FI (BA 4) (BA 9)) (gC (.int 1))) (env AK ps cl start aw GG (U4 D0) (.val (.int LF)) (.val (.int D8)))=.ok (.int (v+1),env AK ps cl start aw GG (U4 D0) (.val (.int LF)) (.val (.int D8))) :=
     Y5 (F8 (F8 (x:=.lst (aw.map LM)) (y:=.int LF) rfl rfl (Tu h1 hv)) (y:=.int 1) rfl rfl) rfl
    have:=bH (i:=4) (gk:=BA 10) (t:=AD) (d:=.lst (aw.map LM)) (k:=.int D8) (d':=.lst ((aw.set D8.toNat (AA (v+1))).map LM)) rfl hb rfl rfl (by
     rw[Ak (Bc h2 (by rw[AJ];lia)),List.map_set];rfl)
    exact this
   .have:=oR (i:=8) (f:=VQ) (gs:=[BA 10]) (E:=env AK ps cl start (aw.set D8.toNat (AA (v+1))) GG (U4 D0) (.val (.int LF)) (.val (.int D8))) (xs:=D0.map D.int) (ds:=[.int D8]) (x:=.non) (UR:=(D0++[D8]).map D.int) rfl rfl rfl (by
     simp only[VQ,AJ]
     rw[Y2 hll];simp)
    exact wO this
structure Bf(ps:List (Int×Int))(cl:List Int)(start:Int)(n:Nat)(OF aw:List (Option Int))(D0:List Int):Prop where
 len:aw.length=n
 mono:∀x,vis OF x->vis aw x
 new:∀x,vis aw x->vis OF x\/x∈D0
 lat:∀x∈D0,vis aw x
 rc:∀x,vis aw x->Rc ps cl start x
 cnt:WN aw+D0.length=WN OF
theorem Bf.step{OF aw:List (Option Int)}{D0:List Int}{LF D8 v:Int}{n:Nat}(B:Bf ps cl start n OF aw D0)(h1:vis aw LF)(he:(LF,D8)∈ps)(h2:0<=D8)(h3:D8.toNat<n)(h4:aw[D8.toNat]?=AA AI)(h5:D8∉cl) :
  Bf ps cl start n OF (aw.set D8.toNat (AA (v+1))) (D0++[D8]) where
 len:=by rw[BZ];exact B.len
 mono:=λx h=>(lQ h2 (by rw[B.len];exact h3)).mpr (.inl (B.mono x h))
 new:=λx h=>by
  rcases(lQ h2 (by rw[B.len];exact h3)).mp h with h|rfl
  .rcases B.new x h with h|h
   .exact .inl h
   .exact .inr (DB _ h)
  .exact .inr 's'
 lat:=λx h=>by
  refine(lQ h2 (by rw[B.len];exact h3)).mpr ?_;rcases BY.mp h with h|h
  .exact .inl (B.lat x h)
  .exact .inr (A5.mp h)
 rc:=λx h=>by
  rcases(lQ h2 (by rw[B.len];exact h3)).mp h with h|rfl
  .exact B.rc x h
  .exact .step (B.rc LF h1) he h5
 cnt:=by
  have:=Ol (v:=v+1) h4;have:=B.cnt;rw[BH,EK];lia
abbrev yE:GS:=QD (NK (g2 FI (BA 5) (BA 9))) (.nm 10) Ey
theorem zVA(R:Rg AK ps){RW:List (Option Int)}{UN:List Int}{LF:Int}{u10:Sl}(B1:Bf ps cl start AK.toNat OF RW UN)(hv:vis RW LF)(ho:LF<AK)(eV:WN OF<=100) :
  ∃aw D0 u,yE (env AK ps cl start RW GG (U4 UN) (.val (.int LF)) u10)=.ok (.nx (env AK ps cl start aw GG (U4 D0) (.val (.int LF)) u))/\Bf ps cl start AK.toNat OF aw D0/\(∀x,vis RW x->vis aw x)/\∀y,(LF,y)∈ps->y∉cl->vis aw y:=by
 have h0:=hv.1
 obtain⟨E',e,aw,D0,u,rfl,B,mo,ex⟩:=gA (gi:=NK (g2 FI (BA 5) (BA 9))) (t:=.nm 10) (g:=Ey) (E:=env AK ps cl start RW GG (U4 UN) (.val (.int LF)) u10) (ds:=(TV ps LF.toNat).map D.int)
  (λi E=>∃aw D0 u,E=env AK ps cl start aw GG (U4 D0) (.val (.int LF)) u/\Bf ps cl start AK.toNat OF aw D0/\(∀x,vis RW x->vis aw x)/\∀y∈(TV ps LF.toNat).take i,y∉cl->vis aw y)
  (rD (F8 (x:=dR AK ps) (y:=.int LF) rfl rfl (Yu h0 ho))) {RW,UN,u10,rfl,B1,λ_ h=>h,λy h=>by simp at h}
  (λi d E hd q0=>by
   obtain⟨aw,D0,u,hE,B,mo,ex⟩:=q0;subst hE;rw[AU] at hd;obtain⟨y,hy,rfl⟩:=BQ.mp hd
   have uI:(LF,y)∈ps:=by
    have:=S7.mp (CT hy)
    rwa [show((LF.toNat:Nat):Int)=LF by lia] at this
   obtain⟨_,_,y0,y1⟩:=R.rg _ uI;simp only at y0 y1;obtain⟨w,hw⟩:=(mo LF hv).2;have zW:=B.cnt;obtain⟨cV,N5,e,h⟩:=Yt (ps:=ps) (cl:=cl) (start:=start) (GG:=GG) (D0:=D0) B.len h0 hw y0 y1 'l';refine{_,rfl,_,e,cV,N5,_,rfl,?_}
   have mM:(TV ps LF.toNat).take (i+1)=(TV ps LF.toNat).take i++[y]:=by
    obtain⟨hi,e⟩:=AR.mp hy;rw[BJ hi,e]
   rcases h with⟨a,b,rfl,rfl⟩|⟨rfl,rfl,hz⟩
   .have B':=B.step (v:=w) (mo LF hv) uI y0 'l' a b
    refine{B',λx hx=>(lQ y0 (by rw[B.len];lia)).mpr (.inl (mo x hx)),λz hz b7=>?_};rw[mM] at hz;refine(lQ y0 (by rw[B.len];lia)).mpr ?_;rcases BY.mp hz with h|h
    .exact .inl (ex z h b7)
    .exact .inr (A5.mp h)
   .refine{B,mo,λz h b7=>?_}
    rw[mM] at h;rcases BY.mp h with h|h
    .exact ex z h b7
    .rw[A5.mp h] at b7 ⊢;exact hz b7)
 refine{aw,D0,u,e,B,mo,λy hy jX=>ex y ?_ jX};rw[AJ,D5];exact S7.mpr (by rwa [show((LF.toNat:Nat):Int)=LF by lia])
end
section
variable{cl:List Int}{start:Int}
theorem yDB{x:Int}(hl:aw.length=n)(h:vis aw x):0<=x/\x<n:=by
 obtain⟨a,v,b⟩:=h;have:=(AR.mp b).1;exact{a,by lia}
theorem zVB(R:Rg AK ps){u9 u10:Sl}(hl:OF.length=AK.toNat)(zR:∀x,vis OF x->Rc ps cl start x)(mS:∀x∈GG,vis OF x) :
  ∃aw D0 u v,QD (NK (BA 7)) (.nm 9) yE (env AK ps cl start OF GG (U4 []) u9 u10)=.ok (.nx (env AK ps cl start aw GG (U4 D0) u v))/\Bf ps cl start AK.toNat OF aw D0/\∀x∈GG,∀y,(x,y)∈ps->y∉cl->vis aw y:=by
 have eV:WN OF<=100:=by have:=wL OF;have:=R.m2;lia
 obtain⟨E',e,aw,D0,u,v,rfl,B,ex⟩:=gA (gi:=NK (BA 7)) (t:=.nm 9) (g:=yE) (E:=env AK ps cl start OF GG (U4 []) u9 u10) (ds:=GG.map D.int)
  (λi E=>∃aw D0 u v,E=env AK ps cl start aw GG (U4 D0) u v/\Bf ps cl start AK.toNat OF aw D0/\∀x∈GG.take i,∀y,(x,y)∈ps->y∉cl->vis aw y)
  (rD rfl) {OF,[],u9,u10,rfl,{hl,λ_ h=>h,λ_ h=>.inl h,λ_ h=>by simp at h,zR,rfl},λy h=>by simp at h}
  (λi d E hd q0=>by
   obtain⟨aw,D0,u,v,hE,B,ex⟩:=q0;subst hE;rw[AU] at hd;obtain⟨x,hx,rfl⟩:=BQ.mp hd;have Wv:=B.mono x (mS x (CT hx));have JI:=yDB B.len Wv;obtain⟨cV,N5,u',e,B',mo,Xu⟩:=zVA R (GG:=GG) (u10:=v) B Wv (by have:=R.m1;lia) eV;refine{_,rfl,_,e,cV,N5,_,u',rfl,B',λz hz y hy jX=>?_};obtain⟨hi,e⟩:=AR.mp hx;rw[BJ hi,e] at hz;rcases BY.mp hz with h|h
   .exact mo y (ex z h y hy jX)
   .rw[A5.mp h] at hy;exact Xu y hy jX)
 rw[AJ,D5] at ex;exact{aw,D0,u,v,e,B,ex}
abbrev Uu:GS:=(G4 (VY 8 (KE []))
 (G4 (QD (NK (BA 7)) (.nm 9) yE)
 (J4 (.nm 7) (BA 8))))
theorem zVC(R:Rg AK ps)(hl:OF.length=AK.toNat)(hv:∀x,vis OF x↔x=start)(hs:start∉cl) :
  ∃aw u8 u9 u10,WS (YX (BA 7)) Uu 100000 (env AK ps cl start OF [start] .no .no .no)=.ok (.nx (env AK ps cl start aw [] u8 u9 u10))/\aw.length=AK.toNat/\∀x,vis aw x↔Rc ps cl start x:=by
 have eV:WN OF<=100:=by have:=wL OF;have:=R.m2;lia
 obtain⟨E',e,aw,u8,u9,u10,rfl,h1,h2⟩:=qQ (t:=YX (BA 7)) (g:=Uu)
  (λn E=>∃aw GG u8 u9 u10,E=env AK ps cl start aw GG u8 u9 u10/\aw.length=AK.toNat/\(∀x,vis aw x->Rc ps cl start x)/\vis aw start/\(∀x∈GG,vis aw x)/\(∀x,vis aw x->x∈GG\/∀y,(x,y)∈ps->y∉cl->vis aw y)/\n=WN aw+(if GG=[] then 0 else 1))
  (λE=>∃aw u8 u9 u10,E=env AK ps cl start aw [] u8 u9 u10/\aw.length=AK.toNat/\∀x,vis aw x↔Rc ps cl start x)
  (λn E hP=>by
   obtain⟨aw,GG,u8,u9,u10,hE,hl,zR,aB,mS,hex,hn⟩:=hP;subst hE
   cases GG with
   |nil =>
    refine .inl {_,lI (d:=.lst []) rfl rfl,aw,u8,u9,u10,rfl,hl,λx=>{zR x,λh=>?_}}
    induction h with
    |refl _=>exact aB
    |step _ he hc ih =>
     rcases hex _ ih with h|h
     .simp at h
     .exact h _ he hc
   |cons r GG =>
    obtain⟨cV,D0,u,v,e,B,ex⟩:=zVB R (GG:=r::GG) (u9:=u9) (u10:=u10) hl zR mS;refine .inr {_,env AK ps cl start cV D0 (.val (.lst (D0.map D.int))) u v,WN cV+(if D0=[] then 0 else 1),lI (d:=.lst ((r::GG).map D.int)) rfl rfl,HS (Z3 (d:=.lst []) rfl) (HS e (O4 (d:=.lst (D0.map D.int)) rfl rfl)),?_,cV,D0,_,_,_,rfl,B.len,B.rc,B.mono _ aB,B.lat,λx hx=>?_,rfl}
    .have:=B.cnt
     rw[show(if(r::GG:List Int)=[] then 0 else 1)=1 from if_neg 's'] at hn
     cases D0 with
     |nil=>simp at this ⊢;lia
     |cons a l=>simp at this ⊢;lia
    .rcases B.new x hx with h|h
     .refine .inr ?_
      rcases hex x h with h|h
      .exact ex x h
      .exact λy hy hc=>B.mono y (h y hy hc)
     .exact .inl h) 100000 (WN OF+1) (env AK ps cl start OF [start] .no .no .no) 'l'
  {OF,[start],_,_,_,rfl,hl,λx h=>by rw[(hv x).mp h];exact .refl hs,(hv _).mpr rfl,λx h=>by rw[A5.mp h];exact(hv _).mpr rfl,λx h=>.inl (by rw[(hv x).mp h];simp),rfl}
 exact{aw,u8,u9,u10,e,h1,h2}
theorem Ys(R:Rg AK ps):jI [.val (ID AK ps)]=.ok (AD,dR AK ps,.non):=by
 exact yFN {rfl,R.m1,R.m2,R.len,λp hp=>{(R.rg p hp).1,(R.rg p hp).2.1}}
theorem Yr(R:Rg AK ps){E:Ev}(h3:E[3]?=AA (.val (.int AK)))(h2:E[2]?=AA (.val (.tup (cl.map D.int))))(hb:∀Ec,Z6 E Ec 1 [2]=E):W3 (bC (BA 3)) 1 [2] (.nm 0) W1 (g2 U8 (BA 0) (BA 1)) E=.ok (k8 AK cl,E):=by
 have YH:=R.m1;have YG:=R.m2;have hg:BA 3 E=.ok (.int AK,E):=by simp[BA,h3]
 have:=rF (k:=1) (js:=[2]) (t:=.nm 0) (tt:=W1) (ge:=g2 U8 (BA 0) (BA 1)) (λd=>match d with|.int j=>[.bl (decide (j∈cl))]|_=>[]) (λE=>∃x,E=[x,.val (.tup (cl.map D.int))]) (Ch hg {by lia,by lia}) {.no,by simp[WO,h2]} (by simp[R1];lia) (λd hd E q0=>by
  obtain⟨x,hE⟩:=q0;subst hE;obtain⟨j,_,rfl⟩:=DL.mp hd
  exact{_,rfl,AL,_,rfl,.inl {rfl,_,_,F8 (x:=.int (0+(j:Int))) (y:=.tup (cl.map D.int)) rfl rfl (Bv _ _),rfl,_,rfl}}) λEc _=>hb Ec
 rw[this]
 congr 3
 simp only[k8,R1];clear this;rw[List.flatMap_map];generalize C9 AK.toNat=l
 induction l with
 |nil=>rfl
 |cons p ps ih=>simp only[AX,FV];rw[ih];simp
theorem Yq(R:Rg AK ps)(h0:0<=start)(h1:start<AK):∃aw,xV [.val (ID AK ps),.val (.int start),.val (.tup (cl.map D.int))]=.ok (AD,.lst (aw.map LM),.non)/\aw.length=AK.toNat/\∀x,vis aw x↔Rc ps cl start x:=by
 have YH:=R.m1;have YG:=R.m2;obtain⟨RW,ZG⟩:∃RW:List (Option Int),RW=BG AK.toNat AI:={_,rfl}
 have Ij:fN (.lst [.non]) (.int AK)=.ok (.lst (RW.map LM)):=by
  have e:(BG AK.toNat [D.non]).flatten=RW.map LM:=by
   rw[ZG,List.map_replicate];generalize AK.toNat=n
   induction n with
   |zero=>rfl
   |succ n ih=>rw[EH,EH,GV,ih];rfl
  simp only[fN,L2.guard];rw[if_pos {by lia,by lia,by simp;lia},e]
 have Ia:∀x,¬vis RW x:=by
  rintro x ⟨_,v,b⟩;rw[ZG,DR] at b;split at b<;>simp at b
 obtain⟨E3,eW⟩:∃E3:Ev,E3=[.val (ID AK ps),.val (.int start),.val (.tup (cl.map D.int)),.val (.int AK),.own AD (.lst (RW.map LM)),.no,.no,.no,.no,.no,.no]:={_,rfl}
 have zH:gB (g2 U8 (BA 1) (BA 2)) E3=.ok (decide (start∈cl),E3):=by
  rw[eW];exact PD (F8 (x:=.int start) (y:=.tup (cl.map D.int)) rfl rfl (Bv _ _))
 have s1:∀{g:GS} {r:Out Fl},g E3=r->(G4 (J4 (.nm 3) (g2 FI (BA 0) (gC (.int 0)))) (G4 (VY 4 (g2 fN (KE [(gC .non)]) (BA 3))) g)) ([.val (ID AK ps),.val (.int start),.val (.tup (cl.map D.int))]++BG 8 .no)=r:=λh =>
  HS (O4 (d:=.int AK) (F8 (x:=ID AK ps) (y:=.int 0) rfl rfl rfl) rfl) (HS (Z3 (F8 (x:=.lst [.non]) (y:=.int AK) rfl rfl Ij)) (by rw[eW] at h;exact h))
 by_cases hs:start∈cl
 .rw[decide_eq_true hs] at zH
  refine{RW,Q6 (s1 (qR (b:=AD) (d:=.lst (RW.map LM)) (ZV zH (R6 (by rw[eW];rfl))))) rfl,by rw[ZG];simp,λx=>{λh=>absurd h (Ia x),λh=>?_}}
  induction h with
  |refl h=>exact absurd hs h
  |step _ _ _ ih=>exact absurd ih (Ia _)
 .rw[decide_eq_false hs] at zH
  have Ii:∀x,vis (RW.set start.toNat (AA 0)) x↔x=start:=λx=>by
   rw[lQ h0 (by rw[ZG];simp;lia)];exact{λh=>h.resolve_left (Ia x),.inr}
  obtain⟨aw,u8,u9,u10,ew,hl,hr⟩:=zVC (cl:=cl) (start:=start) R (OF:=RW.set start.toNat (AA 0)) (by rw[ZG];simp) Ii hs
  refine{aw,Q6 (s1 (HS (TU zH rfl) (HS (E1:=E3.set 5 (.val (dR AK ps))) (O4 (SY (ds:=[ID AK ps]) (by rw[eW];rfl) (Ys R)) rfl) (HS (E1:=(E3.set 5 (.val (dR AK ps))).set 6 (.val (k8 AK cl))) (O4 (Yr R (by rw[eW];rfl) (by rw[eW];rfl) (λEc=>by rw[eW];rfl)) rfl)
   (HS (E1:=(((E3.set 5 (.val (dR AK ps))).set 6 (.val (k8 AK cl))).set 4 (.own AD (.lst ((RW.set start.toNat (AA 0)).map LM))))) ?_ (HS (E1:=env AK ps cl start (RW.set start.toNat (AA 0)) [start] .no .no .no) (O4 (d:=.lst [.int start]) (by rw[eW];rfl) (by first|rfl|(rw[eW];rfl))) (HS ew (R6 (d:=.lst (aw.map LM)) rfl)))))))) rfl,hl,hr}
  rw[eW]
  exact bH (i:=4) (gk:=BA 1) (gv:=gC (.int 0)) (t:=AD) (d:=.lst (RW.map LM)) (v:=.int 0) (k:=.int start) (d':=.lst ((RW.set start.toNat (AA 0)).map LM)) rfl rfl rfl rfl (by
     rw[Ak (Bc h0 (by rw[AJ,ZG];simp;lia)),List.map_set];rfl)
end
noncomputable def dI:List (Option Int)->Nat->List Int
 |[],_=>[]
 |none::r,k=>dI r (k+1)
 |some _::r,k=>(k:Int)::dI r (k+1)
theorem OM:∀{aw:List (Option Int)} {k:Nat} {x:Int},x∈dI aw k↔(k:Int)<=x/\∃v,aw[x.toNat-k]?=AA (AA v)
 |[],k,x=>by simp[dI]
 |none::r,k,x=>by
  rw[dI,OM];constructor
  .rintro⟨a,v,b⟩
   refine{by lia,v,?_};rw[show x.toNat-k=(x.toNat-(k+1))+1 by lia,FU];exact b
  .rintro⟨a,v,b⟩
   by_cases e:x=k
   .subst e;simp at b
   .refine{by lia,v,?_}
    rw[show x.toNat-k=(x.toNat-(k+1))+1 by lia,FU] at b;exact b
 |some w::r,k,x=>by
  rw[dI,BD,OM];constructor
  .rintro(rfl|⟨a,v,b⟩)
   .exact{ZT _,w,by simp}
   .refine{by lia,v,?_}
    rw[show x.toNat-k=(x.toNat-(k+1))+1 by lia,FU];exact b
  .rintro⟨a,v,b⟩
   by_cases e:x=k
   .exact .inl e
   .refine .inr {by lia,v,?_}
    rw[show x.toNat-k=(x.toNat-(k+1))+1 by lia,FU] at b;exact b
theorem Bs:∀(aw:List (Option Int)) (k:Nat),(dI aw k).Pairwise (· < ·)
 |[],_=>.nil
 |none::r,k=>Bs r (k+1)
 |some _::r,k=>JB.mpr {λx h=>by have:=(OM.mp h).1;lia,Bs r (k+1)}
noncomputable def Ac(d:D):List D:=match d with
 |.tup [_,.non]=>[]
 |.tup [i,_]=>[i]
 |_=>[]
theorem Cm:∀(aw:List (Option Int)) (k:Nat),(((aw.map LM).zipIdx k).map λp=>D.tup [.int (p.2:Int),p.1]).flatMap Ac=(dI aw k).map D.int
 |[],_=>rfl
 |none::r,k=>by simp only[AX,J7,FV,Cm r (k+1)];rfl
 |some _::r,k=>by simp only[AX,J7,FV,Cm r (k+1)];rfl
section
variable{cl:List Int}{start:Int}
theorem Mv(R:Rg AK ps)(h0:0<=start)(h1:start<AK):∃xs:List Int,pG [.val (ID AK ps),.val (.int start),.val (.tup (cl.map D.int))]=.ok (AD,.tup (xs.map D.int),.non)/\xs.Pairwise (· < ·)/\∀x,x∈xs↔Rc ps cl start x:=by
 obtain⟨aw,e,hl,hr⟩:=Yq (cl:=cl) R h0 h1;have YG:=R.m2;refine{dI aw 0,?_,Bs aw 0,λx=>?_}
 .have hc:=rF (gi:=Ax (BA 3)) (k:=2) (js:=[]) (t:=.tp [.nm 0,.nm 1]) (tt:=gB (g2 qL (BA 1) (gC .non))) (ge:=BA 0) (E:=[.val (ID AK ps),.val (.int start),.val (.tup (cl.map D.int)),.val (.lst (aw.map LM))]) (E1:=[.val (ID AK ps),.val (.int start),.val (.tup (cl.map D.int)),.val (.lst (aw.map LM))]) (ds:=iU (aw.map LM)) Ac (λE=>E.length=2) rfl rfl (by simp[iU];lia) (λd hd E hE=>by
   obtain⟨⟨o,j⟩,ho,rfl⟩:=DL.mp hd;obtain⟨x,y,rfl⟩:=Li hE
   have:∃w,LM w=o:=by
    have:=List.mem_zipIdx ho;obtain⟨w,_,hw⟩:=DL.mp (List.mem_of_getElem (this.2.2.symm));exact{w,hw}
   obtain⟨w,rfl⟩:=this
   cases w with
   |none=>exact{_,rfl,AD,_,rfl,.inr {rfl,rfl,rfl}}
   |some w=>exact{_,rfl,AL,_,rfl,.inl {rfl,_,_,rfl,rfl,rfl}}) λEc _=>Bu Ec 2 0 _
  have hf:(iU (aw.map LM)).flatMap Ac=(dI aw 0).map D.int:=Cm aw 0;rw[hf] at hc;exact Q6 (HS (O4 (SY (ds:=[ID AK ps,.int start,.tup (cl.map D.int)]) rfl e) rfl) (R6 (TW (MA hc) rfl))) rfl
 .rw[OM,<-hr]
  exact Iff.rfl
theorem Rb(R:Rg AK ps)(h0:0<=start)(h1:start<AK):∃xs:List Int,lU [.val (ID AK ps),.val (.int start)]=.ok (AD,.tup (xs.map D.int),.non)/\xs.Pairwise (· < ·)/\∀x,x∈xs↔Rc ps [] start x:=by
 obtain⟨xs,e,h⟩:=Mv (cl:=[]) R h0 h1;exact{xs,Q6 (R6 (SY (ds:=[ID AK ps,.int start,.tup []]) rfl e)) rfl,h}
end
noncomputable def sc(ps:List (Int×Int))(x:Int):List Int:=(ps.filter λp=>decide (p.1=x)).map (·.2)
theorem bN{x y:Int}:y∈sc ps x↔(x,y)∈ps:=by
 unfold sc;constructor
 .intro h
  obtain⟨p,hp,rfl⟩:=DL.mp h;obtain⟨hp,e⟩:=DP.mp hp;have:=of_decide_eq_true e;rw[<-this];exact hp
 .intro h
  exact DL.mpr {_,DP.mpr {h,decide_eq_true rfl},rfl}
theorem yDC(ps:List (Int×Int))(x:Int):(sc ps x).length<=ps.length:=by
 unfold sc;rw[AJ];exact HQ _ _
theorem xN:∀ns:List Int,pAA (ns.map D.int)=AL
 |[]=>by simp[pAA]
 |n::ns=>by simp[pAA,D.nod,xN ns]
theorem Dk:∀ns:List Int,pA9 (ns.map D.int)=AL
 |[]=>by simp[pA9]
 |n::ns=>by simp[pA9,D.flat,Dk ns]
theorem Lh(x:Int)(c:Option Int):M8 (.int x) (LM c)=.ok (.bl (decide (x∉c.toList))):=by
 cases c with
 |none=>rw[LM,zUT];simp
 |some c=>rw[LM,rE];simp
def eI(fs:List Int):D:=.dk (fs.map λx=>(.inl x,.bl AL))
theorem Yp(fs:List Int)(x:Int):(M6 (κ:=Key) (fs.map λx=>(.inl x,.bl AL)) (.inl x)).isSome=decide (x∈fs):=by
 unfold M6
 induction fs with
 |nil=>rfl
 |cons a fs ih =>
  rw[AX,DQ]
  by_cases e:a=x
  .subst e;simp
  .have e2:¬((CJ a:Key)=.inl x):=λz=>e (HY z)
   simp only[e2,decide_false,ih];have:¬x=a:=λz=>e z.symm;simp[this]
theorem Yo{fs:List Int}{x:Int}(h:x∉fs):PB (κ:=Key) (fs.map λx=>(.inl x,.bl AL)) (.inl x) (.bl AL)=(fs++[x]).map λx=>(.inl x,.bl AL):=by
 unfold PB;rw[if_neg]
 .simp
 .rw[WW]
  intro z;obtain⟨a,ha,e⟩:=IM.mp z;have:=HY (of_decide_eq_true e);exact h (this▸ha)
section
variable{BV:Option Int}{A1:Int}
def WM(AK:Int)(ps:List (Int×Int))(BV:Option Int)(A1:Int)(u3 u4 u5 u6 u7:Sl):Ev:=[.val (ID AK ps),.val (.int A1),.val (LM BV),u3,u4,u5,u6,u7]
def Fk(ps:List (Int×Int))(kvs:List (Key×D)):Prop:=∀x:Int,(M6 kvs (.inl x)).getD (.lst [])=.lst ((sc ps x).map D.int)
theorem zVD(hl:ps.length<=1000):∃kvs u4 u5,QD (NK (g2 FI (BA 0) (gC (.int 1)))) (.tp [(.nm 4),(.nm 5)])
 (QQ 3 (BA 4) (OK [3] (g2 MW (aZ (BA 3) (BA 4) (KE [])) (KE [(BA 5)])))) (WM AK ps BV A1 (.own AD (.dk [])) .no .no .no .no)=.ok (.nx (WM AK ps BV A1 (.own AD (.dk kvs)) u4 u5 .no .no))/\Fk ps kvs:=by
 obtain⟨E',e,kvs,u4,u5,rfl,hk,ht⟩:=gA (gi:=NK (g2 FI (BA 0) (gC (.int 1)))) (t:=.tp [(.nm 4),(.nm 5)]) (g:=QQ 3 (BA 4) (OK [3] (g2 MW (aZ (BA 3) (BA 4) (KE [])) (KE [(BA 5)])))) (E:=WM AK ps BV A1 (.own AD (.dk [])) .no .no .no .no) (ds:=ps.map VX)
  (λi E=>∃kvs u4 u5,E=WM AK ps BV A1 (.own AD (.dk kvs)) u4 u5 .no .no/\kvs.length<=i/\Fk (ps.take i) kvs) (Cg (F8 (x:=ID AK ps) (y:=.int 1) rfl rfl rfl)) {[],_,_,rfl,AM _,λx=>rfl}
  (λi d E hd hP=>by
   obtain⟨kvs,u4,u5,hE,hk,ht⟩:=hP;subst hE;rw[AU] at hd;obtain⟨⟨a,b⟩,hp,rfl⟩:=BQ.mp hd;have zU:=(AR.mp hp).1;have Ih:=yDC (ps.take i) a;rw[ET] at Ih;have hf:=Dh (λp:Int×Int=>decide (p.1=a)) hp
   have hg:aZ (BA 3) (BA 4) (KE []) (NY [3] (WM AK ps BV A1 (.own AD (.dk kvs)) (.val (.int a)) (.val (.int b)) .no .no))=.ok (.lst ((sc (ps.take i) a).map D.int),NY [3] (WM AK ps BV A1 (.own AD (.dk kvs)) (.val (.int a)) (.val (.int b)) .no .no)):=by
    have:=Lp (gd:=BA 3) (gk:=BA 4) (gx:=KE []) (E:=NY [3] (WM AK ps BV A1 (.own AD (.dk kvs)) (.val (.int a)) (.val (.int b)) .no .no)) (a:=.dk kvs) (k:=.int a) (x:=.lst []) (o:=M6 kvs (.inl a)) rfl rfl rfl rfl;rw[ht a] at this;exact this
   have hb:OK [3] (g2 MW (aZ (BA 3) (BA 4) (KE [])) (KE [(BA 5)])) (WM AK ps BV A1 (.own AD (.dk kvs)) (.val (.int a)) (.val (.int b)) .no .no)=.ok (.lst ((sc (ps.take (i+1)) a).map D.int),WM AK ps BV A1 (.own AD (.dk kvs)) (.val (.int a)) (.val (.int b)) .no .no):=by
    refine Y5 (F8 hg (y:=.lst [.int b]) rfl ?_) ?_
    .refine Uh (by rw[AJ];show _+1<10000;lia) ?_
     unfold sc;rw[hf,if_pos (decide_eq_true rfl)];simp
    .simp only[dX,WM,D.flat,D.nod,xN];rfl
   refine{_,rfl,_,bH (i:=3) (t:=AD) (d:=.dk kvs) (k:=.int a) (d':=.dk (PB kvs (.inl a) (.lst ((sc (ps.take (i+1)) a).map D.int)))) rfl hb rfl rfl (by simp only[kZ,dU];rw[Y2 'l']),PB kvs (.inl a) (.lst ((sc (ps.take (i+1)) a).map D.int)),_,_,rfl,AY (Cp _ _ _) (EC hk (AM _)),λx=>?_}
   by_cases ex:x=a
   .subst ex;rw[zJH];rfl
   .rw[zM1 _ _ (λz=>ex (HY z)),ht x]
    have hf:=Dh (λp:Int×Int=>decide (p.1=x)) hp;unfold sc
    rw[hf,if_neg (by simp only[decide_eq_true_eq];exact λz=>ex z.symm),DC])
 rw[AJ,D5] at ht;exact{kvs,u4,u5,e,ht}
end
section
variable{BV:Option Int}{A1:Int}
abbrev sD:GS:=OD (TY [6] (fW (gB (g2 M8 (BA 5) (BA 2))) (gB (g2 R7 (BA 5) (BA 6)))))
 (G4 (QQ 6 (BA 5) (gC (.bl AL)))
 (dW (Q7 7 VQ [(BA 5)])))
 RA
def PC(AK:Int)(ps:List (Int×Int))(BV:Option Int)(A1:Int)(u3 u4 u5:Sl)(fs GG:List Int):Ev:=WM AK ps BV A1 u3 u4 u5 (.own AD (eI fs)) (.own AD (.lst (GG.map D.int)))
theorem zVE(x:Int)(fs:List Int):R7 (.int x) (eI fs)=.ok (.bl (decide (x∉fs))):=by
 have:=Yp fs x;simp only[R7,U8,eI,fT,dU,GK];simp only[Out.bind,this];simp
theorem yFP{u3 u4:Sl}{fs:List Int}{y:Int}(hf:fs.length<10000)(hr:GG.length<10000) :
  ∃nM N4,sD (PC AK ps BV A1 u3 u4 (.val (.int y)) fs GG)=.ok (.nx (PC AK ps BV A1 u3 u4 (.val (.int y)) nM N4)) /\
   ((y∉BV.toList/\y∉fs/\nM=fs++[y]/\N4=GG++[y])\/((y∈BV.toList\/y∈fs)/\nM=fs/\N4=GG)):=by
 obtain⟨E0,cS⟩:∃E0,E0=NY [6] (PC AK ps BV A1 u3 u4 (.val (.int y)) fs GG):={_,rfl}
 have t1:gB (g2 M8 (BA 5) (BA 2)) E0=.ok (decide (y∉BV.toList),E0):=by
  rw[cS];exact PD (F8 (x:=.int y) (y:=LM BV) rfl rfl (Lh _ _))
 have t2:gB (g2 R7 (BA 5) (BA 6)) E0=.ok (decide (y∉fs),E0):=by
  rw[cS];exact PD (F8 (x:=.int y) (y:=eI fs) rfl rfl (zVE _ _))
 by_cases hc:y∈BV.toList
 .rw[decide_eq_false (λz=>z hc)] at t1
  exact{fs,GG,TU (X8 (by rw[<-cS];exact Bb t1)) rfl,.inr {.inl hc,rfl,rfl}}
 rw[decide_eq_true hc] at t1
 by_cases hm:y∈fs
 .rw[decide_eq_false (λz=>z hm)] at t2
  exact{fs,GG,TU (X8 (by rw[<-cS];exact oM t1 t2)) rfl,.inr {.inr hm,rfl,rfl}}
 rw[decide_eq_true hm] at t2;refine{fs++[y],GG++[y],ZV (X8 (by rw[<-cS];exact oM t1 t2)) (HS (E1:=PC AK ps BV A1 u3 u4 (.val (.int y)) (fs++[y]) GG) ?_ ?_),.inl {hc,hm,rfl,rfl}}
 .exact bH (i:=6) (gk:=BA 5) (gv:=gC (.bl AL)) (E:=PC AK ps BV A1 u3 u4 (.val (.int y)) fs GG) (E1:=PC AK ps BV A1 u3 u4 (.val (.int y)) fs GG) (E2:=PC AK ps BV A1 u3 u4 (.val (.int y)) fs GG) (t:=AD) (d:=eI fs) (k:=.int y) (v:=.bl AL) (d':=eI (fs++[y])) rfl rfl rfl rfl (by
   exact(Ug (by rw[AJ];exact hf)).trans (by rw[Yo hm];rfl))
 .have:=oR (i:=7) (f:=VQ) (gs:=[BA 5]) (E:=PC AK ps BV A1 u3 u4 (.val (.int y)) (fs++[y]) GG) (xs:=GG.map D.int) (ds:=[.int y]) (x:=.non) (UR:=(GG++[y]).map D.int) rfl rfl rfl (by
  simp only[VQ,AJ]
  rw[Y2 hr];simp)
  exact wO this
structure Fd(ps:List (Int×Int))(cl:List Int)(A1 AK:Int)(fs GG:List Int):Prop where
 nd:fs.Nodup
 rc:∀x∈fs,Rc ps cl A1 x
 rg:∀x∈fs,0<=x/\x<AK
 sub:∀x∈GG,x∈fs
theorem Fd.len{cl:List Int}{fs:List Int}(F:Fd ps cl A1 AK fs GG):fs.length<=AK.toNat:=by
 have:=GW (l₂:=(C9 AK.toNat).map λ(j:Nat)=>(j:Int)) F.nd (λx hx=>by
  obtain⟨a,b⟩:=F.rg x hx
  exact DL.mpr {x.toNat,HA.mpr 'l',by lia})
 simpa using this
theorem Yn(R:Rg AK ps){kvs:List (Key×D)}{u4 u5:Sl}{ND UM:List Int}{r:Int}(hr:r∈ND)(F0:Fd ps BV.toList A1 AK ND UM)(mT:UM.length<=ND.length) :
  ∃fs GG u,SX (.nm 5) sD ((sc ps r).map D.int) (PC AK ps BV A1 (.val (.dk kvs)) u4 u5 ND UM)=.ok (.nx (PC AK ps BV A1 (.val (.dk kvs)) u4 u fs GG))/\Fd ps BV.toList A1 AK fs GG/\(∀x∈ND,x∈fs)/\(∀x∈UM,x∈GG)/\(∀x∈fs,x∈ND\/x∈GG)/\fs.length+UM.length=GG.length+ND.length/\∀y,(r,y)∈ps->y∉BV.toList->y∈fs:=by
 have YG:=R.m2
 obtain⟨E',e,fs,GG,u,rfl,F,a,b,c,d,ex⟩:=xL (t:=.nm 5) (g:=sD) (λi E=>∃fs GG u,E=PC AK ps BV A1 (.val (.dk kvs)) u4 u fs GG/\Fd ps BV.toList A1 AK fs GG/\(∀x∈ND,x∈fs)/\(∀x∈UM,x∈GG)/\(∀x∈fs,x∈ND\/x∈GG)/\fs.length+UM.length=GG.length+ND.length/\∀y∈(sc ps r).take i,y∉BV.toList->y∈fs)
  (ds:=(sc ps r).map D.int) (E:=PC AK ps BV A1 (.val (.dk kvs)) u4 u5 ND UM) 0 {ND,UM,u5,rfl,F0,λ_ h=>h,λ_ h=>h,λ_ h=>.inl h,Nat.add_comm _ _,λy h=>by simp at h}
  (λi d E hd hP=>by
   rw[EO] at hP ⊢;obtain⟨fs,GG,u,hE,F,a,b,c,EW,ex⟩:=hP;subst hE;rw[AU] at hd;obtain⟨y,hy,rfl⟩:=BQ.mp hd;have uI:(r,y)∈ps:=bN.mp (CT hy);obtain⟨_,_,y0,y1⟩:=R.rg _ uI;have hfl:=F.len;obtain⟨nM,N4,e,h⟩:=yFP (AK:=AK) (ps:=ps) (BV:=BV) (A1:=A1) (u3:=.val (.dk kvs)) (u4:=u4) (fs:=fs) (GG:=GG) (y:=y) 'l' 'l'
   have mM:(sc ps r).take (i+1)=(sc ps r).take i++[y]:=by
    obtain⟨hi,e⟩:=AR.mp hy;rw[BJ hi,e]
   refine{_,rfl,_,e,nM,N4,_,rfl,?_};rw[mM];rcases h with⟨hc,hm,rfl,rfl⟩|⟨zS,rfl,rfl⟩
   .refine{{?_,?_,?_,?_},λx hx=>DB _ (a x hx),λx hx=>DB _ (b x hx),?_,by simp;lia,?_}
    .rw[GU]
     exact{F.nd,EM.mpr {by simp,FP},λp hp q hq=>by rw[A5.mp hq];exact λz=>hm (z▸hp)}
    .intro x hx
     rcases BY.mp hx with h|h
     .exact F.rc x h
     .rw[A5.mp h];exact .step (F.rc r (a r hr)) uI hc
    .intro x hx
     rcases BY.mp hx with h|h
     .exact F.rg x h
     .rw[A5.mp h];exact{y0,y1}
    .intro x hx
     rcases BY.mp hx with h|h
     .exact DB _ (F.sub x h)
     .exact BM _ h
    .intro x hx
     rcases BY.mp hx with h|h
     .rcases c x h with h|h
      .exact .inl h
      .exact .inr (DB _ h)
     .exact .inr (BM _ h)
    .intro z hz b7
     rcases BY.mp hz with h|h
     .exact DB _ (ex z h b7)
     .exact BM _ h
   .refine{F,a,b,c,EW,λz hz b7=>?_}
    rcases BY.mp hz with h|h
    .exact ex z h b7
    .rw[A5.mp h] at b7 ⊢
     exact zS.resolve_left b7)
 refine{fs,GG,u,e,F,a,b,c,d,λy hy jX=>ex y ?_ jX};rw[EO,AJ,D5];exact bN.mpr hy
theorem zSB(R:Rg AK ps){kvs:List (Key×D)}(ht:Fk ps kvs){u3 u4 u5:Sl}(Ic:u3=.own AD (.dk kvs)\/u3=.val (.dk kvs)){ND:List Int}(F0:Fd ps BV.toList A1 AK ND ND)(hg:A1∈BV.toList\/A1∈ND) :
  ∃fs v3 v5,WS (TY [7] (gB (g2 M8 (BA 7) (KE [])))) (QD (NK (aZ (BA 3) (Q7 7 dL []) (KE []))) (.nm 5) sD) 100000 (PC AK ps BV A1 u3 u4 u5 ND ND)=.ok (.nx (PC AK ps BV A1 v3 u4 v5 fs []))/\fs.Nodup/\∀x,x∈fs↔Rc ps BV.toList A1 x:=by
 have YG:=R.m2
 obtain⟨E',e,fs,Ga,u5',rfl,h1,h2⟩:=qQ (t:=TY [7] (gB (g2 M8 (BA 7) (KE [])))) (g:=QD (NK (aZ (BA 3) (Q7 7 dL []) (KE []))) (.nm 5) sD)
  (λn E=>∃fs GG u3 u5,E=PC AK ps BV A1 u3 u4 u5 fs GG/\(u3=.own AD (.dk kvs)\/u3=.val (.dk kvs))/\Fd ps BV.toList A1 AK fs GG/\(A1∈BV.toList\/A1∈fs)/\(∀x∈fs,x∈GG\/∀y,(x,y)∈ps->y∉BV.toList->y∈fs)/\GG.length<=fs.length/\n=2 * (AK.toNat-fs.length)+GG.length)
  (λE=>∃fs u3 u5,E=PC AK ps BV A1 u3 u4 u5 fs []/\fs.Nodup/\∀x,x∈fs↔Rc ps BV.toList A1 x)
  (λn E hP=>by
   obtain⟨fs,GG,u3,u5,hE,Ic,F,hg,hex,mT,hn⟩:=hP;subst hE
   have tw:TY [7] (gB (g2 M8 (BA 7) (KE []))) (PC AK ps BV A1 u3 u4 u5 fs GG)=.ok (!(GG.map D.int).isEmpty,PC AK ps BV A1 u3 u4 u5 fs GG) :=
    X8 (PD (F8 (x:=.lst (GG.map D.int)) (y:=.lst []) rfl rfl (Nf (Pls.ints 0 GG))))
   rcases X4 GG with rfl|⟨N4,r,Wy⟩
   .refine .inl {_,tw,fs,u3,u5,rfl,F.nd,λx=>{F.rc x,λh=>?_}}
    induction h with
    |refl h=>exact hg.resolve_left h
    |step _ he hc ih =>
     rcases hex _ ih with h|h
     .simp at h
     .exact h _ he hc
   .rw[List.concat_eq_append] at Wy
    subst Wy;have hrf:r∈fs:=F.sub r 's';rw[BH,EK] at mT hn;have F':Fd ps BV.toList A1 AK fs N4:={F.nd,F.rc,F.rg,λx hx=>F.sub x (DB _ hx)};obtain⟨Xr,tD,u,e,F2,a,b,c,d,ex⟩:=Yn (kvs:=kvs) (u4:=u4) (u5:=u5) R hrf F' (AY (A2 _ _) mT);have hfl:=F2.len;have hfl2:=F.len;have hfl3:=GW F.nd a
    have mX:Q7 7 dL [] (PC AK ps BV A1 (.val (.dk kvs)) u4 u5 fs (N4++[r]))=.ok (.int r,PC AK ps BV A1 (.val (.dk kvs)) u4 u5 fs N4) :=
     oR (i:=7) (f:=dL) (gs:=[]) (t:=AD) (xs:=(N4++[r]).map D.int) (ds:=[]) (x:=.int r) (UR:=N4.map D.int) rfl rfl rfl (by simp[dL])
    have hgi:NK (aZ (BA 3) (Q7 7 dL []) (KE [])) (PC AK ps BV A1 u3 u4 u5 fs (N4++[r]))=.ok ((sc ps r).map D.int,PC AK ps BV A1 (.val (.dk kvs)) u4 u5 fs N4):=by
     have h3:BA 3 (PC AK ps BV A1 u3 u4 u5 fs (N4++[r]))=.ok (.dk kvs,PC AK ps BV A1 (.val (.dk kvs)) u4 u5 fs (N4++[r])):=by
      rcases Ic with rfl|rfl<;>rfl
     have:=Lp (gx:=KE []) (x:=.lst []) (o:=M6 kvs (.inl r)) h3 mX rfl rfl;rw[ht r] at this;exact rD this
    refine .inr {_,_,2 * (AK.toNat-Xr.length)+tD.length,?_,HK hgi e,by lia,Xr,tD,_,u,rfl,.inr rfl,F2,hg.imp id (a _),λx hx=>?_,by lia,rfl}
    .rw[tw];simp
    .rcases c x hx with h|h
     .rcases hex x h with h|h
      .rcases BY.mp h with h|h
       .exact .inl (b x h)
       .rw[A5.mp h];exact .inr ex
      .exact .inr λy hy jX=>a y (h y hy jX)
     .exact .inl h) 100000 (2 * (AK.toNat-ND.length)+ND.length) (PC AK ps BV A1 u3 u4 u5 ND ND) (by have:=F0.len;lia)
  {ND,ND,u3,u5,rfl,Ic,F0,hg,λx h=>.inl h,AM _,rfl}
 exact{fs,Ga,u5',e,h1,h2}
theorem Pq(R:Rg AK ps)(h0:0<=A1)(h1:A1<AK):∃fs:List Int,pA [.val (ID AK ps),.val (.int A1),.val (LM BV)]=.ok (AD,.lst (fs.map D.int),.non)/\fs.Nodup/\∀x,x∈fs↔Rc ps BV.toList A1 x:=by
 obtain⟨kvs,u4,u5,e1,ht⟩:=zVD (AK:=AK) (ps:=ps) (BV:=BV) (A1:=A1) R.len
 obtain⟨ND,hfs,F0,hg⟩:∃ND:List Int,(sJ (gB (g2 M8 (BA 1) (BA 2))) (Ay (BA 1) (gC (.bl AL))) (gC (.dk []))) (WM AK ps BV A1 (.own AD (.dk kvs)) u4 u5 .no .no)=.ok (eI ND,WM AK ps BV A1 (.own AD (.dk kvs)) u4 u5 .no .no)/\Fd ps BV.toList A1 AK ND ND/\(A1∈BV.toList\/A1∈ND):=by
  have t:=PD (F8 (E:=WM AK ps BV A1 (.own AD (.dk kvs)) u4 u5 .no .no) (ga:=BA 1) (gb:=BA 2) (x:=.int A1) (y:=LM BV) rfl rfl (Lh _ _))
  by_cases hc:A1∈BV.toList
  .rw[decide_eq_false (λz=>z hc)] at t
   exact{[],HK t rfl,{FP,λ_ h=>by simp at h,λ_ h=>by simp at h,λ_ h=>h},.inl hc}
  .rw[decide_eq_true hc] at t
   exact{[A1],HK t rfl,{EM.mpr {by simp,FP},λx h=>by rw[A5.mp h];exact .refl hc,λx h=>by rw[A5.mp h];exact{h0,h1},λ_ h=>h},.inr 's'}
 obtain⟨fs,v3,v5,e2,nd,hm⟩:=zSB R ht (u5:=u5) (.inl rfl) F0 hg;have TH:∀l:List Int,(l.map λx=>((.inl x,.bl AL):Key×D)).map (λkv=>iO kv.1)=l.map D.int:=λl=>by rw[D2];rfl
 refine{fs,Q6 (HS (Z3 (d:=.dk []) rfl) (HS e1 (HS (Z3 hfs) (HS (E1:=PC AK ps BV A1 (.own AD (.dk kvs)) u4 u5 ND ND) (Z3 (E':=WM AK ps BV A1 (.own AD (.dk kvs)) u4 u5 (.own AD (eI ND)) .no) (zY0 (d:=.lst (ND.map D.int)) (TW (MA (d:=eI ND) rfl) ?_) (Dk _))) (HS e2 (R6 (Y5 (d:=.lst (fs.map D.int)) (TW (MA (d:=eI fs) rfl) ?_) ?_))))))) rfl,nd,hm}
 .exact congrArg (λl=>Out.ok (D.lst l)) (TH _)
 .exact congrArg (λl=>Out.ok (D.lst l)) (TH _)
 .simp only[dX,PC,WM,D.flat,D.nod,xN];rfl
end
theorem tk{g:G}{E:Ev}{d:D}{n:Int}(h0:E[0]?=AA (.own AL d))(B:Bag k d)(hk:k<900000)(hg:g E=.ok (.int n,E))(hn:1<=n)(ZE:n<2 ^ 200) :
  ∃r d',K7 LD 0 [g] E=.ok (.int r,E.set 0 (.own AL d'))/\0<=r/\r<n/\Bag (k+1) d':=by
 obtain⟨r,d',e,a,b,B'⟩:=Yx B hk hn ZE;exact{r,d',Pd h0 (MA hg) h0 e,a,b,B'}
theorem Pp{α β:Type}(f:α->β):∀(l:List α) (i:Nat),(l.map f).eraseIdx i=(l.eraseIdx i).map f
 |[],_=>rfl
 |_::_,0=>rfl
 |a::l,i+1=>by simp[Pp f l i]
theorem Ra{α:Type}:∀{l:List α} {i:Nat} (h:i<l.length),(l[i]::l.eraseIdx i).Perm l
 |a::l,0,_=>.refl _
 |a::l,i+1,h=>by
  have:=Ra (l:=l) (i:=i) (by simpa using h);simp only[List.getElem_cons_succ,WJ];exact(HN _ _ _).trans (this.cons a)
theorem Ym{d:D}{xs:List Int}(B:Bag k d)(hx:xs.length<=1000)(hk:k<800000) :
  ∃(ys:List Int) (d':D),rW [.own AL d,.val (.lst (xs.map D.int))]=.ok (AD,.lst (ys.map D.int),d')/\ys.Perm xs/\Bag (k+xs.length) d':=by
 obtain⟨E',e,ys,d',rfl,hp,B'⟩:=qQ (t:=TY [2] (gB (g2 M8 (BA 2) (KE [])))) (g:=dW (Q7 3 VQ [(Q7 2 i9 [(K7 LD 0 [(OK [2] (gN Q5 [(BA 2)]))])])]))
  (λn E=>∃(rest JD:List Int) (d:D),E=[.own AL d,.val (.lst (xs.map D.int)),.own AD (.lst (rest.map D.int)),.own AD (.lst (JD.map D.int))]/\(JD++rest).Perm xs/\Bag (k+JD.length) d/\n=rest.length)
  (λE=>∃(JD:List Int) (d:D),E=[.own AL d,.val (.lst (xs.map D.int)),.own AD (.lst []),.own AD (.lst (JD.map D.int))]/\JD.Perm xs/\Bag (k+xs.length) d)
  (λn E hP=>by
   obtain⟨rest,JD,d,hE,hp,B,hn⟩:=hP;subst hE;have EW:=hp.length_eq;rw[BH] at EW
   have tw:TY [2] (gB (g2 M8 (BA 2) (KE []))) [.own AL d,.val (.lst (xs.map D.int)),.own AD (.lst (rest.map D.int)),.own AD (.lst (JD.map D.int))]=.ok (!(rest.map D.int).isEmpty,[.own AL d,.val (.lst (xs.map D.int)),.own AD (.lst (rest.map D.int)),.own AD (.lst (JD.map D.int))]) :=
    X8 (PD (F8 (x:=.lst (rest.map D.int)) (y:=.lst []) rfl rfl (Nf (Pls.ints 0 rest))))
   by_cases hr:rest=[]
   .subst hr
    rw[DC] at hp;exact .inl {_,tw,JD,d,rfl,hp,by rw[<-hp.length_eq];exact B}
   .have XH:0<rest.length:=List.length_pos_iff.mpr hr
    have hg:OK [2] (gN Q5 [(BA 2)]) [.own AL d,.val (.lst (xs.map D.int)),.own AD (.lst (rest.map D.int)),.own AD (.lst (JD.map D.int))]=.ok (.int (rest.length:Int),[.own AL d,.val (.lst (xs.map D.int)),.own AD (.lst (rest.map D.int)),.own AD (.lst (JD.map D.int))]) :=
     Y5 (TW (MA (d:=.lst (rest.map D.int)) rfl) (Tv (AJ _))) rfl
    obtain⟨r,d',et,r0,r1,B'⟩:=tk (g:=OK [2] (gN Q5 [(BA 2)])) (E:=[.own AL d,.val (.lst (xs.map D.int)),.own AD (.lst (rest.map D.int)),.own AD (.lst (JD.map D.int))]) rfl B 'l' hg 'l' 'l';have mT:r.toNat<rest.length:=by lia
    have mX:Q7 2 i9 [(K7 LD 0 [(OK [2] (gN Q5 [(BA 2)]))])] [.own AL d,.val (.lst (xs.map D.int)),.own AD (.lst (rest.map D.int)),.own AD (.lst (JD.map D.int))]=.ok (.int rest[r.toNat],[.own AL d',.val (.lst (xs.map D.int)),.own AD (.lst ((rest.eraseIdx r.toNat).map D.int)),.own AD (.lst (JD.map D.int))]) :=
     oR (i:=2) (f:=i9) (t:=AD) (xs:=rest.map D.int) (ds:=[.int r]) (x:=.int rest[r.toNat]) (UR:=(rest.eraseIdx r.toNat).map D.int) rfl (MA et) rfl (by
      simp only[i9,AJ,L2.guard];rw[if_pos {r0,r1,by lia},AU,BU mT]
      simp[Pp])
    refine .inr {_,_,(rest.eraseIdx r.toNat).length,?_,wO (oR (i:=3) (f:=VQ) (t:=AD) (xs:=JD.map D.int) (ds:=[.int rest[r.toNat]]) (x:=.non) (UR:=(JD++[rest[r.toNat]]).map D.int) rfl (MA mX) rfl (by
      simp only[VQ,AJ]
      rw[Y2 'l'];simp)),?_,rest.eraseIdx r.toNat,JD++[rest[r.toNat]],d',rfl,?_,?_,rfl}
    .rw[tw]
     cases rest with
     |nil=>exact absurd rfl hr
     |cons a l=>rfl
    .rw[List.length_eraseIdx_of_lt mT];lia
    .rw[CF]
     exact((Ra mT).append_left JD).trans hp
    .rw[BH,EK,<-Nat.add_assoc];exact B') 100000 xs.length [.own AL d,.val (.lst (xs.map D.int)),.own AD (.lst (xs.map D.int)),.own AD (.lst [])] (fG (AY hx (DK _ _)))
  {xs,[],d,rfl,GY _,B,rfl}
 exact{ys,d',Q6 (HS (Z3 (d:=.lst (xs.map D.int)) rfl) (HS (Z3 (d:=.lst []) rfl) (HS e (R6 (d:=.lst (ys.map D.int)) rfl)))) rfl,hp,B'}
noncomputable def TQ(d:D)(D7:Int)(u2 u3 u4 u5 u6 u7 u8 u9 u10 u11:Sl):Ev:=[.own AL d,.val (.int D7),u2,u3,u4,u5,u6,u7,u8,u9,u10,u11]
theorem kU{xs:List Int}{ds:List D}{x:D}{i:Int}(h0:0<=i)(h:ds[i.toNat]?=AA x):FI (.lst ds) (.int i)=.ok x:=by
 exact rZ (qP h0 h)
theorem yHV{d:D}(B:Bag k d)(hk:k<800000)(h1:1<=D7)(h2:D7<=24) :
  ∃AK d',J4 (.nm 2) (g2 FI (KE [(BA 1),(g2 MW (gC (.int 1)) (K7 LD 0 [(BA 1)])),(g2 MW (gC (.int 1)) (K7 LD 0 [(gN fQ [(gC (.int 7)),(BA 1)])]))]) (K7 LD 0 [(gC (.int 3))]))
   (TQ d D7 .no .no .no .no .no .no .no .no .no .no)=.ok (.nx (TQ d' D7 (.val (.int AK)) .no .no .no .no .no .no .no .no .no))/\1<=AK/\AK<=D7/\Bag (k+3) d':=by
 obtain⟨a,d1,e1,a0,a1,B1⟩:=tk (g:=BA 1) (E:=TQ d D7 .no .no .no .no .no .no .no .no .no .no) rfl B (AN hk (DK _ _)) rfl h1 'l';obtain⟨b,d2,e2,b0,b1,B2⟩:=tk (g:=gN fQ [(gC (.int 7)),(BA 1)]) (E:=TQ d1 D7 .no .no .no .no .no .no .no .no .no .no) (n:=if D7<7 then D7 else 7) rfl B1 'l' rfl (by split<;>lia) (by split<;>lia);obtain⟨c,d3,e3,c0,c1,B3⟩:=tk (g:=gC (.int 3)) (E:=TQ d2 D7 .no .no .no .no .no .no .no .no .no .no) rfl B2 'l' rfl 'l' 'l';have hb:b<D7:=by split at b1<;>lia
 have J6:∃AK:Int,([D.int D7,.int (1+a),.int (1+b)])[c.toNat]?=AA (.int AK)/\1<=AK/\AK<=D7:=by
  have:c=0\/c=1\/c=2:=by lia
  rcases this with rfl|rfl|rfl
  .exact{D7,rfl,h1,ZT _}
  .exact{1+a,rfl,by lia,by lia}
  .exact{1+b,rfl,by lia,by lia}
 obtain⟨AK,hm,m0,m1⟩:=J6;refine{AK,d3,O4 (F8 (i8 (Q8 (d:=.int D7) rfl (Q8 (F8 (x:=.int 1) rfl e1 (d:=.int (1+a)) rfl) (MA (F8 (x:=.int 1) rfl e2 (d:=.int (1+b)) rfl)))) (show 3<10000 by decide)) e3 (kU (xs:=[]) c0 hm)) rfl,m0,m1,B3}
theorem yHW{d:D}{kind:Int}(B:Bag k d)(hk:k<800000)(h1:1<=AK)(h2:AK<=24) :
  ∃wanted d',J4 (.nm 4) (g2 FI (KE [(gC (.int 0)),(gC (.int 1)),(K7 LD 0 [(g2 MW (BA 2) (gC (.int 1)))]),(g2 MW (BA 2) (K7 LD 0 [(g2 W0 (gC (.int 5)) (BA 2))])),(gC (.int 120))]) (K7 LD 0 [(gC (.int 5))]))
   (TQ d D7 (.val (.int AK)) (.val (.int kind)) .no .no .no .no .no .no .no .no)=.ok (.nx (TQ d' D7 (.val (.int AK)) (.val (.int kind)) (.val (.int wanted)) .no .no .no .no .no .no .no))/\0<=wanted/\wanted<=200/\Bag (k+3) d':=by
 obtain⟨a,d1,e1,a0,a1,B1⟩:=tk (g:=g2 MW (BA 2) (gC (.int 1))) (E:=TQ d D7 (.val (.int AK)) (.val (.int kind)) .no .no .no .no .no .no .no .no) rfl B (AN hk (DK _ _)) rfl 'l' 'l'
 have Ix:W0 (.int 5) (.int AK)=.ok (.int (5 * AK)):=by
  simp only[W0,L2.guard];rw[if_pos (.inl {by decide,by decide})]
 obtain⟨b,d2,e2,b0,b1,B2⟩:=tk (g:=g2 W0 (gC (.int 5)) (BA 2)) (E:=TQ d1 D7 (.val (.int AK)) (.val (.int kind)) .no .no .no .no .no .no .no .no) rfl B1 'l' (F8 (x:=.int 5) (y:=.int AK) rfl rfl Ix) 'l' 'l';obtain⟨c,d3,e3,c0,c1,B3⟩:=tk (g:=gC (.int 5)) (E:=TQ d2 D7 (.val (.int AK)) (.val (.int kind)) .no .no .no .no .no .no .no .no) rfl B2 'l' rfl 'l' 'l'
 have J6:∃w:Int,([D.int 0,.int 1,.int a,.int (AK+b),.int 120])[c.toNat]?=AA (.int w)/\0<=w/\w<=200:=by
  have:c=0\/c=1\/c=2\/c=3\/c=4:=by lia
  rcases this with rfl|rfl|rfl|rfl|rfl
  .exact{0,rfl,by decide,by decide}
  .exact{1,rfl,by decide,by decide}
  .exact{a,rfl,a0,by lia}
  .exact{AK+b,rfl,by lia,by lia}
  .exact{120,rfl,by decide,by decide}
 obtain⟨w,hw,w0,w1⟩:=J6;exact{w,d3,O4 (F8 (i8 (Q8 (d:=.int 0) rfl (Q8 (d:=.int 1) rfl (Q8 e1 (Q8 (F8 (x:=.int AK) rfl e2 (d:=.int (AK+b)) rfl) (MA (d:=.int 120) rfl))))) (show 5<10000 by decide)) e3 (kU (xs:=[]) c0 hw)) rfl,w0,w1,B3}
structure Ln(AK:Int)(kvs:List (List Int×D)):Prop where
 nd:(kvs.map (·.1)).Nodup
 rg:∀k∈kvs.map (·.1),∃a b:Int,k=[a,b]/\0<=a/\a<AK/\0<=b/\b<AK/\a≠b
theorem Po(kvs:List (List Int×D))(k:List Int)(v:D):(PB kvs k v).map (·.1)=if k∈kvs.map (·.1) then kvs.map (·.1) else kvs.map (·.1)++[k]:=by
 unfold PB
 by_cases h:k∈kvs.map (·.1)
 .rw[if_pos h,if_pos]
  .rw[D2]
   refine IR λkv _=>?_;simp only[R0];split<;>rfl
  .obtain⟨kv,Jc,e⟩:=DL.mp h
   exact IM.mpr {kv,Jc,decide_eq_true e}
 .rw[if_neg h,if_neg]
  .simp
  .intro z
   obtain⟨kv,Jc,e⟩:=IM.mp z;exact h (DL.mpr {kv,Jc,of_decide_eq_true e})
theorem Ln.put{kvs:List (List Int×D)}(L:Ln AK kvs){a b:Int}(h:0<=a/\a<AK/\0<=b/\b<AK/\a≠b)(v:D):Ln AK (PB kvs [a,b] v):=by
 constructor
 .rw[Po]
  split
  .exact L.nd
  .rename_i hn
   rw[GU];exact{L.nd,EM.mpr {by simp,FP},λp hp q hq=>by rw[A5.mp hq];exact λz=>hn (z▸hp)}
 .rw[Po]
  split
  .exact L.rg
  .intro k hk
   rcases BY.mp hk with h'|h'
   .exact L.rg k h'
   .exact{a,b,A5.mp h',h}
theorem Lg{kvs:List (List Int×D)}{a b:Int}(h:kvs.length<10000):kZ (.dt kvs) (.tup [.int a,.int b]) (.bl AL)=.ok (.dt (PB kvs [a,b] (.bl AL))):=by
 exact Y2 h
abbrev Vb:GS:=OD (gB (g2 Z5 (BA 3) (gC (.int 3))))
 (QQ 5 (YZ [(g2 FI (KE [(K7 LD 0 [(BA 6)]),(g2 iQ (g2 iQ (BA 6) (gC (.int 1))) (K7 LD 0 [(gN fQ [(BA 6),(gC (.int 2))])])),(gC (.int 0))]) (BA 3)),(BA 6)]) (gC (.bl AL)))
 RA
section
variable{kind wanted:Int}
abbrev OE(d:D)(D7 AK kind wanted:Int)(kvs:List (List Int×D))(u6 u7 u8 u9:Sl):Ev:=TQ d D7 (.val (.int AK)) (.val (.int kind)) (.val (.int wanted)) (.own AD (.dt kvs)) u6 u7 u8 u9 .no .no
theorem yFQ{d:D}(B:Bag k d)(hk:k<800000)(h1:1<=AK)(h2:AK<=24)(eS:0<=kind) :
  ∃(d':D) (kvs:List (List Int×D)) (u6:Sl),QD (qH (gC (.int 1)) (BA 2)) (.nm 6) Vb (OE d D7 AK kind wanted [] .no .no .no .no)=.ok (.nx (OE d' D7 AK kind wanted kvs u6 .no .no .no))/\Bag (k+48) d'/\Ln AK kvs/\kvs.length<=24:=by
 obtain⟨E',e,d',kvs,u6,rfl,B',L,hl⟩:=gA (gi:=qH (gC (.int 1)) (BA 2)) (t:=.nm 6) (g:=Vb) (E:=OE d D7 AK kind wanted [] .no .no .no .no)
  (λi E=>∃(d':D) (kvs:List (List Int×D)) (u6:Sl),E=OE d' D7 AK kind wanted kvs u6 .no .no .no/\Bag (k+2 * i) d'/\Ln AK kvs/\kvs.length<=i) (zY1 (i:=1) (j:=AK) rfl rfl {{by decide,by decide},by lia,by lia}) {d,[],.no,rfl,B,{FP,λ_ h=>by simp at h},AM _}
  (λi x E hx hP=>by
   obtain⟨d,kvs,u6,hE,B,L,hl⟩:=hP;subst hE;have hi:=(AR.mp hx).1;simp only[R1,AJ,JR] at hi;simp only[R1] at hx;rw[AU,KZ hi] at hx;obtain rfl:=BK hx;obtain⟨p,hp⟩:∃p:Int,p=1+(i:Int):={_,rfl};show ∃E1,V1 (Tg.nm 6) (.int (1+(i:Int))) (OE d D7 AK kind wanted kvs u6 Sl.no Sl.no Sl.no)=Out.ok E1/\_;rw[<-hp];refine{_,rfl,?_}
   by_cases Xg:kind<3
   .obtain⟨a,d1,e1,a0,a1,B1⟩:=tk (g:=BA 6) (E:=OE d D7 AK kind wanted kvs (.val (.int p)) .no .no .no) (n:=p) rfl B 'l' rfl 'l' 'l'
    obtain⟨b,d2,e2,b0,b1,B2⟩:=tk (g:=gN fQ [(BA 6),(gC (.int 2))]) (E:=OE d1 D7 AK kind wanted kvs (.val (.int p)) .no .no .no) (n:=if 2<p then 2 else p) rfl B1 'l' rfl (by split<;>lia) (by split<;>lia)
    have J6:∃v:Int,([D.int a,.int (p-1-b),.int 0])[kind.toNat]?=AA (.int v)/\0<=v/\v<p:=by
     have:kind=0\/kind=1\/kind=2:=by lia
     rcases this with h|h|h
     .exact{a,by rw[h];rfl,a0,a1}
     .exact{p-1-b,by rw[h];rfl,by split at b1<;>lia,by lia}
     .exact{0,by rw[h];rfl,ZT _,HJ a0 a1}
    obtain⟨v,hv,v0,v1⟩:=J6;refine{_,ZV (PD (F8 (x:=.int kind) (y:=.int 3) rfl rfl (d:=.bl AL) (by simp only[Z5];rw[decide_eq_true Xg]))) (bH (i:=5) (E1:=OE d D7 AK kind wanted kvs (.val (.int p)) .no .no .no) (E2:=OE d2 D7 AK kind wanted kvs (.val (.int p)) .no .no .no) (t:=AD) (d:=.dt kvs) (v:=.bl AL) rfl rfl (wJ (Q8 (F8 (i8 (Q8 e1 (Q8 (F8 (x:=.int (p-1)) rfl e2 (d:=.int (p-1-b)) rfl) (MA (d:=.int 0) rfl))) (show 3<10000 by decide)) (y:=.int kind) rfl (kU (xs:=[]) eS hv)) (MA (d:=.int p) rfl)) (show 2<10000 by decide)) rfl (Lg 'l')),d2,_,_,rfl,B2.mono 'l',L.put {v0,by lia,K5 (HJ a0 a1),by lia,X6 v1} _,AY (Cp _ _ _) (EC hl (AM _))}
   .exact{_,TU (PD (F8 (x:=.int kind) (y:=.int 3) rfl rfl (d:=.bl AD) (by simp only[Z5];rw[decide_eq_false Xg]))) rfl,d,kvs,_,rfl,B.mono 'l',L,AY hl (A2 _ _)})
 simp only[R1,AJ,JR] at B' hl;exact{d',kvs,u6,e,B'.mono 'l',L,by lia}
abbrev Va:GS:=(G4 (J4 (.nm 8) (K7 LD 0 [(BA 2)]))
 (G4 (J4 (.nm 9) (g2 FI (KE [(K7 LD 0 [(BA 2)]),(g2 SW (g2 MW (g2 MW (BA 8) (gC (.int 1))) (K7 LD 0 [(gC (.int 2))])) (BA 2))]) (K7 LD 0 [(gC (.int 2))])))
 (OD (TY [5] (fW (gB (g2 M8 (BA 8) (BA 9))) (gB (g2 Z5 (gN Q5 [(BA 5)]) (gC (.int 120))))))
 (QQ 5 (YZ [(BA 8),(BA 9)]) (gC (.bl AL)))
 RA)))
theorem yFR{d:D}{u6:Sl}{kvs:List (List Int×D)}(B:Bag k d)(hk:k<800000)(h1:1<=AK)(h2:AK<=24)(hw0:0<=wanted)(hw1:wanted<=200)(L:Ln AK kvs)(hl:kvs.length<=120) :
  ∃(d':D) (bT:List (List Int×D)) (u7 u8 u9:Sl),QD (bC (BA 4)) (.nm 7) Va (OE d D7 AK kind wanted kvs u6 .no .no .no)=.ok (.nx (OE d' D7 AK kind wanted bT u6 u7 u8 u9))/\Bag (k+800) d'/\Ln AK bT/\bT.length<=120:=by
 obtain⟨E',e,d',bT,u7,u8,u9,rfl,B',L',nC⟩:=gA (gi:=bC (BA 4)) (t:=.nm 7) (g:=Va) (E:=OE d D7 AK kind wanted kvs u6 .no .no .no)
  (λi E=>∃(d':D) (kvs:List (List Int×D)) (u7 u8 u9:Sl),E=OE d' D7 AK kind wanted kvs u6 u7 u8 u9/\Bag (k+4 * i) d'/\Ln AK kvs/\kvs.length<=120) (Ch (j:=wanted) rfl {by lia,by lia}) {d,kvs,.no,.no,.no,rfl,B,L,hl}
  (λi x E hx hP=>by
   obtain⟨d,kvs,u7,u8,u9,hE,B,L,hl⟩:=hP;subst hE;have hi:=(AR.mp hx).1;simp only[R1,AJ,JR] at hi;obtain⟨a,d1,e1,a0,a1,B1⟩:=tk (g:=BA 2) (E:=OE d D7 AK kind wanted kvs u6 (.val x) u8 u9) (n:=AK) rfl B 'l' rfl (h1) 'l';obtain⟨b,d2,e2,b0,b1,B2⟩:=tk (g:=BA 2) (E:=OE d1 D7 AK kind wanted kvs u6 (.val x) (.val (.int a)) u9) (n:=AK) rfl B1 'l' rfl (h1) 'l';obtain⟨c,d3,e3,c0,c1,B3⟩:=tk (g:=gC (.int 2)) (E:=OE d2 D7 AK kind wanted kvs u6 (.val x) (.val (.int a)) u9) (n:=2) rfl B2 'l' rfl 'l' 'l';obtain⟨f,d4,e4,f0,f1,B4⟩:=tk (g:=gC (.int 2)) (E:=OE d3 D7 AK kind wanted kvs u6 (.val x) (.val (.int a)) u9) (n:=2) rfl B3 'l' rfl 'l' 'l';have m0:0<=(a+1+c) % AK:=K0 _ (Int.ne_of_gt (HJ a0 a1));have m1:(a+1+c) % AK<AK:=JH _ (HJ a0 a1)
   have Iy:SW (.int (a+1+c)) (.int AK)=.ok (.int ((a+1+c) % AK)):=by
    simp only[SW,L2.guard];rw[if_pos (HJ a0 a1)]
   have J6:∃v:Int,([D.int b,.int ((a+1+c) % AK)])[f.toNat]?=AA (.int v)/\0<=v/\v<AK:=by
    have:f=0\/f=1:=by lia
    rcases this with h|h
    .exact{b,by rw[h];rfl,b0,b1}
    .exact{(a+1+c) % AK,by rw[h];rfl,m0,m1}
   obtain⟨v,hv,v0,v1⟩:=J6;refine{_,rfl,?_};have s1:J4 (.nm 8) (K7 LD 0 [(BA 2)]) (OE d D7 AK kind wanted kvs u6 (.val x) u8 u9)=.ok (.nx (OE d1 D7 AK kind wanted kvs u6 (.val x) (.val (.int a)) u9)):=O4 e1 rfl
   have s2:J4 (.nm 9) (g2 FI (KE [(K7 LD 0 [(BA 2)]),(g2 SW (g2 MW (g2 MW (BA 8) (gC (.int 1))) (K7 LD 0 [(gC (.int 2))])) (BA 2))]) (K7 LD 0 [(gC (.int 2))])) (OE d1 D7 AK kind wanted kvs u6 (.val x) (.val (.int a)) u9)=.ok (.nx (OE d4 D7 AK kind wanted kvs u6 (.val x) (.val (.int a)) (.val (.int v)))) :=
    O4 (F8 (i8 (Q8 e2 (MA (F8 (F8 (x:=.int (a+1)) rfl e3 (d:=.int (a+1+c)) rfl) (y:=.int AK) rfl Iy))) (show 2<10000 by decide)) e4 (kU (xs:=[]) f0 hv)) rfl
   have t1:gB (g2 M8 (BA 8) (BA 9)) (NY [5] (OE d4 D7 AK kind wanted kvs u6 (.val x) (.val (.int a)) (.val (.int v))))=.ok (decide (a≠v),NY [5] (OE d4 D7 AK kind wanted kvs u6 (.val x) (.val (.int a)) (.val (.int v)))) :=
    PD (F8 (x:=.int a) (y:=.int v) rfl rfl (rE _ _))
   have t2:gB (g2 Z5 (gN Q5 [(BA 5)]) (gC (.int 120))) (NY [5] (OE d4 D7 AK kind wanted kvs u6 (.val x) (.val (.int a)) (.val (.int v))))=.ok (decide ((kvs.length:Int)<120),NY [5] (OE d4 D7 AK kind wanted kvs u6 (.val x) (.val (.int a)) (.val (.int v)))) :=
    PD (F8 (x:=.int kvs.length) (TW (MA (d:=.dt kvs) rfl) rfl) (y:=.int 120) rfl rfl)
   by_cases Jz:a=v
   .rw[decide_eq_false (λz=>z Jz)] at t1
    exact{_,HS s1 (HS s2 (TU (X8 (Bb t1)) rfl)),d4,kvs,_,_,_,rfl,B4.mono 'l',L,hl}
   rw[decide_eq_true Jz] at t1
   by_cases j5:(kvs.length:Int)<120
   .rw[decide_eq_true j5] at t2
    exact{_,HS s1 (HS s2 (ZV (X8 (oM t1 t2)) (bH (i:=5) (E1:=OE d4 D7 AK kind wanted kvs u6 (.val x) (.val (.int a)) (.val (.int v))) (E2:=OE d4 D7 AK kind wanted kvs u6 (.val x) (.val (.int a)) (.val (.int v))) (t:=AD) (d:=.dt kvs) (v:=.bl AL) (k:=.tup [.int a,.int v]) rfl rfl rfl rfl (Lg (fG (AY hl (DK _ _))))))),d4,_,_,_,_,rfl,B4.mono 'l',L.put {a0,a1,v0,v1,Jz} _,AY (Cp _ _ _) 'l'}
   .rw[decide_eq_false j5] at t2
    exact{_,HS s1 (HS s2 (TU (X8 (oM t1 t2)) rfl)),d4,kvs,_,_,_,rfl,B4.mono 'l',L,hl})
 simp only[R1,AJ,JR] at B';exact{d',bT,u7,u8,u9,e,B'.mono 'l',L',nC}
end
def ri(n:Nat):List Int:=(C9 n).map λ(j:Nat)=>(0:Int)+(j:Int)
theorem Lf(n:Nat):R1 0 n=(ri n).map D.int:=by simp[R1,ri]
theorem T9{x:Int}:x∈ri n↔0<=x/\x<n:=by
 unfold ri;constructor
 .intro h
  obtain⟨j,hj,rfl⟩:=DL.mp h;have:=HA.mp hj;lia
 .rintro⟨a,b⟩
  exact DL.mpr {x.toNat,HA.mpr 'l',by lia}
theorem yFS(n:Nat):(ri n).Nodup:=List.Pairwise.map _ (λa b h z=>h 'l') List.nodup_range
theorem i7(n:Nat):(ri n).length=n:=by simp[ri]
def V0(ys:List Int)(a:Int):Int:=ys.getD a.toNat 0
def pk(ys:List Int)(k:List Int):Int×Int:=match k with
 |[a,b]=>(V0 ys a,V0 ys b)
 |_=>(0,0)
theorem vZ{ys:List Int}{a:Int}(h0:0<=a)(h:a.toNat<ys.length):FI (.lst (ys.map D.int)) (.int a)=.ok (.int (V0 ys a)):=by
 refine kU (xs:=[]) h0 ?_;rw[AU,BU h];simp[V0,h]
theorem Av{ys:List Int}{a:Int}(h:a.toNat<ys.length):V0 ys a∈ys:=by
 have:V0 ys a=ys[a.toNat]:=by simp[V0,h]
 rw[this];exact HB h
theorem Au{ys:List Int}(hn:ys.Nodup){a b:Int}(a0:0<=a)(b0:0<=b)(ha:a.toNat<ys.length)(hb:b.toNat<ys.length)(e:V0 ys a=V0 ys b):a=b:=by
 have e1:V0 ys a=ys[a.toNat]:=by simp[V0,ha]
 have e2:V0 ys b=ys[b.toNat]:=by simp[V0,hb]
 rw[e1,e2] at e;rcases fF a.toNat b.toNat with h|h|h
 .exact absurd e (EF.mp hn _ _ ha hb h)
 .lia
 .exact absurd e.symm (EF.mp hn _ _ hb ha h)
theorem Qz:∀ps:List (Int×Int),pAA (ps.map VX)=AL
 |[]=>by simp[pAA]
 |p::ps=>by simp[pAA,D.nod,VX,Qz ps]
section
variable{kind wanted:Int}
def Mu(ys:List Int)(d:D):List D:=match d with
 |.tup [.int a,.int b]=>[VX (V0 ys a,V0 ys b)]
 |_=>[]
theorem Oj{ys:List Int}:∀{ks:List (List Int)},(∀k∈ks,∃a b:Int,k=[a,b]/\0<=a/\a<AK/\0<=b/\b<AK/\a≠b)->(ks.map rY).flatMap (Mu ys)=(ks.map (pk ys)).map VX
 |[],_=>rfl
 |k::ks,h=>by
  obtain⟨a,b,rfl,_⟩:=h k BB;simp only[AX,FV,Oj λk hk=>h k (A7 _ hk)]
  rfl
theorem dY{x:Int}(h:n=AK.toNat)(h0:0<=x)(h1:x<AK):x.toNat<n:=by lia
theorem Yl{d:D}(B:Bag k d)(hk:k<700000)(h1:1<=D7)(h2:D7<=24) :
  ∃(AK:Int) (ps:List (Int×Int)) (A1:Int) (d':D),pD [.own AL d,.val (.int D7)]=.ok (AD,.tup [ID AK ps,.int A1],d')/\Net AK ps/\AK<=D7/\0<=A1/\A1<AK/\Bag (k+1000) d':=by
 obtain⟨AK,d1,e1,m1,m2,B1⟩:=yHV B (AN hk (DK _ _)) h1 h2;obtain⟨kind,d2,e2,k0,k1,B2⟩:=tk (g:=gC (.int 4)) (E:=TQ d1 D7 (.val (.int AK)) .no .no .no .no .no .no .no .no .no) rfl B1 'l' rfl 'l' 'l';obtain⟨wanted,d3,e3,w0,w1,B3⟩:=yHW (D7:=D7) (AK:=AK) (kind:=kind) B2 'l' m1 (K4 m2 h2);obtain⟨d4,kvs,u6,e4,B4,L4,l4⟩:=yFQ (D7:=D7) (AK:=AK) (kind:=kind) (wanted:=wanted) B3 'l' m1 (K4 m2 h2) k0;obtain⟨d5,kvs,u7,u8,u9,e5,B5,L5,l5⟩:=yFR (D7:=D7) (AK:=AK) (kind:=kind) (wanted:=wanted) (u6:=u6) B4 'l' m1 (K4 m2 h2) w0 w1 L4 (AY l4 (DK _ _));obtain⟨ys,d6,e6,hp,B6⟩:=Ym (xs:=ri AK.toNat) B5 (by rw[i7];lia) 'l';have b8:ys.length=AK.toNat:=by rw[hp.length_eq,i7]
 have Hu:ys.Nodup:=hp.nodup_iff.mpr (yFS _);have Hv:∀x,x∈ys->0<=x/\x<AK:=λx hx=>by have:=T9.mp (hp.mem_iff.mp hx);lia
 rw[i7] at B6
 have s6:J4 (.nm 10) (K7 rW 0 [(Ff (BA 2))]) (OE d5 D7 AK kind wanted kvs u6 u7 u8 u9)=.ok (.nx (TQ d6 D7 (.val (.int AK)) (.val (.int kind)) (.val (.int wanted)) (.own AD (.dt kvs)) u6 u7 u8 u9 (.val (.lst (ys.map D.int))) .no)):=by
  refine O4 (Pd (ds:=[.lst ((ri AK.toNat).map D.int)]) (E1:=OE d5 D7 AK kind wanted kvs u6 u7 u8 u9) (t:=AL) (d:=d5) rfl (MA (HK (a:=(.int AK,OE d5 D7 AK kind wanted kvs u6 u7 u8 u9)) rfl ?_)) rfl e6) rfl;simp only[L2.guard];rw[if_pos {by lia,by lia},Lf]
 obtain⟨a,d7,e7,a0,a1,B7⟩:=tk (g:=BA 2) (E:=TQ d6 D7 (.val (.int AK)) (.val (.int kind)) (.val (.int wanted)) (.own AD (.dt kvs)) u6 u7 u8 u9 (.val (.lst (ys.map D.int))) .no) (n:=AK) rfl B6 'l' rfl (m1) 'l';obtain⟨c,d8,e8,c0,c1,B8⟩:=tk (g:=gC (.int 3)) (E:=TQ d7 D7 (.val (.int AK)) (.val (.int kind)) (.val (.int wanted)) (.own AD (.dt kvs)) u6 u7 u8 u9 (.val (.lst (ys.map D.int))) .no) (n:=3) rfl B7 'l' rfl 'l' 'l';have hz:(0:Int).toNat<ys.length:=by rw[b8];lia
 have XF:=Hv _ (Av (ys:=ys) (a:=0) hz)
 have J6:∃g:Int,([D.int (V0 ys 0),.int (V0 ys 0),.int a])[c.toNat]?=AA (.int g)/\0<=g/\g<AK:=by
  have:c=0\/c=1\/c=2:=by lia
  rcases this with h|h|h
  .exact{_,by rw[h];rfl,XF.1,XF.2}
  .exact{_,by rw[h];rfl,XF.1,XF.2}
  .exact{a,by rw[h];rfl,a0,a1}
 obtain⟨A1,hg,g0,g1⟩:=J6;obtain⟨E9,j9⟩:∃E9,E9=TQ d8 D7 (.val (.int AK)) (.val (.int kind)) (.val (.int wanted)) (.own AD (.dt kvs)) u6 u7 u8 u9 (.val (.lst (ys.map D.int))) (.val (.int A1)):={_,rfl}
 have s7:J4 (.nm 11) (g2 FI (KE [(g2 FI (BA 10) (gC (.int 0))),(g2 FI (BA 10) (gC (.int 0))),(K7 LD 0 [(BA 2)])]) (K7 LD 0 [(gC (.int 3))])) (TQ d6 D7 (.val (.int AK)) (.val (.int kind)) (.val (.int wanted)) (.own AD (.dt kvs)) u6 u7 u8 u9 (.val (.lst (ys.map D.int))) .no)=.ok (.nx E9):=by
  rw[j9];exact O4 (F8 (i8 (Q8 (F8 (x:=.lst (ys.map D.int)) (y:=.int 0) rfl rfl (vZ 'd' hz)) (Q8 (F8 (x:=.lst (ys.map D.int)) (y:=.int 0) rfl rfl (vZ 'd' hz)) (MA e7))) (show 3<10000 by decide)) e8 (kU (xs:=[]) c0 hg)) rfl
 obtain⟨qs,gZ⟩:∃qs,qs=(kvs.map (·.1)).map (pk ys):={_,rfl}
 have cM:W3 (NK (BA 5)) 2 [10] (.tp [(.nm 0),(.nm 1)]) W1 (YZ [(g2 FI (BA 2) (BA 0)),(g2 FI (BA 2) (BA 1))]) (NY [5] E9)=.ok (.lst (qs.map VX),NY [5] E9):=by
  have:=rF (gi:=NK (BA 5)) (k:=2) (js:=[10]) (t:=.tp [(.nm 0),(.nm 1)]) (tt:=W1) (ge:=YZ [(g2 FI (BA 2) (BA 0)),(g2 FI (BA 2) (BA 1))]) (E:=NY [5] E9) (E1:=NY [5] E9) (ds:=(kvs.map (·.1)).map rY) (Mu ys) (λE=>∃x y,E=[x,y,.val (.lst (ys.map D.int))]) (by rw[D2,j9];rfl) (by rw[j9];exact{_,_,rfl}) (by rw[AJ,AJ];lia) (λx hx E hE=>by
   obtain⟨ky,Jb,rfl⟩:=DL.mp hx;obtain⟨p,q,rfl⟩:=hE;obtain⟨a,b,rfl,a0,a1,b0,b1,_⟩:=L5.rg ky Jb
   exact{_,rfl,AL,_,rfl,.inl {rfl,_,_,wJ (Q8 (F8 (x:=.lst (ys.map D.int)) (y:=.int a) rfl rfl (vZ a0 (dY b8 a0 a1))) (MA (F8 (x:=.lst (ys.map D.int)) (y:=.int b) rfl rfl (vZ b0 (dY b8 b0 b1))))) (show 2<10000 by decide),rfl,_,_,rfl}}) (λEc hEc=>by
   rw[j9]
   have:∀(u:Sl) (j:Nat),j≠10->iR Ec 2 [10] j (Z0 [5] j u)=Z0 [5] j u:=λu j hj=>by
    cases u with
    |no=>rfl
    |val d=>rfl
    |own t d =>
     simp only[Z0];split<;>rfl
   simp only[Z6,NY,TQ,fV,a8,EO,Nat.reduceAdd];rw[this u6 6 'd',this u7 7 'd',this u8 8 'd',this u9 9 'd']
   rfl)
  rw[this,Oj L5.rg,gZ]
 have Iv:Net AK (Y3 qs):=by
  have pm:=Dm qs;refine{m1,K4 m2 h2,by rw[pm.length_eq,gZ,AJ,AJ];exact l5,λp hp=>?_,zU7 ?_}
  .have hp:=pm.mem_iff.mp hp
   rw[gZ] at hp;obtain⟨ky,Jb,rfl⟩:=DL.mp hp;obtain⟨a,b,rfl,a0,a1,b0,b1,ab⟩:=L5.rg ky Jb;have ha:=Hv _ (Av (ys:=ys) (a:=a) (dY b8 a0 a1));have hb:=Hv _ (Av (ys:=ys) (a:=b) (dY b8 b0 b1));exact{ha.1,ha.2,hb.1,hb.2,λz=>ab (Au Hu a0 b0 (dY b8 a0 a1) (dY b8 b0 b1) z)}
  .rw[gZ]
   refine DX.mpr (List.Pairwise.imp_of_mem ?_ L5.nd);intro x y hx hy hxy z;obtain⟨a,b,rfl,a0,a1,b0,b1,ab⟩:=L5.rg x hx;obtain⟨a',b',rfl,Yg,a1',Yd,b1',ab'⟩:=L5.rg y hy;simp only[pk,Prod.mk.injEq] at z;exact hxy (by rw[Au Hu a0 Yg (dY b8 a0 a1) (dY b8 Yg a1') z.1,Au Hu b0 Yd (dY b8 b0 b1) (dY b8 Yd b1') z.2])
 refine{AK,Y3 qs,A1,d8,Q6 (E':=E9) (HS e1 (HS (O4 e2 rfl) (HS e3 (HS (Z3 (d:=.dt []) rfl) (HS e4 (HS e5 (HS s6 (HS s7 (R6 (Y5 (d:=.tup [ID AK (Y3 qs),.int A1]) (wJ (Q8 (wJ (Q8 (d:=.int AK) (by rw[j9];rfl) (MA (TW (MA (TW (MA cM) (zM0 qs))) rfl))) (show 2<10000 by decide)) (MA (d:=.int A1) (by rw[j9];rfl))) (show 2<10000 by decide)) ?_)))))))))) (by rw[j9];rfl),Iv,m2,g0,g1,B8.mono 'l'};rw[j9];simp only[dX,TQ,ID,D.flat,pA9,D.nod,pAA,Qz]
 rfl
end
section
variable{cl:List Int}{g x a b c:Int}
theorem Rc.st(h:Rc ps cl g x):g∉cl:=by
 induction h with
 |refl h=>exact h
 |step _ _ _ ih=>exact ih
theorem Rc.ne(h:Rc ps cl g x):x∉cl:=by
 cases h with
 |refl h=>exact h
 |step _ _ h=>exact h
theorem Rc.mono{dl:List Int}(hs:∀z∈dl,z∈cl)(h:Rc ps cl g x):Rc ps dl g x:=by
 induction h with
 |refl h=>exact .refl λz=>h (hs _ z)
 |step _ e h ih=>exact .step ih e λz=>h (hs _ z)
theorem Rc.range(R:Rg AK ps)(h0:0<=g)(h1:g<AK)(h:Rc ps cl g x):0<=x/\x<AK:=by
 cases h with
 |refl _=>exact{h0,h1}
 |step _ e _=>obtain⟨_,_,a,b⟩:=R.rg _ e;exact{a,b}
theorem dH(h:a≠b):a∉[b]:=λz=>h (A5.mp z)
theorem Rc.by(b:Int)(h:Rc ps cl g x):Rc ps [b] g x\/Rc ps cl g b:=by
 induction h with
 |refl h =>
  by_cases e:g=b
  .exact .inr (by rw[<-e];exact .refl h)
  .exact .inl (.refl (dH e))
 |@step x y h e c ih =>
  rcases ih with ih|ih
  .by_cases eb:y=b
   .exact .inr (by rw[<-eb];exact .step h e c)
   .exact .inl (.step ih e (dH eb))
  .exact .inr ih
def Dom(ps:List (Int×Int))(g c x:Int):Prop:=Rc ps [] g x/\¬Rc ps [c] g x
theorem Dom.refl(h:Rc ps [] g x):Dom ps g x x:={h,λz=>z.ne BB}
theorem Dom.gate(h:Rc ps [] g x):Dom ps g g x:={h,λz=>z.st BB}
theorem Dom.rc(h:Dom ps g c x):Rc ps [] g c:=(h.1.by c).resolve_left h.2
theorem Dom.trans(h1:Dom ps g a b)(h2:Dom ps g b c):Dom ps g a c:={h2.1,λz=>(z.by b).elim h2.2 h1.2}
theorem Dom.anti(h1:Dom ps g a b)(h2:Dom ps g b a):a=b:=Classical.byContradiction λne=>by
 have J6:∀x,Rc ps [] g x->Rc ps [a,b] g x:=λx h=>by
  have Vt:∀y:Int,y≠a->y≠b->y∉[a,b]:=λy p q z=>by
   simp only[BD,CZ,or_false] at z;exact z.elim p q
  induction h with
  |refl _ =>
   refine .refl (Vt g (λe=>h2.2 ?_) (λe=>h1.2 ?_))
   .rw[<-e];exact .refl (dH (by rw[e];exact ne))
   .rw[<-e];exact .refl (dH (by rw[e];exact FH ne))
  |@step x y _ e _ ih =>
   refine .step ih e (Vt y (λq=>h2.2 ?_) (λq=>h1.2 ?_))
   .rw[<-q];exact .step (ih.mono 's') e (dH (by rw[q];exact ne))
   .rw[<-q];exact .step (ih.mono 's') e (dH (by rw[q];exact FH ne))
 exact(J6 a h2.1).ne BB
theorem Dom.lin(h1:Dom ps g a x)(h2:Dom ps g b x):Dom ps g a b\/Dom ps g b a:=by
 by_cases e:Rc ps [a] g b
 .refine .inr {h1.rc,λz=>?_}
  have ne:a≠b:=λq=>e.ne (by rw[q];exact BB)
  have J6:∀x,Rc ps [] g x->Rc ps [a] g x\/Rc ps [b] g x:=λx h=>by
   induction h with
   |refl _ =>
    by_cases q:g=a
    .exact .inr (.refl (dH (by rw[q];exact ne)))
    .exact .inl (.refl (dH q))
   |@step x y _ e' _ ih =>
    rcases ih with ih|ih
    .by_cases q:y=a
     .exact .inr (by rw[q];exact z)
     .exact .inl (.step ih e' (dH q))
    .by_cases q:y=b
     .exact .inl (by rw[q];exact e)
     .exact .inr (.step ih e' (dH q))
  exact(J6 x h1.1).elim h1.2 h2.2
 .exact .inl {h2.rc,e}
theorem Qy{p q:Int->Bool}:∀{l:List Int},(∀x∈l,p x=AL->q x=AL)->(l.filter p).length<=(l.filter q).length
 |[],_=>AM _
 |x::l,h=>by
  have ih:=Qy (l:=l) λy hy=>h y (A7 _ hy);have hx:=h x BB;rw[J8,J8];split
  .rename_i e;rw[if_pos (hx e)];simp only[BC];lia
  .split
   .simp only[BC];lia
   .exact ih
theorem Dd{p q:Int->Bool}{y:Int}(hq:q y=AL)(hp:¬p y=AL):∀{l:List Int},(∀x∈l,p x=AL->q x=AL)->y∈l->(l.filter p).length<(l.filter q).length
 |x::l,h,hy=>by
  have Z9:=Qy (l:=l) λy hy=>h y (A7 _ hy);have hx:=h x BB;rw[J8,J8];rcases BD.mp hy with e|hy
  .subst e
   rw[if_neg hp,if_pos hq];simp only[BC];lia
  .have ih:=Dd hq hp (l:=l) (λy hy=>h y (A7 _ hy)) hy
   split
   .rename_i e;rw[if_pos (hx e)];simp only[BC];lia
   .split
    .simp only[BC];lia
    .exact ih
structure All(ps:List (Int×Int))(g:Int)(L:List Int):Prop where
 nd:L.Nodup
 mem:∀x,x∈L↔Rc ps [] g x
noncomputable instance domDec (ps:List (Int×Int)) (g c x:Int):Decidable (Dom ps g c x):=Classical.propDecidable _
noncomputable def mu(ps:List (Int×Int))(g:Int)(L:List Int)(x:Int):List Int:=L.filter λc=>decide (Dom ps g c x)
noncomputable def cu(ps:List (Int×Int))(g:Int)(L:List Int)(c:Int):List Int:=L.filter λx=>decide (Dom ps g c x)
variable{L zs Vn:List Int}{p h:Int}
theorem wF(A:All ps g L):c∈mu ps g L x↔Dom ps g c x:=by
 unfold mu;rw[DP,decide_eq_true_eq,A.mem];exact{λz=>z.2,λz=>{z.rc,z}}
theorem yDD(A:All ps g L):x∈cu ps g L c↔Dom ps g c x:=by
 unfold cu;rw[DP,decide_eq_true_eq,A.mem];exact{λz=>z.2,λz=>{z.1,z}}
theorem qF(A:All ps g L)(d:Dom ps g a b)(ne:a≠b):(mu ps g L a).length<(mu ps g L b).length:=by
 refine Dd (y:=b) (decide_eq_true (Dom.refl d.1)) (λz=>ne (d.anti (of_decide_eq_true z))) (λx _ z=>decide_eq_true ((of_decide_eq_true z:Dom ps g x a).trans d)) ((A.mem b).mpr d.1)
theorem yFT(A:All ps g L)(d:Dom ps g a b)(ne:a≠b):(cu ps g L b).length<(cu ps g L a).length:=by
 refine Dd (y:=a) (decide_eq_true (Dom.refl d.rc)) (λz=>ne (d.anti (of_decide_eq_true z))) (λx _ z=>decide_eq_true (d.trans (of_decide_eq_true z:Dom ps g b x))) ((A.mem a).mpr d.rc)
structure Srt(ps:List (Int×Int))(g:Int)(L:List Int)(x:Int)(zs:List Int):Prop where
 pm:zs.Perm (mu ps g L x)
 pw:zs.Pairwise λa b=>(mu ps g L a).length<(mu ps g L b).length
theorem Srt.mem(A:All ps g L)(S:Srt ps g L x zs):c∈zs↔Dom ps g c x:=by rw[S.pm.mem_iff,wF A]
theorem Srt.uniq(S:Srt ps g L x zs)(S':Srt ps g L x Vn):zs=Vn :=
 IK (le:=λa b=>(mu ps g L a).length<(mu ps g L b).length) (λa b _ _ h1 h2=>by lia) S.pw S'.pw (S.pm.trans S'.pm.symm)
theorem Mt(h1:zs.Nodup)(A:All ps g L)(h:∀c,c∈zs↔Dom ps g c x):zs.Perm (mu ps g L x) :=
 (TK h1 (A.nd.filter _)).mpr λc=>by rw[h];exact(wF A).symm
theorem Ck(h:Dom ps g c g):c=g:=h.anti (Dom.gate h.rc)
theorem Srt.gate(A:All ps g L)(hg:Rc ps [] g g):Srt ps g L g [g] :=
 {Mt (EM.mpr {by simp,FP}) A λc=>by rw[A5];exact{λz=>by rw[z];exact .refl hg,Ck},JF _ _}
structure IsH(ps:List (Int×Int))(g p h:Int):Prop where
 dom:Dom ps g h p
 ne:h≠p
 last:∀c,Dom ps g c p->c≠p->Dom ps g c h
theorem IsH.uniq{h':Int}(I:IsH ps g p h)(I':IsH ps g p h'):h=h':=(I'.last h I.dom I.ne).anti (I.last h' I'.dom I'.ne)
theorem Srt.nodup(S:Srt ps g L x zs):zs.Nodup:=S.pw.imp λh e=>by rw[e] at h;lia
theorem Srt.snoc(A:All ps g L)(I:IsH ps g p h)(S:Srt ps g L h zs):Srt ps g L p (zs++[p]):=by
 have hp:p∉zs:=λz=>I.ne (I.dom.anti ((S.mem A).mp z));refine{Mt (GU.mpr {S.nodup,EM.mpr {by simp,FP},λa ha b hb e=>hp (by rw[<-A5.mp hb,<-e];exact ha)}) A λc=>?_,GT.mpr {S.pw,JF _ _,λa ha b hb=>?_}}
 .rw[BY,A5,S.mem A]
  constructor
  .rintro(z|z)
   .exact z.trans I.dom
   .rw[z];exact .refl I.dom.1
  .intro z
   by_cases e:c=p
   .exact .inr e
   .exact .inl (I.last c z e)
 .rw[A5.mp hb]
  exact qF A (((S.mem A).mp ha).trans I.dom) λe=>hp (by rw[<-e];exact ha)
theorem Srt.last(A:All ps g L)(S:Srt ps g L p zs)(hp:Rc ps [] g p)(ne:p≠g):∃pre h,zs=pre++[h,p]/\IsH ps g p h:=by
 obtain⟨pre,post,e⟩:=aU ((S.mem A).mpr (Dom.refl hp));have pw:=S.pw;rw[e,GT] at pw;obtain⟨w1,w2,w3⟩:=pw;rw[JB] at w2
 have uP:post=[]:=by
  cases post with
  |nil=>rfl
  |cons c post =>
   exfalso;have h1:=w2.1 c BB;have hc:Dom ps g c p:=(S.mem A).mp (by rw[e];simp)
   by_cases q:c=p
   .rw[q] at h1;lia
   .have:=qF A hc q;lia
 subst uP;rcases X4 pre with SE|⟨tO,h,SE⟩
 .exfalso
  have:=(S.mem A).mpr (Dom.gate hp);rw[e,SE] at this;exact ne (A5.mp this).symm
 .have SE:pre=tO++[h]:=by simpa using SE
  subst SE;refine{tO,h,by rw[e];simp,{(S.mem A).mp (by rw[e];simp),λq=>?_,λc hc q=>?_}}
  .have:=w3 h 's' p BB
   rw[q] at this;lia
  .have hh:Dom ps g h p:=(S.mem A).mp (by rw[e];simp)
   have hcm:=(S.mem A).mpr hc;rw[e,BY,BY,A5,A5] at hcm;rcases hcm with(hcm|hcm)|hcm
   .have lt:=(GT.mp w1).2.2 c hcm h BB
    rcases hc.lin hh with z|z
    .exact z
    .by_cases q2:h=c
     .rw[q2] at lt;lia
     .have:=qF A z q2;lia
   .rw[hcm];exact .refl hh.rc
   .exact absurd hcm q
open Classical in
noncomputable def kT(ps:List (Int×Int))(g p:Int):Int:=if h:∃h,IsH ps g p h then h.choose else g
theorem Ms(I:IsH ps g p h):kT ps g p=h:=by
 have e:∃h,IsH ps g p h:={h,I};unfold kT;rw[dif_pos e];exact e.choose_spec.uniq I
theorem Pn:kT ps g g=g:=by
 unfold kT;rw[dif_neg];rintro⟨h,I⟩;exact I.ne (Ck I.dom)
noncomputable def dQ(ps:List (Int×Int))(g b:Int)(zs:List Int):Option Int:=zs.foldl (λacc c=>if Dom ps g c b/\b≠c then AA c else acc) AI
theorem Qx:dQ ps g b (zs++[c])=if Dom ps g c b/\b≠c then AA c else dQ ps g b zs:=by
 unfold dQ;rw[dE];rfl
theorem Br:∀{ys:List Int} {acc:Option Int},(∀c∈ys,¬(Dom ps g c b/\b≠c))->ys.foldl (λacc c=>if Dom ps g c b/\b≠c then AA c else acc) acc=acc
 |[],_,_=>rfl
 |c::ys,acc,h=>by rw[RY,if_neg (h c BB)];exact Br λd hd=>h d (A7 _ hd)
theorem Qw(h:∀c∈zs,¬(Dom ps g c b/\b≠c)):dQ ps g b zs=AI:=Br h
theorem zSI{ys:List Int}(h:∀c∈ys,¬(Dom ps g c b/\b≠c)):dQ ps g b (zs++ys)=dQ ps g b zs:=by
 unfold dQ;rw[dE];exact Br h
theorem zPH(A:All ps g L)(pm:zs.Perm L)(pw:zs.Pairwise λa b=>(cu ps g L b).length<=(cu ps g L a).length)(I:IsH ps g b h):dQ ps g b zs=AA h:=by
 obtain⟨pre,post,e⟩:=aU (pm.mem_iff.mpr ((A.mem h).mpr I.dom.rc));have nd:zs.Nodup:=pm.nodup_iff.mpr A.nd;rw[e,show pre++h::post=(pre++[h])++post by simp,zSI,Qx,if_pos {I.dom,FH I.ne}];rintro c hc ⟨d,ne⟩;rw[e,GT,JB] at pw;rw[e,GU,EM] at nd;have h1:=pw.2.1.1 c hc;have:=yFT A (I.last c d (FH ne)) (λq=>nd.2.1.1 (by rw[<-q];exact hc));lia
end
theorem zVG{E:Ev}(p:Int->Bool)(cs:List Sl)(hi:gi E=.ok (ns.map D.int,E1))(hc:WO 1 js E1=.no::cs)(hl:ns.length<10000)
  (ht:∀x∈ns,tt (.val (.int x)::cs)=.ok (p x,.val (.int x)::cs)) (hb:∀u,Z6 E1 (u::cs) 1 js=E1):W3 gi 1 js (.nm 0) tt (BA 0) E=.ok (.lst ((ns.filter p).map D.int),E1):=by
 have:=rF (gi:=gi) (k:=1) (js:=js) (t:=.nm 0) (tt:=tt) (ge:=BA 0) (E:=E) (E1:=E1) (ds:=ns.map D.int) (λd=>match d with|.int x=>if p x=AL then[.int x] else[]|_=>[]) (λE=>∃u,E=u::cs) hi {_,hc} (by rw[AJ];exact hl) (λd hd E hE=>by
  obtain⟨x,hx,rfl⟩:=DL.mp hd;obtain⟨u,rfl⟩:=hE;refine{_,rfl,p x,_,ht x hx,?_}
  by_cases h:p x=AL
  .exact .inl {h,.int x,_,rfl,by simp only[h,if_true],_,rfl}
  .exact .inr {by simpa using h,by simp only[h,if_false];rfl,_,rfl}) ((λEc q0=>by obtain⟨u,e⟩:=q0;exact by rw[e];exact hb u))
 rw[this,Rs (g:=D.int) p λx=>rfl]
section
variable{A1 c:Int}
theorem Ld(R:Rg AK ps)(h0:0<=A1)(h1:A1<AK)(hc:Rc ps [] A1 c):∃xs:List Int,lT [.val (ID AK ps),.val (.int A1),.val (.int c)]=.ok (AD,.tup (xs.map D.int),.non)/\xs.Nodup/\∀x,x∈xs↔Dom ps A1 c x:=by
 obtain⟨xs,e1,p1,m1⟩:=Rb (start:=A1) R h0 h1;obtain⟨ys,e2,p2,m2⟩:=Mv (cl:=[c]) (start:=A1) R h0 h1;have YG:=R.m2;have nx:xs.Nodup:=p1.imp λe=>X6 e
 have hl:xs.length<10000:=by
  have:=GW (l₂:=ri AK.toNat) nx λx hx=>T9.mpr (by
   have:=((m1 x).mp hx).range R h0 h1;lia)
  rw[i7] at this;lia
 refine{xs.filter λx=>decide (x∉ys),?_,nx.filter _,λx=>?_}
 .have cM:=zVG (gi:=NK (BA 3)) (js:=[4]) (tt:=gB (g2 R7 (BA 0) (BA 1))) (E:=[.val (ID AK ps),.val (.int A1),.val (.int c),.val (.tup (xs.map D.int)),.val (.tup (ys.map D.int))]) (E1:=[.val (ID AK ps),.val (.int A1),.val (.int c),.val (.tup (xs.map D.int)),.val (.tup (ys.map D.int))]) (λx=>decide (x∉ys)) [.val (.tup (ys.map D.int))] rfl rfl hl
   (λx _=>PD (F8 (x:=.int x) (y:=.tup (ys.map D.int)) rfl rfl (Rr x ys))) λu=>rfl
  have t1:gB (g2 R7 (BA 2) (BA 3)) [.val (ID AK ps),.val (.int A1),.val (.int c),.val (.tup (xs.map D.int)),.no]=.ok (AD,[.val (ID AK ps),.val (.int A1),.val (.int c),.val (.tup (xs.map D.int)),.no]) :=
   PD (F8 (x:=.int c) (y:=.tup (xs.map D.int)) rfl rfl (by rw[Rr,decide_eq_false (λz=>z ((m1 c).mpr hc))]))
  exact Q6 (HS (O4 (SY (ds:=[ID AK ps,.int A1]) rfl e1) rfl) (HS (TU t1 rfl) (HS (O4 (SY (ds:=[ID AK ps,.int A1,.tup [.int c]]) rfl e2) rfl) (R6 (TW (MA cM) rfl))))) rfl
 .rw[DP,m1,decide_eq_true_eq,m2];rfl
def N2(f:Int->D)(L:List Int):List (Key×D):=L.map λp=>(CJ p,f p)
theorem rO{f:Int->D}{p:Int}:∀{L:List Int},p∈L->M6 (N2 f L) (.inl p)=AA (f p)
 |x::L,h=>by
  unfold M6 N2;rw[AX,DQ]
  by_cases e:x=p
  .subst e;simp
  .have:decide ((CJ x:Key)=CJ p)=AD:=decide_eq_false λz=>e (HY z)
   simp only[this];exact rO (L:=L) ((BD.mp h).resolve_left (FH e))
theorem Oi{f:Int->D}{p:Int}{L:List Int}(h:p∉L):PB (N2 f L) (.inl p) (f p)=N2 f (L++[p]):=by
 unfold PB N2;rw[if_neg,FY]
 .rfl
 .simp only[WW,IM,R0,decide_eq_true_eq,not_exists,not_and]
  exact λq hq z=>h (HY z▸hq)
theorem Oh{f:Int->D}{L:List Int}:(N2 f L).map (λkv=>iO kv.1)=L.map D.int:=by unfold N2;rw[D2];rfl
theorem Lc{gv:G}(f:Int->D)(cs:List Sl):∀{ns acc:List Int} {u:Sl},(acc++ns).Nodup->(acc++ns).length<10000->(∀x∈ns,gv (.val (.int x)::cs)=.ok (f x,.val (.int x)::cs)) ->
  ∃u',YW (.nm 0) W1 (oN (BA 0) gv) (ns.map D.int) (.dk (N2 f acc)) (u::cs)=.ok (.dk (N2 f (acc++ns)),u'::cs)
 |[],acc,u,_,_,_=>{u,by rw[DC];rfl}
 |x::ns,acc,u,nd,hl,hv=>by
  have hx:x∉acc:=λz=>(GU.mp nd).2.2 x z x BB rfl;have hla:(N2 f acc).length<10000:=by unfold N2;rw[AJ];rw[BH] at hl;lia
  obtain⟨u',e⟩:=Lc f cs (ns:=ns) (acc:=acc++[x]) (u:=.val (.int x)) (by rw[CF];exact nd) (by rw[CF];exact hl) λy hy=>hv y (A7 _ hy);refine{u',?_};rw[CF] at e
  have ge:oN (BA 0) gv (.dk (N2 f acc)) (.val (.int x)::cs)=.ok (.dk (N2 f (acc++[x])),.val (.int x)::cs):=by
   refine HK (a:=(.int x,.val (.int x)::cs)) rfl (HK (hv x BB) ?_);show few (N2 f acc).length (Out.ok (D.dk (PB (N2 f acc) (.inl x) (f x)),Sl.val (.int x)::cs))=_;rw[Y2 hla,Oi hx]
  rw[AX,YW];refine HK (a:=.val (.int x)::cs) rfl (HK (a:=(AL,.val (.int x)::cs)) rfl ?_);show(if AL=AL then _ else _)=_;rw[if_pos rfl];exact HK ge e
theorem Mq{ge:G}{ds:List D}(k:Int->Int):∀{cs:List Int},(∀c∈cs,ge (.val (.int c)::ds.map .val)=.ok (.int (k c),.val (.int c)::ds.map .val))->dJ ge ds (cs.map D.int)=.ok (cs.map k)
 |[],_=>rfl
 |c::cs,h=>by
  rw[AX,dJ];exact HK (a:=k c) (HK (h c BB) rfl) (HK (Mq k λd hd=>h d (A7 _ hd)) rfl)
theorem Og{gl ge:G}{E:Ev}{ds:List D}(k:Int->Int)(hl:gl E=.ok (.lst (cs.map D.int),E1))(hv:valsJ (shareJ js E1) js=AA ds)(hn:cs.length<64)
  (hk:∀c∈cs,ge (.val (.int c)::ds.map .val)=.ok (.int (k c),.val (.int c)::ds.map .val)):lL gl js ge E=.ok ((cs.map D.int,cs.map k),shareJ js E1):=by
 refine HK hl ?_;show(match D.lst (cs.map D.int),valsJ (shareJ js E1) js with|.lst ys,AA ds=>if ys.length<64 then(dJ ge ds ys).bind λkz=>.ok ((ys,kz),shareJ js E1) else .bad|_,_=>.bad)=_;rw[hv];show(if(cs.map D.int).length<64 then(dJ ge ds (cs.map D.int)).bind λkz=>Out.ok ((cs.map D.int,kz),shareJ js E1) else .bad)=_;rw[if_pos (by rw[AJ];exact hn)];exact HK (Mq k hk) rfl
theorem xI{α β γ:Type}(f:α->β)(h:α->γ):∀l:List α,(l.map f).zip (l.map h)=l.map λx=>(f x,h x)
 |[]=>rfl
 |x::l=>by rw[AX,AX,O7,xI f h l];rfl
theorem Pm{k:Int->Int}{qs:List (Int×D)}(h:aX (cs.map k) (cs.map D.int) qs):∃zs:List Int,qs=zs.map (λc=>(k c,D.int c))/\zs.Perm cs/\zs.Pairwise λa b=>k a<=k b:=by
 obtain⟨pm,pw⟩:=h;rw[xI] at pm
 have un:∀q∈qs,q=(k (match q.2 with|.int c=>c|_=>0),D.int (match q.2 with|.int c=>c|_=>0)):=λq hq=>by
  obtain⟨c,_,rfl⟩:=DL.mp (pm.mem_iff.mp hq)
  rfl
 have e:qs=(qs.map λq=>match q.2 with|.int c=>c|_=>0).map (λc=>(k c,D.int c)):=by
  rw[D2];exact((IR λq hq=>(un q hq).symm).trans (List.map_id _)).symm
 refine{_,e,?_,?_}
 .have:=pm.map (λq:Int×D=>match q.2 with|.int c=>c|_=>0)
  rw[D2] at this;exact this.trans (by rw[show((λq:Int×D=>match q.2 with|.int c=>c|_=>0)∘λc=>(k c,D.int c))=id from rfl,List.map_id])
 .rw[e,DX] at pw
  exact pw
theorem Lb{k:Int->Int}:∀{zs:List Int},zs.Pairwise (λa b=>k a<k b)->∀a∈zs,∀b∈zs,k a=k b->a=b
 |z::zs,pw,a,ha,b,hb,e=>by
  obtain⟨p1,p2⟩:=JB.mp pw;rcases BD.mp ha with e1|h1
  .rcases BD.mp hb with e2|h2
   .rw[e1,e2]
   .have:=p1 b h2;rw[<-e1] at this;lia
  .rcases BD.mp hb with e2|h2
   .have:=p1 a h1;rw[<-e2] at this;lia
   .exact Lb p2 a h1 b h2 e
open Classical in
theorem zVH{gl ge:G}{E:Ev}{zs:List Int}{k:Int->Int}(h:lL gl js ge E=.ok ((cs.map D.int,cs.map k),E1))(pm:zs.Perm cs)(pw:zs.Pairwise λa b=>k a<k b):qS gl js ge E=.ok (.lst (zs.map D.int),E1):=by
 refine HK h ?_;have q0:aX (cs.map k) (cs.map D.int) (zs.map λc=>(k c,D.int c)):={by rw[xI];exact pm.map _,DX.mpr (pw.imp λh=>K5 h)}
 have ex:∃ws,∀qs,aX (cs.map k) (cs.map D.int) qs->qs.map FO=ws:={zs.map D.int,λqs hq=>by
  obtain⟨ws,rfl,p1,p2⟩:=Pm hq;have:ws=zs:=IK (le:=λa b=>k a<=k b) (λa b ha hb h1 h2=>Lb pw a ((p1.trans pm.symm).mem_iff.mp ha) b hb 'l') p2 (pw.imp λh=>K5 h) (p1.trans pm.symm)
  rw[this,D2];rfl}
 show(if h:∃ws,∀qs,aX (cs.map k) (cs.map D.int) qs->qs.map FO=ws then Out.ok (D.lst h.choose,E1) else .bad)=_;rw[dif_pos ex,<-ex.choose_spec _ q0,D2];rfl
end
def O5(n:Nat)(φ:Int->Option Int):List D:=(ri n).map λb=>LM (φ b)
theorem Yk(n:Nat)(φ:Int->Option Int):(O5 n φ).length=n:=by unfold O5;rw[AJ,i7]
theorem Tt(h:j<n):(ri n)[j]?=AA (j:Int):=by
 unfold ri;rw[AU,KZ h];simp
theorem Yj{b:Int}(h0:0<=b)(h1:b<n):atI (O5 n φ) b=AA (LM (φ b)):=by
 refine qP h0 ?_;unfold O5;rw[AU,Tt 'l'];simp only[GK];rw[show((b.toNat:Nat):Int)=b by lia]
theorem Yi(h0:0<=AK)(h1:AK<=100):fN (.lst [.non]) (.int AK)=.ok (.lst (O5 AK.toNat λ_=>AI)):=by
 have e:(BG AK.toNat [D.non]).flatten=O5 AK.toNat λ_=>AI:=by
  unfold O5 ri;rw[D2];generalize AK.toNat=n
  induction n with
  |zero=>rfl
  |succ n ih=>rw[iL,FY,<-ih,List.replicate_succ',List.flatten_append];rfl
 simp only[fN,L2.guard];rw[if_pos {by lia,by lia,by simp;lia},e]
theorem Mp{b c:Int}(h0:0<=b)(h1:b<n):kZ (.lst (O5 n φ)) (.int b) (.int c)=.ok (.lst (O5 n λx=>if x=b then AA c else φ x)):=by
 rw[Ak (j:=b.toNat) (by rw[Yk];exact Bc h0 h1)]
 congr 2
 refine List.ext_getElem? λj=>?_;rw[List.getElem?_set];unfold O5;rw[AU,AU,AJ,i7]
 by_cases hj:j<n
 .rw[Tt hj]
  by_cases e:b.toNat=j
  .have:(j:Int)=b:=by lia
   simp[e,hj,this,LM]
  .have:¬(j:Int)=b:=by lia
   simp[e,this]
 .have:(ri n)[j]?=AI:=NM (by rw[i7];lia)
  rw[this]
  by_cases e:b.toNat=j
  .lia
  .simp[e]
theorem Of(φ:Int->Option Int):∀l:List Int,pA9 (l.map λb=>LM (φ b))=AL/\pAA (l.map λb=>LM (φ b))=AL
 |[]=>by simp[pA9,pAA]
 |b::l=>by
  obtain⟨h1,h2⟩:=Of φ l;rw[AX,pA9,pAA,h1,h2];cases φ b<;>simp[LM,D.flat,D.nod]
section
variable{g:Int}{L:List Int}{p:Int}
def U9(ps:List (Int×Int))(g:Int)(L:List Int)(p:Int):List Int:=(mu ps g L p).mergeSort λa b=>decide ((mu ps g L a).length<=(mu ps g L b).length)
theorem oO(A:All ps g L):Srt ps g L p (U9 ps g L p):=by
 have pm:(U9 ps g L p).Perm (mu ps g L p):=KY _ _;have nd:(U9 ps g L p).Nodup:=pm.nodup_iff.mpr (A.nd.filter _)
 have pw:=JG (le:=λa b=>decide ((mu ps g L a).length<=(mu ps g L b).length)) (λa b c h1 h2=>decide_eq_true (AY (of_decide_eq_true h1) (of_decide_eq_true h2)))
  (λa b=>by rcases Nat.le_total (mu ps g L a).length (mu ps g L b).length with h|h<;>simp[h]) (mu ps g L p)
 refine{pm,(pw.and nd).imp_of_mem λ{a b} ha hb h=>?_};have h1:=of_decide_eq_true h.1;have da:=(wF A).mp (pm.mem_iff.mp ha);have db:=(wF A).mp (pm.mem_iff.mp hb);rcases da.lin db with z|z
 .exact qF A z h.2
 .have:=qF A z (FH h.2);lia
theorem Pk(A:All ps g L)(hp:Rc ps [] g p)(ne:p≠g):∃h,IsH ps g p h:=let ⟨_,h,_,I⟩:=(oO A).last A hp ne;{h,I}
end
theorem Bq{A1:Int}{L:List Int}(R:Rg AK ps)(h0:0<=A1)(h1:A1<AK)(A:All ps A1 L):L.length<=AK.toNat:=by
 have:=GW (l₂:=ri AK.toNat) A.nd λx hx=>T9.mpr (by
  have:=((A.mem x).mp hx).range R h0 h1;lia)
 rwa [i7] at this
section
variable{A1:Int}
abbrev WL(ps:List (Int×Int))(A1:Int)(L:List Int):Int->D:=λp=>.tup ((U9 ps A1 L p).map D.int)
theorem zVI(R:Rg AK ps)(hm:AK<=24)(h0:0<=A1)(h1:A1<AK):∃L,All ps A1 L/\o9 [.val (ID AK ps),.val (.int A1)]=.ok (AD,.dk (N2 (WL ps A1 L) L),.non):=by
 obtain⟨L,eL,nd,mL⟩:=Pq (BV:=AI) (A1:=A1) R h0 h1;have A:All ps A1 L:={nd,mL};have hl:=Bq R h0 h1 A;have YI:=λc=>Pq (BV:=AA c) (A1:=A1) R h0 h1
 have uN:iT L (λc=>(YI c).choose)=.dk (N2 (λp=>.lst ((mu ps A1 L p).map D.int)) L):=by
  unfold iT N2
  congr 1
  refine IR λp hp=>?_
  congr 3
  refine dG λc hc=>decide_eq_decide.mpr ?_;rw[(YI c).choose_spec.2.2 p];exact{λz=>{(mL p).mp hp,z},λz=>z.2}
 have gt:=zY5 (m:=pA) (E:=[.val (ID AK ps),.val (.int A1),.own AD (.dk []),.no,.no,.no,.no]) (net:=ID AK ps) (A1:=.int A1) (L:=L) (left:=λc=>(YI c).choose) {rfl,{_,_,eL},nd,by lia,λc _=>{_,_,(YI c).choose_spec.1}};rw[uN] at gt;obtain⟨RE,hr⟩:∃RE,RE=N2 (λp=>.lst ((mu ps A1 L p).map D.int)) L:={_,rfl};rw[<-hr] at gt;have cK:∀p∈L,FI (.dk RE) (.int p)=.ok (.lst ((mu ps A1 L p).map D.int)):=λp hp=>by rw[hr];exact Dz (rO hp)
 have Iz:∀p,(mu ps A1 L p).length<64:=λp=>by
  have:=HQ (λc=>decide (Dom ps A1 c p)) L;unfold mu;lia
 obtain⟨E',e,u3,rfl⟩:=gA (gi:=NK (BA 2)) (t:=.nm 3) (g:=QQ 6 (BA 3) (gN dM [(qS (g2 FI (BA 2) (BA 3)) [2] (gN Q5 [(g2 FI (BA 1) (BA 0))]))]))
  (E:=[.val (ID AK ps),.val (.int A1),.val (.dk RE),.no,.no,.no,.own AD (.dk [])]) (ds:=L.map D.int)
  (λi E=>∃u3,E=[.val (ID AK ps),.val (.int A1),.val (.dk RE),u3,.no,.no,.own AD (.dk (N2 (WL ps A1 L) (L.take i)))])
  (HK (a:=(.dk RE,[.val (ID AK ps),.val (.int A1),.val (.dk RE),.no,.no,.no,.own AD (.dk [])])) rfl (by rw[hr];exact congrArg (λz=>Out.ok (z,_)) Oh)) {_,rfl}
  (λi x E hx hP=>by
   obtain⟨u3,rfl⟩:=hP;rw[AU] at hx;obtain⟨p,hp,rfl⟩:=BQ.mp hx;obtain⟨hi,aE⟩:=AR.mp hp;have cD:=CT hp;have S:=oO (p:=p) A
   have ks:=zVH (zs:=U9 ps A1 L p) (Og (gl:=g2 FI (BA 2) (BA 3)) (ge:=gN Q5 [(g2 FI (BA 1) (BA 0))]) (js:=[2]) (E:=[.val (ID AK ps),.val (.int A1),.val (.dk RE),.val (.int p),.no,.no,.own AD (.dk (N2 (WL ps A1 L) (L.take i)))]) (λc=>((mu ps A1 L c).length:Int))
    (F8 (x:=.dk RE) (y:=.int p) rfl rfl (cK p cD)) (ds:=[.dk RE]) rfl (Iz p) λc hc=>TW (MA (F8 (x:=.dk RE) (y:=.int c) rfl rfl (cK c (DP.mp hc).1))) (Tv (by rw[AJ]))) S.pm (S.pw.imp λh=>by lia)
   refine{_,rfl,_,bH (i:=6) (t:=AD) (d:=.dk (N2 (WL ps A1 L) (L.take i))) (v:=WL ps A1 L p) (k:=.int p) (d':=.dk (N2 (WL ps A1 L) (L.take (i+1)))) rfl (TW (MA ks) rfl) rfl rfl ?_,_,rfl};rw[Ug (by unfold N2;rw[AJ,ET];lia),BJ hi,aE]
   congr 2
   exact Oi (f:=WL ps A1 L) (by rw[<-aE];exact Co nd hi))
 rw[AJ,D5] at e;exact{L,A,Q6 (HS (Z3 (d:=.dk []) rfl) (HS gt (HS (Z3 (d:=.dk []) rfl) (HS e (R6 rfl))))) rfl}
open Classical in
theorem Zk{gl ge:G}{ks:List Nat}{t:Tg}{g:GS}{E Ef:Ev}{k:Int->Int}(h:lL gl js ge E=.ok ((cs.map D.int,cs.map k),E1))
  (hz:∀zs:List Int,zs.Perm cs->zs.Pairwise (λa b=>k a<=k b)->∃E2,SX t g (zs.map D.int) E1=.ok (.nx E2)/\hush ks E2=Ef):qG gl js ge t g ks E=.ok (.nx Ef):=by
 refine HK h ?_;have pm:(cs.mergeSort λa b=>decide (k a<=k b)).Perm cs:=KY _ _
 have pw:=JG (le:=λa b=>decide (k a<=k b)) (λa b c h1 h2=>decide_eq_true (K4 (of_decide_eq_true h1) (of_decide_eq_true h2)))
  (λa b=>by rcases Int.le_total (k a) (k b) with h|h<;>simp[h]) cs
 have q0:aX (cs.map k) (cs.map D.int) ((cs.mergeSort λa b=>decide (k a<=k b)).map λc=>(k c,D.int c)):={by rw[xI];exact pm.map _,DX.mpr (pw.imp λh=>of_decide_eq_true h)}
 have al:∀qs,aX (cs.map k) (cs.map D.int) qs->∃E2,SX t g (qs.map FO) E1=.ok (.nx E2)/\hush ks E2=Ef:=λqs hq=>by
  obtain⟨ws,rfl,p1,p2⟩:=Pm hq;rw[D2];exact hz ws p1 p2
 have ex:∃E0,∀qs,aX (cs.map k) (cs.map D.int) qs->∃E2,SX t g (qs.map FO) E1=.ok (.nx E2)/\hush ks E2=E0:={Ef,al};show(if h:∃E0,∀qs,aX (cs.map k) (cs.map D.int) qs->∃E2,SX t g (qs.map FO) E1=.ok (.nx E2)/\hush ks E2=E0 then Out.ok (Fl.nx h.choose) else .bad)=_;rw[dif_pos ex];obtain⟨E2,a1,a2⟩:=ex.choose_spec _ q0;obtain⟨E3,b1,b2⟩:=al _ q0;rw[a1] at b1;cases b1;rw[<-a2,b2]
end
section
variable{A1:Int}
open Classical in
def hO(ps:List (Int×Int))(g b:Int):Option Int:=if Rc ps [] g b then AA (kT ps g b) else AI
def hE(AK:Int)(ps:List (Int×Int))(A1:Int)(IS:D)(φ:Int->Option Int)(o4 o5:Option D):Ev:=[.val (ID AK ps),.val (.int A1),.val IS,.own AD (.lst (O5 AK.toNat φ)),jK o4,jK o5]
abbrev hB:GS:=OD (gB (g2 M8 (BA 5) (BA 4))) (QQ 3 (BA 5) (BA 4)) RA
theorem yDF{IS:D}{o5:Option D}{c:Int}{xs:List Int}(hx:FI IS (.int c)=.ok (.tup (xs.map D.int)))(hr:∀x∈xs,0<=x/\x<AK) :
  ∃mD,QD (NK (g2 FI (BA 2) (BA 4))) (.nm 5) hB (hE AK ps A1 IS φ (AA (.int c)) o5)=.ok (.nx (hE AK ps A1 IS (λb=>if b∈xs/\b≠c then AA c else φ b) (AA (.int c)) mD)):=by
 obtain⟨E',e,mD,rfl⟩:=gA (gi:=NK (g2 FI (BA 2) (BA 4))) (t:=.nm 5) (g:=hB) (E:=hE AK ps A1 IS φ (AA (.int c)) o5) (ds:=xs.map D.int)
  (λi E=>∃mD,E=hE AK ps A1 IS (λb=>if b∈xs.take i/\b≠c then AA c else φ b) (AA (.int c)) mD)
  (Cg (F8 (x:=IS) (y:=.int c) rfl rfl hx)) {o5,by simp}
  (λi x E hx hP=>by
   obtain⟨o5,rfl⟩:=hP;rw[AU] at hx;obtain⟨b,hb,rfl⟩:=BQ.mp hx;obtain⟨hi,cO⟩:=AR.mp hb;obtain⟨b0,b1⟩:=hr b (CT hb);have tm:∀q,q∈xs.take (i+1)↔q∈xs.take i\/q=b:=by rw[<-cO];exact xK hi
   have t1:gB (g2 M8 (BA 5) (BA 4)) (hE AK ps A1 IS (λb=>if b∈xs.take i/\b≠c then AA c else φ b) (AA (.int c)) (AA (.int b)))=.ok (decide (b≠c),hE AK ps A1 IS (λb=>if b∈xs.take i/\b≠c then AA c else φ b) (AA (.int c)) (AA (.int b))) :=
    PD (F8 (x:=.int b) (y:=.int c) rfl rfl (rE _ _))
   by_cases e:b=c
   .rw[decide_eq_false (λz=>z e)] at t1
    refine{_,rfl,_,TU t1 rfl,AA (.int b),?_}
    congr 1
    funext q
    have:(q∈xs.take (i+1)/\q≠c)↔(q∈xs.take i/\q≠c):=by
     rw[tm];constructor
     .rintro⟨z|z,n⟩
      .exact{z,n}
      .exact absurd (z.trans e) n
     .rintro⟨z,n⟩;exact{.inl z,n}
    simp only[this]
   .rw[decide_eq_true e] at t1
    refine{_,rfl,_,ZV t1 (bH (i:=3) (t:=AD) (d:=.lst (O5 AK.toNat λb=>if b∈xs.take i/\b≠c then AA c else φ b)) (v:=.int c) (k:=.int b) rfl rfl rfl rfl (Mp b0 'l')),AA (.int b),?_};show hE AK ps A1 IS _ (AA (.int c)) (AA (.int b))=_
    congr 1
    funext q
    by_cases eq:q=b
    .subst eq
     rw[if_pos rfl,if_pos {(tm q).mpr (.inr rfl),e}]
    .have:(q∈xs.take (i+1)/\q≠c)↔(q∈xs.take i/\q≠c):=by
      rw[tm];constructor
      .rintro⟨z|z,n⟩
       .exact{z,n}
       .exact absurd z eq
      .rintro⟨z,n⟩;exact{.inl z,n}
     simp only[this,if_neg eq])
 rw[AJ,D5] at e;exact{mD,e}
theorem Qv(R:Rg AK ps)(hm:AK<=24)(h0:0<=A1)(h1:A1<AK):lS [.val (ID AK ps),.val (.int A1)]=.ok (AD,.tup (O5 AK.toNat (hO ps A1)),.non):=by
 obtain⟨xs,e1,p1,m1⟩:=Rb (start:=A1) R h0 h1;have A:All ps A1 xs:={p1.imp λe=>X6 e,m1};have hl:=Bq R h0 h1 A
 obtain⟨YM,ZF⟩:∃YM:Int->List Int,∀c∈xs,lT [.val (ID AK ps),.val (.int A1),.val (.int c)]=.ok (AD,.tup ((YM c).map D.int),.non)/\(YM c).Nodup/\∀x,x∈YM c↔Dom ps A1 c x:=by
  have:=λc=>Classical.em (Rc ps [] A1 c);refine{λc=>(open Classical in if h:Rc ps [] A1 c then(Ld R h0 h1 h).choose else[]),λc hc=>?_};have h:=(m1 c).mp hc;simp only[dif_pos h];exact(Ld R h0 h1 h).choose_spec
 have NB:∀c∈xs,(YM c).length=(cu ps A1 xs c).length:=λc hc=>((TK (ZF c hc).2.1 (A.nd.filter _)).mpr λx=>by rw[(ZF c hc).2.2];exact(yDD A).symm).length_eq;obtain⟨IS,hc⟩:∃IS,IS=D.dk (N2 (λp=>.tup ((YM p).map D.int)) xs):={_,rfl};have cK:∀p∈xs,FI IS (.int p)=.ok (.tup ((YM p).map D.int)):=λp hp=>by rw[hc];exact Dz (rO hp)
 -- the IS
 have s1:lN (NK (MX lU [(BA 0),(BA 1)])) 1 [0,1] (.dk []) (.nm 0) W1 (oN (BA 0) (MX lT [(BA 1),(BA 2),(BA 0)])) [.val (ID AK ps),.val (.int A1),.no,.no,.no,.no]=.ok (IS,[.val (ID AK ps),.val (.int A1),.no,.no,.no,.no]):=by
  obtain⟨u',e⟩:=Lc (gv:=MX lT [(BA 1),(BA 2),(BA 0)]) (λp=>.tup ((YM p).map D.int)) [.val (ID AK ps),.val (.int A1)] (ns:=xs) (acc:=[]) (u:=.no) A.nd (by rw[FX];lia) λx hx=>SY (ds:=[ID AK ps,.int A1,.int x]) rfl (ZF x hx).1;rw[FX,<-hc] at e;exact HK (Cg (SY (ds:=[ID AK ps,.int A1]) rfl e1)) (HK e rfl)
 have s3:qG (gN i5 [(BA 2)]) [2] (g1 U3 (gN Q5 [(g2 FI (BA 1) (BA 0))])) (.nm 4) (QD (NK (g2 FI (BA 2) (BA 4))) (.nm 5) hB) [4,5] (hE AK ps A1 IS (λ_=>AI) AI AI)
   = .ok (.nx (hE AK ps A1 IS (λb=>if b=A1 then AI else hO ps A1 b) AI AI)):=by
  refine Zk (cs:=xs) (k:=λc=>-((YM c).length:Int)) (Og (λc=>-((YM c).length:Int)) (TW (ds:=[IS]) (MA rfl) (by rw[hc];exact congrArg (λz=>Out.ok (D.lst z)) Oh)) (ds:=[IS]) rfl 'l' λc vF=>?_) λzs pm pw=>?_
  .exact HK (TW (MA (F8 (x:=IS) (y:=.int c) rfl rfl (cK c vF))) (yFF (by rw[AJ]))) rfl
  .obtain⟨E',e,o4,o5,rfl⟩:=xL (t:=.nm 4) (g:=QD (NK (g2 FI (BA 2) (BA 4))) (.nm 5) hB) (ds:=zs.map D.int) (E:=hE AK ps A1 IS (λ_=>AI) AI AI)
    (λi E=>∃o4 o5,E=hE AK ps A1 IS (λb=>dQ ps A1 b (zs.take i)) o4 o5) 0 {AI,AI,rfl} (λi x E hx hP=>by
     rw[EO] at hP ⊢;obtain⟨o4,o5,rfl⟩:=hP;rw[AU] at hx;obtain⟨c,Xj,rfl⟩:=BQ.mp hx;obtain⟨hi,YL⟩:=AR.mp Xj;have vF:c∈xs:=pm.mem_iff.mp (CT Xj);obtain⟨mD,e⟩:=yDF (AK:=AK) (ps:=ps) (A1:=A1) (φ:=λb=>dQ ps A1 b (zs.take i)) (o5:=o5) (cK c vF) λx hx=>(((ZF c vF).2.2 x).mp hx).1.range R h0 h1;refine{_,rfl,_,e,AA (.int c),mD,?_}
     congr 1
     funext b
     rw[BJ hi,YL,Qx];have:(b∈YM c/\b≠c)↔(Dom ps A1 c b/\b≠c):=by rw[(ZF c vF).2.2]
     simp only[this])
   refine{_,e,?_};rw[AJ,EO,D5];have hh:∀φ:Int->Option Int,hush [4,5] (hE AK ps A1 IS φ o4 o5)=hE AK ps A1 IS φ AI AI:=λφ=>by cases o4<;>cases o5<;>rfl
   rw[hh]
   congr 1
   funext b
   have pw':zs.Pairwise λa b=>(cu ps A1 xs b).length<=(cu ps A1 xs a).length:=pw.imp_of_mem λ{a b} ha hb h=>by
    rw[NB a (pm.mem_iff.mp ha),NB b (pm.mem_iff.mp hb)] at h;lia
   by_cases eb:b=A1
   .rw[if_pos eb]
    exact Qw λc _ z=>z.2 (by rw[eb] at z ⊢;exact(Ck z.1).symm)
   .rw[if_neg eb]
    unfold hO
    by_cases hb:Rc ps [] A1 b
    .rw[if_pos hb]
     obtain⟨h,I⟩:=Pk A hb eb;rw[Ms I];exact zPH A pm pw' I
    .rw[if_neg hb]
     exact Qw λc _ z=>hb z.1.1
 have hg:Rc ps [] A1 A1:=.refl 's'
 have Jo:(λx=>if x=A1 then AA A1 else if x=A1 then AI else hO ps A1 x)=hO ps A1:=by
  funext x
  by_cases e:x=A1
  .rw[if_pos e,e];unfold hO;rw[if_pos hg,Pn]
  .rw[if_neg e,if_neg e]
 have s4:=bH (i:=3) (gk:=BA 1) (gv:=BA 1) (E:=hE AK ps A1 IS (λb=>if b=A1 then AI else hO ps A1 b) AI AI) (E1:=hE AK ps A1 IS (λb=>if b=A1 then AI else hO ps A1 b) AI AI) (E2:=hE AK ps A1 IS (λb=>if b=A1 then AI else hO ps A1 b) AI AI) (t:=AD) (t2:=AD) (d0:=.lst (O5 AK.toNat λb=>if b=A1 then AI else hO ps A1 b)) (d:=.lst (O5 AK.toNat λb=>if b=A1 then AI else hO ps A1 b)) (v:=.int A1) (k:=.int A1) rfl rfl rfl rfl (Mp h0 'l');rw[Jo] at s4;have fl:=Of (hO ps A1) (ri AK.toNat)
 have lo:dX [3] (hE AK ps A1 IS (hO ps A1) AI AI) (.tup (O5 AK.toNat (hO ps A1)))=AL:=by
  unfold dX;rw[D.flat,D.nod,O5,fl.1,fl.2];simp
 exact Q6 (HS (O4 s1 rfl) (HS (Z3 (F8 (x:=.lst [.non]) (y:=.int AK) rfl (F8 (x:=ID AK ps) (y:=.int 0) rfl rfl rfl) (Yi (K5 (HJ h0 h1)) 'l'))) (HS s3 (HS s4 (R6 (Y5 (E':=NY [3] (hE AK ps A1 IS (hO ps A1) AI AI)) (TW (ds:=[.lst (O5 AK.toNat (hO ps A1))]) (MA rfl) rfl) lo)))))) rfl
end
section
variable{cl:List Int}{g p a b c x:Int}{L:List Int}
theorem Net.rg'(N:Net AK ps):Rg AK ps:={by have:=N.m1;lia,by have:=N.m2;lia,by have:=N.len;lia,λp hp=>let ⟨a,b,c,d,_⟩:=N.rg p hp;{a,b,c,d}}
theorem zVJ(A:All ps g L){q h:Int}(I:IsH ps g q h):U9 ps g L q=U9 ps g L h++[q]:=(oO A).uniq (Srt.snoc A I (oO A))
theorem Bp(R:Rg AK ps)(h0:0<=g)(h1:g<AK)(A:All ps g L)(q:Int):(U9 ps g L q).length<=AK.toNat:=by
 have:=(oO (p:=q) A).pm.length_eq;have h2:=HQ (λc=>decide (Dom ps g c q)) L;have h3:=Bq R h0 h1 A;unfold mu at this;lia
def mE(AK:Int)(ps:List (Int×Int))(g p:Int)(u:Sl):Ev:=[.val (.tup (O5 AK.toNat (hO ps g))),.val (.int p),u]
theorem Bo(R:Rg AK ps)(h0:0<=g)(h1:g<AK)(p0:0<=p)(p1:p<AK):FI (.tup (O5 AK.toNat (hO ps g))) (.int p)=.ok (LM (hO ps g p)):=yHO (by rw[Yj p0 'l'])
theorem Zj(A:All ps g L)(R:Rg AK ps)(h0:0<=g)(h1:g<AK)(hm:AK<=24)(hp:Rc ps [] g p) :
  pB [.val (.tup (O5 AK.toNat (hO ps g))),.val (.int p)]=.ok (AD,.tup ((U9 ps g L p).map D.int),.non):=by
 obtain⟨p0,p1⟩:=hp.range R h0 h1
 have t0:gB (g2 dN (g2 FI (BA 0) (BA 1)) (gC .non)) (mE AK ps g p .no)=.ok (AD,mE AK ps g p .no) :=
  PD (F8 (x:=LM (hO ps g p)) (y:=.non) (F8 (x:=.tup (O5 AK.toNat (hO ps g))) (y:=.int p) rfl rfl (Bo R h0 h1 p0 p1)) rfl (by unfold hO;rw[if_pos hp];rfl))
 obtain⟨E',e,r,rfl,hr⟩:=qQ (t:=TY [2] (gB (g2 M8 (g2 FI (BA 0) (g2 FI (BA 2) (g1 U3 (gC (.int 1))))) (g2 FI (BA 2) (g1 U3 (gC (.int 1)))))))
  (g:=dW (Q7 2 VQ [(OK [2] (g2 FI (BA 0) (g2 FI (BA 2) (g1 U3 (gC (.int 1))))))]))
  (λn E=>∃r q,E=mE AK ps g p (.own AD (.lst ((r++[q]).map D.int)))/\Rc ps [] g q/\U9 ps g L q++r.reverse=U9 ps g L p/\n=(U9 ps g L q).length)
  (λE=>∃r:List Int,E=mE AK ps g p (.own AD (.lst (r.map D.int)))/\r.reverse=U9 ps g L p)
  (λn E hP=>by
   obtain⟨r,q,rfl,hq,hc,rfl⟩:=hP;obtain⟨q0,q1⟩:=hq.range R h0 h1;obtain⟨E0,cS⟩:∃E0,E0=NY [2] (mE AK ps g p (.own AD (.lst ((r++[q]).map D.int)))):={_,rfl};have last:FI (.lst ((r++[q]).map D.int)) (.int (-1))=.ok (.int q):=rZ (by rw[FY];exact zS3 _ _);have lst:g2 FI (BA 2) (g1 U3 (gC (.int 1))) E0=.ok (.int q,E0):=by rw[cS];exact F8 (x:=.lst ((r++[q]).map D.int)) (y:=.int (-1)) rfl rfl last
   have hd:g2 FI (BA 0) (g2 FI (BA 2) (g1 U3 (gC (.int 1)))) E0=.ok (LM (hO ps g q),E0):=F8 (x:=.tup (O5 AK.toNat (hO ps g))) (by rw[cS];rfl) lst (Bo R h0 h1 q0 q1);have hh0:hO ps g q=AA (kT ps g q):=by unfold hO;rw[if_pos hq]
   rw[hh0] at hd;have t1:gB (g2 M8 (g2 FI (BA 0) (g2 FI (BA 2) (g1 U3 (gC (.int 1))))) (g2 FI (BA 2) (g1 U3 (gC (.int 1))))) E0=.ok (decide (kT ps g q≠q),E0):=PD (F8 hd lst (rE _ _));have EW:=congrArg LW hc;rw[BH,OI] at EW;have Jx:=Bp R h0 h1 A p
   by_cases e:q=g
   .rw[decide_eq_false (λz=>z (by rw[e];exact Pn))] at t1
    refine .inl {_,X8 (E':=E0) (by rw[<-cS];exact t1),r++[q],rfl,?_};rw[<-hc,e,(oO A).uniq (Srt.gate A (e▸hq))];simp
   .obtain⟨h,I⟩:=Pk A hq e
    rw[Ms I] at t1 hd;rw[decide_eq_true I.ne] at t1;have XN:=zVJ A I;rw[XN,BH,EK] at EW
    have bd:OK [2] (g2 FI (BA 0) (g2 FI (BA 2) (g1 U3 (gC (.int 1))))) (mE AK ps g p (.own AD (.lst ((r++[q]).map D.int))))=.ok (.int h,mE AK ps g p (.own AD (.lst ((r++[q]).map D.int)))):=by
     refine Y5 (E':=E0) ?_ rfl;rw[<-cS];exact hd
    refine .inr {_,_,_,X8 (E':=E0) (by rw[<-cS];exact t1),wO (oR (x:=.non) (i:=2) (t:=AD) (xs:=(r++[q]).map D.int) (UR:=(r++[q]++[h]).map D.int) rfl (MA bd) rfl ?_),?_,r++[q],h,rfl,I.dom.rc,?_,rfl}
    .show few _ (Out.ok (D.non,(r++[q]).map D.int++[.int h]))=_
     rw[Y2 (by rw[AJ,BH,EK];lia),FY (l₁:=r++[q])];rfl
    .rw[XN,BH,EK];lia
    .rw[<-hc,XN];simp) 100000 (U9 ps g L p).length (mE AK ps g p (.own AD (.lst (([]++[p]).map D.int)))) (by have:=Bp R h0 h1 A p;lia) {[],p,rfl,hp,by simp,rfl}
 obtain⟨E1,Xp⟩:∃E1,E1=NY [2] (mE AK ps g p (.own AD (.lst (r.map D.int)))):={_,rfl}
 have g1:yH (BA 2) (g1 U3 (gC (.int 1))) E1=.ok (.lst ((U9 ps g L p).map D.int),E1):=by
  rw[<-hr,List.map_reverse,Xp];rfl
 refine Q6 (HS (TU t0 rfl) (HS (Z3 (d:=.lst [.int p]) rfl) (HS e (R6 (Y5 (d:=.tup ((U9 ps g L p).map D.int)) (E':=E1) ?_ ?_))))) rfl
 .rw[<-Xp];exact TW (MA g1) rfl
 .simp[dX,mE,sA,Ei,D.flat,D.nod,Dk,xN]
end
theorem Oe{gs:List G}{E:Ev}{ds:List D}(h1:NL gs E=.ok (ds,E'))(h2:m (ds.map Sl.val)=.bad):MX m gs E=.bad:=HK h1 (by show(m (ds.map Sl.val)).bind _=_;rw[h2];rfl)
theorem Zi{g:G}{t:Tg}{E:Ev}(h:g E=.bad):J4 t g E=.bad:=by unfold J4;rw[h];rfl
theorem Zh{g:G}{E:Ev}(h:g E=.bad):N1 g E=.bad:=by unfold N1;rw[h];rfl
theorem fn_bad{gb:GS}{sl:Ev}(h:gb (sl++BG (n-sl.length) .no)=.bad):P2 n gb sl=.bad:=by unfold P2;rw[h];rfl
theorem yFU{t:Ev->Out (Bool×Ev)}{g:GX}{E:Ev}{r:Out Ev}(h:t E=.ok (AL,E1))(h2:g E1=r):yG t g E=r:=by
 unfold yG;rw[h];show(if AL=AL then g E1 else .bad)=r;rw[if_pos rfl];exact h2
theorem yFV{gs:List G}{mx:List D->Out Ev}{E z:Ev}{ds:List D}(h:NL gs E=.ok (ds,E1))(h2:mx ds=.ok z):Fe gs mx E=.ok E1:=HK h (HK h2 rfl)
theorem yDG{acc c:CK}{r:List (CK ⊕ G)}{E:Ev}:gJ acc (.inl c::r) E=gJ (acc++c) r E:=by rw[gJ]
theorem yDH{acc:CK}{g:G}{r:List (CK ⊕ G)}{E:Ev}{a:Int}(h:g E=.ok (.int a,E1))(h2:0<=a/\a<100):gJ acc (.inr g::r) E=gJ (acc++(toString a:CK)) r E1:=by
 rw[gJ];exact HK h (if_pos h2)
noncomputable def kb:List D:=[.bl AL,.bl AD,.bl AD,.bl AD,.bl AD,.bl AD,.bl AD,.bl AD,.bl AD,.bl AD,.bl AL]
theorem yDI:Y9 (.lst []) (.lst [])=.ok (.bl AL):=zUS (Pls.lst (n:=59) (.nil _))
theorem yFW{g:GS}{gs:List G}{mx:List D->Out Ev}{bs:List Bool}{E:Ev}{r:Fl}(h:g E=.ok r):kW g gs mx ik ie bs E=.ok r:=by unfold kW;rw[h]
theorem yFX{g:GS}{gs:List G}{mx:List D->Out Ev}{bs:List Bool}{E z:Ev}{ds:List D}(h:g E=.bad)(h1:NL gs E=.ok (ds,E1))(h2:mx ds=.ok z):kW g gs mx ik ie bs E=.ok (.nx ((E1.set ik (.val (.lst (bs.map D.bl)))).set ie .no)):=by
 unfold kW;rw[h];exact HK h1 (HK h2 rfl)
section
variable{g p:Int}{L:List Int}
theorem zVK(A:All ps g L)(R:Rg AK ps)(h0:0<=g)(h1:g<AK)(hm:AK<=24)(hp:Rc ps [] g p):jD [.val (ID AK ps),.val (.int g),.val (.int p)]=.ok (AD,.tup ((U9 ps g L p).map D.int),.non) :=
 Q6 (R6 (SY (ds:=[.tup (O5 AK.toNat (hO ps g)),.int p]) (Q8 (SY (ds:=[ID AK ps,.int g]) rfl (Qv R hm h0 h1)) rfl) (Zj A R h0 h1 hm hp))) rfl
theorem yDJ{d:D}(h:jD [.val (ID AK ps),.val (.int g),.val (.int p)]=.ok (AD,d,.non)):oZ [.val (ID AK ps),.val (.int g),.val (.int p)]=.ok (AD,d,.non):=by
 refine Q6 (HS (O4 (d:=.non) rfl rfl) (HS (O4 (d:=.lst []) rfl rfl) (HS (E1:=[.val (ID AK ps),.val (.int g),.val (.int p),.val d,.val (.lst []),.no]) ?_ (R6 (HK (PD (F8 (x:=.lst []) (y:=.lst []) rfl rfl yDI)) (by rw[if_pos rfl];rfl)))))) rfl;have:J4 (.nm 3) (MX jD [(BA 0),(BA 1),(BA 2)]) [.val (ID AK ps),.val (.int g),.val (.int p),.val .non,.val (.lst []),.no]=.ok (.nx [.val (ID AK ps),.val (.int g),.val (.int p),.val d,.val (.lst []),.no]):=O4 (SY (ds:=[ID AK ps,.int g,.int p]) rfl h) rfl;exact yFW this
theorem yDK(N:Net AK ps)(h0:0<=g)(h1:g<AK)(p0:0<=p)(p1:p<AK)(hp:¬Rc ps [] g p):oZ [.val (ID AK ps),.val (.int g),.val (.int p)]=.ok (AD,.lst kb,.non):=by
 have hm:=N.m2;have R:=N.rg';have hh:=Qv R hm h0 h1
 have t:∀u,gB (g2 dN (g2 FI (BA 0) (BA 1)) (gC .non)) (mE AK ps g p u)=.ok (AL,mE AK ps g p u):=λu =>
  PD (F8 (x:=LM (hO ps g p)) (y:=.non) (F8 (x:=.tup (O5 AK.toNat (hO ps g))) (y:=.int p) rfl rfl (Bo R h0 h1 p0 p1)) rfl (by unfold hO;rw[if_neg hp];rfl))
 have b1:pB [.val (.tup (O5 AK.toNat (hO ps g))),.val (.int p)]=.bad:=by
  show P2 3 _ _=_;refine fn_bad ?_;show(OD _ _ _ (mE AK ps g p .no)).bind _=_;rw[ZV (t .no) rfl];rfl
 have a2:NL [(MX lS [(BA 0),(BA 1)]),(BA 2)] [.val (ID AK ps),.val (.int g),.val (.int p)]=.ok ([.tup (O5 AK.toNat (hO ps g)),.int p],[.val (ID AK ps),.val (.int g),.val (.int p)]):=Q8 (SY (ds:=[ID AK ps,.int g]) rfl hh) rfl;have b2:jD [.val (ID AK ps),.val (.int g),.val (.int p)]=.bad:=fn_bad (Zh (Oe a2 b1))
 have j1:gJ OH [.inl "no way leads to ",.inr (BA 1)] (mE AK ps g p .no)=.ok (.str (OH++"no way leads to "++(toString p:CK)),mE AK ps g p .no):=by
  rw[yDG,yDH (a:=p) (E1:=mE AK ps g p .no) rfl {p0,by lia},gJ]
 obtain⟨z1,jW⟩:∃z,yC [.tup (O5 AK.toNat (hO ps g)),.int p]=.ok z:={_,show Dw (mE AK ps g p .no)=_ from yFU (t .no) (HK (MA j1) (Y2 (show 1<10000 by decide)))};obtain⟨z2,XF⟩:∃z,xJ [ID AK ps,.int g,.int p]=.ok z:={_,show Cn [.val (ID AK ps),.val (.int g),.val (.int p)]=_ from yFV a2 jW};refine Q6 (HS (O4 (d:=.non) rfl rfl) (HS (O4 (d:=.lst []) rfl rfl) (HS (E1:=[.val (ID AK ps),.val (.int g),.val (.int p),.val .non,.val (.lst kb),.no]) ?_ (R6 (HK (PD (F8 (x:=.lst kb) (y:=.lst []) (d:=.bl AD) rfl rfl rfl)) (by rw[if_neg CG];rfl)))))) rfl;have:J4 (.nm 3) (MX jD [(BA 0),(BA 1),(BA 2)]) [.val (ID AK ps),.val (.int g),.val (.int p),.val .non,.val (.lst []),.no]=.bad:=Zi (Oe (ds:=[ID AK ps,.int g,.int p]) rfl b2);exact yFX this (ds:=[ID AK ps,.int g,.int p]) (E1:=[.val (ID AK ps),.val (.int g),.val (.int p),.val .non,.val (.lst []),.no]) rfl XF
end
theorem Zg:rV [.val (.int 0)]=.ok (AD,.lst kb,.non):=by
 rfl
theorem Zf(n:Nat)(a:Int):zAV (n+1) [.val (.int a),.val (.int a)]=.ok (AD,.bl AL,.non) :=
 Q6 (HS (TU (E1:=[.val (.int a),.val (.int a)]) (lI (wN (d:=.int a) rfl) rfl) rfl) (R6 (yFE (E1:=[.val (.int a),.val (.int a)]) (yCY (wN (d:=.int a) rfl)) (F8 (x:=.int a) (y:=.int a) rfl rfl (d:=.bl AL) (by rw[Zm];simp))))) rfl
theorem Ze{ds:List D}(hl:ds.length<10000)(h:∀d∈ds,zAV n [.val d,.val d]=.ok (AD,.bl AL,.non)):zAV (n+1) [.val (.tup ds),.val (.tup ds)]=.ok (AD,.bl AL,.non):=by
 have hc:W3 (Ep (BA 0) (BA 1)) 2 [] (.tp [(.nm 0),(.nm 1)]) W1 (MX (zAV n) [(BA 0),(BA 1)]) [.val (.tup ds),.val (.tup ds)]=.ok (.lst ((kY ds ds).map λ_=>.bl AL),[.val (.tup ds),.val (.tup ds)]):=by
  refine zU8 (λE=>E.length=2) rfl rfl (by simpa[kY] using hl) (λd hd E hE=>?_) λEc _=>Bu Ec 2 0 _;obtain⟨x,y,rfl⟩:=Li hE;obtain⟨⟨p,q⟩,hp,rfl⟩:=DL.mp hd
  have NA:p=q/\p∈ds:=by
   obtain⟨i,hi⟩:=List.mem_iff_getElem?.mp hp;rw[U1] at hi;obtain⟨a,b⟩:=hi;rw[a] at b;exact{BK b,CT a}
  obtain⟨rfl,hm⟩:=NA;exact{_,rfl,_,SY (ds:=[p,p]) rfl (h p hm),rfl}
 have t1:yK (fR (YX (oB "tuple" (BA 0)))) (gB (g2 M8 (gN Q5 [(BA 0)]) (gN Q5 [(BA 1)]))) [.val (.tup ds),.val (.tup ds)]=.ok (AD,[.val (.tup ds),.val (.tup ds)]) :=
  yFD (Ci (b:=AL) (lI (wN (d:=.tup ds) rfl) rfl)) (PD (F8 (TW (MA (d:=.tup ds) rfl) rfl) (TW (MA (d:=.tup ds) rfl) rfl) (d:=.bl AD) (by rw[rE];simp)))
 exact Q6 (qR (ZV (E1:=[.val (.tup ds),.val (.tup ds)]) (lI (wN (d:=.tup ds) rfl) rfl) (HS (TU t1 rfl) (R6 (TW (MA hc) (zU9 _)))))) rfl
theorem zVL{xs:List Int}(hl:xs.length<10000):zAV 5 [.val (.tup (xs.map D.int)),.val (.tup (xs.map D.int))]=.ok (AD,.bl AL,.non) :=
 Ze (by rw[AJ];exact hl) λd hd=>by
  obtain⟨p,_,rfl⟩:=DL.mp hd;exact Zf 3 p
theorem zVM(f:α->β)(xs:List α)(lo hi:Option Int):YY (xs.map f) lo hi=(YY xs lo hi).map f:=by
 unfold YY;rw[AJ,<-List.map_drop,<-List.map_take]
theorem Zd(ns:List Int):∃c:Int,o8 [.val (.lst (ns.map D.int)),.val (.int 0)]=.ok (AD,.int c,.non):=by
 unfold o8
 cases ns with
 |nil=>exact{0,Q6 (HS (TU (E1:=[.val (.lst []),.val (.int 0)]) (PD (F8 (x:=.int 0) (y:=.int 0) rfl (TW (MA (d:=.lst []) rfl) rfl) rfl)) rfl) (R6 (d:=.int 0) rfl)) rfl}
 |cons n ns =>
  refine{n,Q6 (qR (E1:=[.val (.lst ((n::ns).map D.int)),.val (.int 0)]) (ZV (E1:=[.val (.lst ((n::ns).map D.int)),.val (.int 0)]) (PD (F8 (x:=.int 0) (y:=.int ((n::ns).map D.int).length) rfl (TW (MA (d:=.lst ((n::ns).map D.int)) rfl) rfl) ?_)) (R6 (F8 (x:=.lst ((n::ns).map D.int)) (y:=.int 0) rfl rfl (kU (xs:=[]) 'd' rfl))))) rfl};simp only[Z5];rw[decide_eq_true (by simp only[AX,BC];lia)]
theorem Mo{f:Int->D}{p:Int}:∀{L:List Int},p∉L->M6 (N2 f L) (.inl p)=AI
 |[],_=>rfl
 |x::L,h=>by
  unfold M6 N2;rw[AX,DQ];have:decide ((CJ x:Key)=CJ p)=AD:=decide_eq_false λz=>h (by rw[HY z];exact BB);simp only[this];exact Mo (L:=L) λz=>h (A7 _ z)
theorem zVN{f:Int->D}{p:Int}{L:List Int}:R7 (.int p) (.dk (N2 f L))=.ok (.bl (decide (p∉L))):=by
 simp only[R7,U8,fT,dU,GK]
 by_cases h:p∈L
 .rw[rO h];simp[Out.bind,h]
 .rw[Mo h];simp[Out.bind,h]
section
variable{sc:D}{n g p:Int}{L:List Int}{u5 u6:Sl}
def lE(sc:D)(n AK:Int)(ps:List (Int×Int))(g:Int)(L:List Int)(u5 u6:Sl):Ev:=[.val sc,.val (.int n),.val (ID AK ps),.val (.int g),.val (.dk (N2 (WL ps g L) L)),u5,u6]
abbrev Eu:GS:=G4 (J4 (.nm 6) (MX oZ [(BA 2),(BA 3),(BA 5)]))
 (OD (gB (g2 R7 (BA 5) (BA 4)))
 (OD (gB (g2 M8 (BA 6) (MX rV [(gC (.int 0))])))
 (N1 (gC (.bl AD)))
 RA)
 (OD (fR (YX (MX (zAV 5) [(BA 6),(g2 FI (BA 4) (BA 5))])))
 (N1 (gC (.bl AD)))
 RA))
theorem yFY(N:Net AK ps)(A:All ps g L)(h0:0<=g)(h1:g<AK)(p0:0<=p)(p1:p<AK):∃v6,Eu (lE sc n AK ps g L (.val (.int p)) u6)=.ok (.nx (lE sc n AK ps g L (.val (.int p)) v6)):=by
 have hm:=N.m2
 have tn:∀{v6:Sl},gB (g2 R7 (BA 5) (BA 4)) (lE sc n AK ps g L (.val (.int p)) v6)=.ok (decide (p∉L),lE sc n AK ps g L (.val (.int p)) v6):=λ{v6} =>
  PD (F8 (x:=.int p) (y:=.dk (N2 (WL ps g L) (L))) rfl rfl zVN)
 by_cases hp:Rc ps [] g p
 .have cD:p∈L:=(A.mem p).mpr hp
  have ht:=yDJ (zVK A N.rg' h0 h1 N.m2 hp)
  have hl:(U9 ps g L p).length<10000:=by
   have:=Bp N.rg' h0 h1 A p;lia
  refine{_,HS (E1:=lE sc n AK ps g L (.val (.int p)) (.val (WL ps g L p))) (O4 (SY (ds:=[ID AK ps,.int g,.int p]) rfl ht) rfl) (TU (E1:=lE sc n AK ps g L (.val (.int p)) (.val (WL ps g L p))) (tn.trans (by rw[decide_eq_false (λz=>z cD)])) (TU (E1:=lE sc n AK ps g L (.val (.int p)) (.val (WL ps g L p))) (Ci (b:=AL) (lI (SY (ds:=[WL ps g L p,WL ps g L p]) ?_ (zVL hl)) rfl)) rfl))};exact Q8 (E1:=lE sc n AK ps g L (.val (.int p)) (.val (WL ps g L p))) rfl (MA (F8 (x:=.dk (N2 (WL ps g L) (L))) (y:=.int p) rfl rfl (Dz (rO cD))))
 .have cD:p∉L:=λz=>hp ((A.mem p).mp z)
  have ht:=yDK N h0 h1 p0 p1 hp;exact{_,HS (E1:=lE sc n AK ps g L (.val (.int p)) (.val (.lst kb))) (O4 (SY (ds:=[ID AK ps,.int g,.int p]) rfl ht) rfl) (ZV (E1:=lE sc n AK ps g L (.val (.int p)) (.val (.lst kb))) (tn.trans (by rw[decide_eq_true cD])) (TU (PD (F8 (x:=.lst kb) (y:=.lst kb) rfl (SY (ds:=[.int 0]) rfl Zg) (d:=.bl AD) rfl)) rfl))}
end
theorem law_true:∀ns:List Int,ns.length<=63->∃b d',m_law [.val (.lst (ns.map D.int))]=.ok (b,.bl AL,d'):=by
 intro ns g8;obtain⟨c,ec⟩:=Zd ns;obtain⟨sc,Ww⟩:∃sc:D,sc=.lst (ns.map D.int):={_,rfl}
 have ZF:(YY ns (AA 1) (AA 8)).length<=63:=by
  unfold YY;rw[ET,Q3];lia
 obtain⟨E',e,u1,u2,u3,u4,u5,u6,rfl⟩:=gA (gi:=NK (g2 MW (KE [(MX o8 [(BA 0),(gC (.int 0))])]) (Ba (BA 0) (AA (gC (.int 1))) (AA (gC (.int 8)))))) (t:=.nm 1)
  (g:=(G4 (J4 (.tp [(.nm 2),(.nm 3)]) (oD pD (oE o7 [(BA 1),(gC (.int 0))]) [(gC (.int 24))]))
 (G4 (J4 (.nm 4) (MX o9 [(BA 2),(BA 3)]))
 (QD (bC (g2 FI (BA 2) (gC (.int 0)))) (.nm 5) Eu)))) (E:=[.val sc,.no,.no,.no,.no,.no,.no]) (E1:=[.val sc,.no,.no,.no,.no,.no,.no]) (ds:=(c::YY ns (AA 1) (AA 8)).map D.int)
  (λi E=>∃u1 u2 u3 u4 u5 u6,E=[.val sc,u1,u2,u3,u4,u5,u6])
  (by
   rw[Ww];refine rD (F8 (x:=.lst [.int c]) (y:=.lst ((YY ns (AA 1) (AA 8)).map D.int)) (i8 (MA (SY (ds:=[.lst (ns.map D.int),.int 0]) rfl ec)) (show 1<10000 by decide)) ?_ ?_)
   .rw[<-zVM];rfl
   .exact Uh (by rw[AJ];show 1+_<10000;lia) rfl) {_,_,_,_,_,_,rfl}
  (λi x E hx hP=>by
   obtain⟨u1,u2,u3,u4,u5,u6,hE⟩:=hP;subst hE;rw[AU] at hx;obtain⟨n,_,rfl⟩:=BQ.mp hx;refine{_,rfl,?_};obtain⟨w,ew,B⟩:=Yw n;obtain⟨AK,ps,A1,d',en,N,_,h0,h1,_⟩:=Yl (D7:=24) B 'd' 'd' 'd';have hm:=N.m2;have YH:=N.m1;obtain⟨L,A,et⟩:=zVI N.rg' hm h0 h1
   have s1:J4 (.tp [(.nm 2),(.nm 3)]) (oD pD (oE o7 [(BA 1),(gC (.int 0))]) [(gC (.int 24))]) [.val sc,.val (.int n),u2,u3,u4,u5,u6]=.ok (.nx [.val sc,.val (.int n),.val (ID AK ps),.val (.int A1),u4,u5,u6]) :=
    O4 (zUV (E1:=[.val sc,.val (.int n),u2,u3,u4,u5,u6]) (zUW (ds:=[.int n,.int 0]) rfl ew) (MA (d:=.int 24) rfl) en) rfl
   have s2:J4 (.nm 4) (MX o9 [(BA 2),(BA 3)]) [.val sc,.val (.int n),.val (ID AK ps),.val (.int A1),u4,u5,u6]=.ok (.nx (lE sc n AK ps A1 L u5 u6)):=O4 (SY (ds:=[ID AK ps,.int A1]) rfl et) rfl
   obtain⟨E9,e9,v5,v6,rfl⟩:=gA (gi:=bC (g2 FI (BA 2) (gC (.int 0)))) (t:=.nm 5) (g:=Eu) (E:=lE sc n AK ps A1 L u5 u6) (E1:=lE sc n AK ps A1 L u5 u6) (ds:=R1 0 AK.toNat)
    (λi E=>∃v5 v6,E=lE sc n AK ps A1 L v5 v6) (Ch (F8 (x:=ID AK ps) (y:=.int 0) rfl rfl rfl) {by lia,by lia}) {_,_,rfl} (λi x E hx hP=>by
    obtain⟨v5,v6,rfl⟩:=hP;rw[Lf,AU] at hx;obtain⟨p,hp,rfl⟩:=BQ.mp hx;obtain⟨p0,p1⟩:=T9.mp (CT hp);obtain⟨w6,er⟩:=yFY (sc:=sc) (n:=n) (u6:=v6) N A h0 h1 p0 'l'
    exact{_,rfl,_,er,_,_,rfl})
   exact{_,HS s1 (HS s2 e9),_,_,_,_,_,_,rfl})
 refine{AD,.non,?_};rw[<-Ww];exact Q6 (HS e (R6 (d:=.bl AL) rfl)) rfl
structure FA(K:AC)(x:CK)(st:E6)(f:AQ)(fd:JN):Prop where
 a:BW K BL x=AA (AA (.ref f))
 F:Fun K x x st f fd
section
variable{K:AC}{st:E6}
theorem fa{kV dc:AH}{sl:Array (Option AH)}(a:BW K BL x=AA (AA (.ref f)))(l:K.lookup f=AA {oc,od,.func (EX x x (bF st) (U7 st) (J5 st) .none kV dc pm an cd ct),sl})(c:HZ K cd x=AL)(k:EJ K (.ref f)=AL):FA K x st f (EX x x (bF st) (U7 st) (J5 st) .none kV dc pm an cd ct):={a,wG l c k}
theorem FA.cal{P:CI}{w:DY}{mg:CK->Option AH}{base h:DZ}{ps:List CK}{k np:Nat}{m:Mr}(A:FA K x st f fd)(X:K.In h)(G:h.Ns BL mg)(o:FnOk P w K mg base LO k f fd ps (NO K np m))(b:Binds K fd ps []):N3 P w K mg base x k np m:=Fun.cal A.F o (CV X G A.a) b
abbrev bA(x:CK)(st:E6)(us:List AH)(r:List (CK×AH)):Prop:=∀(kV RN pm:AH) (an:Option AQ) (G5 ct:AH),NU (EX x x (bF st) (U7 st) (J5 st) .none kV RN pm an G5 ct) {us,[]}=pure r
theorem FA.b1{p:CK}(A:FA K x st f fd)(h:∀u,bA x st [u] [(p,u)]:=by exact λ_ _ _ _ _ _ _=>rfl):Binds K fd [p] []:=A.F.binds λ_ _ _ _ _ _ us hl=>by
 match us,hl with
 |[u],_=>exact h u _ _ _ _ _ _
theorem FA.b2{p:CK}(A:FA K x st f fd)(h:∀u v,bA x st [u,v] [(p,u),(q,v)]:=by exact λ_ _ _ _ _ _ _ _=>rfl):Binds K fd [p,q] []:=A.F.binds λ_ _ _ _ _ _ us hl=>by
 match us,hl with
 |[u,v],_=>exact h u v _ _ _ _ _ _
theorem FA.b3{p r:CK}(A:FA K x st f fd)(h:∀u v w,bA x st [u,v,w] [(p,u),(q,v),(r,w)]:=by exact λ_ _ _ _ _ _ _ _ _=>rfl):Binds K fd [p,q,r] []:=A.F.binds λ_ _ _ _ _ _ us hl=>by
 match us,hl with
 |[u,v,w],_=>exact h u v w _ _ _ _ _ _
end
theorem all_mk{l:QM}{K:AC}{fa f0 f1 f2 f3 f4 f5 f6 f7 f8 f9 f10 f11 f12 f13 f14 Ki Kh f17 f18 Kg:AQ}{d0 d1 d2 d3 d4 d5 d6 d7 d8 d9 d10 d11 d12 kH cT d17 d18:JN}(X:K.In h)(G:h.Ns BL mg)(hfa:mg "law"=AA (.ref fa))
  (x0:FA K "next_places" yD f0 d0)
  (x1:FA K "musts_held" xW f1 d1)
  (x2:FA K "_law_cell" Ds f2 d2)
  (x3:FA K "_law_well" Dr f3 d3)
  (x4:FA K "_law_take" Dq f4 d4)
  (x5:FA K "_law_reach" Dp f5 d5)
  (x6:FA K "_law_kinds" Do f6 d6)
  (x7:FA K "_law_only" Dj f7 d7)
  (x8:FA K "lanes_away" Dn f8 d8)
  (x9:FA K "_law_shuffled" Dv f9 d9)
  (Fx:FA K "reached_past" Dt f10 d10)
  (Fw:FA K "_law_net" Dl f11 d11)
  (Fv:FA K "reached" Da f12 d12)
  (Fu:FA K "cut_off" Cz f13 kH)
  (sQ:FA K "_law_is" Cy f14 cT)
  (l8:FA K "musts" wM f17 d17)
  (Ft:FA K "_law_told" Di f18 d18)
  {He Ku:Option AQ} {Gj:Array (Option AH)} {Hh Hr Kn Gp Kr Gv:AH}
  {nZ T15:AQ} {sU:Array AH} {Gz:Option AQ} {Gg:Array (Option AH)}
  (Kw:BW K BL "holders"=AA (AA (.ref Ki))) (Wr:K.lookup Ki=AA {Hh,He,.func (EX "holders" "holders" (bF oW) (U7 oW) (J5 oW) .none Hr Kn Gp Ku (.ref nZ) Kr),Gj}) (c15:HZ K (.ref nZ) "holders"=AL) (k15:EJ K (.ref Ki)=AL) (n15:K.lookup nZ=AA {Gv,Gz,.fields sU,Gg}) (r15:sU[11]?=AA (.ref T15))
  {Hd Kt:Option AQ} {Gi:Array (Option AH)} {Hg Hq Km Go Kq Gu:AH}
  {nY T16:AQ} {sT:Array AH} {Gy:Option AQ} {Gf:Array (Option AH)}
  (Kv:BW K BL "_law_table"=AA (AA (.ref Kh))) (Wq:K.lookup Kh=AA {Hg,Hd,.func (EX "_law_table" "_law_table" (bF pC) (U7 pC) (J5 pC) .none Hq Km Go Kt (.ref nY) Kq),Gi}) (c16:HZ K (.ref nY) "_law_table"=AL) (k16:EJ K (.ref Kh)=AL) (n16:K.lookup nY=AA {Gu,Gy,.fields sT,Gf}) (r16:sT[11]?=AA (.ref T16))
  {Hc vX:Option AQ} {Gh:Array (Option AH)} {Hf uC vP tP vR nX:AH}
  (a19:BW K BL "law"=AA (AA (.ref Kg))) (l19:K.lookup Kg=AA {Hf,Hc,.func (EX "law" "law" (bF fP) (U7 fP) (J5 fP) .none uC vP tP vX nX vR),Gh}) (c19:HZ K nX "law"=AL) (k19:EJ K (.ref Kg)=AL)
  {y0 y1 y2 y3 y4 y5 y6 y7 y8 y9 WA:AQ} (yW:BW K BL "WayError"=AA (AA (.ref WA))) (Vo:BW K BL "NotReached"=AA (AA (.ref y0))) (ya1:BW K BL "NoPaper"=AA (AA (.ref y1))) (ya2:BW K BL "TooMany"=AA (AA (.ref y2))) (ya3:BW K BL "NoSuch"=AA (AA (.ref y3))) (ya4:BW K BL "NoLane"=AA (AA (.ref y4))) (ya5:BW K BL "NoRound"=AA (AA (.ref y5))) (ya6:BW K BL "NoText"=AA (AA (.ref y6))) (ya7:BW K BL "NoRow"=AA (AA (.ref y7))) (ya8:BW K BL "NoPlace"=AA (AA (.ref y8))) (ya9:BW K BL "NothingLeft"=AA (AA (.ref y9)))
  (ye0:BP K (.ref y0) (.ref y0)=AA AL) (ye1:BP K (.ref y0) (.ref y1)=AA AD) (ye2:BP K (.ref y0) (.ref y2)=AA AD) (ye3:BP K (.ref y0) (.ref y3)=AA AD) (ye4:BP K (.ref y0) (.ref y4)=AA AD) (ye5:BP K (.ref y0) (.ref y5)=AA AD) (ye6:BP K (.ref y0) (.ref y6)=AA AD) (ye7:BP K (.ref y0) (.ref y7)=AA AD) (ye8:BP K (.ref y0) (.ref y8)=AA AD) (ye9:BP K (.ref y0) (.ref y9)=AA AD) (Fq:BP K (.ref y0) (.type "ValueError")=AA AL) (yx:NH K (.ref y0) (.ref WA)=AA AL) (yz:ExK K y0 [.type "ValueError",.type "Exception",.type "BaseException",.type "object"] "ValueError.__new__")
  (UH:BW K BL "ValueError"=AA AI) (sP:BW K BL "all"=AA AI) (l7:BW K BL "bool"=AA AI) (V2:BW K BL "enumerate"=AA AI) (UG:BW K BL "isinstance"=AA AI) (sO:BW K BL "len"=AA AI) (l6:BW K BL "list"=AA AI) (sN:BW K BL "min"=AA AI) (gO:BW K BL "range"=AA AI) (bP:BW K BL "sorted"=AA AI) (gM:BW K BL "tuple"=AA AI) (sM:BW K BL "zip"=AA AI) :
  ∃fd:JN,(∀(s:AT) (v:AH),SU s fd {[v],[]} [("script",v)])/\∀base:DZ,K.In base->base.Ns BL mg->CB K base->FnOk l.prog w K mg base LO 9 fa fd ["script"] (NO K 1 m_law):=by
 have e:=hfa.symm.trans (CV X G a19);cases e;have T:Bt mg:={DM X G UH,DM X G sP,DM X G l7,DM X G V2,DM X G UG,DM X G sO,DM X G l6,DM X G sN,DM X G gO,DM X G bP,DM X G gM,DM X G sM};have La:=wG (st:=oW) Wr c15 k15;have Kz:=wG (st:=pC) Wq c16 k16;have F19:=wG (st:=fP) l19 c19 k19;refine{EX "law" "law" (bF fP) (U7 fP) (J5 fP) .none uC vP tP vX nX vR,λs v=>.of_eq rfl,λbase _ _ cb=>?_};have sW:=tabIn_of Kw Wr rfl n15 r15;have sV:=tabIn_of Kv Wq rfl n16 r16;have q0:=x0.cal X G (zHG (P:=l.prog) (w:=w) (base:=base) x0.F T ) x0.b1;have q1:=x1.cal X G (zJO (P:=l.prog) (w:=w) (base:=base) x1.F T ) x1.b2;have MD:=pAO x1.F (zJP (P:=l.prog) (w:=w) (base:=base) x1.F T (CV X G Vo) yz.ex ) (CV X G x1.a) x1.b2;have q2:=x2.cal X G (zLM (P:=l.prog) (w:=w) (base:=base) x2.F T ) x2.b2;have q3:=x3.cal X G (zLN (P:=l.prog) (w:=w) (base:=base) x3.F T ) x3.b2;have q4:=x4.cal X G (zLO (P:=l.prog) (w:=w) (base:=base) x4.F T ) x4.b2;have q5:=x5.cal X G (zJQ (P:=l.prog) (w:=w) (base:=base) x5.F T ) x5.b3;have ts:TryS l.prog w K mg base y0 WA f6 [AL,AD,AD,AD,AD,AD,AD,AD,AD,AD,AL]:={ku x6.F T x6.b1 yz (CV X G Vo) ye0 (CV X G ya1) ye1 (CV X G ya2) ye2 (CV X G ya3) ye3 (CV X G ya4) ye4 (CV X G ya5) ye5 (CV X G ya6) ye6 (CV X G ya7) ye7 (CV X G ya8) ye8 (CV X G ya9) ye9 Fq,CV X G x6.a,x6.F.kp,CV X G yW,yx};have q7:=x7.cal X G (zLP (P:=l.prog) (w:=w) (base:=base) x7.F T ) x7.b1;have q8:=x8.cal X G (zJR (P:=l.prog) (w:=w) (base:=base) x8.F T q0) x8.b3;have q9:=x9.cal X G (zFV (P:=l.prog) (w:=w) (base:=base) x9.F T q4) x9.b2;have Wh:=Fx.cal X G (zG4 (P:=l.prog) (w:=w) (base:=base) Fx.F T q8) Fx.b3;have q11:=Fw.cal X G (zNA (P:=l.prog) (w:=w) (base:=base) Fw.F T q4 q9) Fw.b2;have Wg:=Fv.cal X G (zPE (P:=l.prog) (w:=w) (base:=base) Fv.F T Wh) Fv.b2;have q13:=Fu.cal X G (zPF (P:=l.prog) (w:=w) (base:=base) Fu.F T Wg Wh) Fu.b3;have q14:N3 l.prog w K mg base "_law_is" 5 2 (zAV 5):=sQ.cal X G (Re sQ.F T (CV X G sQ.a) sQ.b2  5) sQ.b2;have Wf:=Fun.cal La (zPG (P:=l.prog) (w:=w) (base:=base) La T rfl (cb "holders" (by decide +kernel) _ _ sW) {"holders",_,by decide +kernel,sW,rfl} q13 Wg) (CV X G Kw) (FA.b2 {Kw,La});have q16:=Fun.cal Kz (zJS (P:=l.prog) (w:=w) (base:=base) Kz T rfl (cb "_law_table" (by decide +kernel) _ _ sV) {"_law_table",_,by decide +kernel,sV,rfl} q5) (CV X G Kv) (FA.b2 {Kv,Kz});have q17:=l8.cal X G (zU1 (P:=l.prog) (w:=w) (base:=base) l8.F T q1 Wf) l8.b3;have UI:=pAO l8.F (zU2 (P:=l.prog) (w:=w) (base:=base) l8.F T MD q1 Wf) (CV X G l8.a) l8.b3;have q18:=Ft.cal X G (zLT (P:=l.prog) (w:=w) (base:=base) Ft.F T ts UI q17) Ft.b3;exact yC9 F19 T q11 q16 q2 q3 q18 q7 q14
end My
namespace PySem.W.Fast
theorem tw12821290971479317268:True:=trivial
theorem tw9000591240554380572:True:=trivial
theorem tw17616802688570656472:True:=trivial
theorem tw17564576740581581323:True:=trivial
theorem tw16061121444082013793:True:=trivial
theorem tw129830279762713144:True:=trivial
theorem tw6882544424041175744:True:=trivial
theorem tw12930943318192657046:True:=trivial
theorem tw3955006921621844048:True:=trivial
theorem tw13190678910811047103:True:=trivial
theorem tw14088938385815888582:True:=trivial
theorem tw625255895862825618:True:=trivial
theorem tw12958732027436918163:True:=trivial
theorem tw9534833663201828578:True:=trivial
theorem tw3924865617665041232:True:=trivial
theorem tw2374614745325786040:True:=trivial
theorem tw17568606352069048640:True:=trivial
theorem tw3122161196767817553:True:=trivial
theorem tw13315806760953865647:True:=trivial
theorem tw11501934622234843460:True:=trivial
theorem tw7362715513574186318:True:=trivial
theorem tw15085914405632474039:True:=trivial
theorem tw5221059094134460652:True:=trivial
theorem tw10184198027586044948:True:=trivial
theorem tw5691932399275177878:True:=trivial
theorem tw5750874671439992182:True:=trivial
theorem tw1904584789202855344:True:=trivial
theorem tw13856699508517968336:True:=trivial
theorem tw5618671730725026889:True:=trivial
theorem tw16165399851134365107:True:=trivial
theorem tw8648441665277183644:True:=trivial
theorem tw3998687355139777192:True:=trivial
theorem tw17225136193609273156:True:=trivial
theorem tw16472560234788543570:True:=trivial
theorem tw15484315553306546635:True:=trivial
theorem tw13040576997108807599:True:=trivial
theorem tw16112041299928607645:True:=trivial
theorem tw885575705488824369:True:=trivial
theorem tw16284932074306272504:True:=trivial
theorem tw1093176758276515805:True:=trivial
theorem tw1777556666895444331:True:=trivial
theorem tw13622830040480455171:True:=trivial
theorem tw4599721839059422:True:=trivial
theorem tw4266071245799306814:True:=trivial
theorem tw16052876342303837985:True:=trivial
theorem tw15674537224590916291:True:=trivial
theorem tw4434521107325124870:True:=trivial
theorem tw4111400592279209629:True:=trivial
theorem tw14305655264482796633:True:=trivial
theorem tw13943232225876786674:True:=trivial
theorem tw10209042996695122236:True:=trivial
theorem tw4544927006524690307:True:=trivial
theorem tw253600078179299379:True:=trivial
theorem tw3249324905929269085:True:=trivial
theorem tw15739138411019003529:True:=trivial
theorem tw3162137399050294295:True:=trivial
theorem tw17338017659489073108:True:=trivial
theorem tw3109937568596785815:True:=trivial
theorem tw1749815772500074138:True:=trivial
theorem tw16100188027772427293:True:=trivial
theorem tw14563471717816472731:True:=trivial
theorem tw347739015155799192:True:=trivial
theorem tw12043117625690695840:True:=trivial
theorem tw2999056429829726609:True:=trivial
theorem tw12418498293741034939:True:=trivial
theorem tw2660681621071428286:True:=trivial
theorem tw15327991694546895608:True:=trivial
theorem tw1065628276453099798:True:=trivial
theorem tw12334847907339724558:True:=trivial
theorem tw18405237760249868363:True:=trivial
theorem tw17416721262580182016:True:=trivial
theorem tw17048432282604015649:True:=trivial
theorem tw3884601821180396938:True:=trivial
end PySem.W.Fast
open PySem PySem.W PyProof.Rows
set_option maxRecDepth 100000 in
set_option maxHeartbeats 0 in
theorem PySem.Challenge.cw_waymusts_k05_musts_by_closing_holds : PySem.Challenge.rw_waymusts_k05_musts_by_closing.Holds := by
 w_on;o_law;k_head;(case hw=>w_witness2)
 k_fill
 refine L2.walk_v (l:=PySem.Challenge.rw_waymusts_k05_musts_by_closing) (m:=My.m_law) (lv:=9) rfl rfl {rfl,by decide,by decide,rfl} (λw h Y=>PySem.W.km_in_of Y) ?tK My.law_true ?F
 case tK =>
  intro w;refine' L2.tabs5 ?h1 ?h2 ?h3 ?h4 ?h5 ?ap
  (case h1=>refine' L2.TabE.tab (L2.tabIn_of ?a ?l ?e ?m ?r) ?o ?d;(case a=>k_is);(case l=>k_is);(case e=>exact rfl);(case m=>k_is);(case r=>exact rfl);(case o=>kernel_rfl);(case d=>exact rfl))
  (case h2=>refine' L2.TabE.tab (L2.tabIn_of ?a ?l ?e ?m ?r) ?o ?d;(case a=>k_is);(case l=>k_is);(case e=>exact rfl);(case m=>k_is);(case r=>exact rfl);(case o=>kernel_rfl);(case d=>exact rfl))
  (case h3=>refine' .no ?z;(case z=>k_is))
  (case h4=>refine' .no ?z;(case z=>k_is))
  (case h5=>refine' L2.TabE.tab (L2.tabIn_of ?a ?l ?e ?m ?r) ?o ?d;(case a=>k_is);(case l=>k_is);(case e=>exact rfl);(case m=>k_is);(case r=>exact rfl);(case o=>kernel_rfl);(case d=>exact rfl))
  (case ap=>decide)
 case F =>
  intro w mg fa h KX G uS;refine' My.all_mk KX G uS ?_ ?_ ?_ ?_ ?_ ?_ ?_ ?_ ?_ ?_ ?_ ?_ ?_ ?_ ?_ ?_ ?_ ?_ ?_ ?_ ?_ ?_ ?r15 ?_ ?_ ?_ ?_ ?_ ?r16 ?_ ?_ ?_ ?_ ?_ ?_ ?_ ?_ ?_ ?_ ?_ ?_ ?_ ?_ ?_ ?_ ?_ ?_ ?_ ?_ ?_ ?_ ?_ ?_ ?_ ?_ ?_ ?_ ?_ ?_ ?_ ?_ ?_ ?_ ?_ ?_ ?_ ?_ ?_ ?_
  any_goals (refine' My.fa ?a ?l ?c ?k;(case a=>k_is);(case l=>k_is);(case c=>k_is);(case k=>k_is))
  any_goals k_is
  (case r15=>exact rfl)
  (case r16=>exact rfl)
  any_goals kernel_rfl
  any_goals (refine' L2.ExK.mk ?a ?_ ?_ ?_ ?_ ?_ ?_ ?_;(case a=>k_exc);all_goals k_is)
