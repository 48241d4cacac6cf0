import PyProof.Rows.All
import Wide.All
import OpenK.AllK
import Wide.FinOn
import Lean
import PyProof.EqAt
import PyProof.EqKinds
import PyProof.TupleCall
import KE.KSortKey
import KE.KDflt
import PyProof.Rows.SortRuns
import PyProof.DictCompW
import KE.KLam
import PyProof.Rows.StrRev
import PyProof.WalksMore
import PyProof.ReprRoads
import PyProof.CallStr
import PyProof.AttrMissHeap
import KE.KDictOf
import KE.KTryMore
import OpenK.KOwn
import PyProof.RulesAs
import PyProof.RulesDel
import KE.KDictList
import PyProof.Rows.SeqMore2
import PyProof.FString
import PyProof.Rows.SetFrom
import PyProof.StrBlockL
import PyProof.StrWalks
import PyProof.Rows.StrJoin2
import KE.KIntText
import PyProof.StrBlockH
import KE.IntTextLaws
import PyProof.StrLawsIn
import PyProof.Rows.StrSplitAre
import PySem.Challenge.RW_waymusts_k23_texts_spoilt_anywhere
set_option autoImplicit false
set_option linter.all false
set_option Elab.async false
set_option maxRecDepth 100000
set_option maxHeartbeats 8000000
local macro_rules (kind:=«term{_}»)|`(«term{_}»|{$x,*})=>`(⟨$x,*⟩)
local macro_rules|`('l')=>`(by lia)
local macro_rules|`('d')=>`(by decide)
local macro_rules|`('s')=>`(by simp)
local macro_rules|`('o')=>`(by omega)
noncomputable section
open Option renaming some→AA,none→AH,map_eq_some_iff→DF,isSome_iff_exists→UF,isSome_some→Y5,isSome_map→aQ,getD_none→cF
open Bool renaming false→AB,true→AG,and_eq_true→BE,false_ne_true→BJ,true_and→DS,false_eq_true→EJ,false_and→J1,not_eq_true'→M0,false_or→P3,eq_false_iff→Q8,and_eq_true_iff→ZC,or_eq_true→jP,and_false→l0
open PySem.W renaming Frag→AC,nsIn→BH,kitOne→BN,mg_of→BR,mg_none_of→CQ,hideAll→CS,kia_one→C7,tabIn→D9,keepIn→FH,fnOf→FW,excIn→GL,hideAll_get→K4,of_hideAll→LN,findIn→LO,codeIn→LP,callWith_K→LQ,kitx_dict→MF,cellsFrom_some→NH,tabObj→OC,exmOne→OD,methodObj→PY,kitx_list→PZ,instObj→RJ,OpenLaw→RK,KatTups→RL,lookIn→SN,mroIn→T0,hideAll_none→WO,kitx_tuple→X8,codeRec_of→X9,specialIn→Y3,plainGet→aO,kat_cons→aP,takesIn→cC,kat_yes→cD,kat_no→eU,kat_go→eV,CodeHd→eW,WalkO→gK
open PySem renaming wpAny_bind→AD,starEach→AF,Value→AI,Shared→AN,Addr→AQ,model→A3,wpAny→A4,mainGlobals→BC,Str→BL,Program→CF,wpAny_mono→CJ,compareOp→CO,foldedSetIterable→CW,behindInMarks→CY,backTo→CZ,Expr→C5,wpAny_newObj_type→DH,Around→DI,World→DJ,wpAny_field→DL,wpAny_callSpecial?_slot→DM,wpAny_holding→DP,wpAny_call_entry→DX,Heap→D0,Stmt→D5,Spec→EI,wpAny_truthy_bool→EY,Builtin→FJ,wpAny_setField_rec→FQ,bootBuiltins→GA,PyData→GB,wpAny_rule→GK,letOwnedTupleGo→G0,sliceBounds→G2,cLine→G3,assignEach→G7,wpAny_seqItems→HF,swapsWith→HG,binaryOp→HH,wpAny_typeNameOfWhole_keyiter→HM,sysModules→HP,wpAny_passesOwn→HV,wpAny_execs_nil→HW,codeAny→IC,mem_of_lookup→II,Obj→IL,keywordEach→IR,wpAny_typeNameOf_keyiter→JQ,wpAny_comprehension_free→JR,wpAny_attempt→JS,FuncData→JT,wpAny_pyIter_tuple→J2,rawInt→J3,builtinsNs→J4,wpAny_getItem_str_slice→KA,DictEntry→KB,wpAny_setField→KY,compEnvC→KZ,codeAny_compStart_list→K0,wpAny_execs_cons→LL,assign→LM,wpAny_standAt→LW,standAt→LX,holding→MU,Keyword→MZ,wpAny_Call_Name_kw→NE,pyNext→NF,backToKw→NG,IsPair→NJ,wpAny_dictEntries→N0,wpAny_onRaise→OA,attributeBase→OB,noteFrame→OS,typeIs_str→O2,codeAny_mono→O4,call_meets→O5,post_val_or_str→O9,wpAny_isOneOf_keyiter→PX,wpAny_updateSeq_pair→QM,wpAny_fieldsOf→QN,sizeLine_eq→QO,pyIter→QP,newFunctionEnv→QR,firstArgMember→QS,IsPart→QV,tupleKind→Q4,getItem→Q5,cellsFrom→Q6,callerA→Q7,Scope→RV,tupleKind_room_in1→SK,Sem→SM,Env→TD,wpAny_Assign_Name→TU,valueAt→TV,step→TW,slot_list_getitem→TX,relabel→TY,concat_meets→TZ,NameKind→T1,BindsTo→T4,wpAny_eqBool_int→U7,noFill_tuple_add→U8,isTrue→U9,wpAny_letGo→VZ,seqIndex_of→V0,wpAny_dictEpoch→WN,wpAny_newTuple→XZ,wpAny_newFunctionEnv_cells→X1,wpAny_call→X2,compTurn→X3,atKey→X4,again→X5,ReadsAll→X7,Pos→Y4,wpAny_getItem_list_slice→aC,swapsWithSole→aD,swappedStores→aE,seq_tuple_add→aG,eval_ListComp→aJ,evalPart_none→aK,call→aN,slicePick→bW,lastMarks→bY,field→bZ,bindL→b7,bindC→b8,Tok→b9,Reads→cA,isCodeTable→cB,PassesOwn→cE,wpAny_typeOf→eO,richCompare_meets_room→eR,notedBy→eS,codeAny_call_function→gJ,wpAny_throw→jC,wpAny_pyIter_keyiter→jD,wpAny_of_eq→jE,setField→jG,compPost→jJ,codeAny_call_builtin→jK,callWith→jL,length_partsBetween→lQ,Builtin→lT
open Array renaming getElem_mem→AE,getElem?_eq_some_iff→BQ,getElem?_toList→DD,perm_iff_toList_perm→D3,size_push→EF,toList_push→EO,toList_append→ES,mem_toList_iff→FO,size_append→GO,mem_push→G4,toList_extract→HY,size_extract→JA,length_toList→LI,all_eq_true→MO,size_setIfInBounds→M1,toList_reverse→OU,toList_setIfInBounds→T5,eraseIdxIfInBounds→VF,mem_of_getElem?→W7,forIn_toList→aW,append_empty→aX
open PySem.Heap renaming get?_push_of_some→AJ,get?_push_size→AW,lt_size→BB,size_push→EC,SameBut→FI,get?_update_other→J0,get?_update_self→KM,get?_update_ne→aV,size_update→gU,hide_self→lY
open List renaming length_map→AK,mem_cons_of_mem→AS,mem_cons_self→AU,getElem?_eq_some_iff→AX,length_cons→A0,map_cons→A1,size_toArray→A5,getElem?_set_ne→A7,mem_cons→A9,getElem?_map→BA,getElem?_set_self→BF,length_append→BI,getElem?_eq_getElem→BU,mem_singleton→BW,getElem?_append_right→BY,mem_map→BZ,getElem?_append_left→B9,length_set→CC,mem_append_right→CI,map_map→CT,length_replicate→CV,replicate→DA,append_assoc→DG,getElem?_replicate→DZ,range→D4,not_mem_nil→D6,length_singleton→EB,append_nil→EH,all_eq_true→EK,filterMap_cons→EU,mem_filterMap→FF,flatMap_cons→FU,any_cons→FZ,getElem_mem→F7,getD_eq_getElem?_getD→F9,pairwise_iff_getElem→GF,mem_append→GN,take_succ_eq_append_getElem→GQ,reverse_cons→GR,zip_cons_cons→HD,length_nil→HJ,lookup_cons→IE,length_take→IF,drop_eq_getElem_cons→IK,of_mem_zip→IX,find?_cons→IZ,take_of_length_le→JW,pairwise_map→JX,mem_range→JY,length_range→JZ,singleton_append→KJ,all_cons→K1,mem_of_getElem?→K5,mem_iff_getElem→K6,nodup_cons→LC,nil_append→LD,mem_filter→LF,map_append→LG,map_nil→LZ,forIn_nil→MG,any_eq_false→MX,all_eq_false→MY,length_drop→NO,cons_ne_nil→NP,cons_append→NQ,forIn_cons→OE,getElem?_toArray→OJ,drop_zero→OY,map_congr_left→PC,filterMap_map→P7,zipIdx_cons→RY,length→SO,foldl_cons→S8,nodup_nil→UG,getElem?_zip_eq_some→VC,getElem?_take_of_lt→V3,pairwise_singleton→WP,pairwise_mergeSort→WQ,getElem?_cons_succ→WR,filter_eq_nil_iff→W5,drop_eq_nil_of_le→W6,perm_append_comm→YA,getElem?_eq_none→YB,pairwise_append→Y6,mem_of_mem_take→Y7,mem_of_mem_drop→Y8,mem_append_left→Y9,getLast?_concat→ZA,reverse_append→aR,mergeSort_perm→aS,length_reverse→aT,drop_succ_cons→aU,zip_nil_right→cG,zip_nil_left→fA,take_sublist→fB,reverse_nil→gP,perm_middle→gQ,isEmpty_map→gR,filter_cons→gS,any_eq_true→gT,zipIdx_nil→jO
open Nat renaming lt_of_le_of_lt→AL,lt_of_lt_of_le→AM,le_refl→AO,le_trans→AV,le_add_right→AY,add_lt_add_left→A2,zero_le→B0,le_of_eq→CD,ne_of_lt→CH,le_add_left→CK,le_of_lt→CM,lt_trans→CU,sub_le→C6,lt_succ_self→C9,lt_or_eq_of_le→DC,add_le_add→ED,le_of_not_lt→EL,lt_irrefl→FN,lt_of_succ_le→FV,lt_of_le_of_ne→GC,ne_of_gt→GW,le_of_lt_succ→HU,zero_add→IJ,le_succ→JL,lt_succ_of_lt→J6,succ_le_of_lt→M4,le_max_right→NU,add_sub_cancel_left→NV,not_lt→QT,lt_succ_of_le→RM,lt_trichotomy→gO,lt_of_not_le→jN,min_le_left→lV,le_max_left→lW
open PyProof.Rows renaming arrOf→AT,Keyed→A6,wpS_pure→A8,wpS_bind→BG,SortSt→BM,pendingOf→DB,slot_tuple_getitem→DT,IntsAre→EA,envOfC→ET,SortKind→EZ,wpS_forRange→FT,callWith_type1→G8,pairsOf→HQ,wpS_mono→JP,AllBare→M2,wpS_modify→ND,wpS_get→NZ,wpS→N9,mirror→O3,wpS_lift→QL,pairsOf_toList→QQ,IsTup→QU,seqObj→SL,subscriptTail→aF,listUpdate_at→aI,numOf→bX,subscriptTail_builtinR→eQ,tail_any→jF,seqEpoch_at→jH,failedOf→jI,entry_tuple_getitem→lR
open PySem.Txt renaming split→AZ,contains→FM,slice→HN,join→J5,slice_le→RH
open Or renaming inl→BO,inr→EG
open Option.some renaming inj→BV
open PySem.Builtin.SmallTypes renaming nextOf→CA,ownedTupleIsFree→FD,ownedTupleHandOut→MH
open Sum renaming inl→DK,inr→RI
open PySem.Value renaming ref→DN,none→D2,bool→HX,int→IA,str→LY,builtin→PB,notImplemented→X6,type→aM,isStrOf→lS
open PySem.PyData renaming eqv→DO,canLayAll0→FR,canLay0→HS,depth→LB,depthAll→RX,showable→eX
open PySem.F renaming excBase_ValueError→FY,slot_str_split→JF,args_tuple_add_2→MK,args_str_split_2→ML,entry_tuple_add→MV,entry_str_split→MW,slot_tuple_add→NI,plainAttrs_list→UE,plainAttrs_str→VB
open False renaming elim→F8
open PySem.Str renaming ofString→GV
open Int renaming le_refl→HE,lt_of_le_of_lt→JH,emod_lt_of_pos→JI,emod_nonneg→LS,toNat_natCast→M5,le_trans→OG,le_total→YC,le_of_lt→YD,toNat_of_nonneg→cH,natCast_nonneg→fC,le_antisymm→lX
open PySem.Obj renaming data_mapFields→HI,mapSeq→IB,isFreed_of_fields→OT,mapFields→P6,cls_mapFields→gM
open PySem.Builtin.Slice renaming slicePlaces→HK,sliceAdjust→K2,sliceApplied→P2
open List.Perm renaming refl→HL,swap→I0,append_left→JM,trans→KL,eq_of_pairwise→SQ,append_right→T2
open PySem.Builtin.Tuple renaming tupleExact→HR,tupleCompareSizes→OK,tupleItemsOf→P0,tupleIsExact→P1
open PySem.PassesOwn renaming never→ID
open True renaming intro→JB
open Ne renaming symm→JG
open PySem.Heap.SameBut renaming update→J7
open PySem.Builtin.List renaming listTooLong→LH
open PyProof.Rows.IntsAre renaming int_at→LR
open Decidable renaming not_not→L6
open PySem.Builtin.Dict_items renaming ownsTuple→N1
open List.Pairwise renaming nil→OF
open Array.Perm renaming refl→P8
open ForInStep renaming yield→QW
open PySem.W.KatTups renaming nil→RW
open PyProof.Rows.SortSt renaming mk'→S7
open PySem.Heap.IsSliceOf renaming new→TC
open PySem.AutoSeq1 renaming sub_tuple_tuple→TF
open PySem.Calls renaming Name_function_global→T3,call_function_entry→UH,evalArgs_plain→YE
open PySem.StrLaws renaming partsBetween_eq→UD,occ_length_le→V1,glued_eq_join→V2
open PySem.Builtin.Str renaming strSub→VD,glued→V4
open PySem.Data renaming cell→WS,fields→ZB,seq→lZ
open And renaming intro→W8
open PySem.SeqAt renaming eqAt_reads→eT,eqv_refl→jM
open PySem.NameKind renaming free→eY,cell→eZ
open Prod renaming ext→lU
open PySem
variable{κ α:Type}{a it dx C f:AQ}{h h' h1 base:D0}{items:Array AI}{P prog:CF}{w:DJ}{pins:List (AQ×IL)}{s s':AN}{t' i j k n:Nat}{ch fp:List AQ}{N ps:List BL}{x name qual:BL}{M:Model}{A:DI}{E Q:AI->AN->Prop}{u cd pm ct oc:AI}{e c tg JV:C5}{pos NB p V9 RG Z1:Y4}{es:List C5}{N8:List D5}{op bO:CmpOp}{CP us:List AI}{mA mg:BL->Option AI}{fd:JT}{sc scope:RV}{outer:List TD}{dH:Arguments}{an od:Option AQ}
namespace L2
open PySem PySem.Spec PyProof.Rows
abbrev Key:=Sum Int BL
noncomputable def mE:Key->AI->Bool
 |.inl k,v=>Value.isInt k v
 |.inr x,v=>lS x v
def yKC(w:DJ):Key->Int
 |.inl k=>hashInt k
 |.inr x=>hashStr w x
theorem cV:∀{k:Key} {v:AI},mE k v=AG->(∃i t,k=DK i/\v=IA i t)\/(∃x t,k=RI x/\v=LY x t)
 |.inl i,v,h=>by
  obtain⟨t,e⟩:=Value.isInt_shape (k:=i) (v:=v) h;exact .inl {i,t,rfl,e}
 |.inr x,v,h=>by
  obtain⟨t,e⟩:=Value.isStrOf_shape (x:=x) (v:=v) h;exact .inr {x,t,rfl,e}
theorem zS0(i:Int)(t:b9):mE (.inl i) (.int i t)=AG:=by simp[mE,Value.isInt]
theorem zS1(x:BL)(t:b9):mE (.inr x) (.str x t)=AG:=by simp[mE,lS]
theorem yD3(a b:Int):decide ((DK a:Key)=DK b)=(a==b):=by
 by_cases e:a=b
 .subst e;simp
 .have h:¬(DK a:Key)=DK b:=λq=>e (Sum.inl.inj q)
  rw[decide_eq_false h];exact(beq_eq_false_iff_ne.mpr e).symm
theorem yD4(a b:BL):decide ((RI a:Key)=RI b)=decide (a=b):=by
 by_cases e:a=b
 .subst e;simp
 .have h:¬(RI a:Key)=RI b:=λq=>e (Sum.inr.inj q)
  rw[decide_eq_false h,decide_eq_false e]
theorem yD5(a:Int)(b:BL):decide ((DK a:Key)=RI b)=AB:=decide_eq_false (λq=>nomatch q)
theorem yD6(a:BL)(b:Int):decide ((RI a:Key)=DK b)=AB:=decide_eq_false (λq=>nomatch q)
def V7(prog:CF)(w:DJ):PySem.KeyKind prog w Key where
 is:=mE
 hash:=yKC w
 inj:=λv a b ha hb=>by
  rcases cV ha with⟨i,t,rfl,rfl⟩|⟨x,t,rfl,rfl⟩
  .rcases cV hb with⟨j,u,rfl,e⟩|⟨y,u,rfl,e⟩
   .injection e with e1 _;rw[e1]
   .exact nomatch e
  .rcases cV hb with⟨j,u,rfl,e⟩|⟨y,u,rfl,e⟩
   .exact nomatch e
   .injection e with e1 _;rw[e1]
 byValue:=λk v h=>by
  rcases cV h with⟨i,t,rfl,rfl⟩|⟨x,t,rfl,rfl⟩<;>rfl
 pyHash:=λhv h=>by
  rcases cV hv with⟨i,t,rfl,rfl⟩|⟨x,t,rfl,rfl⟩
  .exact wpAny_pyHash_int h
  .exact wpAny_pyHash_str h
 eqBool:=λhu hv h=>by
  rcases cV hu with⟨i,t,rfl,rfl⟩|⟨x,t,rfl,rfl⟩
  .rcases cV hv with⟨j,u,rfl,rfl⟩|⟨y,u,rfl,rfl⟩
   .rw[yD3] at h;exact U7 h
   .rw[yD5] at h;exact SeqAt.EqAt.int_str i t y u _ _ _ _ h
  .rcases cV hv with⟨j,u,rfl,rfl⟩|⟨y,u,rfl,rfl⟩
   .rw[yD6] at h;exact SeqAt.EqAt.str_int x t j u _ _ _ _ h
   .rw[yD4] at h;exact wpAny_eqBool_str h
 «strs»:=λk x t v h=>by
  rcases cV h with⟨i,u,rfl,e⟩|⟨y,u,rfl,e⟩
  .exact nomatch e
  .injection e with e1 _
   subst e1;cases v<;>rfl
theorem Th(prog:CF)(w:DJ)(k:Key)(v:AI):(V7 prog w).is k v=mE k v:=rfl
theorem zO0(prog:CF)(w:DJ)(i:Int)(t:b9):(V7 prog w).is (.inl i) (.int i t)=AG:=zS0 i t
theorem zO1(prog:CF)(w:DJ)(x:BL)(t:b9):(V7 prog w).is (.inr x) (.str x t)=AG:=zS1 x t
inductive V where
 |non|bl (b:Bool)|int (i:Int)|str (x:BL)|byt (b:Array UInt8)|flt (b:UInt64)|ref (a:AQ)|ty (n:String)
 deriving DecidableEq
def RelV:V->AI->Prop
 |.non,u=>u=D2
 |.bl b,u=>u=HX b
 |.int i,u=>∃t,u=IA i t
 |.str x,u=>∃t,u=LY x t
 |.byt b,u=>∃t,u=Value.bytes b t
 |.flt b,u=>∃t,u=Value.float b t
 |.ref a,u=>u=DN a
 |.ty n,u=>u=aM n
abbrev Vals:List V->List AI->Prop:=Paired RelV
theorem Vals.length{xs:List V}{us:List AI}(r:Vals xs us):xs.length=us.length:=Paired.length r
theorem Vals.get:∀{xs:List V} {us:List AI} {i:Nat} {x:V},Vals xs us->xs[i]?=AA x->∃u,us[i]?=AA u/\RelV x u
 |_,_,_,_,.nil,e=>by simp at e
 |_,_,0,_,.cons r _,e=>by simp at e;subst e;exact{_,rfl,r}
 |_,_,i+1,x,.cons _ t,e=>by
  obtain⟨u,h1,h2⟩:=Vals.get (i:=i) (x:=x) t (by simpa using e);exact{u,by simpa using h1,h2}
theorem Vals.set{x:V}{u:AI}(r:RelV x u):∀{xs:List V} {us:List AI} (i:Nat),Vals xs us->Vals (xs.set i x) (us.set i u)
 |_,_,_,.nil=>.nil
 |_,_,0,.cons _ t=>.cons r t
 |_,_,i+1,.cons q t=>.cons q (Vals.set r i t)
theorem Vals.append:∀{xs ys:List V} {us ws:List AI},Vals xs us->Vals ys ws->Vals (xs++ys) (us++ws)
 |_,_,_,_,.nil,s=>s
 |_,_,_,_,.cons r t,s=>.cons r (Vals.append t s)
theorem Vals.take:∀{xs:List V} {us:List AI} (n:Nat),Vals xs us->Vals (xs.take n) (us.take n)
 |_,_,0,_=>.nil
 |_,_,_+1,.nil=>.nil
 |_,_,n+1,.cons r t=>.cons r (Vals.take n t)
theorem Vals.drop:∀{xs:List V} {us:List AI} (n:Nat),Vals xs us->Vals (xs.drop n) (us.drop n)
 |_,_,0,r=>r
 |_,_,_+1,.nil=>.nil
 |_,_,n+1,.cons _ t=>Vals.drop n t
def RelO:Option V->Option AI->Prop
 |some v,AA u=>RelV v u
 |none,AH=>True
 |_,_=>False
def KV:List (κ×V)->List (κ×AI)->Prop:=Paired λ(p:κ×V) (q:κ×AI)=>p.1=q.1/\RelV p.2 q.2
def kV:Key->V
 |.inl i=>.int i
 |.inr x=>.str x
inductive HO where
 |lst (xs:List V)
 |tup (xs:List V)
 |dK (kvs:List (Key×V))|dT (kvs:List (List Key×V))
 |set (S:Int->Bool) (n:Nat)
 |ins (C dx:AQ) (fs:List (BL×V))
 |own (x:AQ)
 |xd (fs:List (BL×V))
 |met (f x:AQ)
 |rng (lo hi:Int)
 |frz (o:IL) (u:HO)
 |tbl (q:BL) (ps:Array AI)
 |ext (φ:D0->Prop)
abbrev Hp:=AQ->Option HO
def EV(H:Hp)(a:AQ)(o:HO):Hp:=λb=>if b=a then AA o else H b
variable{H:Hp}{o:HO}
theorem JU:EV H a o a=AA o:=by unfold EV;rw[if_pos rfl]
theorem GP{b:AQ}(h:b≠a):EV H a o b=H b:=by unfold EV;rw[if_neg h]
theorem yHP{b:AQ}{u:HO}(h:H a=AA o)(h':H b=AA u)(d:o≠u):a≠b:=by
 intro e;subst e;rw[h] at h';exact d (BV h')
theorem fV{b:AQ}(h:H a=AA o)(h':H b=AH):a≠b:=by
 intro e;subst e;rw[h] at h';cases h'
def IsTupP(h:D0)(a:AQ)(items:Array AI):Prop:=∃o,h.get? a=AA o/\o.cls=.type "tuple"/\o.dict=AH/\∃n,o.data=.seq items n
theorem IsTupP.isTup(p:IsTupP h a items):QU h a items:=let ⟨o,e,c,_,n⟩:=p;{o,e,c,n}
theorem IsTupP.new(h:D0)(items:Array AI):IsTupP (h.push { cls:=.type "tuple",data:=.seq items }) h.objs.size items:={_,AW _ rfl,rfl,rfl,_,rfl}
section
variable(P:CF)(w:DJ)
def ObjOk(H:Hp)(h:D0)(a:AQ):HO->Prop
 |.lst xs=>xs.length<=sizeLine/\∃(CP:List AI) (n:Nat),Vals xs CP/\h.get? a=AA { cls:=.type "list",data:=.seq CP.toArray n }
 |.tup xs=>xs.length<=sizeLine/\∃CP:List AI,Vals xs CP/\IsTupP h a CP.toArray
 |.dK kvs=>kvs.length<=sizeLine/\(a==HP)=AB/\∃vs,KV kvs vs/\h.DictOf (V7 P w) a vs
 |.dT kvs=>kvs.length<=sizeLine/\(a==HP)=AB/\∃xs:List (List Key×AQ×AI),
   Paired (λ(p:List Key×V) (q:List Key×AQ×AI)=>p.1=q.1/\H q.2.1=AA (.tup (p.1.map kV))/\RelV p.2 q.2.2) kvs xs /\
   ∃o es ep,h.get? a=AA o/\o.ExactDict/\o.data=.dict es ep/\es.toList=xs.map (entryOfKey (Q4 (V7 P w)))/\(xs.map (·.1)).Nodup
 |.set S n=>h.SetOf (intKind P w) a S n
 |.ins C dx fs=>H dx=AA (.own a)/\fs.length<=1000/\dx≠a/\h.get? a=AA (RJ C dx) /\
   ∃mA,h.Ns1 dx mA/\(∀f,RelO (fs.lookup f) (mA f))/\PySem.Within mA (fs.map (·.1))
 |.own _=>∃o,h.get? a=AA o
 |.xd fs=>∃mA,h.Ns1 a mA/\∀f,RelO (fs.lookup f) (mA f)
 |.rng lo hi=>∃t u v,h.get? a=AA { cls:=.type "range",data:=.fields #[.int lo t,.int hi u,.int 1 v] }
 |.frz o u=>h.get? a=AA o/\ObjOk H h a u
 |.tbl q ps=>h.get? a=AA { cls:=.none,data:=.fields ps }/\TriplesOk ps.toList/\∀pos cv,codeAmong pos ps.toList=AA cv->∃c' o vs t,cv=.ref c'/\H c'=AA (.frz o (.own c'))/\o.data=.fields vs/\vs[1]?=AA (.str q t)
 |.met f x=>h.get? a=AA (PY (.ref f) (.ref x))
 |.ext φ=>φ h/\(∃o,h.get? a=AA o)/\∀h1 h2:D0,φ h1->(∀o,h1.get? a=AA o->h2.get? a=AA o)->φ h2
def HOk(H:Hp)(h:D0):Prop:=∀a o,H a=AA o->ObjOk P w H h a o
end
variable{H':Hp}
theorem ObjOk.lt(x:ObjOk P w H h a o):a<h.objs.size:=by
 cases o with
 |lst xs=>obtain⟨_,_,_,_,e⟩:=x;exact BB e
 |tup xs=>obtain⟨_,_,_,p⟩:=x;exact p.isTup.lt
 |dK kvs=>obtain⟨_,_,_,_,o,_,_,e,_⟩:=x;exact BB e
 |dT kvs=>obtain⟨_,_,_,_,o,_,_,e,_⟩:=x;exact BB e
 |set S n=>obtain⟨o,_,_,_,e,_⟩:=x;exact BB e
 |ins C dx fs=>obtain⟨_,_,_,e,_⟩:=x;exact BB e
 |own y=>obtain⟨_,e⟩:=x;exact BB e
 |xd fs=>obtain⟨_,⟨_,_,_,e,_⟩,_⟩:=x;exact BB e
 |rng lo hi=>obtain⟨_,_,_,e⟩:=x;exact BB e
 |frz ob u=>obtain⟨e,_⟩:=x;exact BB e
 |tbl q ps=>exact BB x.1
 |met f y=>exact BB (show h.get? a=AA _ from x)
 |ext φ=>obtain⟨_,⟨_,e⟩,_⟩:=x;exact BB e
theorem pA0{α β:Type}{F G:α->β->Prop}:∀{wB:List α} {wA:List β},Paired F wB wA->(∀a b,F a b->G a b)->Paired G wB wA
 |_,_,.nil,_=>.nil
 |_,_,.cons r t,f=>.cons (f _ _ r) (pA0 t f)
theorem ObjOk.stay(x:ObjOk P w H h a o)(k:∀b u,(b=a\/H b=AA (.own a))->h.get? b=AA u->h'.get? b=AA u)
  (ho:∀b,H b=AA (.own a)->H' b=AA (.own a)) (ht:∀b xs,H b=AA (.tup xs)->H' b=AA (.tup xs)) (hf:∀b o x,H b=AA (.frz o (.own x))->H' b=AA (.frz o (.own x))):ObjOk P w H' h' a o:=by
 induction o with
 |lst xs=>obtain⟨z,CP,n,r,e⟩:=x;exact{z,CP,n,r,k _ _ (.inl rfl) e}
 |tup xs=>obtain⟨z,CP,r,ob,e,c⟩:=x;exact{z,CP,r,ob,k _ _ (.inl rfl) e,c}
 |dK kvs=>obtain⟨z,y,vs,r,ob,es,ep,e,c⟩:=x;exact{z,y,vs,r,ob,es,ep,k _ _ (.inl rfl) e,c}
 |dT kvs =>
  obtain⟨z,y,xs,r,ob,es,ep,e,c⟩:=x;exact{z,y,xs,pA0 r λp q z=>{z.1,ht _ _ z.2.1,z.2.2},ob,es,ep,k _ _ (.inl rfl) e,c}
 |set S n=>obtain⟨ob,es,ep,t,e,c⟩:=x;exact{ob,es,ep,t,k _ _ (.inl rfl) e,c}
 |ins C dx fs =>
  obtain⟨d,z,ne,e,mA,⟨od,es,ep,e2,c⟩,r⟩:=x;exact{ho _ d,z,ne,k _ _ (.inl rfl) e,mA,{od,es,ep,k _ _ (.inr d) e2,c},r}
 |own y=>obtain⟨ob,e⟩:=x;exact{ob,k _ _ (.inl rfl) e}
 |xd fs=>obtain⟨mA,⟨od,es,ep,e,c⟩,r⟩:=x;exact{mA,{od,es,ep,k _ _ (.inl rfl) e,c},r}
 |rng lo hi=>obtain⟨t,u,v,e⟩:=x;exact{t,u,v,k _ _ (.inl rfl) e}
 |frz ob u ih=>obtain⟨e,q⟩:=x;exact{k _ _ (.inl rfl) e,ih q}
 |tbl q ps =>
  obtain⟨e,tr,al⟩:=x;refine{k a _ (.inl rfl) e,tr,λpos cv z=>?_};obtain⟨c',o,vs,t,r1,r2,r3⟩:=al pos cv z;exact{c',o,vs,t,r1,hf _ _ _ r2,r3}
 |met f y =>
  have e:h.get? a=AA (PY (.ref f) (.ref y)):=x;show h'.get? a=AA (PY (.ref f) (.ref y));exact k a _ (.inl rfl) e
 |ext φ=>obtain⟨p,⟨o,e⟩,st⟩:=x;exact{st _ _ p λo q=>k _ _ (.inl rfl) q,{o,k _ _ (.inl rfl) e},st}
theorem HOk.lt(x:HOk P w H h)(e:H a=AA o):a<h.objs.size:=(x a o e).lt
theorem HOk.fresh(x:HOk P w H h)(e:h.objs.size<=a):H a=AH:=by
 cases q:H a with
 |none=>rfl
 |some u=>exact absurd (AM (x.lt q) e) (FN _)
theorem HOk.kept(x:HOk P w H h)(k:∀b u,h.get? b=AA u->h'.get? b=AA u):HOk P w H h':=λa o e =>
 (x a o e).stay (λb u _ q=>k b u q) (λ_ q=>q) (λ_ _ q=>q) λ_ _ _ q=>q
theorem HOk.laid(x:HOk P w H h)(k:∀b u,h.get? b=AA u->h'.get? b=AA u)(hp:h.objs.size<=a)(new:ObjOk P w (EV H a o) h' a o):HOk P w (EV H a o) h':=λb u e=>by
 have hn:=x.fresh hp
 by_cases hb:b=a
 .subst hb;rw[JU] at e;cases e;exact new
 .rw[GP hb] at e
  exact(x b u e).stay (λc v _ q=>k c v q) (λc q=>by rw[GP (fV q hn)];exact q) (λc xs q=>by rw[GP (fV q hn)];exact q) λc o x q=>by rw[GP (fV q hn)];exact q
def Rd(H:Hp)(a:AQ)(u:HO):Prop:=H a=AA u\/∃o,H a=AA (.frz o u)
theorem Rd.ok{u:HO}(r:Rd H a u)(x:HOk P w H h):ObjOk P w H h a u:=by
 rcases r with r|⟨o,r⟩
 .exact x a u r
 .obtain⟨_,q⟩:=x a _ r
  exact q
def uT:Option HO->Prop
 |some (.lst _)=>True
 |some (.dK _)=>True
 |some (.dT _)=>True
 |some (.set _ _)=>True
 |some (.ins _ _ _)=>True
 |some (.ext _)=>True
 |_=>False
section
variable{x e:AQ}{o':HO}
theorem HOk.write(ok:HOk P w H h)(mu:uT (H x))(he:e=x\/H e=AA (.own x))(k:∀b u,b≠e->h.get? b=AA u->h'.get? b=AA u)(rV:∃u,h'.get? e=AA u)
  (new:ObjOk P w (EV H x o') h' x o'):HOk P w (EV H x o') h':=λb u q=>by
 have vU:∀c y,H c=AA (.own y)->c≠x:=λc y r z=>by subst z;rw[r] at mu;exact mu
 have Jr:∀c xs,H c=AA (.tup xs)->c≠x:=λc xs r z=>by subst z;rw[r] at mu;exact mu
 have Js:∀c o y,H c=AA (.frz o (.own y))->c≠x:=λc o y r z=>by subst z;rw[r] at mu;exact mu
 by_cases hb:b=x
 .subst hb;rw[JU] at q;cases q;exact new
 .rw[GP hb] at q
  by_cases pB:b=e
  .have q':H b=AA (.own x):=by
    rcases he with z|z
    .exact absurd (pB.trans z) hb
    .rw[pB];exact z
   rw[q] at q';cases q';obtain⟨v,hv⟩:=rV;exact{v,by rw[pB];exact hv}
  .refine(ok b u q).stay (λc v hc r=>k c v ?_ r) (λc r=>by rw[GP (vU c b r)];exact r) (λc xs r=>by rw[GP (Jr c xs r)];exact r) λc o y r=>by rw[GP (Js c o y r)];exact r
   rcases hc with rfl|hc
   .exact pB
   .rintro rfl
    rcases he with z|z
    .exact vU c b hc z
    .rw[hc] at z;cases z;exact hb rfl
end
structure Un(fs ex:List AQ)(H H':Hp)(h h':D0):Prop where
 keep:∀b o,h.get? b=AA o->H b=AH->b∉fs->b∉ex->h'.get? b=AA o
 slot:∀b o,h.get? b=AA o->H b=AH->b∈fs->b∉ex->∃sl,h'.get? b=AA { o with slots:=sl }
 free:∀b o,h.get? b=AA o->H b=AH->b∉ex->H' b=AH
 there:∀b o,h.get? b=AA o->b∉ex->∃o',h'.get? b=AA o'
 tups:∀b xs,H b=AA (.tup xs)->H' b=AA (.tup xs)
 frzs:∀b o u,H b=AA (.frz o u)->H' b=AA (.frz o u)
 tbls:∀b t ps,H b=AA (.tbl t ps)->∃more,H' b=AA (.tbl t (ps++more))
variable{H1 H2:Hp}
section
variable{fs fs' ex ex':List AQ}{h2:D0}{x e:AQ}
theorem Un.any(u:Un fs ex H H1 h h1){b:AQ}{ob:IL}(q:h.get? b=AA ob)(n:H b=AH)(hx:b∉ex):∃sl,h1.get? b=AA { ob with slots:=sl }:=by
 by_cases hb:b∈fs
 .exact u.slot b ob q n hb hx
 .exact{ob.slots,u.keep b ob q n hb hx}
theorem Un.kept(k:∀b u,h.get? b=AA u->h'.get? b=AA u):Un fs ex H H h h' :=
 {λb ob q _ _ _=>k b ob q,λb ob q _ _ _=>{ob.slots,k b ob q},λ_ _ _ n _=>n,λb ob q _=>{ob,k b ob q},λ_ _ q=>q,λ_ _ _ q=>q,λ_ _ ps q=>{#[],by rw[q];simp}}
theorem Un.refl:Un fs ex H H h h:=Un.kept λ_ _ q=>q
theorem Un.laid(k:∀b u,h.get? b=AA u->h'.get? b=AA u)(hp:h.objs.size<=a)(hn:H a=AH):Un fs ex H (EV H a o) h h' where
 keep:=λb u q _ _ _=>k b u q
 slot:=λb u q _ _ _=>{u.slots,k b u q}
 free:=λb u q n _=>by rw[GP (CH (AM (BB q) hp))];exact n
 there:=λb u q _=>{u,k b u q}
 tups:=λb xs q=>by rw[GP (fV q hn)];exact q
 frzs:=λb u xs q=>by rw[GP (fV q hn)];exact q
 tbls:=λb t ps q=>{#[],by rw[GP (fV q hn),q];simp}
theorem Un.write(mu:uT (H x))(he:e=x\/H e=AA (.own x))(k:∀b u,b≠e->h.get? b=AA u->h'.get? b=AA u)(rV:∃u,h'.get? e=AA u):Un fs ex H (EV H x o) h h':=by
 have hx:∀b,H b=AH->b≠x:=λb n z=>by subst z;rw[n] at mu;exact mu
 have hb:∀b,H b=AH->b≠e:=λb n z=>by
  subst z;rcases he with r|r
  .exact hx b n r
  .rw[n] at r;cases r
 have hm:∀b u,H b=AA u->¬uT (AA u)->b≠x:=λb u q nm z=>by subst z;rw[q] at mu;exact nm mu
 refine{λb u q n _ _=>k b u (hb b n) q,λb u q n _ _=>{u.slots,k b u (hb b n) q},λb u q n _=>by rw[GP (hx b n)];exact n,λb u q _=>?_,
  λb xs q=>by rw[GP (hm b _ q λz=>z)];exact q,λb u xs q=>by rw[GP (hm b _ q λz=>z)];exact q,λb t ps q=>{#[],by rw[GP (hm b _ q λz=>z),q];simp}}
 by_cases pB:b=e
 .subst pB;exact rV
 .exact{u,k b u pB q}
end
noncomputable def Az(h:D0)(H:Hp):List AQ:=(D4 h.objs.size).filter λa=>(H a).isSome
def fK(h:D0)(H:Hp):D0:=CS h (Az h H)
theorem zS2(h:D0)(H:Hp):(fK h H).objs.size=h.objs.size:=PySem.W.hideAll_size _ _
theorem zWD{b:AQ}{o:IL}(e:h.get? b=AA o)(n:H b=AH):(fK h H).get? b=AA o :=
 K4 _ e λhm=>by
  have q:(H b).isSome=AG:=(LF.mp hm).2;rw[n] at q;simp at q
theorem yAJ{b:AQ}{o:IL}(e:(fK h H).get? b=AA o):h.get? b=AA o/\H b=AH:=by
 have e':h.get? b=AA o:=LN (Az h H) e;refine{e',?_}
 cases q:H b with
 |none=>rfl
 |some x =>
  have hm:b∈Az h H:=LF.mpr {JY.mpr (BB e'),by simp[q]};have z:(fK h H).get? b=AH:=WO (Az h H) hm;rw[z] at e;cases e
noncomputable def yAK(g h:D0)(L:AQ):List (AQ×IL):=(D4 h.objs.size).filterMap λa=>if a=L\/(g.get? a).isSome=AG then AH else(h.get? a).map λo=>(a,o)
def rest(g h:D0)(L d:AQ):List (AQ×IL):=(yAK g h L).filter λp=>decide (p.1≠d)
structure Mod(K:AC)(mg:BL->Option AI)(base:D0):Prop where
 kin:K.In base
 glob:base.Ns BC mg
 blt:∃mb,base.Ns J4 mb/\∀x:BL,x≠"__name__"->mb x=GA x
 nolimit:base.NoLimit
 bmain:∃bm ob,mg "__builtins__"=AA (.ref bm)/\bm≠J4/\base.get? bm=AA ob/\ob.cls=.type "module"/\ob.dict=AA J4/\ob.data=.plain
structure Cx where
 prog:CF
 w:DJ
 K:AC
 mg:BL->Option AI
 base:D0
 A:DI
 N:List BL
 s₀:AN
 H₀:Hp
 env:TD
 outer:List TD
 stack:List TD
 ex:List AQ
 fn:BL->Bool
 calm:Bool
 pn:List (AQ×IL)
 xe:AI->AN->Prop
def QD(l:List TD):List AQ:=l.filterMap (·.frame)
abbrev Cx.fs(X:Cx):List AQ:=QD X.outer
def dE(sc:RV)(x:BL):Prop:=sc.names.lookup x=AA .local\/sc.names.lookup x=AA .cell\/sc.names.lookup x=AA .free
def Loc(sc:RV)(x:BL):Prop:=sc.names.lookup x=AA .local\/sc.names.lookup x=AA .cell
def Vv(env:TD)(h:D0)(m:BL->Option AI)(x:BL)(u:AI):Prop :=
 (env.kindOf x=AA .local/\m x=AA u)\/((env.kindOf x=AA .cell\/env.kindOf x=AA .free)/\∃c,env.cells.lookup x=AA c/\h.IsCell c (AA u))
noncomputable def iJ:List BL:=["holders","_law_table","_law_back","_law_kept_right","law"]
def TB(K:AC)(T:AQ)(q:BL):Prop:=∃x c,x∈iJ/\D9 K x=AA (c,T)/\q=x++(".<locals>.<lambda>":BL)
structure Cx.Ok(X:Cx):Prop where
 tab:∀T q,TB X.K T q->∃ps,X.H₀ T=AA (.tbl q ps)
 mod:Mod X.K X.mg X.base
 kind:X.env.scope.kind=.function
 glob:X.env.globals=BC
 blt:X.env.builtins=J4
 above:X.s₀.heap.objs.size<=X.env.locals
 inj:∀x y c,X.env.cells.lookup x=AA c->X.env.cells.lookup y=AA c->x=y
 has:∀x,(X.env.kindOf x=AA .cell\/X.env.kindOf x=AA .free)->∃c,X.env.cells.lookup x=AA c
 cab:∀x c,X.fn x=AG->X.env.cells.lookup x=AA c->X.s₀.heap.objs.size<=c
 hd:X.calm=AG->X.A.handled=AH
 frames:X.A.frames=AA X.stack
 stk:X.stack=X.outer\/(X.stack=X.env::X.outer/\X.env.frame=AA X.env.locals)
 exf:∀b∈X.ex,b≠X.env.locals/\∀x c,X.env.cells.lookup x=AA c->c≠b
 bs:∀b o,X.base.get? b=AA o->X.s₀.heap.get? b=AA o/\X.H₀ b=AH
 bsz:X.base.objs.size<=X.s₀.heap.objs.size
 noex:∀b o,X.base.get? b=AA o->b∉X.ex
 exfs:∀b∈X.ex,b∉X.fs
 funs:X.s₀.heap.FunFrames X.base X.outer
 frf:∀b∈X.fs,X.H₀ b=AH
structure Inv(X:Cx)(pins:List (AQ×IL))(σ:List (Option V))(H:Hp)(s:AN):Prop where
 ok:X.Ok
 os:s.os=X.s₀.os
 bare:M2 s.gens
 base:Un X.fs X.ex X.H₀ H X.s₀.heap s.heap
 loc:∃m,s.heap.Ns X.env.locals m/\∀(i:Nat) (x:BL) (v:V),X.N[i]?=AA x->σ[i]?=AA (AA v)->dE X.env.scope x->∃u,RelV v u/\Vv X.env s.heap m x u
 cell:∀x c,X.env.cells.lookup x=AA c->∃v,s.heap.IsCell c v
 free:H X.env.locals=AH
 freeC:∀x c,X.env.cells.lookup x=AA c->H c=AH
 pin:∀p∈X.pn++pins,s.heap.get? p.1=AA p.2/\H p.1=AH/\p.1≠X.env.locals/\p.1∉X.fs/\∀v,p.2.data≠.cell v
 hok:HOk X.prog X.w H s.heap
 len:σ.length=X.N.length
variable{X:Cx}
section
variable{σ:List (Option V)}
theorem Cx.Ok.nofr(ok:X.Ok){b:AQ}{o:IL}(e:X.base.get? b=AA o):b∉X.fs:=λhb=>by
 have:=(ok.funs.mem hb).1;rw[e] at this;cases this
theorem Inv.bs(I:Inv X pins σ H s):∀b o,X.base.get? b=AA o->s.heap.get? b=AA o/\H b=AH:=λb o e =>
 {I.base.keep b o (I.ok.bs b o e).1 (I.ok.bs b o e).2 (I.ok.nofr e) (I.ok.noex b o e),I.base.free b o (I.ok.bs b o e).1 (I.ok.bs b o e).2 (I.ok.noex b o e)}
theorem Inv.bk(I:Inv X pins σ H s):∀b o,X.base.get? b=AA o->s.heap.get? b=AA o:=λb o e=>(I.bs b o e).1
theorem Inv.tab(I:Inv X pins σ H s):∀T q,TB X.K T q->∃ps,H T=AA (.tbl q ps):=λT q b=>by
 obtain⟨ps,e⟩:=I.ok.tab T q b;obtain⟨m,e'⟩:=I.base.tbls T q ps e;exact{_,e'}
theorem Inv.mod(I:Inv X pins σ H s):Mod X.K X.mg X.base:=I.ok.mod
theorem Inv.kIn(I:Inv X pins σ H s):X.K.In s.heap:=I.ok.mod.kin.keeps I.bk
theorem Inv.fr(I:Inv X pins σ H s):∃m,Fr X.base X.env.locals s.heap m :=
 let ⟨m,hn,_⟩:=I.loc
 {m,hn,I.bk,AV I.ok.bsz I.ok.above}
theorem Inv.lt(I:Inv X pins σ H s):X.env.locals<s.heap.objs.size:=let ⟨_,hn,_⟩:=I.loc;hn.lt
theorem Inv.sz(I:Inv X pins σ H s):X.s₀.heap.objs.size<=s.heap.objs.size:=AV I.ok.above (CM I.lt)
theorem Inv.nofs(I:Inv X pins σ H s)(h:s.heap.objs.size<=a):a∉X.fs:=λhb=>by
 obtain⟨_,o,ho,_⟩:=I.ok.funs.mem hb;exact absurd (AM (BB ho) (AV I.sz h)) (FN _)
theorem Inv.cne(I:Inv X pins σ H s):∀x c,X.env.cells.lookup x=AA c->c≠X.env.locals:=λx c e z=>by
 obtain⟨v,o,ho,hd⟩:=I.cell x c e;obtain⟨m,⟨o',es,ep,XU,xC,_⟩,_⟩:=I.loc;rw[z,XU] at ho;cases ho;rw[xC] at hd;cases hd
theorem Inv.funs(I:Inv X pins σ H s):s.heap.FunFrames X.base X.outer:=by
 have all:∀(l:List TD),(∀b∈QD l,b∈X.fs)->X.s₀.heap.FunFrames X.base l->s.heap.FunFrames X.base l:=by
  intro l
  induction l with
  |nil=>intro _ _;trivial
  |cons env r ih =>
   intro hs hl;obtain⟨hk,⟨L,o,hf,hn,ho,hd⟩,hr⟩:=hl;have hL:L∈X.fs:=hs L (by unfold QD;rw[EU,hf];exact AU);obtain⟨sl,e⟩:=I.base.slot L o ho (I.ok.frf L hL) hL λz=>I.ok.exfs L z hL;exact{hk,{L,_,hf,hn,e,hd},ih (λb hb=>hs b (by unfold QD;rw[EU,hf];exact AS _ hb)) hr}
 exact all X.outer (λ_ hb=>hb) I.ok.funs
theorem Inv.stack(I:Inv X pins σ H s):s.heap.FunFrames X.base X.stack:=by
 rcases I.ok.stk with e|⟨e,hf⟩
 .rw[e];exact I.funs
 .rw[e]
  obtain⟨m,hn,_⟩:=I.loc;refine .cons (by rw[I.ok.kind];decide) hf hn ?_ I.funs;exact Heap.get?_none_of_le (AV I.ok.bsz I.ok.above)
theorem Inv.stkSub(I:Inv X pins σ H s):∀b∈QD X.stack,b∈X.env.locals::X.fs:=λb hb=>by
 rcases I.ok.stk with e|⟨e,hf⟩
 .rw[e] at hb;exact AS _ hb
 .rw[e] at hb
  unfold QD at hb;rw[EU,hf] at hb;exact hb
theorem Inv.stkFree(I:Inv X pins σ H s):∀b∈QD X.stack,H b=AH:=λb hb=>by
 rcases A9.mp (I.stkSub b hb) with e|hb
 .rw[e];exact I.free
 .obtain⟨_,o,ho,_⟩:=I.ok.funs.mem hb
  exact I.base.free b o ho (I.ok.frf b hb) λz=>I.ok.exfs b z hb
theorem Inv.step{g':Array GenState}{d':Drawn}(I:Inv X pins σ H s)
  (gG:∀b∈ch,(b∈X.ex\/X.s₀.heap.objs.size<=b)/\b≠X.env.locals/\(∀x c,X.env.cells.lookup x=AA c->c≠b)/\∀p∈X.pn++pins,p.1≠b)
  (keep:∀b o,b≠X.env.locals->b∉X.fs->b∉ch->s.heap.get? b=AA o->H b=AH->h'.get? b=AA o)
  (slot:∀b o,b≠X.env.locals->b∈X.fs->b∉ch->s.heap.get? b=AA o->H b=AH->∃sl,h'.get? b=AA { o with slots:=sl }) (free:∀b o,b∉ch->s.heap.get? b=AA o->H b=AH->H' b=AH)
  (there:∀b o,b∉ch->s.heap.get? b=AA o->∃o',h'.get? b=AA o')
  (tups:∀b xs,H b=AA (.tup xs)->H' b=AA (.tup xs)) (frzs:∀b o u,H b=AA (.frz o u)->H' b=AA (.frz o u)) (tbls:∀b t ps,H b=AA (.tbl t ps)->∃more,H' b=AA (.tbl t (ps++more)))
  (ns:∀m,s.heap.Ns X.env.locals m->h'.Ns X.env.locals m) (hok:HOk X.prog X.w H' h') (hg:M2 g') :
  Inv X pins σ H' { s with heap:=h',gens:=g',drawn:=d',toks:=t' }:=by
 have Za:∀b o,X.s₀.heap.get? b=AA o->b≠X.env.locals:=λb o e=>CH (AM (BB e) I.ok.above)
 have Bv:∀b o,X.s₀.heap.get? b=AA o->b∉X.ex->b∉ch:=λb o e hx hb=>by
  rcases(gG b hb).1 with z|z
  .exact hx z
  .exact absurd (AM (BB e) z) (FN _)
 have lN:∀x c,X.env.cells.lookup x=AA c->∀v,s.heap.IsCell c v->h'.IsCell c v:=λx c e v q0=>by
  obtain⟨o,ho,hd⟩:=q0;have vX:c∉ch:=λz=>(gG c z).2.2.1 x c e rfl
  by_cases hc:c∈X.fs
  .obtain⟨sl,q⟩:=slot c o (I.cne x c e) hc vX ho (I.freeC x c e)
   exact{_,q,hd}
  .exact{o,keep c o (I.cne x c e) hc vX ho (I.freeC x c e),hd}
 refine{I.ok,I.os,hg,{λb o e n hb hx=>?_,λb o e n hb hx=>?_,λb o e n hx=>?_,λb o e hx=>?_,λb xs e=>tups b xs (I.base.tups b xs e),λb o xs e=>frzs b o xs (I.base.frzs b o xs e),λb t ps e=>?_},?_,λx c e=>?_,?_,λx c e=>?_,λp hp=>?_,hok,I.len}
 .exact keep b o (Za b o e) hb (Bv b o e hx) (I.base.keep b o e n hb hx) (I.base.free b o e n hx)
 .obtain⟨sl,e1⟩:=I.base.slot b o e n hb hx
  obtain⟨vH,e2⟩:=slot b _ (Za b o e) hb (Bv b o e hx) e1 (I.base.free b o e n hx);exact{vH,e2}
 .obtain⟨o',e1⟩:=I.base.there b o e hx
  exact free b o' (Bv b o e hx) e1 (I.base.free b o e n hx)
 .obtain⟨o',e1⟩:=I.base.there b o e hx
  exact there b o' (Bv b o e hx) e1
 .obtain⟨m1,e1⟩:=I.base.tbls b t ps e
  obtain⟨m2,e2⟩:=tbls b t _ e1;exact{m1++m2,by rw[e2,Array.append_assoc]}
 .obtain⟨m,hn,hl⟩:=I.loc
  refine{m,ns m hn,λi x v e1 e2 e3=>?_};obtain⟨u,r,l⟩:=hl i x v e1 e2 e3;refine{u,r,?_};rcases l with l|⟨k,c,e,z⟩
  .exact .inl l
  .exact .inr {k,c,e,lN x c e _ z}
 .obtain⟨v,z⟩:=I.cell x c e
  exact{v,lN x c e v z}
 .obtain⟨m,⟨o,_,_,ho,_⟩,_⟩:=I.loc
  exact free _ o (λz=>(gG _ z).2.1 rfl) ho I.free
 .obtain⟨v,o,ho,hd⟩:=I.cell x c e
  exact free c o (λz=>(gG c z).2.2.1 x c e rfl) ho (I.freeC x c e)
 .obtain⟨e,n,ne,nf,d⟩:=I.pin p hp
  have vX:p.1∉ch:=λz=>(gG p.1 z).2.2.2 p hp rfl;exact{keep p.1 p.2 ne nf vX e n,free p.1 p.2 vX e n,ne,nf,d}
theorem Inv.un(I:Inv X pins σ H s)(u:Un X.fs [] H H' s.heap h')(hok:HOk X.prog X.w H' h'):Inv X pins σ H' { s with heap:=h',toks:=t' }:=by
 obtain⟨m,⟨o,es,ep,ho,r⟩,_⟩:=id I.loc;obtain⟨sl,hL⟩:=u.any ho I.free 's'
 exact I.step (g':=s.gens) (d':=s.drawn) (ch:=[]) (λ_ z=>nomatch z) (λb o _ hb _ e n=>u.keep b o e n hb 's') (λb o _ hb _ e n=>u.slot b o e n hb 's') (λb o _ e n=>u.free b o e n 's') (λb o _ e=>u.there b o e 's') u.tups u.frzs u.tbls (λm' hm=>by
  obtain⟨o',pF,pG,XU,r'⟩:=hm;rw[ho] at XU;cases XU
  exact{_,pF,pG,hL,r'}) hok I.bare
theorem Inv.call{g':Array GenState}{d':Drawn}(I:Inv X pins σ H s)(u:Un (QD X.stack) ch H H' s.heap h')(hok:HOk X.prog X.w H' h')(hg:M2 g')
  (gG:∀b∈ch,(b∈X.ex\/X.s₀.heap.objs.size<=b)/\b≠X.env.locals/\(∀x c,X.env.cells.lookup x=AA c->c≠b)/\∀p∈X.pn++pins,p.1≠b) :
  Inv X pins σ H' { s with heap:=h',gens:=g',drawn:=d',toks:=t' }:=by
 obtain⟨m,⟨o,es,ep,ho,r⟩,_⟩:=id I.loc;obtain⟨sl,hL⟩:=u.any ho I.free λz=>(gG _ z).2.1 rfl
 exact I.step (ch:=ch) gG (λb o hL hb hc e n=>u.keep b o e n (λz=>(A9.mp (I.stkSub b z)).elim hL hb) hc) (λb o _ _ hc e n=>u.any e n hc) (λb o hc e n=>u.free b o e n hc) (λb o hc e=>u.there b o e hc) u.tups u.frzs u.tbls (λm' hm=>by
  obtain⟨o',pF,pG,XU,r'⟩:=hm;rw[ho] at XU;cases XU
  exact{_,pF,pG,hL,r'}) hok hg
theorem Inv.turned(I:Inv X pins σ H s)(k:∀b o,b≠it->s.heap.get? b=AA o->h'.get? b=AA o)(hn:H it=AH)(hL:it≠X.env.locals)
  (h1:it∈X.ex\/X.s₀.heap.objs.size<=it) (h2:∀x c,X.env.cells.lookup x=AA c->c≠it) (h3:∀p∈X.pn++pins,p.1≠it):Inv X pins σ H { s with heap:=h',toks:=t' }:=by
 have vW:∀b u,H b=AA u->b≠it:=λb u e z=>by rw[z,hn] at e;cases e
 refine I.step (g':=s.gens) (d':=s.drawn) (ch:=[it]) (λb hb=>?_) (λb o _ _ hc e _=>k b o (λz=>hc (by simp[z])) e) (λb o _ _ hc e _=>{o.slots,k b o (λz=>hc (by simp[z])) e}) (λ_ _ _ _ n=>n)
  (λb o hc e=>{o,k b o (λz=>hc (by simp[z])) e}) (λ_ _ e=>e) (λ_ _ _ e=>e) (λb t ps e=>{#[],by rw[e];simp}) (λm hm=>?_) (λb u e=>?_) I.bare
 .have e:b=it:=by simpa using hb
  subst e;exact{h1,hL,h2,h3}
 .obtain⟨o,es,ep,ho,r⟩:=hm
  exact{o,es,ep,k _ o (JG hL) ho,r}
 .refine(I.hok b u e).stay (λc v hc q=>k c v ?_ q) (λ_ q=>q) (λ_ _ q=>q) λ_ _ _ q=>q
  rcases hc with z|z
  .rw[z];exact vW b u e
  .exact vW c _ z
theorem Inv.tok(I:Inv X pins σ H s)(t:Nat):Inv X pins σ H { s with toks:=t }:=I.un (h':=s.heap) (t':=t) Un.refl I.hok
theorem Inv.kept{t':Nat}(I:Inv X pins σ H s)(k:∀b u,s.heap.get? b=AA u->h'.get? b=AA u):Inv X pins σ H { s with heap:=h',toks:=t' }:=I.un (Un.kept k) (I.hok.kept k)
theorem Inv.laid{a:AQ}{o:HO}{t':Nat}(I:Inv X pins σ H s)(k:∀b u,s.heap.get? b=AA u->h'.get? b=AA u)(hp:s.heap.objs.size<=a)(new:ObjOk X.prog X.w (EV H a o) h' a o) :
  Inv X pins σ (EV H a o) { s with heap:=h',toks:=t' }:=I.un (Un.laid k hp (I.hok.fresh hp)) (I.hok.laid k hp new)
theorem Inv.write{x e:AQ}{o:HO}{t':Nat}(I:Inv X pins σ H s)(mu:uT (H x))(he:e=x\/H e=AA (.own x))(k:∀b u,b≠e->s.heap.get? b=AA u->h'.get? b=AA u)(rV:∃u,h'.get? e=AA u)
  (new:ObjOk X.prog X.w (EV H x o) h' x o):Inv X pins σ (EV H x o) { s with heap:=h',toks:=t' }:=I.un (Un.write mu he k rV) (I.hok.write mu he k rV new)
theorem Inv.weak{σ':List (Option V)}(I:Inv X pins σ H s)(hl:σ'.length=σ.length)(w:∀(i:Nat) v,σ'[i]?=AA (AA v)->σ[i]?=AA (AA v)):Inv X pins σ' H s :=
 {I.ok,I.os,I.bare,I.base,let ⟨m,hn,i7⟩:=I.loc;{m,hn,λi x v e1 e2 e3=>i7 i x v e1 (w i v e2) e3},I.cell,I.free,I.freeC,I.pin,I.hok,hl.trans I.len}
theorem Inv.pins_of{pins':List (AQ×IL)}(I:Inv X pins σ H s)(h:∀p∈pins',s.heap.get? p.1=AA p.2/\H p.1=AH/\p.1≠X.env.locals/\p.1∉X.fs/\∀v,p.2.data≠.cell v):Inv X pins' σ H s :=
 {I.ok,I.os,I.bare,I.base,I.loc,I.cell,I.free,I.freeC,λp hp=>(GN.mp hp).elim (λz=>I.pin p (Y9 _ z)) (h p),I.hok,I.len}
theorem zS(hN:N.Nodup)(a:N[i]?=AA x)(b:N[j]?=AA x):i=j:=by
 obtain⟨h1,e1⟩:=AX.mp a;obtain⟨h2,e2⟩:=AX.mp b;exact(List.getElem_inj hN).mp (e1.trans e2.symm)
theorem Er{v:V}{Q:Unit->AN->Prop}(I:Inv X pins σ H s)(hN:X.N.Nodup)(hi:X.N[i]?=AA x)(hx:Loc X.env.scope x)(r:RelV v u)
  (h:∀s',Inv X pins (σ.set i (AA v)) H s'->(∃a,FI a s.heap s'.heap/\(a=X.env.locals\/X.env.cells.lookup x=AA a))->Q () s') (hf:X.fn x=AG\/X.env.scope.names.lookup x=AA .local:=by first|exact .inl rfl|exact .inr rfl|assumption):A4 M A (storeName X.env x u) Q E s:=by
 obtain⟨m,hn,hl⟩:=id I.loc;have eI:(X.env.scope.kind==.class||(X.env.scope.kind==.module&&X.env.locals != X.env.globals))=AB:=by rw[I.ok.kind];rfl
 have hiσ:i < σ.length:=by rw[I.len];exact(AX.mp hi).1
 have Mm:=I.cne
 have UW:∀{a:AQ} {h':D0},(∃o,s.heap.get? a=AA o/\H a=AH)->FI a s.heap h'->HOk X.prog X.w H h':=λ{a h'} ha hs b ob e=>by
  obtain⟨_,_,lD⟩:=ha;refine(I.hok b ob e).stay (λc w' hc q=>(hs.2 c ?_).trans q) (λ_ q=>q) (λ_ _ q=>q) λ_ _ _ q=>q;rintro rfl;rcases hc with rfl|hc
  .rw[lD] at e;cases e
  .rw[lD] at hc;cases hc
 rcases hx with hk|hk
 .refine wpAny_storeName_local hk hn (λh' wT hs=>?_) eI
  obtain⟨oL,_,_,Zq,_⟩:=id hn;refine h _ {I.ok,I.os,I.bare,{λb o e n hb hx=>?_,λb o e n hb hx=>?_,I.base.free,λb o e hx=>?_,I.base.tups,I.base.frzs,I.base.tbls},{_,wT,λj y v' e1 e2 e3=>?_},λy c e=>?_,I.free,I.freeC,λp hp=>?_,UW {oL,Zq,I.free} hs,by simpa using I.len} {_,hs,.inl rfl}
  .exact(hs.2 b (CH (AM (BB e) I.ok.above))).trans (I.base.keep b o e n hb hx)
  .obtain⟨sl,e1⟩:=I.base.slot b o e n hb hx
   exact{sl,(hs.2 b (CH (AM (BB e) I.ok.above))).trans e1}
  .obtain⟨o',e1⟩:=I.base.there b o e hx
   exact{o',(hs.2 b (CH (AM (BB e) I.ok.above))).trans e1}
  .by_cases hj:j=i
   .subst hj
    rw[hi] at e1;cases e1;rw[BF hiσ] at e2;cases e2;exact{u,r,.inl {hk,by simp}}
   .rw[A7 (JG hj)] at e2
    obtain⟨u',r',q⟩:=hl j y v' e1 e2 e3;refine{u',r',?_};rcases q with⟨k,e⟩|⟨k,c,e,z⟩
    .refine .inl {k,?_}
     have:y≠x:=λe=>hj (zS hN e1 (e▸hi));simp[this,e]
    .exact .inr {k,c,e,z.sameBut hs (Mm y c e)}
  .obtain⟨w',z⟩:=I.cell y c e
   exact{w',z.sameBut hs (Mm y c e)}
  .obtain⟨e,n,ne,nf,d⟩:=I.pin p hp
   exact{(hs.2 p.1 ne).trans e,n,ne,nf,d}
 .have Lb:X.fn x=AG:=by
   rcases hf with z|z
   .exact z
   .rw[z] at hk;cases hk
  obtain⟨c,hc⟩:=I.ok.has x (.inl hk);obtain⟨w',z⟩:=I.cell x c hc;refine wpAny_storeName_cell I.ok.kind hk hc z (λh' o9 hs=>?_);obtain⟨oc,Zp,Kk⟩:=id z;refine h { s with heap:=h' } {I.ok,I.os,I.bare,{λb o e n hb hx=>?_,λb o e n hb hx=>?_,I.base.free,λb o e hx=>?_,I.base.tups,I.base.frzs,I.base.tbls},{m,hn.sameBut hs (JG (Mm x c hc)),λj y v' e1 e2 e3=>?_},λy c' e=>?_,I.free,I.freeC,λp hp=>?_,UW {oc,Zp,I.freeC x c hc} hs,by simpa using I.len} {c,hs,.inr hc}
  .exact(hs.2 b (CH (AM (BB e) (I.ok.cab x c Lb hc)))).trans (I.base.keep b o e n hb hx)
  .obtain⟨sl,e1⟩:=I.base.slot b o e n hb hx
   exact{sl,(hs.2 b (CH (AM (BB e) (I.ok.cab x c Lb hc)))).trans e1}
  .obtain⟨o',e1⟩:=I.base.there b o e hx
   exact{o',(hs.2 b (CH (AM (BB e) (I.ok.cab x c Lb hc)))).trans e1}
  .by_cases hj:j=i
   .subst hj
    rw[hi] at e1;cases e1;rw[BF hiσ] at e2;cases e2;exact{u,r,.inr {.inl hk,c,hc,o9}}
   .rw[A7 (JG hj)] at e2
    obtain⟨u',r',q⟩:=hl j y v' e1 e2 e3;refine{u',r',?_};rcases q with q|⟨k,c',e,z'⟩
    .exact .inl q
    .refine .inr {k,c',e,z'.sameBut hs ?_}
     rintro rfl;exact hj (zS hN e1 (I.ok.inj _ _ _ e hc▸hi))
  .by_cases Ca:c'=c
   .subst Ca;exact{_,o9}
   .obtain⟨w2,z2⟩:=I.cell y c' e
    exact{w2,z2.sameBut hs Ca}
  .obtain⟨e,n,ne,nf,d⟩:=I.pin p hp
   refine{(hs.2 p.1 ?_).trans e,n,ne,nf,d};intro q;rw[q,Zp] at e;have q':oc=p.2:=BV e;exact d w' (by rw[<-q'];exact Kk)
theorem zR{v:V}{Q:Unit->AN->Prop}(I:Inv X pins σ H s)(hN:X.N.Nodup)(hi:X.N[i]?=AA x)(hx:Loc X.env.scope x)(r:RelV v u)
  (h:∀s',Inv X pins (σ.set i (AA v)) H s'->Q () s') (hf:X.fn x=AG\/X.env.scope.names.lookup x=AA .local:=by first|exact .inl rfl|exact .inr rfl|assumption):A4 M A (storeName X.env x u) Q E s :=
 Er I hN hi hx r (λs' I' _=>h s' I') hf
theorem Inv.call'(I:Inv X pins σ H s)(ho:s'.os=s.os)(u:Un (QD X.stack) ch H H' s.heap s'.heap)(hok:HOk X.prog X.w H' s'.heap)(hg:M2 s'.gens)
  (gG:∀b∈ch,(b∈X.ex\/X.s₀.heap.objs.size<=b)/\b≠X.env.locals/\(∀x c,X.env.cells.lookup x=AA c->c≠b)/\∀p∈X.pn++pins,p.1≠b):Inv X pins σ H' s':=by
 obtain⟨h',g',d',t',o'⟩:=s';have e:o'=s.os:=ho;subst e;exact I.call (g':=g') (t':=t') (d':=d') u hok hg gG
end
abbrev XK:=AI->Option AQ->Hp->Prop
abbrev St:=List (Option V)
abbrev VK:=V->Hp->Prop
abbrev TE:=St->Hp->VK->Prop
abbrev TT:=St->Hp->(Bool->Hp->Prop)->Prop
abbrev TA:=St->Hp->(List V->Hp->Prop)->Prop
structure Ends where
 nx:St->Hp->Prop
 rt:VK
 bk:St->Hp->Prop:=λ_ _=>False
 ct:St->Hp->Prop:=λ_ _=>False
abbrev TS:=Ends->St->Hp->Prop
def EP(X:Cx)(pins:List (AQ×IL))(σ:St)(Q:VK)(u:AI)(s':AN):Prop:=∃v H',Inv X pins σ H' s'/\RelV v u/\Q v H'
def TP(X:Cx)(pins:List (AQ×IL))(σ:St)(Q:Bool->Hp->Prop)(b:Bool)(s':AN):Prop:=∃H',Inv X pins σ H' s'/\Q b H'
def AP(X:Cx)(pins:List (AQ×IL))(σ:St)(Q:List V->Hp->Prop)(us:List AI)(s':AN):Prop:=∃vs H',Inv X pins σ H' s'/\Vals vs us/\Q vs H'
def SP(X:Cx)(pins:List (AQ×IL))(D:Ends)(f:Flow)(s':AN):Prop :=
 match f with
 |.next=>∃σ' H',Inv X pins σ' H' s'/\D.nx σ' H'
 |.brk=>∃σ' H',Inv X pins σ' H' s'/\D.bk σ' H'
 |.cont=>∃σ' H',Inv X pins σ' H' s'/\D.ct σ' H'
 |.ret u=>∃v σ' H',Inv X pins σ' H' s'/\RelV v u/\D.rt v H'
def PE(X:Cx)(e:C5)(t:TE):Prop :=
 ∀(pins:List (AQ×IL)) (s:AN) (σ:St) (H:Hp) (Q:VK),Inv X pins σ H s->t σ H Q->A4 (A3 X.prog X.w) X.A (eval e X.env) (EP X pins σ Q) X.xe s
def PT(X:Cx)(e:C5)(t:TT):Prop :=
 ∀(pins:List (AQ×IL)) (s:AN) (σ:St) (H:Hp) (Q:Bool->Hp->Prop),Inv X pins σ H s->t σ H Q->A4 (A3 X.prog X.w) X.A (U9 e X.env (eval e X.env)) (TP X pins σ Q) X.xe s
def PW(X:Cx)(e:C5)(t:TT):Prop :=
 ∀(R8:SM AI) (pins:List (AQ×IL)) (s:AN) (σ:St) (H:Hp) (Q:Bool->Hp->Prop),Inv X pins σ H s->t σ H Q->A4 (A3 X.prog X.w) X.A (U9 e X.env R8) (TP X pins σ Q) X.xe s
theorem PW.pt{t:TT}(h:PW X e t):PT X e t:=h _
def PA(X:Cx)(es:List C5)(t:TA):Prop :=
 ∀(pos:Y4) (pins:List (AQ×IL)) (s:AN) (σ:St) (H:Hp) (Q:List V->Hp->Prop),Inv X pins σ H s->t σ H Q->A4 (A3 X.prog X.w) X.A (spliced (CZ pos (AF es X.env))) (AP X pins σ Q) X.xe s
def PS(X:Cx)(st:D5)(t:TS):Prop :=
 ∀(pins:List (AQ×IL)) (s:AN) (σ:St) (H:Hp) (D:Ends),Inv X pins σ H s->t D σ H->A4 (A3 X.prog X.w) X.A (exec st X.env) (SP X pins D) X.xe s
def PSs(X:Cx)(st:List D5)(t:TS):Prop :=
 ∀(pins:List (AQ×IL)) (s:AN) (σ:St) (H:Hp) (D:Ends),Inv X pins σ H s->t D σ H->A4 (A3 X.prog X.w) X.A (execs st X.env) (SP X pins D) X.xe s
theorem GY{t:SM α}{Q Q':α->AN->Prop}(h:A4 M A t Q E s)(hQ:∀a s,Q a s->Q' a s):A4 M A t Q' E s:=CJ h hQ λ_ _ x=>x
variable{σ:St}{ta tb:TE}
section
def uO(i:Nat):TE:=λσ H Q=>∃v,σ[i]?=AA (AA v)/\Q v H
def tC(v:V):TE:=λ_ H Q=>Q v H
theorem kD(hN:X.N[i]?=AA x)(hv:dE X.env.scope x)(hd:(x==("__debug__":BL))=AB:=by decide)(QH:(x==("__classdict__":BL))=AB:=by decide):PE X (.Name x pos) (uO i):=by
 intro pins s σ H Q I h;obtain⟨v,e,h⟩:=h;obtain⟨m,hn,hl⟩:=I.loc;obtain⟨u,r,l⟩:=hl i x v hN e hv;have fin:EP X pins σ Q u s:={v,H,I,r,h};rcases l with⟨hk,hm⟩|⟨hk,c,hc,lI⟩
 .exact wpAny_Name (wpAny_loadName_local I.ok.kind hk hn hm fin) hd
 .rcases hk with hk|hk
  .exact wpAny_Name (wpAny_loadName_cell I.ok.kind hk hc lI fin) hd
  .exact wpAny_Name (wpAny_loadName_free I.ok.kind hk hc lI fin QH) hd
theorem nT{i j pos}:PE X (.Constant (.int i) j pos) (tC (.int i)):=λ_ _ _ H _ I h=>wpAny_Constant_int {.int i,H,I.tok _,{_,rfl},h}
theorem uQ{b j pos}:PE X (.Constant (.bool b) j pos) (tC (.bl b)):=λ_ _ _ H _ I h=>Constant_bool {.bl b,H,I,rfl,h}
theorem nS{j pos}:PE X (.Constant .none j pos) (tC .non):=λ_ _ _ H _ I h=>Constant_none {.non,H,I,rfl,h}
theorem nR{x j pos}:PE X (.Constant (.str x) j pos) (tC (.str x)):=λ_ _ _ H _ I h=>Calls.Constant_str {.str x,H,I.tok _,{_,rfl},h}
def Gl(X:Cx)(x:BL):Prop:=X.env.kindOf x=AA .globalImplicit
theorem tO(I:Inv X pins σ H s)(hg:Gl X x)(hm:X.mg x=AA u)(h:Q u s)
  (hd:(x==("__debug__":BL))=AB:=by decide):A4 (A3 X.prog X.w) X.A (eval (.Name x pos) X.env) Q E s :=
 T3 I.ok.kind hg (Calls.loadGlobal_global (by rw[I.ok.glob];exact I.mod.glob.keeps I.bk) hm h) hd
theorem qA(I:Inv X pins σ H s)(hg:Gl X x)(hm:X.mg x=AH)(hv:GA x=AA u)(h:Q u s)
  (hn:x≠"__name__":=by decide) (hd:(x==("__debug__":BL))=AB:=by decide):A4 (A3 X.prog X.w) X.A (eval (.Name x pos) X.env) Q E s:=by
 obtain⟨mb,h1,h2⟩:=I.mod.blt;exact T3 I.ok.kind hg (Calls.loadGlobal_builtin (by rw[I.ok.glob];exact I.mod.glob.keeps I.bk) hm (by rw[I.ok.blt];exact h1.keeps I.bk) ((h2 x hn).trans hv) h) hd
theorem YQ{v:V}(hg:Gl X x)(hm:X.mg x=AA u)(r:RelV v u)(hd:(x==("__debug__":BL))=AB:=by decide):PE X (.Name x pos) (tC v) :=
 λ_ _ _ H _ I h=>tO I hg hm {v,H,I,r,h} hd
theorem Qb{v:V}(hg:Gl X x)(hm:X.mg x=AH)(hv:GA x=AA u)(r:RelV v u)(hn:x≠"__name__":=by decide)(hd:(x==("__debug__":BL))=AB:=by decide):PE X (.Name x pos) (tC v) :=
 λ_ _ _ H _ I h=>qA I hg hm hv {v,H,I,r,h} hn hd
variable{a b:C5}{tA Bp:TT}{rest:List C5}
def yKD(t u:TT):TT:=λσ H Q=>t σ H λc H1=>if c=AG then u σ H1 Q else Q AB H1
def tOr(t u:TT):TT:=λσ H Q=>t σ H λc H1=>if c=AG then Q AG H1 else u σ H1 Q
def yKE(t:TT):TT:=λσ H Q=>t σ H λc H1=>Q (!c) H1
theorem yAL(ha:PT X a tA):PW X (.BoolOp .And [a] pos) tA:=by
 intro wh pins s σ H Q I h;refine isTrue_and (GY (ha pins s σ H Q I h) λc s1 e=>?_)
 cases c with
 |true=>exact isTrue_and_nil e
 |false=>exact e
theorem yD8(ha:PT X a tA):PW X (.BoolOp .Or [a] pos) tA:=by
 intro wh pins s σ H Q I h;refine isTrue_or (GY (ha pins s σ H Q I h) λc s1 e=>?_)
 cases c with
 |false=>exact isTrue_or_nil e
 |true=>exact e
theorem yD9(ha:PT X a tA)(hb:PW X (.BoolOp .And (b::rest) pos) Bp):PW X (.BoolOp .And (a::b::rest) pos) (yKD tA Bp):=by
 intro wh pins s σ H Q I h;refine isTrue_and (GY (ha pins s σ H _ I h) λc s1 ⟨H1,I1,q1⟩=>?_)
 cases c with
 |true=>exact hb wh pins s1 σ H1 Q I1 q1
 |false=>exact{H1,I1,q1}
theorem yHQ(ha:PT X a tA)(hb:PW X (.BoolOp .Or (b::rest) pos) Bp):PW X (.BoolOp .Or (a::b::rest) pos) (tOr tA Bp):=by
 intro wh pins s σ H Q I h;refine isTrue_or (GY (ha pins s σ H _ I h) λc s1 ⟨H1,I1,q1⟩=>?_)
 cases c with
 |true=>exact{H1,I1,q1}
 |false=>exact hb wh pins s1 σ H1 Q I1 q1
theorem yEA(ha:PT X a tA):PT X (.UnaryOp .Not a pos) (yKE tA):=by
 intro pins s σ H Q I h;exact isTrue_not (ha pins s σ H (λc H1=>Q (!c) H1) I h)
def yHR(ta tb:TE):TE:=λσ H Q=>ta σ H λx H1=>∃c,x=.bl c/\if c=AG then tb σ H1 Q else Q (.bl AB) H1
def yKF(ta tb:TE):TE:=λσ H Q=>ta σ H λx H1=>∃c,x=.bl c/\if c=AG then Q (.bl AG) H1 else tb σ H1 Q
def yHS(ta:TE):TE:=λσ H Q=>ta σ H λx H1=>∃c,x=.bl c/\Q (.bl (!c)) H1
theorem yEB{op}{t:TE}(h:PE X a t):PE X (.BoolOp op [a] pos) t:=λpins s σ H Q I hw=>BoolOp_one (h pins s σ H Q I hw)
theorem yEC(ha:PE X a ta)(hb:PE X (.BoolOp .And (b::rest) pos) tb):PE X (.BoolOp .And (a::b::rest) pos) (yHR ta tb):=by
 intro pins s σ H Q I h;refine BoolOp_and (GY (ha pins s σ H _ I h) λv s1 ⟨x,H1,I1,r1,q1⟩=>?_);obtain⟨c,rfl,q1⟩:=q1;cases r1;refine EY ?_
 cases c with
 |true=>exact hb pins s1 σ H1 Q I1 q1
 |false=>exact{.bl AB,H1,I1,rfl,q1}
theorem yHT(ha:PE X a ta)(hb:PE X (.BoolOp .Or (b::rest) pos) tb):PE X (.BoolOp .Or (a::b::rest) pos) (yKF ta tb):=by
 intro pins s σ H Q I h;refine BoolOp_or (GY (ha pins s σ H _ I h) λv s1 ⟨x,H1,I1,r1,q1⟩=>?_);obtain⟨c,rfl,q1⟩:=q1;cases r1;refine EY ?_
 cases c with
 |false=>exact hb pins s1 σ H1 Q I1 q1
 |true=>exact{.bl AG,H1,I1,rfl,q1}
theorem yED(ha:PE X a ta):PE X (.UnaryOp .Not a pos) (yHS ta):=by
 intro pins s σ H Q I h;refine UnaryOp_ (GY (ha pins s σ H _ I h) λv s1 ⟨x,H1,I1,r1,q1⟩=>?_);obtain⟨c,rfl,q1⟩:=q1;cases r1;exact not_of (EY {.bl (!c),H1,I1,rfl,q1})
def tIf(t:TT)(ta tb:TE):TE:=λσ H Q=>t σ H λc H1=>if c=AG then ta σ H1 Q else tb σ H1 Q
theorem zWE(hc:PT X c tA)(ha:PE X a ta)(hb:PE X b tb):PE X (.IfExp c a b pos) (tIf tA ta tb):=by
 intro pins s σ H Q I h;refine wpAny_IfExp (GY (hc pins s σ H _ I h) λd s1 ⟨H1,I1,q1⟩=>?_)
 cases d with
 |true=>exact ha pins s1 σ H1 Q I1 q1
 |false=>exact hb pins s1 σ H1 Q I1 q1
end
def SqL(K:AC)(H:Hp)(a:AQ)(xs:List V):Prop :=
 Rd H a (.lst xs) \/
  ∃(o:IL) (CP:Array AI) (n:Nat),K.lookup a=AA o/\o.cls=.type "list"/\o.dict=AH/\o.data=.seq CP n/\CP.size<=sizeLine/\Vals xs CP.toList
def SqT(K:AC)(H:Hp)(a:AQ)(xs:List V):Prop :=
 Rd H a (.tup xs) \/
  ∃(o:IL) (CP:Array AI) (n:Nat),K.lookup a=AA o/\o.cls=.type "tuple"/\o.data=.seq CP n/\CP.size<=sizeLine/\Vals xs CP.toList
noncomputable def yKG:AI->Option V
 |.none=>AA .non
 |.bool b=>AA (.bl b)
 |.int i _=>AA (.int i)
 |.str x _=>AA (.str x)
 |.bytes b _=>AA (.byt b)
 |.float b _=>AA (.flt b)
 |.ref a=>AA (.ref a)
 |.type n=>AA (.ty n)
 |_=>AH
theorem RelV.abs{x:V}(r:RelV x u):yKG u=AA x:=by
 cases x with
 |non=>cases r;rfl
 |bl _=>cases r;rfl
 |int _=>obtain⟨t,rfl⟩:=r;rfl
 |str _=>obtain⟨t,rfl⟩:=r;rfl
 |byt _=>obtain⟨t,rfl⟩:=r;rfl
 |flt _=>obtain⟨t,rfl⟩:=r;rfl
 |ref _=>cases r;rfl
 |ty _=>cases r;rfl
theorem RelV.inj{x y:V}{u:AI}(r:RelV x u)(q:RelV y u):x=y:=BV (r.abs.symm.trans q.abs)
theorem Vals.inj:∀{xs ys:List V} {us:List AI},Vals xs us->Vals ys us->xs=ys
 |_,_,_,.nil,.nil=>rfl
 |_,_,_,.cons r t,.cons r' t'=>by rw[r.inj r',Vals.inj t t']
section
variable{xs ys:List V}
theorem SqL.of{K:AC}(h:H a=AA (.lst xs)):SqL K H a xs:=.inl (.inl h)
theorem SqT.of{K:AC}(h:H a=AA (.tup xs)):SqT K H a xs:=.inl (.inl h)
theorem Inv.list(I:Inv X pins σ H s)(h:SqL X.K H a xs):∃CP:List AI,Vals xs CP/\PlainL s.heap a CP.toArray/\xs.length<=sizeLine:=by
 rcases h with h|⟨o,CP,n,hk,hc,hd,hs,hz,r⟩
 .obtain⟨z,CP,n,r,e⟩:=h.ok I.hok
  exact{CP,r,{_,n,e,rfl,rfl,rfl},z}
 .refine{CP.toList,r,{o,n,I.kIn a o hk,hc,hd,by simpa using hs},?_}
  have e:=r.length;simp only[LI] at e;exact AV (CD e) hz
theorem Inv.tuple(I:Inv X pins σ H s)(h:SqT X.K H a xs):∃CP:List AI,Vals xs CP/\QU s.heap a CP.toArray/\xs.length<=sizeLine:=by
 rcases h with h|⟨o,CP,n,hk,hc,hs,hz,r⟩
 .obtain⟨z,CP,r,p⟩:=h.ok I.hok
  exact{CP,r,p.isTup,z}
 .refine{CP.toList,r,{o,I.kIn a o hk,hc,n,by simpa using hs},?_}
  have e:=r.length;simp only[LI] at e;exact AV (CD e) hz
theorem Inv.list_inj(I:Inv X pins σ H s)(h:SqL X.K H a xs)(h':SqL X.K H a ys):xs=ys:=by
 obtain⟨CP,r,⟨o,n,e,_,_,d⟩,_⟩:=I.list h;obtain⟨O0,r',⟨o',n',e',_,_,d'⟩,_⟩:=I.list h';rw[e] at e';cases e';rw[d] at d';injection d' with d1 _;have:CP=O0:=by simpa using congrArg Array.toList d1
 subst this;exact r.inj r'
theorem Inv.tuple_inj(I:Inv X pins σ H s)(h:SqT X.K H a xs)(h':SqT X.K H a ys):xs=ys:=by
 obtain⟨CP,r,⟨o,e,_,n,d⟩,_⟩:=I.tuple h;obtain⟨O0,r',⟨o',e',_,n',d'⟩,_⟩:=I.tuple h';rw[e] at e';cases e';rw[d] at d';injection d' with d1 _;have:CP=O0:=by simpa using congrArg Array.toList d1
 subst this;exact r.inj r'
end
abbrev Cx.wish(X:Cx)(E:AI->AN->Prop):Cx:={ X with xe:=E }
abbrev Cx.nox(X:Cx):Cx:=X.wish λ_ _=>False
theorem Cx.Ok.wish{X:Cx}(ok:X.Ok)(E:AI->AN->Prop):(X.wish E).Ok :=
 {ok.tab,ok.mod,ok.kind,ok.glob,ok.blt,ok.above,ok.inj,ok.has,ok.cab,ok.hd,ok.frames,ok.stk,ok.exf,ok.bs,ok.bsz,ok.noex,ok.exfs,ok.funs,ok.frf}
theorem Cx.Ok.unwish(ok:(X.wish E).Ok):X.Ok :=
 {ok.tab,ok.mod,ok.kind,ok.glob,ok.blt,ok.above,ok.inj,ok.has,ok.cab,ok.hd,ok.frames,ok.stk,ok.exf,ok.bs,ok.bsz,ok.noex,ok.exfs,ok.funs,ok.frf}
theorem Inv.wish(I:Inv X pins σ H s)(E:AI->AN->Prop):Inv (X.wish E) pins σ H s:={I.ok.wish E,I.os,I.bare,I.base,I.loc,I.cell,I.free,I.freeC,I.pin,I.hok,I.len}
theorem Inv.unwish(I:Inv (X.wish E) pins σ H s):Inv X pins σ H s:={I.ok.unwish,I.os,I.bare,I.base,I.loc,I.cell,I.free,I.freeC,I.pin,I.hok,I.len}
theorem SP.unwish{D:Ends}{f:Flow}{s':AN}(h:SP (X.wish E) pins D f s'):SP X pins D f s':=by
 cases f with
 |next=>obtain⟨σ',H',I,q⟩:=h;exact{σ',H',I.unwish,q}
 |brk=>obtain⟨σ',H',I,q⟩:=h;exact{σ',H',I.unwish,q}
 |cont=>obtain⟨σ',H',I,q⟩:=h;exact{σ',H',I.unwish,q}
 |ret u=>obtain⟨v,σ',H',I,r,q⟩:=h;exact{v,σ',H',I.unwish,r,q}
theorem PE.nox{e:C5}{t:TE}(h:PE X.nox e t):PE X e t:=λpins s σ H Q I hw =>
 CJ (h pins s σ H Q (I.wish _) hw) ((λ_ _ q0=>by obtain⟨v,H',I',r,q⟩:=q0;exact{v,H',I'.unwish,r,q})) λ_ _ z=>F8 z
theorem PSs.nox{st:List D5}{t:TS}(h:PSs X.nox st t):PSs X st t:=λpins s σ H D I hw =>
 CJ (h pins s σ H D (I.wish _) hw) (λ_ _ q=>q.unwish) λ_ _ z=>F8 z
variable{te:TE}
section
variable{st:D5}{rest:List D5}{t u:TS}
def yHU:TS:=λD σ H=>D.nx σ H
def Ay(t u:TS):TS:=λD σ H=>t { D with nx:=u D } σ H
theorem UN:PSs X [] yHU:=λ_ _ σ H _ I h=>HW {σ,H,I,h}
theorem iI(h1:PS X st t)(h2:PSs X rest u):PSs X (st::rest) (Ay t u):=by
 intro pins s σ H D I h;refine LL (GY (h1 pins s σ H { D with nx:=u D } I h) λf s1 q=>?_)
 cases f with
 |next =>
  obtain⟨σ',H',I',q⟩:=q;exact h2 pins s1 σ' H' D I' q
 |ret v=>exact q
 |brk=>exact q
 |cont=>exact q
theorem Qa(h1:PS X st t):PSs X [st] t:=by
 intro pins s σ H D I h;refine LL (GY (h1 pins s σ H D I h) λf s1 q=>?_)
 cases f with
 |next=>exact HW q
 |ret v=>exact q
 |brk=>exact q
 |cont=>exact q
theorem Inv.quiet(I:Inv X pins σ H s):interactive X.env=AB:=by simp[interactive,I.ok.kind]
def yHV(te:TE):TS:=λD σ H=>te σ H λ_ H1=>D.nx σ H1
theorem yAM(he:PE X e te)(hs:HG e AH pos.line X.env=pure AB:=by rfl):PS X (.Expr e pos) (yHV te):=by
 intro pins s σ H D I h;exact wpAny_Expr_any (GY (he pins s σ H _ I h) (λv s1 q0=>by obtain⟨x,H1,I1,r1,q1⟩:=q0;exact{σ,H1,I1,q1})) I.quiet hs
def Vu(te:TE):TS:=λD σ H=>te σ H D.rt
theorem yT(he:PE X e te):PS X (.Return (AA e) pos) (Vu te):=by
 intro pins s σ H D I h;exact wpAny_Return_some (GY (he pins s σ H _ I h) (λv s1 q0=>by obtain⟨x,H1,I1,r1,q1⟩:=q0;exact{x,σ,H1,I1,r1,q1}))
def yKH(c:TT)(t u:TS):TS:=λD σ H=>c σ H λb H1=>if b=AG then t D σ H1 else u D σ H1
theorem Hl{a b:List D5}{tc:TT}(hc:PT X c tc)(ha:PSs X a t)(hb:PSs X b u):PS X (.If c a b pos) (yKH tc t u):=by
 intro pins s σ H D I h;refine wpAny_If (GY (hc pins s σ H _ I h) λd s1 ⟨H1,I1,q1⟩=>?_)
 cases d with
 |true=>exact ha pins s1 σ H1 D I1 q1
 |false=>exact hb pins s1 σ H1 D I1 q1
def Oa:TS:=λ_ _ _=>False
theorem cY:PS X st Oa:=λ_ _ _ _ _ _ h=>h.elim
theorem zZ{sts:List D5}:PSs X sts Oa:=λ_ _ _ _ _ _ h=>h.elim
end
abbrev TG:=V->St->Hp->(St->Hp->Prop)->Prop
abbrev iT:=List V->St->Hp->(St->Hp->Prop)->Prop
def PG(X:Cx)(QF:C5)(t:TG):Prop :=
 ∀(pins:List (AQ×IL)) (s:AN) (σ:St) (H:Hp) (v:V) (u:AI) (Q:St->Hp->Prop),Inv X pins σ H s->RelV v u->t v σ H Q ->
  A4 (A3 X.prog X.w) X.A (LM QF X.env u) (λ_ s'=>∃σ' H',Inv X pins σ' H' s'/\Q σ' H') X.xe s
def PGs(X:Cx)(ts:List C5)(t:iT):Prop :=
 ∀(pins:List (AQ×IL)) (s:AN) (σ:St) (H:Hp) (vs:List V) (us:List AI) (Q:St->Hp->Prop),Inv X pins σ H s->Vals vs us->t vs σ H Q ->
  A4 (A3 X.prog X.w) X.A (assignInOrder ((G7 ts X.env).map (·.2)) us) (λ_ s'=>∃σ' H',Inv X pins σ' H' s'/\Q σ' H') X.xe s
abbrev Gp:=V->V->V->Hp->(Hp->Prop)->Prop
def Vt(X:Cx)(t:Gp):Prop :=
 ∀(pins:List (AQ×IL)) (s:AN) (σ:St) (H:Hp) (o i v:V) (ov iv u:AI) (Q:Hp->Prop),Inv X pins σ H s->RelV o ov->RelV i iv->RelV v u->t o i v H Q ->
  A4 (A3 X.prog X.w) X.A (setItem ov iv u) (λ_ s'=>∃H',Inv X pins σ H' s'/\Q H') X.xe s
def mF(i:Nat):TG:=λv σ H Q=>Q (σ.set i (AA v)) H
theorem yAO(hN:X.N.Nodup)(hi:X.N[i]?=AA x)(hx:Loc X.env.scope x)(hf:X.fn x=AG\/X.env.scope.names.lookup x=AA .local:=by first|exact .inl rfl|exact .inr rfl|assumption):PG X (.Name x pos) (mF i):=by
 intro pins s σ H v u Q I r h;exact wpAny_assign_Name (zR I hN hi hx r (λs' I'=>{_,H,I',h}) hf)
def yKI:iT:=λvs σ H Q=>vs=[]/\Q σ H
def yHX(t:TG)(u:iT):iT:=λvs σ H Q=>∃v r,vs=v::r/\t v σ H λσ' H'=>u r σ' H' Q
theorem iO:PGs X [] yKI:=by
 intro pins s σ H vs us Q I r h;obtain⟨e,h⟩:=h;subst e;cases r;exact assignInOrder_nil {σ,H,I,h}
theorem zWF{t:TG}{u:iT}(h1:PG X e t)(h2:PGs X es u)
  (hs:(G7 (e::es) X.env).map (·.2)=LM e X.env::(G7 es X.env).map (·.2):=by rfl):PGs X (e::es) (yHX t u):=by
 intro pins s σ H vs us Q I r h;obtain⟨v,vr,e1,h⟩:=h;subst e1
 cases r with
 |cons r rr =>
  rw[hs];refine assignInOrder_cons (GY (h1 pins s σ H _ _ _ I r h) λ_ s1 ⟨σ1,H1,I1,q1⟩=>?_);exact h2 pins s1 σ1 H1 _ _ Q I1 rr q1
def yKJ(K:AC)(n:Nat)(t:iT):TG:=λv σ H Q=>∃a xs,v=.ref a/\SqT K H a xs/\xs.length=n/\t xs σ H Q
theorem yEE{t:iT}(hc:X.calm=AG)(h:PGs X es t)
  (hn:(G7 es X.env).length=n:=by rfl) (Kd:(G7 es X.env).findIdx? (·.1)=AH:=by rfl):PG X (.Tuple es k pos) (yKJ X.K n t):=by
 intro pins s σ H v u Q I r hw;obtain⟨a,xs,e1,hq,hl,hw⟩:=hw;subst e1;cases r;obtain⟨CP,rv,ht,hz⟩:=I.tuple hq;refine assign_Tuple_tuple (I.ok.hd hc) ht (by simp[hn,<-hl,rv.length]) Kd λh' hx=>?_;have I1:Inv X pins σ H { s with heap:=h' }:=I.kept (t':=s.toks) λb o e=>hx b o (CH (BB e)) e;exact h pins _ σ H xs _ Q I1 (by simpa using rv) hw
def yKK(to ti:TE)(t:Gp):TG:=λv σ H Q=>to σ H λo H1=>ti σ H1 λi H2=>t o i v H2 λH3=>Q σ H3
theorem yEF{o i:C5}{to ti:TE}{t:Gp}(ho:PE X o to)(hi:PE X i ti)(hs:Vt X t)
  (ha:∀v,LM (.Subscript o i pos) X.env v=(do
   let ov <-MU [v] (eval o X.env)
   let iv <-MU [v,ov] (eval i X.env)
   LX pos
   MU [v,ov,iv] (setItem ov iv v)
   release [v,ov,iv] []):=by intro _;rfl):PG X (.Subscript o i pos) (yKK to ti t):=by
 intro pins s σ H v u Q I r h;rw[ha];refine AD (DP (GY (ho pins s σ H _ I h) λov s1 ⟨x,H1,I1,r1,q1⟩=>?_));refine AD (DP (GY (hi pins s1 σ H1 _ I1 q1) λiv s2 ⟨y,H2,I2,r2,q2⟩=>?_));refine AD (LW (AD (DP (GY (hs pins s2 σ H2 x y v ov iv u _ I2 r1 r2 r q2) λ_ s3 ⟨H3,I3,q3⟩=>?_))));exact wpAny_release {σ,H3,I3,q3}
def nO(te:TE)(g:TG):TS:=λD σ H=>te σ H λx H1=>g x σ H1 D.nx
theorem No{g:TG}(he:PE X e te)(hg:PG X tg g)(hs:aD [tg] e pos.line X.env=pure AB:=by rfl)(hw:aE [tg] e X.env=pure AH:=by rfl)
  (h1:(G7 [tg] X.env).map (·.2)=[LM tg X.env]:=by rfl):PS X (.Assign [tg] e pos) (nO te g):=by
 intro pins s σ H D I h;refine wpAny_Assign_stores (GY (he pins s σ H _ I h) λv s1 ⟨x,H1,I1,r1,q1⟩=>?_) hs hw;rw[h1];exact GY (hg pins s1 σ H1 x v _ I1 r1 q1) λ_ s2 q=>q
theorem tB(hN:X.N.Nodup)(hi:X.N[i]?=AA x)(hx:Loc X.env.scope x)(he:PE X e te)(hs:HG e (AA (.Name x NB)) pos.line X.env=pure AB:=by rfl)(hf:X.fn x=AG\/X.env.scope.names.lookup x=AA .local:=by first|exact .inl rfl|exact .inr rfl|assumption) :
  PS X (.Assign [.Name x NB] e pos) (nO te (mF i)):=by
 intro pins s σ H D I h;refine TU (GY (he pins s σ H _ I h) λv s1 ⟨y,H1,I1,r1,q1⟩=>?_) hs;exact zR I1 hN hi hx r1 (λs2 I2=>{_,H1,I2,q1}) hf
def yEG(c:TT)(tb:TS):TS:=λD σ H=>∃W:Nat->St->Hp->Prop,(∃m,W m σ H)/\∀m σ H,W m σ H ->
 c σ H λb H1=>if b=AG then ∃N:St->Hp->Prop,(∀σ' H',N σ' H'->∃m',m'<m/\W m' σ' H')/\tb { D with nx:=N,ct:=N,bk:=D.nx } σ H1 else D.nx σ H1
theorem zWG{tc:TT}{tb:TS}(hp:cE (A3 X.prog X.w) X.A X.env X.xe)(hc:PT X c tc)(hb:PSs X N8 tb):PS X (.While c N8 [] pos) (yEG tc tb):=by
 intro pins s σ H D I h;obtain⟨W,⟨m0,w0⟩,turn⟩:=h;refine wpAny_While (codeAny_whileLoop (λn s'=>∃σ' H',Inv X pins σ' H' s'/\W n σ' H') ?_ m0 {σ,H,I,w0});rintro n s1 ⟨σ1,H1,I1,w1⟩;refine HV hp (GY (hc pins s1 σ1 H1 _ I1 (turn n σ1 H1 w1)) λb s2 ⟨H2,I2,q2⟩=>?_)
 cases b with
 |true =>
  obtain⟨N,hN,q2⟩:=q2;rw[if_pos rfl];refine HV hp (GY (hb pins s2 σ1 H2 _ I2 q2) λf s3 q3=>?_)
  cases f with
  |next =>
   obtain⟨σ3,H3,I3,n3⟩:=q3;obtain⟨m',hm,w3⟩:=hN σ3 H3 n3;exact{m',hm,σ3,H3,I3,w3}
  |cont =>
   obtain⟨σ3,H3,I3,n3⟩:=q3;obtain⟨m',hm,w3⟩:=hN σ3 H3 n3;exact{m',hm,σ3,H3,I3,w3}
  |brk=>exact q3
  |ret v=>exact q3
 |false =>
  rw[if_neg BJ];exact HW {σ1,H2,I2,q2}
structure It where
 go:Nat->Hp->Prop
 yld:Nat->Hp->V->Hp->Prop
 stop:Nat->Hp->Prop
def FpOk(X:Cx)(pins:List (AQ×IL))(H:Hp)(b:AQ):Prop :=
 H b=AH/\b≠X.env.locals/\b∉X.fs/\(b∈X.ex\/X.s₀.heap.objs.size<=b)/\(∀x c,X.env.cells.lookup x=AA c->c≠b)/\∀p∈X.pn++pins,p.1≠b
theorem Inv.fpOk{b:AQ}(I:Inv X pins σ H s)(hb:s.heap.objs.size<=b)(hn:H' b=AH):FpOk X pins H' b:=by
 refine{hn,GW (AM I.lt hb),I.nofs hb,.inr (AV I.sz hb),λx c e z=>?_,λp hp z=>?_}
 .obtain⟨v,q⟩:=I.cell x c e
  exact absurd (AM q.lt (by rw[z];exact hb)) (FN _)
 .exact absurd (AM (BB (I.pin p hp).1) (by rw[z];exact hb)) (FN _)
structure Turn(P:CF)(w:DJ)(K:AC)(tg:C5)(J:It)(fp:List AQ)(it:AQ)(tn:Nat->D0->Prop):Prop where
 mem:it∈fp
 obj:∀i h,tn i h->∀b∈fp,∃o,h.get? b=AA o/\∀v,o.data≠.cell v
 keep:∀i h h',tn i h->(∀b∈fp,∀o,h.get? b=AA o->h'.get? b=AA o)->tn i h'
 item:∀(X:Cx),X.prog=P->X.w=w->X.K=K->X.calm=AG->∀(i:Nat) (pins:List (AQ×IL)) (s:AN) (σ:St) (H:Hp) (E:AI->AN->Prop),Inv X pins σ H s->(∀b∈fp,FpOk X pins H b)->tn i s.heap->J.go i H ->
  A4 (A3 P w) X.A (NF (.ref it)) (λr s1=>∃u,r=AA u /\
   A4 (A3 P w) X.A (G0 tg (.ref it) u) (λ_ s2=>∃x H',Inv X pins σ H' s2/\RelV x u/\J.yld i H x H'/\tn (i+1) s2.heap/\∀b∈fp,H' b=AH) E s1) E s
 done:∀(X:Cx),X.prog=P->X.w=w->X.K=K->X.calm=AG->∀(i:Nat) (pins:List (AQ×IL)) (s:AN) (σ:St) (H:Hp) (E:AI->AN->Prop),Inv X pins σ H s->(∀b∈fp,FpOk X pins H b)->tn i s.heap->J.stop i H ->
  A4 (A3 P w) X.A (NF (.ref it)) (λr s1=>r=AH/\Inv X pins σ H s1) E s
 self:∀(A:DI) (i:Nat) (s:AN) (Q:AI->AN->Prop) (E:AI->AN->Prop),tn i s.heap->Q (.ref it) s->A4 (A3 P w) A (QP (.ref it)) Q E s
abbrev TI:=St->Hp->(It->Hp->Prop)->Prop
def Ye(X:Cx)(pins:List (AQ×IL))(σ:St)(tg:C5)(R:It->Hp->Prop)(oJ:AI)(s2:AN):Prop :=
 ∃(it:AQ) (fp:List AQ) (tn:Nat->D0->Prop) (J:It) (H':Hp),oJ=.ref it/\Inv X pins σ H' s2/\Turn X.prog X.w X.K tg J fp it tn/\tn 0 s2.heap/\(∀b∈fp,FpOk X pins H' b)/\R J H'
def PI(X:Cx)(tg iter:C5)(wi:TI):Prop :=
 ∀(pins:List (AQ×IL)) (s:AN) (σ:St) (H:Hp) (R:It->Hp->Prop),Inv X pins σ H s->wi σ H R ->
  A4 (A3 X.prog X.w) X.A (eval iter X.env) (λv s1=>A4 (A3 X.prog X.w) X.A (QP v) (Ye X pins σ tg R) X.xe s1) X.xe s
theorem pT{E:AI → AN → Prop}{o:IL}{n:String}{vs:Array AI}{Q:Unit → AN → Prop}(ho : s.heap.get? it = AA o)(hc : o.cls = .type n)(hd : o.data = .fields vs)
    (hn : ["enumerate", "zip", "dict_itemiterator", "dict_reverseitemiterator", "odict_iterator", "itertools.zip_longest", "itertools.pairwise"].contains n = AB) (hQ : Q () s) : A4 M A (G0 tg (.ref it) u) Q E s := by
  unfold G0
  cases tg <;> first
    | exact wpAny_pure hQ
    | (cases u <;> first
        | exact wpAny_pure hQ
        | (
          refine AD (wpAny_load ho ?_);rw [hc, hd];show A4 M A (if (["enumerate", "zip", "dict_itemiterator", "dict_reverseitemiterator", "odict_iterator", "itertools.zip_longest", "itertools.pairwise"].contains n && vs[0]? == AA (J3 _)) = AG then _ else _) Q E s;rw [if_neg (by intro h; rw [hn, J1] at h; cases h)]
          exact wpAny_pure hQ))
noncomputable def Ie(K:AC)(a:AQ):It :=
 {λi H=>∃xs x,SqL K H a xs/\xs[i]?=AA x,λi H x H'=>H'=H/\∀xs,SqL K H a xs->xs[i]?=AA x,λi H=>∃xs,SqL K H a xs/\xs.length<=i}
noncomputable def Ic(K:AC)(a:AQ):It :=
 {λi H=>∃xs x,SqT K H a xs/\xs[i]?=AA x,λi H x H'=>H'=H/\∀xs,SqT K H a xs->xs[i]?=AA x,λi H=>∃xs,SqT K H a xs/\xs.length<=i}
noncomputable def uU(lo:Int)(n:Nat):It:={λi _=>i<n,λi H x H'=>H'=H/\x=.int (lo+i),λi _=>n<=i}
theorem zS5{K:AC}(a it:AQ):Turn P w K tg (Ie K a) [it] it (λi h=>h.IsListIter it a i) where
 mem:=by simp
 obj:=λi h st b hb=>by
  have e:b=it:=by simpa using hb
  subst e;obtain⟨o,e,c,d⟩:=st;exact{o,e,λv z=>by rw[d] at z;cases z}
 keep:=λi h h' st k=>st.at λo e=>k it 's' o e
 item:=by
  intro X hP hw hK hc i pins s σ H E I hf st hg;subst hP hw hK;obtain⟨xs,x,hq,hx⟩:=hg;obtain⟨CP,rv,p,hz⟩:=I.list hq;obtain⟨u,hu,ru⟩:=rv.get hx;obtain⟨f0,f1,f2,f3,f4,f5⟩:=hf it 's';refine wpAny_pyNext_list_item st p.isList (x:=u) (by simpa using hu) λh' CG sb=>?_;have I1:Inv X pins σ H { s with heap:=h' }:=I.turned (t':=s.toks) (λb o hb e=>(sb.2 b hb).trans e) f0 f1 f3 f4 f5;obtain⟨o,e,c,d⟩:=id CG;exact{u,rfl,pT (s:={ s with heap:=h' }) e c d 'd' {x,H,I1,ru,{rfl,λys hy=>by rw[I.list_inj hy hq];exact hx},CG,λb hb=>(hf b hb).1}}
 done:=by
  intro X hP hw hK hc i pins s σ H E I hf st hg;subst hP hw hK;obtain⟨xs,hq,hx⟩:=hg;obtain⟨CP,rv,p,hz⟩:=I.list hq;obtain⟨f0,f1,f2,f3,f4,f5⟩:=hf it 's';have hl:=rv.length;exact wpAny_pyNext_list_end (I.ok.hd hc) st p.isList (by simp;lia) λh' eb=>{rfl,I.turned (t':=s.toks) (λb o hb e=>eb b o hb e) f0 f1 f3 f4 f5}
 self:=λ_ _ _ _ _ st h=>wpAny_pyIter_listiter st h
theorem zRW{K:AC}(a it:AQ):Turn P w K tg (Ic K a) [it] it (λi h=>h.IsTupleIter it a i) where
 mem:=by simp
 obj:=λi h st b hb=>by
  have e:b=it:=by simpa using hb
  subst e;obtain⟨o,e,c,d⟩:=st;exact{o,e,λv z=>by rw[d] at z;cases z}
 keep:=λi h h' st k=>st.at λo e=>k it 's' o e
 item:=by
  intro X hP hw hK hc i pins s σ H E I hf st hg;subst hP hw hK;obtain⟨xs,x,hq,hx⟩:=hg;obtain⟨CP,rv,p,hz⟩:=I.tuple hq;obtain⟨u,hu,ru⟩:=rv.get hx;obtain⟨f0,f1,f2,f3,f4,f5⟩:=hf it 's';refine wpAny_pyNext_tuple_item st (show s.heap.IsTuple a CP.toArray from p) (x:=u) (by simpa using hu) λh' CG sb=>?_;have I1:Inv X pins σ H { s with heap:=h' }:=I.turned (t':=s.toks) (λb o hb e=>(sb.2 b hb).trans e) f0 f1 f3 f4 f5;obtain⟨o,e,c,d⟩:=id CG;exact{u,rfl,pT (s:={ s with heap:=h' }) e c d 'd' {x,H,I1,ru,{rfl,λys hy=>by rw[I.tuple_inj hy hq];exact hx},CG,λb hb=>(hf b hb).1}}
 done:=by
  intro X hP hw hK hc i pins s σ H E I hf st hg;subst hP hw hK;obtain⟨xs,hq,hx⟩:=hg;obtain⟨CP,rv,p,hz⟩:=I.tuple hq;obtain⟨f0,f1,f2,f3,f4,f5⟩:=hf it 's';have hl:=rv.length;exact wpAny_pyNext_tuple_end (I.ok.hd hc) st (show s.heap.IsTuple a CP.toArray from p) (by simp;lia) λh' eb=>{rfl,I.turned (t':=s.toks) (λb o hb e=>eb b o hb e) f0 f1 f3 f4 f5}
 self:=λ_ _ _ _ _ st h=>wpAny_pyIter_tupleiter st h
theorem zRX{K:AC}(it:AQ)(lo:Int)(n:Nat):Turn P w K tg (uU lo n) [it] it (λi h=>IsRangeIter h it (lo+(i:Nat) * 1) ((n:Int)-(i:Nat)) 1) where
 mem:=by simp
 obj:=λi h st b hb=>by
  have e:b=it:=by simpa using hb
  subst e
  exact{_,st,λv z=>by
   have z':ZB _=WS v:=z
   cases z'}
 keep:=λi h h' st k=>k it 's' _ st
 item:=by
  intro X hP hw hK hc i pins s σ H E I hf st hg;subst hP hw hK;obtain⟨f0,f1,f2,f3,f4,f5⟩:=hf it 's';have W:=Walks.range (prog:=X.prog) (w:=X.w) (I.ok.hd hc) it lo 1 n;refine W.item i s _ _ hg st λv h' tk hv CG kk=>?_;obtain⟨t,rfl⟩:=hv;have I1:Inv X pins σ H { s with heap:=h',toks:=tk }:=I.turned (λb o hb e=>kk b o (by simpa using hb) e) f0 f1 f3 f4 f5;refine{_,rfl,pT (s:={ s with heap:=h',toks:=tk }) (n:="range_iterator") CG rfl rfl 'd' {.int (lo+i),H,I1,{t,?_},{rfl,rfl},CG,λb hb=>(hf b hb).1}};rw[Int.mul_one]
 done:=by
  intro X hP hw hK hc i pins s σ H E I hf st hg;subst hP hw hK;obtain⟨f0,f1,f2,f3,f4,f5⟩:=hf it 's';exact wpAny_pyNext_range_end (I.ok.hd hc) st (by have:n<=i:=hg;lia) λh' eb=>{rfl,I.turned (t':=s.toks) (λb o hb e=>eb b o hb e) f0 f1 f3 f4 f5}
 self:=λ_ _ _ _ _ st h=>wpAny_pyIter_rangeiter st h
variable{tl:TE}{wi:TI}
def yHY(K:AC)(tl:TE):TI:=λσ H R=>tl σ H λx H1=>∃a,x=.ref a/\(∃xs,SqL K H1 a xs)/\R (Ie K a) H1
def yKL(K:AC)(tl:TE):TI:=λσ H R=>tl σ H λx H1=>∃a,x=.ref a/\(∃xs,SqT K H1 a xs)/\R (Ic K a) H1
theorem yAQ{l:C5}(hl:PE X l tl):PI X tg l (yHY X.K tl):=by
 intro pins s σ H R I h;refine GY (hl pins s σ H _ I h) λv s1 q0=>?_;obtain⟨x,H1,I1,r1,q1⟩:=q0;obtain⟨a,e,⟨xs,hq⟩,q⟩:=q1;subst e;cases r1;obtain⟨CP,rv,p,hz⟩:=I1.list hq;refine wpAny_pyIter_list p.isList ?_;refine{s1.heap.objs.size,[s1.heap.objs.size],_,_,H1,rfl,I1.kept (t':=s1.toks) λb o e=>AJ _ e,zS5 a _,{_,AW _ rfl,rfl,rfl},λb hb=>?_,q};have e:b=s1.heap.objs.size:=by simpa using hb
 subst e;exact I1.fpOk (AO _) (I1.hok.fresh (AO _))
theorem yEH{l:C5}(hl:PE X l tl):PI X tg l (yKL X.K tl):=by
 intro pins s σ H R I h;refine GY (hl pins s σ H _ I h) λv s1 q0=>?_;obtain⟨x,H1,I1,r1,q1⟩:=q0;obtain⟨a,e,⟨xs,hq⟩,q⟩:=q1;subst e;cases r1;obtain⟨CP,rv,p,hz⟩:=I1.tuple hq;refine J2 (show s1.heap.IsTuple a CP.toArray from p) ?_;refine{s1.heap.objs.size,[s1.heap.objs.size],_,_,H1,rfl,I1.kept (t':=s1.toks) λb o e=>AJ _ e,zRW a _,{_,AW _ rfl,rfl,rfl},λb hb=>?_,q};have e:b=s1.heap.objs.size:=by simpa using hb
 subst e;exact I1.fpOk (AO _) (I1.hok.fresh (AO _))
theorem Rf{R:It->Hp->Prop}{lo hi:Int}{t u v:b9}{tk:Nat}(I:Inv X pins σ H s)(h1:-(2 ^ 62)<=lo)(h2:lo<2 ^ 62)(h3:-(2 ^ 62)<=hi)(h4:hi<2 ^ 62)
  (q:R (uU lo (hi-lo).toNat) H):A4 (A3 X.prog X.w) X.A (QP (.ref s.heap.objs.size)) (Ye X pins σ tg R) E { s with heap:=s.heap.push { cls:=.type "range",data:=.fields #[.int lo t,.int hi u,.int 1 v] },toks:=tk }:=by
 refine wpAny_pyIter_range (IsRange.new ..) (small_one h1 h2 h3 h4) ?_;have I1:Inv X pins σ H { s with heap:=s.heap.push { cls:=.type "range",data:=.fields #[.int lo t,.int hi u,.int 1 v] },toks:=tk }:=I.kept λb o e=>AJ _ e
 refine{(s.heap.push { cls:=.type "range",data:=.fields #[.int lo t,.int hi u,.int 1 v] }).objs.size,[(s.heap.push { cls:=.type "range",data:=.fields #[.int lo t,.int hi u,.int 1 v] }).objs.size],_,_,H,rfl,
  I1.kept (t':=tk) λb o e=>AJ _ e,zRX _ lo (hi-lo).toNat,?_,λb hb=>?_,q}
 .have e1:lo+((0:Nat):Int) * 1=lo:=by simp
  have e2:(((hi-lo).toNat:Nat):Int)-((0:Nat):Int)=Builtin.Range.rangeSize lo hi 1:=by rw[rangeSize_one];split<;>lia
  show IsRangeIter _ _ (lo+((0:Nat):Int) * 1) ((((hi-lo).toNat:Nat):Int)-((0:Nat):Int)) 1;rw[e1,e2];exact AW _ rfl
 .have e:b=(s.heap.push { cls:=.type "range",data:=.fields #[.int lo t,.int hi u,.int 1 v] }).objs.size:=by simpa using hb
  subst e;exact I1.fpOk (AO _) (I1.hok.fresh (AO _))
def yHZ(ta:TA):TI:=λσ H R=>ta σ H λvs H1=>∃j:Int,vs=[.int j]/\-(2 ^ 62)<=j/\j<2 ^ 62/\R (uU 0 j.toNat) H1
def yH0(ta:TA):TI:=λσ H R=>ta σ H λvs H1=>∃i j:Int,vs=[.int i,.int j]/\(-(2 ^ 62)<=i/\i<2 ^ 62/\-(2 ^ 62)<=j/\j<2 ^ 62)/\R (uU i (j-i).toNat) H1
theorem zS6{a:C5}{ta:TA}(hg:Gl X "range")(hm:X.mg "range"=AH)(ha:PA X [a] ta)(hs:AF [a] X.env=[(AB,eval a X.env)]:=by rfl):PI X tg (.Call (.Name "range" p) [a] [] pos) (yHZ ta):=by
 intro pins s σ H R I h;refine Call_ (qA I hg hm boot_range (G8 (GY (ha pos pins s σ H _ I h) λus s1 ⟨vs,H1,I1,r1,q1⟩=>?_) hs rfl));obtain⟨j,e,q1,q2,q⟩:=q1;subst e
 cases r1 with
 |cons r rr =>
  cases rr;obtain⟨t,rfl⟩:=r;exact call_range_1 (Rf I1 'l' 'l' q1 q2 (by simpa using q))
theorem zS7{a b:C5}{ta:TA}(hg:Gl X "range")(hm:X.mg "range"=AH)(ha:PA X [a,b] ta)(hs:AF [a,b] X.env=[(AB,eval a X.env),(AB,eval b X.env)]:=by rfl)(N6:AF [b] X.env=[(AB,eval b X.env)]:=by rfl) :
  PI X tg (.Call (.Name "range" p) [a,b] [] pos) (yH0 ta):=by
 intro pins s σ H R I h;refine Call_ (qA I hg hm boot_range (G8 (GY (ha pos pins s σ H _ I h) λus s1 ⟨vs,H1,I1,r1,q1⟩=>?_) (by rw[hs,N6]) (by rw[N6];rfl)));obtain⟨i,j,e,⟨q1,q2,q3,q4⟩,q⟩:=q1;subst e
 cases r1 with
 |cons r rr =>
  cases rr with
  |cons r' rr =>
   cases rr;obtain⟨t,rfl⟩:=r;obtain⟨t',rfl⟩:=r';exact call_range_2 (Rf I1 q1 q2 q3 q4 q)
def yKM(wi:TI)(g:TG)(tb:TS):TS:=λD σ H=>wi σ H λJ H1=>∃W:Nat->Nat->St->Hp->Prop,(∃m,W 0 m σ H1)/\∀i m σ H,W i m σ H ->
 (J.stop i H/\D.nx σ H)\/(J.go i H/\∃N:St->Hp->Prop,(∀σ' H',N σ' H'->∃m',m'<m/\W (i+1) m' σ' H')/\∀x H',J.yld i H x H'->g x σ H' λσ2 H2=>tb { D with nx:=N,ct:=N,bk:=D.nx } σ2 H2)
noncomputable def sZ(fp:List AQ)(h:D0):List (AQ×IL):=fp.filterMap λb=>(h.get? b).map λo=>(b,o)
theorem Ac{b:AQ}{o:IL}(hb:b∈fp)(e:h.get? b=AA o):(b,o)∈sZ fp h:=FF.mpr {b,hb,by rw[e];rfl}
theorem zS8{p:AQ×IL}(hp:p∈sZ fp h):p.1∈fp/\h.get? p.1=AA p.2:=by
 obtain⟨b,hb,e⟩:=FF.mp hp
 cases q:h.get? b with
 |none=>rw[q] at e;cases e
 |some o =>
  rw[q] at e;have e':(b,o)=p:=BV e;subst e';exact{hb,q}
theorem Inv.pinned(I:Inv X pins σ H s)(hf:∀b∈fp,FpOk X pins H b)(ho:∀b∈fp,∃o,s.heap.get? b=AA o/\∀v,o.data≠.cell v):Inv X (pins++sZ fp s.heap) σ H s :=
 I.pins_of λp hp=>(GN.mp hp).elim (λz=>I.pin p (CI _ z)) λz=>by
  obtain⟨hb,e⟩:=zS8 z;obtain⟨f0,f1,f2,_⟩:=hf p.1 hb;obtain⟨o,e',d⟩:=ho p.1 hb;rw[e] at e';cases e';exact{e,f0,f1,f2,d}
theorem Inv.unpinned{pl:List (AQ×IL)}(I:Inv X (pins++pl) σ H s):Inv X pins σ H s:=I.pins_of λp hp=>I.pin p (CI _ (Y9 _ hp))
theorem yEI{iter:C5}{g:TG}{tb:TS}(hp:cE (A3 X.prog X.w) X.A X.env X.xe)(hc:X.calm=AG)(hi:PI X tg iter wi)(hg:PG X tg g)(hb:PSs X N8 tb)
  (hs:∀x,CW iter X.env x=pure x:=by intro _;rfl):PS X (.For tg iter N8 [] pos) (yKM wi g tb):=by
 intro pins s σ H D I h;refine wpAny_For (GY (hi pins s σ H _ I h) λv s1 h1=>GY h1 λoJ s2 h2=>?_) hs;obtain⟨it,fp,tn,J,H2,e,I2,T,st2,f2,W,⟨m0,w0⟩,turn⟩:=h2;subst e
 -- what stays AG of the iterator's objects through the oI
 have UY:∀{H':Hp},(∀b∈fp,H' b=AH)->∀b∈fp,FpOk X pins H' b:=λhn b hb=>{hn b hb,(f2 b hb).2};refine codeAny_forLoop_any (λn s'=>∃i σ' H',Inv X pins σ' H' s'/\tn i s'.heap/\(∀b∈fp,H' b=AH)/\W i n σ' H') ?_ m0 {0,σ,H2,I2,st2,λb hb=>(f2 b hb).1,w0};rintro n s3 ⟨i,σ3,H3,I3,LJ,xI,w3⟩;rcases turn i n σ3 H3 w3 with⟨stop,qn⟩|⟨go,N,hN,TW⟩
 .refine HV hp (GY (T.done X rfl rfl rfl hc i pins s3 σ3 H3 X.xe I3 (UY xI) LJ stop) λr s4 ⟨hr,I4⟩=>?_)
  subst hr;exact HW {σ3,H3,I4,qn}
 .refine HV hp (GY (T.item X rfl rfl rfl hc i pins s3 σ3 H3 X.xe I3 (UY xI) LJ go) λr s4 ⟨u,hr,h4⟩=>?_)
  subst hr;refine HV hp (GY h4 λ_ s5 ⟨x,H5,I5,r5,y5,ZX,Mb⟩=>?_);have Mn:=I5.pinned (UY Mb) (T.obj _ _ ZX);refine HV hp (GY (hg _ s5 σ3 H5 x u _ Mn r5 (TW x H5 y5)) λ_ s6 ⟨σ6,H6,I6,q6⟩=>?_);refine HV hp (GY (hb _ s6 σ6 H6 _ I6 q6) λf s7 q7=>?_)
  have X5:∀{σ7:St} {H7:Hp},Inv X (pins++sZ fp s5.heap) σ7 H7 s7->N σ7 H7->∃m,m<n/\∃i σ' H',Inv X pins σ' H' s7/\tn i s7.heap/\(∀b∈fp,H' b=AH)/\W i m σ' H':=λ{σ7 H7} I7 n7=>by
   obtain⟨m',hm,w7⟩:=hN σ7 H7 n7;refine{m',hm,i+1,σ7,H7,I7.unpinned,T.keep _ _ _ ZX λb hb o e=>(I7.pin (b,o) (CI _ (CI _ (Ac hb e)))).1,λb hb=>?_,w7};obtain⟨o,e,d⟩:=T.obj _ _ ZX b hb;exact(I7.pin (b,o) (CI _ (CI _ (Ac hb e)))).2.1
  cases f with
  |next=>obtain⟨σ7,H7,I7,n7⟩:=q7;exact X5 I7 n7
  |cont=>obtain⟨σ7,H7,I7,n7⟩:=q7;exact X5 I7 n7
  |brk=>obtain⟨σ7,H7,I7,q7⟩:=q7;exact{σ7,H7,I7.unpinned,q7}
  |ret v=>obtain⟨x7,σ7,H7,I7,r7,q7⟩:=q7;exact{x7,σ7,H7,I7.unpinned,r7,q7}
abbrev R2:=V->V->Hp->VK->Prop
def OpR(X:Cx)(f:AI->AI->SM AI)(r:R2):Prop :=
 ∀(pins:List (AQ×IL)) (s:AN) (σ:St) (H:Hp) (x y:V) (v u:AI) (Q:VK),Inv X pins σ H s->RelV x v->RelV y u->r x y H Q ->
  A4 (A3 X.prog X.w) X.A (f v u) (EP X pins σ Q) X.xe s
def Bm(X:Cx)(f:AI->SM AI)(r:V->Hp->VK->Prop):Prop :=
 ∀(pins:List (AQ×IL)) (s:AN) (σ:St) (H:Hp) (x:V) (v:AI) (Q:VK),Inv X pins σ H s->RelV x v->r x H Q ->
  A4 (A3 X.prog X.w) X.A (f v) (EP X pins σ Q) X.xe s
def CallR(X:Cx)(f:AI)(r:List V->Hp->VK->Prop):Prop :=
 ∀(pins:List (AQ×IL)) (s:AN) (σ:St) (H:Hp) (xs:List V) (us:List AI) (Q:VK),Inv X pins σ H s->Vals xs us->r xs H Q ->
  A4 (A3 X.prog X.w) X.A (call f us) (EP X pins σ Q) X.xe s
def yKN(X:Cx)(r:V->Hp->(Bool->Hp->Prop)->Prop):Prop :=
 ∀(pins:List (AQ×IL)) (s:AN) (σ:St) (H:Hp) (x:V) (v:AI) (Q:Bool->Hp->Prop),Inv X pins σ H s->RelV x v->r x H Q ->
  A4 (A3 X.prog X.w) X.A (truthy v) (TP X pins σ Q) X.xe s
def nQ(r:R2)(ta tb:TE):TE:=λσ H Q=>ta σ H λx H1=>tb σ H1 λy H2=>r x y H2 Q
def Xn(r:V->Hp->VK->Prop)(ta:TE):TE:=λσ H Q=>ta σ H λx H1=>r x H1 Q
def rI(C:Int->Int->Prop)(g:Int->Int->V):R2:=λx y H Q=>∃i j,x=.int i/\y=.int j/\C i j/\Q (g i j) H
def ZR(g:Int->Int->V):R2:=λx y H Q=>∃i j,x=.int i/\y=.int j/\Q (g i j) H
def rU(g:Int->V):V->Hp->VK->Prop:=λx H Q=>∃i,x=.int i/\Q (g i) H
section
variable{a b:C5}{tc:TE}
theorem Gu(ha:PE X a ta)(hb:PE X b tb){R:V->V->Hp->Prop}(I:Inv X pins σ H s)
  (h:ta σ H λx H1=>tb σ H1 λy H2=>R x y H2) {Q:AI->AN->Prop} {f:AI->AI->SM AI}
  (hf:∀v u s2 x y H2,Inv X pins σ H2 s2->RelV x v->RelV y u->R x y H2->A4 (A3 X.prog X.w) X.A (f v u) Q X.xe s2) :
  A4 (A3 X.prog X.w) X.A (eval a X.env) (λv FC=>A4 (A3 X.prog X.w) X.A (eval b X.env) (λu ZW=>A4 (A3 X.prog X.w) X.A (f v u) Q X.xe ZW) X.xe FC) X.xe s:=by
 refine GY (ha pins s σ H _ I h) λv s1 q0=>?_;obtain⟨x,H1,I1,r1,q1⟩:=q0;refine GY (hb pins s1 σ H1 _ I1 q1) λu s2 q0=>?_;obtain⟨y,H2,I2,r2,q2⟩:=q0;exact hf v u s2 x y H2 I2 r1 r2 q2
theorem Hk{op:Operator}{r:R2}(ho:OpR X (HH op) r)(ha:PE X a ta)(hb:PE X b tb):PE X (.BinOp a op b pos) (nQ r ta tb):=by
 intro pins s σ H Q I h;exact wpAny_BinOp (Gu ha hb I h λv u s2 x y H2 I2 rx ry q=>ho pins s2 σ H2 x y v u Q I2 rx ry q)
theorem yH2{op:UnaryOp}{r:V->Hp->VK->Prop}(ho:Bm X (unaryOp op) r)(ha:PE X a ta):PE X (.UnaryOp op a pos) (Xn r ta):=by
 intro pins s σ H Q I h;exact UnaryOp_ (GY (ha pins s σ H _ I h) (λv s1 q0=>by obtain⟨x,H1,I1,r1,q1⟩:=q0;exact ho pins s1 σ H1 x v Q I1 r1 q1))
theorem Be{f:AI->AI->SM AI}{C:Int->Int->Prop}{g:Int->Int->Int}
  (rule:∀(i j:Int) (t u:b9) (s:AN) (Q:AI->AN->Prop) (E:AI->AN->Prop),C i j->Q (.int (g i j) s.toks) { s with toks:=s.toks+1 }->A4 (A3 X.prog X.w) X.A (f (.int i t) (.int j u)) Q E s) :
  OpR X f (rI C λi j=>.int (g i j)):=by
 intro pins s σ H x y v u Q I rx ry h;obtain⟨i,j,rfl,rfl,hc,q⟩:=h;obtain⟨t,rfl⟩:=rx;obtain⟨t',rfl⟩:=ry;exact rule i j t t' s _ _ hc {.int (g i j),H,I.tok _,{_,rfl},q}
theorem Vs{f:AI->AI->SM AI}{g:Int->Int->Int}
  (rule:∀(i j:Int) (t u:b9) (s:AN) (Q:AI->AN->Prop) (E:AI->AN->Prop),Q (.int (g i j) s.toks) { s with toks:=s.toks+1 }->A4 (A3 X.prog X.w) X.A (f (.int i t) (.int j u)) Q E s) :
  OpR X f (ZR λi j=>.int (g i j)):=by
 intro pins s σ H x y v u Q I rx ry h;obtain⟨i,j,rfl,rfl,q⟩:=h;obtain⟨t,rfl⟩:=rx;obtain⟨t',rfl⟩:=ry;exact rule i j t t' s _ _ {.int (g i j),H,I.tok _,{_,rfl},q}
theorem Ax{f:AI->AI->SM AI}{g:Int->Int->Bool}
  (rule:∀(i j:Int) (t u:b9) (s:AN) (Q:AI->AN->Prop) (E:AI->AN->Prop),Q (.bool (g i j)) s->A4 (A3 X.prog X.w) X.A (f (.int i t) (.int j u)) Q E s) :
  OpR X f (ZR λi j=>.bl (g i j)):=by
 intro pins s σ H x y v u Q I rx ry h;obtain⟨i,j,rfl,rfl,q⟩:=h;obtain⟨t,rfl⟩:=rx;obtain⟨t',rfl⟩:=ry;exact rule i j t t' s _ _ {.bl (g i j),H,I,rfl,q}
def Vr(i j:Int):Prop:=0<=j/\j<=1000000/\i.natAbs<2 ^ 64
def CMul(i j:Int):Prop:=(-(2 ^ 64)<i/\i<2 ^ 64)\/(-(2 ^ 64)<j/\j<2 ^ 64)
theorem CMul.ok{i j:Int}(h:CMul i j):IntMulOk i j:=by
 rcases h with⟨h1,h2⟩|⟨h1,h2⟩
 .exact .of_left (intBits_le_64 h1 h2)
 .exact .of_right (intBits_le_64 h1 h2)
theorem nU:OpR X (HH .Add) (ZR λi j=>.int (i+j)):=Vs λ_ _ _ _ _ _ _ q=>add_int q
theorem yEJ:OpR X (HH .Sub) (ZR λi j=>.int (i-j)):=Vs λ_ _ _ _ _ _ _ q=>sub_int q
theorem yEK:OpR X (HH .Mult) (rI CMul λi j=>.int (i * j)):=Be λ_ _ _ _ _ _ _ hc q=>mul_int q hc.ok
theorem yEL:OpR X (HH .Mod) (rI (λ_ j=>0<j) λi j=>.int (i % j)):=Be λi j _ _ _ _ _ hc q=>by
 have h1:(0:Int)<j:=hc;exact mod_int' (Int.ne_of_gt hc) (by rw[Int.fmod_eq_emod_of_nonneg i (YD hc)];exact q)
theorem yEM:OpR X (HH .Pow) (rI Vr λi j=>.int (i ^ j.toNat)):=Be λ_ _ _ _ _ _ _ hc q=>pow_int_small hc.1 hc.2.1 hc.2.2 q
theorem unI{f:AI->SM AI}{g:Int->Int}
  (rule:∀(i:Int) (t:b9) (s:AN) (Q:AI->AN->Prop) (E:AI->AN->Prop),Q (.int (g i) s.toks) { s with toks:=s.toks+1 }->A4 (A3 X.prog X.w) X.A (f (.int i t)) Q E s) :
  Bm X f (rU λi=>.int (g i)):=by
 intro pins s σ H x v Q I rx h;obtain⟨i,rfl,q⟩:=h;obtain⟨t,rfl⟩:=rx;exact rule i t s _ _ {.int (g i),H,I.tok _,{_,rfl},q}
theorem yEN:Bm X (unaryOp .USub) (rU λi=>.int (-i)):=unI λ_ _ _ _ _ q=>neg_int q
end
variable{r':R2}
section
variable{a b:C5}{tc:TE}
theorem Nm{Q:VK}{k k':Bool}(I:Inv X pins σ H s)(q:Q (.bl k) H)(e:k=k'):EP X pins σ Q (.bool k') s:=by
 subst e;exact{.bl k,H,I,rfl,q}
theorem dA:OpR X (CO .Lt) (ZR λi j=>.bl (decide (i<j))):=Ax λ_ _ _ _ _ _ _ q=>lt_int q
theorem cQ:OpR X (CO .LtE) (ZR λi j=>.bl (decide (i<=j))):=Ax λ_ _ _ _ _ _ _ q=>le_int q
theorem yH3:OpR X (CO .Gt) (ZR λi j=>.bl (decide (j<i))):=Ax λ_ _ _ _ _ _ _ q=>gt_int q
theorem yH4:OpR X (CO .GtE) (ZR λi j=>.bl (decide (j<=i))):=Ax λ_ _ _ _ _ _ _ q=>ge_int q
theorem yEO:OpR X (CO .Is) (λx y H Q=>y=.non/\Q (.bl (decide (x=.non))) H):=by
 intro pins s σ H x y v u Q I rx ry h;obtain⟨rfl,q⟩:=h;cases ry;refine is_none_gen (Nm I q ?_)
 cases x<;>first
  |(cases rx;rfl)
  |(obtain⟨t,rfl⟩:=rx;rfl)
theorem yAS:OpR X (CO .IsNot) (λx y H Q=>y=.non/\Q (.bl (!decide (x=.non))) H):=by
 intro pins s σ H x y v u Q I rx ry h;obtain⟨rfl,q⟩:=h;cases ry;refine isnot_none_gen (Nm I q ?_)
 cases x<;>first
  |(cases rx;rfl)
  |(obtain⟨t,rfl⟩:=rx;rfl)
theorem OpR.or{f:AI->AI->SM AI}{r:R2}(h:OpR X f r)(h':OpR X f r'):OpR X f (λx y H Q=>r x y H Q\/r' x y H Q):=by
 intro pins s σ H x y v u Q I rx ry q;rcases q with q|q
 .exact h pins s σ H x y v u Q I rx ry q
 .exact h' pins s σ H x y v u Q I rx ry q
theorem yJN(b:C5)(h:op≠.In:=by decide)(h2:op≠.NotIn:=by decide):CY op b=AB:=by
 have e1:(op==CmpOp.In)=AB:=by cases op<;>first|rfl|exact absurd rfl h
 have e2:(op==CmpOp.NotIn)=AB:=by cases op<;>first|rfl|exact absurd rfl h2
 cases b<;>simp[CY,e1,e2]
theorem yAT{r:R2}(ho:OpR X (CO op) r)(ha:PE X a ta)(hb:PE X b tb)(hm:CY op b=AB):PE X (.Compare a [op] [b] pos) (nQ r ta tb):=by
 intro pins s σ H Q I h;exact wpAny_Compare1 (Gu ha hb I h λv u s2 x y H2 I2 rx ry q=>ho pins s2 σ H2 x y v u Q I2 rx ry q) hm
def Xb(t:TE):TT:=λσ H Q=>t σ H λx H'=>∃k,x=.bl k/\Q k H'
theorem yAU{r:R2}(ho:OpR X (CO op) r)(ha:PE X a ta)(hb:PE X b tb)(hm:CY op b=AB):PT X (.Compare a [op] [b] pos) (Xb (nQ r ta tb)):=by
 intro pins s σ H Q I h
 refine wpAny_isTrue_Compare1 (GY (ha pins s σ H _ I h) λv s1 ⟨x,H1,I1,r1,q1⟩=>GY (hb pins s1 σ H1 _ I1 q1) λu s2 ⟨y,H2,I2,r2,q2⟩ =>
  GY (ho pins s2 σ H2 x y v u _ I2 r1 r2 q2) λc s3 ⟨z,H3,I3,r3,k,e,q3⟩=>?_) hm
 subst e;cases r3;exact EY {H3,I3,q3}
def Dd(r r':R2)(ta tb tc:TE):TE:=λσ H Q=>ta σ H λx H1=>tb σ H1 λy H2=>r x y H2 λz H3=>∃k,z=.bl k /\
 (if k=AG then tc σ H3 λw' H4=>r' y w' H4 Q else Q (.bl AB) H3)
theorem zWH{r:R2}(ho:OpR X (CO op) r)(XU:OpR X (CO bO) r')(ha:PE X a ta)(hb:PE X b tb)(hc:PE X c tc)
  (hm:bY [op,bO] [b,c]=AB:=by with_unfolding_all rfl):PE X (.Compare a [op,bO] [b,c] pos) (Dd r r' ta tb tc):=by
 intro pins s σ H Q I h
 refine Compare_chain (GY (ha pins s σ H _ I h) λv s1 ⟨x,H1,I1,r1,q1⟩=>chain_link (GY (hb pins s1 σ H1 _ I1 q1) λu s2 ⟨y,H2,I2,r2,q2⟩ =>
  GY (ho pins s2 σ H2 x y v u _ I2 r1 r2 q2) λd s3 ⟨z,H3,I3,r3,k,e,q3⟩=>?_)) hm
 subst e;cases r3;refine EY ?_
 cases k with
 |false=>exact ite_ff {.bl AB,H3,I3,rfl,q3}
 |true=>exact ite_tt (chain_last (GY (hc pins s3 σ H3 _ I3 q3) (λw' s4 q0=>by obtain⟨z',H4,I4,r4,q4⟩:=q0;exact XU pins s4 σ H4 y z' u w' Q I4 r2 r4 q4)))
theorem zWI{r:R2}(ho:OpR X (CO op) r)(XU:OpR X (CO bO) r')(ha:PE X a ta)(hb:PE X b tb)(hc:PE X c tc)
  (hm:bY [op,bO] [b,c]=AB:=by with_unfolding_all rfl):PT X (.Compare a [op,bO] [b,c] pos) (Xb (Dd r r' ta tb tc)):=by
 intro pins s σ H Q I h
 refine isTrue_chain (GY (ha pins s σ H _ I h) λv s1 ⟨x,H1,I1,r1,q1⟩=>test_link (GY (hb pins s1 σ H1 _ I1 q1) λu s2 ⟨y,H2,I2,r2,q2⟩ =>
  GY (ho pins s2 σ H2 x y v u _ I2 r1 r2 q2) λd s3 ⟨z,H3,I3,r3,k,e,q3⟩=>?_)) hm
 subst e;cases r3;refine EY ?_
 cases k with
 |false =>
  obtain⟨k',e',q'⟩:=q3;cases e';exact ite_ff {H3,I3,q'}
 |true =>
  refine ite_tt (test_last (GY (hc pins s3 σ H3 _ I3 q3) λw' s4 ⟨z',H4,I4,r4,q4⟩=>GY (XU pins s4 σ H4 y z' u w' _ I4 r2 r4 q4) λd' s5 ⟨z2,H5,I5,r5,k2,e2,q5⟩=>?_));subst e2;cases r5;exact EY {H5,I5,q5}
def Vq(K:AC)(x:V)(H:Hp)(k:Bool):Prop :=
 match x with
 |.non=>k=AB
 |.bl b=>k=b
 |.int i=>k=(i != 0)
 |.str y=>y.length<=sizeLine/\k=((y.length:Int) != 0)
 |.byt y=>y.size<=sizeLine/\k=((y.size:Int) != 0)
 |.ref p=>(∃xs,SqL K H p xs/\k=!xs.isEmpty)\/(∃xs,SqT K H p xs/\k=!xs.isEmpty)\/∃kvs,H p=AA (.dK kvs)/\k=!kvs.isEmpty
 |_=>False
theorem zRY{kvs:List (κ×V)}{vs:List (κ×AI)}(r:KV kvs vs):(!vs.isEmpty)=!kvs.isEmpty:=by
 cases r<;>rfl
theorem Tt{xs:List V}(r:Vals xs CP):(!CP.toArray.isEmpty)=!xs.isEmpty:=by
 cases r<;>simp
theorem kC:(sizeLine:Nat)<2 ^ 63:=by rw[QO];decide
theorem yEQ:yKN X (λx H Q=>∃k,Vq X.K x H k/\Q k H):=by
 intro pins s σ H x v Q I rx h;obtain⟨k,e,q⟩:=h;have hl:=kC;have hs:sizeLine=16777216:=QO
 cases x with
 |non =>
  cases rx;have e':k=AB:=e;subst e';exact truthy_none {H,I,q}
 |bl b =>
  cases rx;have e':k=b:=e;subst e';exact EY {H,I,q}
 |int i =>
  obtain⟨t,rfl⟩:=rx;have e':k=(i != 0):=e;subst e';exact PySem.P.truthy_int {H,I,q}
 |str y =>
  obtain⟨t,rfl⟩:=rx;obtain⟨hy,e'⟩:y.length<=sizeLine/\k=((y.length:Int) != 0):=e;subst e';exact PySem.P.truthy_str 'l' {H,I.tok _,q}
 |byt y =>
  obtain⟨t,rfl⟩:=rx;obtain⟨hy,e'⟩:y.size<=sizeLine/\k=((y.size:Int) != 0):=e;subst e';exact PySem.W.truthy_bytes 'l' {H,I.tok _,q}
 |ref p =>
  cases rx;have e':(∃xs,SqL X.K H p xs/\k=!xs.isEmpty)\/(∃xs,SqT X.K H p xs/\k=!xs.isEmpty)\/∃kvs,H p=AA (.dK kvs)/\k=!kvs.isEmpty:=e;rcases e' with⟨xs,hx,e'⟩|⟨xs,hx,e'⟩|⟨kvs,hx,e'⟩
  .subst e'
   obtain⟨CP,r,pl,hz⟩:=I.list hx;have FP:=r.length;exact wpAny_truthy_list pl.isList (by simp only[A5];lia) {H,I.tok _,by rw[Tt r];exact q}
  .subst e'
   obtain⟨CP,r,pl,hz⟩:=I.tuple hx;have FP:=r.length;exact truthy_tuple pl (by simp only[A5];lia) {H,I.tok _,by rw[Tt r];exact q}
  .subst e'
   obtain⟨hz,hS,vs,r,m⟩:kvs.length<=sizeLine/\(p==HP)=AB/\∃vs,KV kvs vs/\s.heap.DictOf (V7 X.prog X.w) p vs:=I.hok p _ hx;have FP:kvs.length=vs.length:=Paired.length r;exact wpAny_truthy_dict hS m 'l' {H,I.tok _,by rw[zRY r];exact q}
 |_=>exact(show False from e).elim
theorem zWJ(ha:PE X a ta)(he:∀R8,U9 a X.env R8=(do let v <-R8;LX a.pos;MU [v] (truthy v))) :
  PT X a (λσ H Q=>ta σ H λx H'=>∃k,Vq X.K x H' k/\Q k H'):=by
 intro pins s σ H Q I h;exact isTrue_plain (GY (ha pins s σ H _ I h) (λv s1 q0=>by obtain⟨x,H1,I1,r1,q1⟩:=q0;exact yEQ pins s1 σ H1 x v Q I1 r1 q1)) (he _)
theorem zRZ:OpR X (HH .Add) (λx y H Q=>∃i j,x=.str i/\y=.str j/\i.length+j.length<=sizeLine/\Q (.str (i++j)) H):=by
 intro pins s σ H x y v u Q I rx ry h;obtain⟨i,j,rfl,rfl,hz,q⟩:=h;obtain⟨t,rfl⟩:=rx;obtain⟨t',rfl⟩:=ry;exact add_str (λt' tk=>{.str (i++j),H,I.tok _,{_,rfl},q}) hz
theorem VQ{x:V}(r:Vals [x] us):∃u,us=[u]/\RelV x u:=by
 cases r with
 |cons r1 r2=>cases r2;exact{_,rfl,r1}
theorem yH5{x y:V}(r:Vals [x,y] us):∃u w',us=[u,w']/\RelV x u/\RelV y w':=by
 cases r with
 |cons r1 r2 =>
  cases r2 with
  |cons r3 r4=>cases r4;exact{_,_,rfl,r1,r3}
theorem zTA(hc:X.calm=AG):CallR X (.builtin "min") (λxs H Q=>∃i j,xs=[.int i,.int j]/\Q (.int (if j<i then j else i)) H):=by
 intro pins s σ H xs us Q I r h;obtain⟨i,j,rfl,q⟩:=h;obtain⟨u,w',rfl,⟨t,rfl⟩,⟨t',rfl⟩⟩:=yH5 r;refine min_two_ints (I.ok.hd hc) λh' tk k=>{_,H,I.kept k,?_,q}
 by_cases hj:j<i
 .rw[if_pos hj,if_pos hj];exact{_,rfl}
 .rw[if_neg hj,if_neg hj];exact{_,rfl}
end
structure ObjM(h:D0)(x dx C:AQ)(mA:BL->Option AI):Prop where
 obj:h.get? x=AA (RJ C dx)
 ns:h.Ns1 dx mA
 ne:dx≠x
theorem zTB(n:h.Ns1 dx mA):∃od,h.get? dx=AA od/\∀name,SN name od=AA (mA name):=by
 obtain⟨o,es,ep,ho,hd,hk,_,hm⟩:=n;refine{o,ho,λname=>?_};have e:=hm name;unfold nsFind findBy at e;rw[<-Array.find?_toList] at e;unfold SN;rw[hd];dsimp only;split
 .rename_i y q
  rw[q] at e;exact congrArg AA e
 .rename_i q
  rw[q] at e
  have a:es.toList.any (·.refKey)=AB:=by
   rw[MX];intro y hy;obtain⟨z,t,PN⟩:=hk y (FO.mp hy);simp[DictEntry.refKey,PN]
  have a':¬es.toList.any (·.refKey)=AG:=by rw[a];exact BJ
  rw[if_neg a'];exact congrArg AA e
theorem ObjM.look{x:AQ}(I:ObjM h x dx C mA):∃od,PySem.W.InstAt h x (RJ C dx) C (AA od)/\∀name,SN name od=AA (mA name) :=
 let ⟨od,ho,hl⟩:=zTB I.ns
 {od,{I.obj,rfl,rfl,ho},hl}
section
variable{K:AC}{x:AQ}{v:AI}
end
theorem RelO.some_of{v:V}{o:Option AI}(r:RelO (AA v) o):∃u,o=AA u/\RelV v u:=by
 cases o with
 |none=>exact(show False from r).elim
 |some u=>exact{u,rfl,r}
section
variable{fs fs':List (BL×V)}
theorem yAV(hok:HOk P w H h)(e:H a=AA (.ins C dx fs)):∃mA,ObjM h a dx C mA/\(∀f,RelO (fs.lookup f) (mA f))/\PySem.Within mA (fs.map (·.1))/\fs.length<=1000/\H dx=AA (.own a):=by
 obtain⟨d,z,ne,ob,mA,n,r,q⟩:=(show ObjOk P w H h a (.ins C dx fs) from hok a _ e);exact{mA,{ob,n,ne},r,q,z,d}
end
structure Cls(K:AC)(C:AQ):Prop where
 pg:aO K C Str.empty=AG
 hd:PySem.W.hasDictIn K C=AG
 po:PySem.W.plainOver K C=AG
 sa:LO K (.ref C) "__setattr__"=AA (AA (.builtin "object.__setattr__"))
theorem Cls.get{K:AC}(c:Cls K C)(f:BL):aO K C f=AG:=c.pg
section
variable{fs:List (BL×V)}{f:BL}{v:V}
end
section
variable{o:C5}{f:BL}{tv:TE}
end
section
variable{c:AI}{b:Bool}
inductive TyOf(K:AC)(H:Hp):V->AI->Prop where
 |non:TyOf K H .non (.type "NoneType")
 |bl (x:Bool):TyOf K H (.bl x) (.type "bool")
 |int (i:Int):TyOf K H (.int i) (.type "int")
 |str (x:BL):TyOf K H (.str x) (.type "str")
 |flt (x:UInt64):TyOf K H (.flt x) (.type "float")
 |lst {a:AQ} {xs:List V} (e:H a=AA (.lst xs)):TyOf K H (.ref a) (.type "list")
 |frz {a:AQ} {o:IL} {xs:List V} (e:H a=AA (.frz o (.lst xs))):TyOf K H (.ref a) (.type "list")
 |tup {a:AQ} {xs:List V} (e:H a=AA (.tup xs)):TyOf K H (.ref a) (.type "tuple")
 |dK {a:AQ} {kvs:List (Key×V)} (e:H a=AA (.dK kvs)):TyOf K H (.ref a) (.type "dict")
 |dT {a:AQ} {kvs:List (List Key×V)} (e:H a=AA (.dT kvs)):TyOf K H (.ref a) (.type "dict")
 |ins {a C dx:AQ} {fs:List (BL×V)} (e:H a=AA (.ins C dx fs)) (cl:Cls K C) (ha:LO K (.ref C) "__class__"=AA (AA (.builtin "object.__class__")))
   (hn:Y3 K (.builtin "object.__class__") "__get__"=AA (AA (.builtin "getset_descriptor.__get__"))) (Zh:cC K (.builtin "object.__class__")=AA AG)
   (hm:T0 K C (.type "object")=AA AG):TyOf K H (.ref a) (.ref C)
theorem zY{x:V}{t:AI}(I:Inv X pins σ H s)(rx:RelV x u)(ty:TyOf X.K H x t)(e:BN X.K t c=AA b)(h:∀tk,Q (.bool b) { s with toks:=tk }) :
  A4 (A3 X.prog X.w) A (call (.builtin "isinstance") [u,c]) Q E s:=by
 cases ty with
 |non=>cases(show u=D2 from rx);exact C7 PySem.W.kitx_none I.kIn JB e (λz=>nomatch z) h
 |bl y=>cases(show u=HX y from rx);exact C7 PySem.W.kitx_bool I.kIn JB e (λz=>nomatch z) h
 |int i=>obtain⟨t,q⟩:=(show ∃t,u=IA i t from rx);cases q;exact C7 PySem.W.kitx_int I.kIn JB e (λz=>nomatch z) h
 |str y=>obtain⟨t,q⟩:=(show ∃t,u=LY y t from rx);cases q;exact C7 PySem.W.kitx_str I.kIn JB e (λz=>nomatch z) h
 |flt y=>obtain⟨t,q⟩:=(show ∃t,u=Value.float y t from rx);cases q;exact C7 PySem.W.kitx_float I.kIn JB e (λz=>nomatch z) h
 |@lst a xs ea =>
  cases(show u=DN a from rx);obtain⟨_,_,n,_,h1⟩:=(show ObjOk X.prog X.w H s.heap a (.lst xs) from I.hok a _ ea);exact C7 PZ I.kIn {_,h1,rfl} e (λz=>nomatch z) h
 |@frz a ob xs ea =>
  cases(show u=DN a from rx);obtain⟨_,_,_,n,_,h1⟩:=(show ObjOk X.prog X.w H s.heap a (.frz ob (.lst xs)) from I.hok a _ ea);exact C7 PZ I.kIn {_,h1,rfl} e (λz=>nomatch z) h
 |@tup a xs ea =>
  cases(show u=DN a from rx);obtain⟨_,_,_,p⟩:=(show ObjOk X.prog X.w H s.heap a (.tup xs) from I.hok a _ ea);obtain⟨o,h1,h2,_⟩:=p;exact C7 X8 I.kIn {o,h1,h2} e (λz=>nomatch z) h
 |@dK a kvs ea =>
  cases(show u=DN a from rx);obtain⟨_,_,vs,_,p⟩:=(show ObjOk X.prog X.w H s.heap a (.dK kvs) from I.hok a _ ea);obtain⟨o,es,ep,h1,h2,_⟩:=p;exact C7 MF I.kIn {o,h1,h2.1} e (λz=>nomatch z) h
 |@dT a kvs ea =>
  cases(show u=DN a from rx);obtain⟨_,_,xs,_,o,es,ep,h1,h2,_⟩:=(show ObjOk X.prog X.w H s.heap a (.dT kvs) from I.hok a _ ea);exact C7 MF I.kIn {o,h1,h2.1} e (λz=>nomatch z) h
 |@ins a C dx fs ea cl ha hn Zh hm =>
  cases(show u=DN a from rx);obtain⟨mA,O,_⟩:=yAV I.hok ea;obtain⟨od,J,_⟩:=O.look;exact C7 (PySem.W.kitx_own (cl.get _) cl.hd ha hn Zh hm) I.kIn J e (λz=>nomatch z) h
end
structure Room(k:Nat)(A:DI):Prop where
 hd:A.handled=AH
 dp:A.depth+3 * k+5<recursionLimit
 un:A.units+16 * k+200<G3
 gd:A.guards=AA []
theorem Room.mono(r:Room k A)(h:j<=k):Room j A:={r.hd,by have:=r.dp;lia,by have:=r.un;lia,r.gd}
theorem Room.deeper{k:Nat}{A:DI}(r:Room (k+1) A)(env:TD):Room k (A.deeper env) :=
 {r.hd,by have:=r.dp;show A.depth+1+3 * k+5<_;lia,by have:=r.un;show A.units+3+16 * k+200<_;lia,r.gd}
theorem Room.depth{k:Nat}{A:DI}(r:Room k A):A.depth<recursionLimit:=by have:=r.dp;lia
theorem Room.units{k:Nat}{A:DI}(r:Room k A):A.units+64<G3:=by have:=r.un;lia
def yKO:TA:=λ_ H Q=>Q [] H
def Hj(ta:TE)(tr:TA):TA:=λσ H Q=>ta σ H λx H1=>tr σ H1 λxs H2=>Q (x::xs) H2
section
variable{t:TA}
theorem IP:PA X [] yKO:=λ_ _ _ _ H Q I h=>Calls.spliced_nil {[],H,I,.nil,h}
theorem R0(ha:PE X e te)(hr:PA X es t)(hs:AF (e::es) X.env=(AB,eval e X.env)::AF es X.env:=by rfl):PA X (e::es) (Hj te t):=by
 intro pos pins s σ H Q I h;rw[hs];show A4 _ _ (spliced ((AB,eval e X.env)::CZ pos (AF es X.env))) _ _ s;refine Calls.spliced_cons (GY (ha pins s σ H _ I h) λu s1 ⟨x,H1,I1,r1,q1⟩=>?_);exact GY (hr pos pins s1 σ H1 _ I1 q1) (λus s2 q0=>by obtain⟨xs,H2,I2,r2,q2⟩:=q0;exact{x::xs,H2,I2,.cons r1 r2,q2})
def yKP(t:TA):TE:=λσ H Q=>t σ H λxs H1=>xs.length<=sizeLine/\∀p,H1 p=AH->Q (.ref p) (EV H1 p (.tup xs))
def Aw(t:TA):TE:=λσ H Q=>t σ H λxs H1=>xs.length<=sizeLine/\∀p,H1 p=AH->Q (.ref p) (EV H1 p (.lst xs))
theorem Nl{x1}(h:PA X es t):PE X (.Tuple es x1 pos) (yKP t):=by
 intro pins s σ H Q I hq;refine wpAny_Tuple_spliced (GY (h pos pins s σ H _ I hq) λus s1 ⟨xs,H1,I1,r,z,q⟩=>{by rw[<-r.length];exact z,?_});have hf:H1 s1.heap.objs.size=AH:=I1.hok.fresh (AO _);refine{.ref s1.heap.objs.size,EV H1 s1.heap.objs.size (.tup xs),I1.laid (t':=s1.toks) (λb u e=>AJ _ e) (AO _) ?_,rfl,q _ hf};exact{z,us,r,{_,AW _ rfl,rfl,rfl,_,rfl}}
theorem sY(h:PA X es t):PE X (.List es pos) (Aw t):=by
 intro pins s σ H Q I hq;refine wpAny_List_spliced (GY (h pos pins s σ H _ I hq) λus s1 ⟨xs,H1,I1,r,z,q⟩=>{by rw[<-r.length];exact z,?_});have hf:H1 s1.heap.objs.size=AH:=I1.hok.fresh (AO _);refine{.ref s1.heap.objs.size,EV H1 s1.heap.objs.size (.lst xs),I1.laid (t':=s1.toks) (λb u e=>AJ _ e) (AO _) ?_,rfl,q _ hf};exact{z,us,0,r,AW _ rfl}
end
abbrev Sp:=List V->Hp->VK->XK->Prop
abbrev CXT:=List TD->Hp->AN->XK->AI->AN->Prop
structure Env0(P:CF)(w:DJ)(K:AC)(mg:BL->Option AI)(base:D0)(A:DI)(outer:List TD)(s:AN)(H:Hp):Prop where
 tab:∀T q,TB K T q->∃ps,H T=AA (.tbl q ps)
 frames:A.frames=AA outer
 mod:Mod K mg base
 bs:∀b o,base.get? b=AA o->s.heap.get? b=AA o/\H b=AH
 bsz:base.objs.size<=s.heap.objs.size
 funs:s.heap.FunFrames base outer
 frf:∀b∈QD outer,H b=AH
 hok:HOk P w H s.heap
 bare:M2 s.gens
def CE(outer:List TD)(P:CF)(w:DJ)(H:Hp)(s:AN)(Q:VK)(u:AI)(s':AN):Prop :=
 ∃v H',s'.os=s.os/\M2 s'.gens/\Un (QD outer) [] H H' s.heap s'.heap/\HOk P w H' s'.heap/\RelV v u/\Q v H'
def CR(CX:CXT)(outer:List TD)(P:CF)(w:DJ)(H:Hp)(s:AN)(Q:VK)(E:XK)(r:Result)(s':AN):Prop :=
 match r with
 |.ok (.ret u)=>CE outer P w H s Q u s'
 |.ok _=>False
 |.error e=>CX outer H s E e s'
structure FnOk(P:CF)(w:DJ)(K:AC)(mg:BL->Option AI)(base:D0)(CX:CXT)(k:Nat)(f:AQ)(fd:JT)(ps:List BL)(sp:Sp):Prop where
 len:∀vs H Q E,sp vs H Q E->vs.length=ps.length
 run:∀(A:DI) (outer:List TD) (s:AN) (H:Hp) (args:Args) (us:List AI) (vs:List V) (Q:VK) (E:XK),Room k A->Env0 P w K mg base A outer s H->T4 s fd args (ps.zip us)->Vals vs us->sp vs H Q E ->
  IC (A3 P w) A (.call (.ref f) args) (CR CX outer P w H s Q E) s
theorem Inv.env0(I:Inv X pins σ H s):Env0 X.prog X.w X.K X.mg X.base X.A X.stack s H :=
 {I.tab,I.ok.frames,I.ok.mod,I.bs,AV I.ok.bsz I.sz,I.stack,I.stkFree,I.hok,I.bare}
theorem Inv.after{Q:VK}(I:Inv X pins σ H s)(h:CE X.stack X.prog X.w H s Q u s'):EP X pins σ Q u s':=by
 obtain⟨v,H',os,bare,un,hok,r,q⟩:=h;obtain⟨hh,g,d,t,os'⟩:=s';obtain rfl:os'=s.os:=os;exact{v,H',I.call (h':=hh) (g':=g) (d':=d) (t':=t) (ch:=[]) un hok bare (λb z=>absurd z 's'),r,q}
def yJ(sp:Sp)(lL:List V)(E:XK)(t:TA):TE:=λσ H Q=>t σ H λvs H1=>sp (vs++lL) H1 Q E
def Binds(K:AC)(fd:JT)(ps:List BL)(ds:List AI):Prop :=
 ∀(s:AN) (us:List AI),K.In s.heap->(us++ds).length=ps.length->T4 s fd {us,[]} (ps.zip (us++ds))
theorem Binds.all{K:AC}(h:∀us:List AI,us.length=ps.length->bindArgs fd {us,[]}=pure (ps.zip us)):Binds K fd ps []:=λs us _ hl=>by
 rw[EH] at hl ⊢;exact .of_eq (h us hl)
def mL(CX:CXT)(X:Cx)(E:XK):Prop:=∀(pins:List (AQ×IL)) (σ:St) (H:Hp) (s:AN) (e:AI) (s':AN),Inv X pins σ H s->CX X.stack H s E e s'->X.xe e s'
variable{CX:CXT}{sp:Sp}
section
variable{lL:List V}{ds:List AI}{E:XK}{m:BL}{o:C5}{t:TA}
theorem Nk{Q:VK}{vs:List V}(F:FnOk X.prog X.w X.K X.mg X.base CX k f fd ps sp)(hr:Room k X.A)(hb:Binds X.K fd ps ds)(hd:Vals lL ds)(hx:mL CX X E)
  (I:Inv X pins σ H s) (r:Vals vs us) (h:sp (vs++lL) H Q E):A4 (A3 X.prog X.w) X.A (call (.ref f) us) (EP X pins σ Q) X.xe s:=by
 have r2:Vals (vs++lL) (us++ds):=r.append hd;have hl:(us++ds).length=ps.length:=by rw[<-r2.length];exact F.len _ _ _ _ h
 refine X2 (O4 (F.run X.A X.stack s H {us,[]} (us++ds) (vs++lL) Q E hr I.env0 (hb s us I.kIn hl) r2 h) λr s' hq=>?_)
 cases r with
 |error e=>exact hx pins σ H s e s' I hq
 |ok fl =>
  cases fl with
  |ret u=>exact I.after hq
  |next=>exact F8 hq
  |brk=>exact F8 hq
  |cont=>exact F8 hq
theorem zG(F:FnOk X.prog X.w X.K X.mg X.base CX k f fd ps sp)(hr:Room k X.A)(hg:Gl X x)(hm:X.mg x=AA (.ref f))(hk:FH X.K (.ref f)=AG)(hb:Binds X.K fd ps ds)(hd:Vals lL ds)(hx:mL CX X E)
  (ha:PA X (e::es) t) (RD:(x==("__debug__":BL))=AB:=by decide) (he:AF (e::es) X.env=(AB,eval e X.env)::AF es X.env:=by rfl) (HZ:(CZ pos (AF es X.env)).any (·.1)=AB:=by rfl) :
  PE X (.Call (.Name x p) (e::es) [] pos) (yJ sp lL E t):=by
 intro pins s σ H Q I h;refine NE (tO I hg hm ?_ RD);refine LQ (h₀:=X.base) I.ok.mod.kin hk (GY (ha pos pins s σ H _ I h) λus s1 ⟨vs,H1,I1,r,q⟩=>{I1.kIn,?_}) he HZ;exact Nk F hr hb hd hx I1 r q
end
section
variable{ks:List BL}{E:XK}{m:BL}{o:C5}{kws:List MZ}{t tk:TA}{nm:Option BL}{g:List AI->List AI->List AI}{gV:List V->List V->List V}
end
structure FnScope(N P:List BL)(sc:RV):Prop where
 kind:sc.kind=.function
 co:sc.isCoroutine=AB
 gen:sc.isGenerator=AB
 nd:N.Nodup
 pre:N.take P.length=P
 par:∀x∈P,sc.names.lookup x=AA .local\/sc.names.lookup x=AA .cell
 nofree:∀y∈sc.names,y.2≠.free
theorem Su{kindOf:BL->Option T1}{x:BL}:∀{WM:List (BL×AI)} {m:BL->Option AI},(∀v,(x,v)∉WM)->b7 kindOf WM m x=m x
 |[],_,_=>rfl
 |(n,v)::r,m,h=>by
  unfold b7;rw[Su λw hw=>h w (AS _ hw)];split
  .have:x≠n:=by rintro rfl;exact h v AU
   simp[this]
  .rfl
theorem Sn{kindOf:BL->Option T1}{x:BL}:∀{WM:List (BL×AI)} {m:BL->Option AI},(∀v,(x,v)∉WM)->b8 kindOf WM m x=m x
 |[],_,_=>rfl
 |(n,v)::r,m,h=>by
  unfold b8;rw[Sn λw hw=>h w (AS _ hw)];split
  .rfl
  .have:x≠n:=by rintro rfl;exact h v AU
   simp[this]
theorem Sk{kindOf:BL->Option T1}{x:BL}{v:AI}:∀{P:List BL} {vs:List AI} {i:Nat} {m:BL->Option AI},P.Nodup->P[i]?=AA x->vs[i]?=AA v->kindOf x=AA .local ->
  b7 kindOf (P.zip vs) m x=AA v
 |[],_,_,_,_,h,_,_=>by simp at h
 |_::_,[],_,_,_,_,h,_=>by simp at h
 |p::P,w::vs,0,m,nd,h1,h2,hk=>by
  simp at h1 h2;subst h1;subst h2;show b7 kindOf ((p,w)::P.zip vs) m p=_;unfold b7;rw[Su λv hv=>(LC.mp nd).1 (IX hv).1,if_pos hk];simp
 |p::P,w::vs,i+1,m,nd,h1,h2,hk=>by
  show b7 kindOf ((p,w)::P.zip vs) m x=_;unfold b7;exact Sk (i:=i) (LC.mp nd).2 (by simpa using h1) (by simpa using h2) hk
theorem Sj{kindOf:BL->Option T1}{x:BL}{v:AI}:∀{P:List BL} {vs:List AI} {i:Nat} {m:BL->Option AI},P.Nodup->P[i]?=AA x->vs[i]?=AA v->kindOf x≠AA .local ->
  b8 kindOf (P.zip vs) m x=AA v
 |[],_,_,_,_,h,_,_=>by simp at h
 |_::_,[],_,_,_,_,h,_=>by simp at h
 |p::P,w::vs,0,m,nd,h1,h2,hk=>by
  simp at h1 h2;subst h1;subst h2;show b8 kindOf ((p,w)::P.zip vs) m p=_;unfold b8;rw[Sn λv hv=>(LC.mp nd).1 (IX hv).1,if_neg hk];simp
 |p::P,w::vs,i+1,m,nd,h1,h2,hk=>by
  show b8 kindOf ((p,w)::P.zip vs) m x=_;unfold b8;exact Sj (i:=i) (LC.mp nd).2 (by simpa using h1) (by simpa using h2) hk
noncomputable def Q9(N:List BL)(vs:List V):St:=vs.map AA++DA (N.length-vs.length) AH
noncomputable def JJ(CX:CXT)(P:CF)(w:DJ)(K:AC)(mg:BL->Option AI)(base:D0)(N:List BL)(qual:BL)(scope:RV)(f:AQ)(cd:AI)(A:DI)(outer:List TD)(s:AN)(H:Hp)(E:XK):Cx where
 prog:=P
 w:=w
 K:=K
 mg:=mg
 base:=base
 A:=A.deeper (ET qual scope s.heap.objs.size f cd)
 N:=N
 s₀:=s
 H₀:=H
 env:=ET qual scope s.heap.objs.size f cd
 outer:=outer
 stack:=ET qual scope s.heap.objs.size f cd::outer
 ex:=[]
 calm:=AG
 fn:=λ_=>AG
 pn:=[]
 xe:=λe s'=>A4 (A3 P w) (A.deeper (ET qual scope s.heap.objs.size f cd)) (leaving (ET qual scope s.heap.objs.size f cd) e) (λ_ iW=>CX outer H s E e iW) (λe' iW=>CX outer H s E e' iW) s'
theorem Re(h:sc.names.lookup x=AA .cell):∃c,(Q6 n sc.names []).lookup x=AA c:=by
 have q:=NH sc.names n [] (.inl h);exact UF.mp q
theorem Si{K:AC}{s1:AN}{E:XK}{vs:List V}
  (S:FnScope N ps scope) (hd:A.handled=AH) (e0:Env0 P w K mg base A outer s H) (hl:vs.length=ps.length) (r:Vals vs us)
  (x:InCallC s s.heap.objs.size (b7 (ET qual scope s.heap.objs.size f cd).kindOf (ps.zip us) λ_=>AH) (Q6 (s.heap.objs.size+1) scope.names []) (b8 (ET qual scope s.heap.objs.size f cd).kindOf (ps.zip us) λ_=>AH) s1) :
  Inv (JJ CX P w K mg base N qual scope f cd A outer s H E) [] (Q9 N vs) H s1:=by
 have HZ:ps.length<=N.length:=by have:=congrArg SO S.pre;rw[IF] at this;lia
 obtain⟨h1,tk,rfl,hk⟩:=x.done;have vV:∀b:AQ,b∉(JJ CX P w K mg base N qual scope f cd A outer s H E).ex:=λb z=>absurd (show b∈([]:List AQ) from z) 's'
 refine{{e0.tab,e0.mod,S.kind,rfl,rfl,AO _,λy z c h1 h2=>?_,λy hy=>?_,λy c _ h=>?_,λ_=>hd,Around.frames_deeper e0.frames,.inr {rfl,rfl},λb z=>absurd z (vV b),e0.bs,e0.bsz,λb _ _=>vV b,λb z=>absurd z (vV b),e0.funs,e0.frf},
  rfl,e0.bare,Un.kept hk,{_,x.toInCall.ns,λi y v h1 h2 h3=>?_},λy c h=>{_,x.cell y c h},e0.hok.fresh (AO _),λy c h=>?_,λp hp=>absurd (show p∈([]:List (AQ×IL)) from hp) 's',e0.hok.kept hk,?_}
 .exact name_of_addr x.apart (II h1) (II h2)
 .have hy:scope.names.lookup y=AA .cell\/scope.names.lookup y=AA .free:=hy
  rcases hy with hy|hy
  .exact Re hy
  .exact absurd rfl (S.nofree _ (II hy))
 .exact CM (x.above y c (II h))
 .have hi:i<vs.length:=by
   unfold Q9 at h2
   by_cases hi:i<vs.length
   .exact hi
   .rw[BY (by simpa using hi)] at h2
    rw[DZ] at h2;split at h2<;>cases h2
  have ha:vs[i]?=AA v:=by
   unfold Q9 at h2;rw[B9 (by simpa using hi),BA] at h2
   cases e:vs[i]? with
   |none=>rw[e] at h2;cases h2
   |some a=>rw[e] at h2;cases h2;rfl
  obtain⟨u,hu,rv⟩:=r.get ha
  have hp:ps[i]?=AA y:=by
   rw[<-S.pre,V3 (AM hi (CD hl))];exact h1
  have Zb:ps.Nodup:=by rw[<-S.pre];exact S.nd.sublist (fB _ _)
  refine{u,rv,?_};rcases S.par y (K5 hp) with k|k
  .exact .inl {k,Sk Zb hp hu k}
  .obtain⟨c,e⟩:=Re (n:=s.heap.objs.size+1) k
   refine .inr {.inl k,c,e,?_};have q:=x.cell y c e;rw[Sj Zb hp hu (by show scope.names.lookup y≠_;rw[k];decide)] at q;exact q
 .exact e0.hok.fresh (CM (x.above y c (II h)))
 .unfold Q9
  show _=N.length;rw[BI,AK,CV];lia
theorem Xa{K:AC}{dV kV SZ GE:AI}
  {bN:Array (Option AI)} {N ps:List BL} {sp:Sp} (lk:K.lookup f=AA {oc,od,.func (FW name qual dH N8 scope dV kV SZ pm an GE ct),bN}) (QH:LP K GE qual=AG) (S:FnScope N ps scope)
  (len:∀vs H Q E,sp vs H Q E->vs.length=ps.length)
  (MT:∀(A:DI) (outer:List TD) (s:AN) (H:Hp) (vs:List V) (Q:VK) (E:XK),Room k (A.deeper (ET qual scope s.heap.objs.size f GE))->sp vs H Q E ->
   ∃t,PSs (JJ CX P w K mg base N qual scope f GE A outer s H E) N8 t/\t { nx:=λ_ H'=>Q .non H',rt:=Q } (Q9 N vs) H) :
  FnOk P w K mg base CX (k+1) f (FW name qual dH N8 scope dV kV SZ pm an GE ct) ps sp:=by
 refine{len,λA outer s H args us vs Q E hr e0 hb r fZ=>?_};have hl:=len _ _ _ _ fZ;have KX:K.In s.heap:=e0.mod.kin.keeps λb o e=>(e0.bs b o e).1;have Ju:s.heap.NoLimit:=e0.mod.nolimit.keeps λb o e=>(e0.bs b o e).1
 have wZ:∀y∈ps.zip us,scope.names.lookup y.1=AA .local\/(scope.names.lookup y.1=AA .cell/\((Q6 (s.heap.objs.size+1) scope.names []).lookup y.1).isSome=AG):=λ⟨n,v⟩ hy=>by
  rcases S.par n (IX hy).1 with q|q
  .exact .inl q
  .exact .inr {q,NH _ _ _ (.inl q)}
 refine gJ hr.depth (KX _ _ lk) rfl S.co S.gen rfl (X9 KX QH) (hb _ _ _ _ ?_);refine X1 S.kind wZ λenv he s1 x=>?_;subst he;refine{Ju.keeps x.toInCall.keep,codeAny_func ?_};obtain⟨t,ht,hq⟩:=MT A outer s H vs Q E (hr.deeper _) fZ;have I:Inv (JJ CX P w K mg base N qual scope f GE A outer s H E) [] (Q9 N vs) H s1:=Si S hr.hd e0 hl r x;refine CJ (ht [] s1 (Q9 N vs) H _ I hq) (λfl s' hs=>?_) λe s' hs=>hs
 have fin:∀{σ':St} {H':Hp} {v:V} {u:AI},Inv (JJ CX P w K mg base N qual scope f GE A outer s H E) [] σ' H' s'->RelV v u->Q v H'->CE outer P w H s Q u s' :=
  λ{σ' H' v u} J rv q=>{v,H',J.os,J.bare,J.base,J.hok,rv,q}
 cases fl with
 |ret u =>
  obtain⟨v,σ',H',J,rv,q⟩:=hs;exact fin J rv q
 |next =>
  obtain⟨σ',H',J,q⟩:=hs;exact fin (v:=V.non) (u:=D2) J rfl q
 |brk =>
  obtain⟨_,_,_,q⟩:=hs;exact F8 q
 |cont =>
  obtain⟨_,_,_,q⟩:=hs;exact F8 q
section
variable{t:TA}{id T:String}{r:List V->Hp->VK->Prop}
def Bb(r:List V->Hp->VK->Prop)(t:TA):TE:=λσ H Q=>t σ H λvs H1=>r vs H1 Q
theorem zQ(hc:CallR X (.builtin id) r)(hg:Gl X x)(hm:X.mg x=AH)(hv:GA x=AA (.builtin id))(ha:PA X (e::es) t)(hn:x≠"__name__":=by decide)(RD:(x==("__debug__":BL))=AB:=by decide)
  (he:AF (e::es) X.env=(AB,eval e X.env)::AF es X.env:=by rfl) (HZ:(CZ pos (AF es X.env)).any (·.1)=AB:=by rfl):PE X (.Call (.Name x p) (e::es) [] pos) (Bb r t):=by
 intro pins s σ H Q I h;refine NE (qA I hg hm hv ?_ hn RD);exact PyProof.Rows.callWith_builtin1 (GY (ha pos pins s σ H _ I h) (λus s1 q0=>by obtain⟨vs,H1,I1,r1,q1⟩:=q0;exact hc pins s1 σ H1 vs us Q I1 r1 q1)) he HZ
theorem uC(hc:CallR X (.type T) r)(hg:Gl X x)(hm:X.mg x=AH)(hv:GA x=AA (.type T))(ha:PA X (e::es) t)(hn:x≠"__name__":=by decide)(RD:(x==("__debug__":BL))=AB:=by decide)
  (he:AF (e::es) X.env=(AB,eval e X.env)::AF es X.env:=by rfl) (HZ:(CZ pos (AF es X.env)).any (·.1)=AB:=by rfl):PE X (.Call (.Name x p) (e::es) [] pos) (Bb r t):=by
 intro pins s σ H Q I h;refine NE (qA I hg hm hv ?_ hn RD);exact G8 (GY (ha pos pins s σ H _ I h) (λus s1 q0=>by obtain⟨vs,H1,I1,r1,q1⟩:=q0;exact hc pins s1 σ H1 vs us Q I1 r1 q1)) he HZ
end
end L2
variable{ns ms:List Int}{ws:List AI}{vl vu:AI}{hi:Option Int}
namespace HT
open PySem PyProof.Rows
noncomputable def lexLt:List Int->List Int->Bool
 |[],[]=>AB
 |[],_::_=>AG
 |_::_,[]=>AB
 |x::xs,y::ys=>if x=y then lexLt xs ys else decide (x<y)
theorem lexLt_cons(x y:Int)(xs ys:List Int):lexLt (x::xs) (y::ys)=if x=y then lexLt xs ys else decide (x<y):=rfl
theorem zLU:lexLt [] []=AB:=rfl
theorem zKL(y:Int)(ys:List Int):lexLt [] (y::ys)=AG:=rfl
theorem zKM(x:Int)(xs:List Int):lexLt (x::xs) []=AB:=rfl
theorem Rc(A:DI)(s:AN)(a:Int)(t:b9)(c:Int)(u:b9):∃e,SeqAt.EqAt A s (.int a t) (.int c u) e/\(e=AG↔a=c) :=
 {(a==c),SeqAt.EqAt.int_int a t c u,by simp}
theorem zWL(A:DI)(s:AN)(a:Int)(t:b9)(c:Int)(u:b9)(prog:CF)(w:DJ)(E:AI->AN->Prop)(Q:AI->AN->Prop)(h:Q (.bool (decide (a<c))) s) :
  A4 (A3 prog w) A (richCompare .Lt (.int a t) (.int c u)) Q E s :=
 (PyProof.Rows.lt_int h:A4 (A3 prog w) A (CO .Lt (.int a t) (.int c u)) Q E s)
section
open PySem.SeqAt
open PySem.AutoSeq1 (wpAny_loadPart')
open PySem.MeetsSeq PySem.MeetsSeq2 PySem.MeetsSeq3
theorem zLV(l b:AQ)(items GH:Array AI)(n n2:Nat)(dd bV:Option AQ)(sl bL:Array (Option AI))(ns ms:List Int)(hi:EA items.toList ns)(hj:EA GH.toList ms) :
  Meets (FJ.«tuple.__lt__» {[.ref l,.ref b],[]})
   (λ_ R s=>s.heap.get? l=AA { cls:=.type "tuple",dict:=dd,data:=.seq items n,slots:=sl }/\s.heap.get? b=AA { cls:=.type "tuple",dict:=bV,data:=.seq GH n2,slots:=bL } /\
    R (.ok (.ret (.bool (lexLt ns ms)))) s) :=
 .of_wp λprog w A R s h=>by
  obtain⟨hp,g,d,tk,os⟩:=s;obtain⟨hl,hb,h⟩:=h;have f2:=TF;have z1:items.size=ns.length:=by rw[<-hi.length];simp
  have z2:GH.size=ms.length:=by rw[<-hj.length];simp
  wp_walk using wpAny_loadPart' hl,wpAny_loadPart' hb,wpAny_forIn_list _ (λrest b s'=>b.1=AH/\s'={hp,g,d,tk,os}/\∃(vs ws:List AI) (ZZ Z0:List Int),rest=vs.zip ws /\
   EA vs ZZ/\EA ws Z0/\ZZ.length+GH.size=Z0.length+items.size/\R (.ok (.ret (.bool (lexLt ZZ Z0)))) {hp,g,d,tk,os}) _
  case turn =>
   rintro⟨y,x⟩ rest b s' ⟨eJ,rfl,vs,ws,ZZ,Z0,hz,oO,i4,FP,hR⟩
   cases oO with
   |nil=>rw[fA] at hz;cases hz
   |cons a t hvi' =>
    cases i4 with
    |nil=>rw[cG] at hz;cases hz
    |cons c u hwi' =>
     rw[HD] at hz;injection hz with hyx hrest;injection hyx with hy hx;subst hy hx;rw[lexLt_cons] at hR;simp only[A0] at FP;obtain⟨e,he,eG⟩:=Rc A.in1 {hp,g,d,tk,os} a t c u;refine AD (he prog w _ _ ?_)
     cases e with
     |true =>
      rw[if_pos (eG.mp rfl)] at hR
      wp_walk
      exact{rfl,rfl,_,_,_,_,hrest,hvi',hwi',by lia,hR}
     |false =>
      rw[if_neg (λq=>absurd (eG.mpr q) BJ)] at hR;have Kf:=zWL A.in1 {hp,g,d,tk,os} a t c u prog w
      wp_walk using Kf
      exact{_,rfl,by simpa using hR}
  case fin =>
   rintro⟨b1,b2⟩ s' ⟨eJ,rfl,vs,ws,ZZ,Z0,hz,oO,i4,FP,hR⟩;simp only at eJ;subst eJ
   have hv:lexLt ZZ Z0=decide (items.size<GH.size):=by
    cases oO with
    |nil =>
     cases i4 with
     |nil =>
      simp only[HJ] at FP;rw[zLU];exact(decide_eq_false 'l').symm
     |cons c u hw =>
      simp only[HJ,A0] at FP;rw[zKL];exact(decide_eq_true 'l').symm
    |cons a t hv =>
     cases i4 with
     |nil =>
      simp only[HJ,A0] at FP;rw[zKM];exact(decide_eq_false 'l').symm
     |cons c u hw =>
      rw[HD] at hz;cases hz
   rw[hv] at hR
   wp_walk
   exact{_,rfl,by simpa[OK] using hR}
  case h =>
   exact{rfl,rfl,items.toList,GH.toList,ns,ms,rfl,hi,hj,by lia,h}
end
theorem lt_tupInts{l b:AQ}{GH:Array AI}(hl:QU s.heap l items)(hb:QU s.heap b GH)(hi:EA items.toList ns)(hj:EA GH.toList ms)
  (hu:A.units<G3) (h:Q (.bool (lexLt ns ms)) s):A4 (A3 prog w) A (CO .Lt (.ref l) (.ref b)) Q E s:=by
 obtain⟨⟨cls,dd,data,sl⟩,ho,hc,n,hd⟩:=id hl;obtain⟨⟨pK,bV,data2,bL⟩,WF,Y2,n2,Z7⟩:=id hb;simp only at hc hd Y2 Z7;subst hc hd Y2 Z7
 exact eR (op:=.Lt) {_,ho,rfl} {_,WF,rfl} PySem.F.slot_tuple_lt PySem.F.entry_tuple_lt (PySem.F.args_tuple_lt_2 _ _) (zLV l b items GH n n2 dd bV sl bL ns ms hi hj)
  {ho,WF,show HX (lexLt ns ms)≠X6/\Q (.bool (lexLt ns ms)) s from{(λx=>nomatch x),h}} hu
theorem cat_tup{t b:AQ}{vs:List AI}(ht:QU s.heap t vs.toArray)(hb:QU s.heap b ws.toArray)(hv:vs≠[])
  (h1:ws=[]->Q (.ref t) s) (h2:ws≠[]->Q (.ref s.heap.objs.size) { s with heap:=s.heap.push { cls:=.type "tuple",data:=.seq (vs++ws).toArray } })
  (hsz:vs.length+ws.length<=sizeLine):A4 (A3 prog w) A (HH .Add (.ref t) (.ref b)) Q E s:=by
 obtain⟨⟨cls,dd,data,sl⟩,ho,hc,n,hd⟩:=id ht;obtain⟨⟨pK,bV,data2,bL⟩,WF,Y2,n2,Z7⟩:=id hb;simp only at hc hd Y2 Z7;subst hc hd Y2 Z7;have e:vs.toArray++ws.toArray=(vs++ws).toArray:=by simp
 by_cases hw:ws=[]
 .exact TZ {_,ho,rfl} {_,WF,rfl} U8 aG NI MV (MK _ _)
   (tuple_addW1 t b vs.toArray ws.toArray n n2 dd bV sl bL (by simpa using hv) (by simp[hw])) {ho,WF,h1 hw}
 .refine TZ {_,ho,rfl} {_,WF,rfl} U8 aG NI MV (MK _ _)
   (tuple_addW2 t b vs.toArray ws.toArray n n2 dd bV sl bL (by simpa using hv) (by simpa using hw) (by rw[A5,A5];exact hsz)) {ho,WF,?_}
  rw[e];exact h2 hw
noncomputable def sIx(n d:Nat):Option Int->Nat
 |none=>d
 |some v=>if v<0 then(v+(n:Int)).toNat else min v.toNat n
theorem yES(n d:Nat)(hd:d<=n)(o:Option Int):sIx n d o<=n:=by
 cases o with
 |none=>exact hd
 |some v =>
  show(if v<0 then(v+(n:Int)).toNat else min v.toNat n)<=n
  by_cases hv:v<0
  .rw[if_pos hv];lia
  .rw[if_neg hv];exact Nat.min_le_right _ _
theorem Pu(v:Int)(n d:Nat):(if v<0 then max (v+(n:Int)) 0 else min v (n:Int))=((sIx n d (AA v):Nat):Int):=by
 show(if v<0 then max (v+(n:Int)) 0 else min v (n:Int))=(((if v<0 then(v+(n:Int)).toNat else min v.toNat n):Nat):Int)
 by_cases hv:v<0
 .simp only[if_pos hv];lia
 .simp only[if_neg hv];lia
theorem zR0(lo hi:Option Int)(n:Nat):K2 lo hi 1 (n:Int)=(((sIx n 0 lo:Nat):Int),((sIx n n hi:Nat):Int)):=by
 have h1:¬((1:Int)<0):=by lia
 unfold K2;simp only[h1,if_false];refine lU ?_ ?_
 .cases lo with
  |none=>rfl
  |some v=>exact Pu v n 0
 .cases hi with
  |none=>rfl
  |some v=>exact Pu v n n
theorem zR1(i j:Nat):HK (i:Int) (j:Int) 1=j-i:=by
 unfold HK;have h1:(1:Int)>0:=by lia
 simp only[h1,if_true,Int.ediv_one];split<;>lia
theorem Ts{v:AI}{o:Option Int}{Q:Option Int->AN->Prop}(p:QV v o)(h:Q o s):A4 (A3 prog w) A (Builtin.Slice.slicePartIndex v) Q E s:=by
 cases p with
 |none=>exact slicePart_none h
 |int i t=>exact slicePart_int h
theorem sliceApplied_gen{sl:AQ}{lo:Option Int}{Q:Int×Int×Nat->AN->Prop}(hs:s.heap.IsSliceOf sl vl vu .none)(pl:QV vl lo)(pu:QV vu hi)
  (h:Q (((sIx n 0 lo:Nat):Int),1,sIx n n hi-sIx n 0 lo) s):A4 (A3 prog w) A (P2 (.ref sl) (pure (n:Int))) Q E s:=by
 obtain⟨os,oY,lG,gF⟩:=id hs;unfold P2 Builtin.Slice.sliceFields;refine AD (AD (DL oY gF (x:=vl) rfl (AD (DL oY gF (x:=vu) rfl (AD (DL oY gF (x:=.none) rfl (wpAny_pure ?_)))))));refine AD (slicePart_none ?_);show A4 _ _ (if((1:Int)==0)=AG then _ else _) _ _ s;rw[if_neg 'd'];refine AD (Ts pl (AD (Ts pu (AD (wpAny_pure ?_)))));show A4 _ _ (match K2 lo hi 1 (n:Int) with|(lo,hi)=>pure (lo,(1:Int),HK lo hi 1)) _ _ s;rw[zR0 lo hi n];show A4 _ _ (pure (((sIx n 0 lo:Nat):Int),(1:Int),HK ((sIx n 0 lo:Nat):Int) ((sIx n n hi:Nat):Int) 1)) _ _ s;rw[zR1];exact wpAny_pure h
theorem zWM(xs:Array AI)(i k:Nat):((D4 k).filterMap λ(m:Nat)=>xs[((i:Int)+(m:Int) * 1).toNat]?).toArray=((xs.toList.drop i).take k).toArray:=by
 have e:(λ(m:Nat)=>xs[((i:Int)+(m:Int) * 1).toNat]?)=λm=>xs[i+m]?:=by
  funext m
  have:((i:Int)+(m:Int) * 1).toNat=i+m:=by lia
  rw[this]
 rw[e];have:=pick_run xs i k;rw[P7] at this;have e2:((λx=>xs[x]?)∘λx=>i+x)=λm=>xs[i+m]?:=rfl;rw[e2] at this;rw[this]
theorem getItem_tuple_cut{t sl:AQ}{lo:Option Int}(ht:QU s.heap t items)(hs:s.heap.IsSliceOf sl vl vu .none)(pl:QV vl lo)(pu:QV vu hi)
  (hw:¬(sIx items.size 0 lo=0/\sIx items.size items.size hi=items.size))
  (h:Q (.ref s.heap.objs.size) { s with heap:=s.heap.push { cls:=.type "tuple",data:=.seq ((items.toList.drop (sIx items.size 0 lo)).take (sIx items.size items.size hi-sIx items.size 0 lo)).toArray } })
  (hsz:items.size<=sizeLine):A4 (A3 prog w) A (Q5 (.ref t) (.ref sl)) Q E s:=by
 have YZ:sizeOk (.seq ((items.toList.drop (sIx items.size 0 lo)).take (sIx items.size items.size hi-sIx items.size 0 lo)).toArray):=by
  show((items.toList.drop (sIx items.size 0 lo)).take (sIx items.size items.size hi-sIx items.size 0 lo)).toArray.size<=sizeLine;rw[A5,IF,NO,LI];lia
 have hj:sIx items.size items.size hi<=items.size:=yES _ _ (AO _) hi;obtain⟨os,oY,lG,gF⟩:=id hs;have Lw:s.TypeIs (.ref sl) "slice":={os,oY,lG};unfold Q5
 try with_reducible refine DP ?_
 first|refine AD (wpAny_pure ?_)|skip
 refine AD (wpAny_sequenceKey ht.typeIs 'd' ?_)
 refine AD (DM (name:=GV "__getitem__") ht.typeIs DT
  (DX DT ht.typeIs lR ?_ (args_tuple_getitem _ _)))
 show A4 _ _ (P0 (.ref t) >>= _) _ _ s;refine AD (tupleItemsOf_ ht ?_);refine AD (eO Lw ?_);rw[if_pos 'd'];refine AD (sliceApplied_gen hs pl pu ?_)
 have hno:¬((((sIx items.size 0 lo:Nat):Int)==0&&(1:Int)==1&&(sIx items.size items.size hi-sIx items.size 0 lo)==items.size)=AG):=by
  intro q;rw[BE,BE] at q;have q1:((sIx items.size 0 lo:Nat):Int)=0:=eq_of_beq q.1.1;have q2:sIx items.size items.size hi-sIx items.size 0 lo=items.size:=eq_of_beq q.2;exact hw {by lia,by lia}
 show A4 _ _ (if(((sIx items.size 0 lo:Nat):Int)==0&&(1:Int)==1&&(sIx items.size items.size hi-sIx items.size 0 lo)==items.size)=AG then _ else _) _ _ s;rw[if_neg hno,zWM]
 first
  |exact AD (m:=HR _) (DH (wpAny_pure {_,rfl,wpAny_pure h}) YZ)
  |exact AD (m:=HR _) (DH (AD (wpAny_pure (wpAny_pure {_,rfl,wpAny_pure h}))) YZ)
  |exact AD (AD (m:=HR _) (DH (wpAny_pure (wpAny_pure {_,rfl,wpAny_pure h})) YZ))
  |exact AD (AD (m:=HR _) (DH (wpAny_pure {_,rfl,wpAny_pure h}) YZ))
end HT
variable{X:L2.Cx}{te ta tb:L2.TE}{p2 GJ:Y4}{r':L2.R2}{σ:L2.St}{H H':L2.Hp}{xs:List (List L2.Key×AQ×AI)}
namespace L2
open PySem PySem.Spec PyProof.Rows
abbrev TO:=St->Hp->(Option Int->Hp->Prop)->Prop
def PO(X:Cx)(e:Option C5)(t:TO):Prop :=
 ∀(pins:List (AQ×IL)) (s:AN) (σ:St) (H:Hp) (Q:Option Int->Hp->Prop),Inv X pins σ H s->t σ H Q ->
  A4 (A3 X.prog X.w) X.A (evalPart e X.env) (λu s'=>∃o H',Inv X pins σ H' s'/\QV u o/\Q o H') X.xe s
def yAX:TO:=λ_ H Q=>Q AH H
def yH6(t:TE):TO:=λσ H Q=>t σ H λx H1=>∃i,x=.int i/\Q (AA i) H1
theorem fU:∀{us:List AI},Vals (ns.map V.int) us->EA us ns:=by
 induction ns with
 |nil=>intro us r;rw[LZ] at r;cases r;exact .nil
 |cons n ns ih =>
  intro us r;rw[A1] at r
  cases r with
  |cons r1 r2 =>
   obtain⟨t,e⟩:=r1;subst e;exact .cons n t (ih r2)
section
variable{lo hi:Option C5}{tl th:TO}
theorem iN:PO X AH yAX:=by
 intro pins s σ H Q I h;rw[aK];exact wpAny_pure {AH,H,I,.none,h}
theorem yAY(h:PE X e te):PO X (AA e) (yH6 te):=by
 intro pins s σ H Q I hw;rw[evalPart_some];refine GY (h pins s σ H _ I hw) λu s1 q0=>?_;obtain⟨x,H1,I1,r1,q1⟩:=q0;obtain⟨i,rfl,q⟩:=q1;obtain⟨t,rfl⟩:=r1;exact{AA i,H1,I1,.int i t,q}
def SlR(X:Cx)(r:V->Option Int->Option Int->Hp->VK->Prop):Prop :=
 ∀(pins:List (AQ×IL)) (s:AN) (σ:St) (H:Hp) (x:V) (v vl vu:AI) (lo hi:Option Int) (sl:AQ) (Q:VK),Inv X pins σ H s->RelV x v->s.heap.IsSliceOf sl vl vu .none->QV vl lo->QV vu hi->r x lo hi H Q ->
  ∃T id,typeLookup (.type T) "__getitem__"=pure (AA (.builtin id))/\s.TypeIs v T/\A4 (A3 X.prog X.w) X.A (Q5 v (.ref sl)) (EP X pins σ Q) X.xe s
theorem SlR.or{r r':V->Option Int->Option Int->Hp->VK->Prop}(h:SlR X r)(h':SlR X r'):SlR X (λx lo hi H Q=>r x lo hi H Q\/r' x lo hi H Q):=by
 intro pins s σ H x v vl vu lo hi sl Q I rx hs pl pu q;rcases q with q|q
 .exact h pins s σ H x v vl vu lo hi sl Q I rx hs pl pu q
 .exact h' pins s σ H x v vl vu lo hi sl Q I rx hs pl pu q
def tSl(r:V->Option Int->Option Int->Hp->VK->Prop)(te:TE)(tl th:TO):TE:=λσ H Q=>te σ H λx H1=>tl σ H1 λl H2=>th σ H2 λu H3=>r x l u H3 Q
theorem Rb{r:V->Option Int->Option Int->Hp->VK->Prop}(hr:SlR X r)(he:PE X e te)(hl:PO X lo tl)(hu:PO X hi th):PE X (.Subscript e (.Slice lo hi AH p2) pos) (tSl r te tl th):=by
 intro pins s σ H Q I h;refine Subscript_ (GY (he pins s σ H _ I h) λv s1 ⟨x,H1,I1,r1,q1⟩=>?_);refine wpAny_Slice (GY (hl pins s1 σ H1 _ I1 q1) λvl s2 ⟨l,H2,I2,pl,q2⟩=>GY (hu pins s2 σ H2 _ I2 q2) λvu s3 ⟨u,H3,I3,pu,q3⟩=>?_);rw[aK];refine wpAny_pure ?_;have I4:Inv X pins σ H3 { s3 with heap:=s3.heap.push { cls:=.type "slice",data:=.fields #[vl,vu,.none] } }:=I3.kept (t':=s3.toks) λb ob q=>AJ _ q;obtain⟨T,id,hT,ht,hg⟩:=hr pins { s3 with heap:=s3.heap.push { cls:=.type "slice",data:=.fields #[vl,vu,.none] } } σ H3 x v vl vu l u s3.heap.objs.size Q I4 r1 (TC ..) pl pu q3;show A4 (A3 X.prog X.w) X.A (aF e (.Slice lo hi AH p2) v (.ref s3.heap.objs.size)) (EP X pins σ Q) X.xe { s3 with heap:=s3.heap.push { cls:=.type "slice",data:=.fields #[vl,vu,.none] } };exact jF (ops:=[.ref s3.heap.objs.size,v]) ht hT hg (by with_unfolding_all rfl)
noncomputable def YJ(xs:List V)(lo hi:Option Int):List V:=(xs.drop (HT.sIx xs.length 0 lo)).take (HT.sIx xs.length xs.length hi-HT.sIx xs.length 0 lo)
theorem Ua(xs:List V)(lo hi:Option Int):(YJ xs lo hi).length<=xs.length:=by
 unfold YJ;rw[IF,NO];lia
def yKQ(K:AC):V->Option Int->Option Int->Hp->VK->Prop:=λx lo hi H Q=>∃a xs,x=.ref a/\SqT K H a xs /\
 ¬(HT.sIx xs.length 0 lo=0/\HT.sIx xs.length xs.length hi=xs.length)/\∀p,H p=AH->Q (.ref p) (EV H p (.tup (YJ xs lo hi)))
theorem yET:SlR X (yKQ X.K):=by
 intro pins s σ H x v vl vu lo hi sl Q I rx hs pl pu h;obtain⟨a,xs,rfl,hx,hw,q⟩:=h;cases rx;obtain⟨CP,r,ht,hz⟩:=I.tuple hx;have FP:CP.toArray.size=xs.length:=by rw[A5];exact r.length.symm
 refine{"tuple",_,DT.lookup,ht.typeIs,?_};refine HT.getItem_tuple_cut ht hs pl pu (by rw[FP];exact hw) ?_ (by rw[FP];exact hz);rw[FP];refine{.ref s.heap.objs.size,_,I.laid (t':=s.toks) (o:=.tup (YJ xs lo hi)) (λb ob q=>AJ _ q) (AO _) ?_,rfl,q _ (I.hok.fresh (AO _))};exact{AV (Ua xs lo hi) hz,_,(r.drop (HT.sIx xs.length 0 lo)).take (HT.sIx xs.length xs.length hi-HT.sIx xs.length 0 lo),IsTupP.new _ _}
def Gs(K:AC):R2:=λx y H Q=>∃a b ns ms,x=.ref a/\y=.ref b/\SqT K H a (ns.map V.int)/\SqT K H b (ms.map V.int)/\Q (.bl (HT.lexLt ns ms)) H
theorem Db(hu:X.A.units<G3):OpR X (CO .Lt) (Gs X.K):=by
 intro pins s σ H x y v u Q I rx ry h;obtain⟨a,b,ns,ms,rfl,rfl,ha,hb,q⟩:=h;cases rx;cases ry;obtain⟨CP,r1,p1,_⟩:=I.tuple ha;obtain⟨L8,r2,p2,_⟩:=I.tuple hb;have i1:EA CP.toArray.toList ns:=fU r1;have i2:EA L8.toArray.toList ms:=fU r2;exact HT.lt_tupInts p1 p2 i1 i2 hu {.bl (HT.lexLt ns ms),H,I,rfl,q}
theorem Vals.nil_iff{xs:List V}(r:Vals xs us):us=[]↔xs=[]:=by
 cases r with
 |nil=>simp
 |cons _ _=>simp
end
noncomputable def bJ(n:Nat)(i:Int):Option Nat:=if 0<=i then(if i<n then AA i.toNat else AH) else if -(n:Int)<=i then AA (i+n).toNat else AH
def atI(xs:List α)(i:Int):Option α:=(bJ xs.length i).bind λj=>xs[j]?
theorem Pt{i:Int}(h:bJ n i=AA j):seqIndex? i n=AA j/\j<n/\-(n:Int)<=i/\i<n:=by
 unfold bJ at h
 by_cases h0:0<=i
 .rw[if_pos h0] at h
  by_cases h1:i<n
  .rw[if_pos h1] at h
   have e:i.toNat=j:=BV h;exact{by rw[V0 h0 h1,e],by lia,by lia,h1}
  .rw[if_neg h1] at h;cases h
 .rw[if_neg h0] at h
  by_cases h1:-(n:Int)<=i
  .rw[if_pos h1] at h
   have e:(i+n).toNat=j:=BV h;exact{by rw[seqIndex_neg 'l' h1,e],by lia,h1,by lia}
  .rw[if_neg h1] at h;cases h
theorem Ed{xs:List α}{i:Int}{v:α}(h:atI xs i=AA v):∃j,seqIndex? i xs.length=AA j/\xs[j]?=AA v/\j<xs.length/\-(xs.length:Int)<=i/\i<xs.length:=by
 unfold atI at h
 cases e:bJ xs.length i with
 |none=>rw[e] at h;cases h
 |some j =>
  rw[e] at h;obtain⟨h1,h2,h3,h4⟩:=Pt e;exact{j,h1,h,h2,h3,h4}
theorem yAZ{xs:List α}{v:α}(h:xs[j]?=AA v):atI xs (j:Int)=AA v:=by
 have hj:j<xs.length:=(AX.mp h).1
 have e:bJ xs.length (j:Int)=AA j:=by
  unfold bJ;rw[if_pos (fC _),if_pos 'l'];simp
 unfold atI;rw[e];exact h
def tN(b:C5):Prop:=∀o i,subscripted b AB o i=operate [o,i] (Q5 o i)
def IxR(X:Cx)(r:R2):Prop :=
 ∀(JV PJ:C5) (pins:List (AQ×IL)) (s:AN) (σ:St) (H:Hp) (x y:V) (v u:AI) (Q:VK),Inv X pins σ H s->RelV x v->RelV y u->r x y H Q ->
  subscripted PJ AB v u=operate [v,u] (Q5 v u)->A4 (A3 X.prog X.w) X.A (aF JV PJ v u) (EP X pins σ Q) X.xe s
def Bn(X:Cx)(id:String)(r:V->List V->Hp->VK->Prop):Prop :=
 ∀(pins:List (AQ×IL)) (s:AN) (σ:St) (H:Hp) (x:V) (xs:List V) (v:AI) (us:List AI) (Q:VK),Inv X pins σ H s->RelV x v->Vals xs us->r x xs H Q ->
  A4 (A3 X.prog X.w) X.A (call (.builtin id) (v::us)) (EP X pins σ Q) X.xe s
section
variable{a b:C5}
theorem IxR.or{r:R2}(h:IxR X r)(h':IxR X r'):IxR X (λx y H Q=>r x y H Q\/r' x y H Q):=by
 intro JV PJ pins s σ H x y v u Q I rx ry q hs;rcases q with q|q
 .exact h JV PJ pins s σ H x y v u Q I rx ry q hs
 .exact h' JV PJ pins s σ H x y v u Q I rx ry q hs
theorem Wz{r:R2}(hr:IxR X r)(ha:PE X a ta)(hb:PE X b tb)(hs:tN b):PE X (.Subscript a b pos) (nQ r ta tb):=by
 intro pins s σ H Q I h;exact Subscript_ (Gu ha hb I h λv u s2 x y H2 I2 rx ry q=>hr a b pins s2 σ H2 x y v u Q I2 rx ry q (hs _ _))
def Vp(K:AC):R2:=λx y H Q=>∃p xs i v,x=.ref p/\y=.int i/\SqL K H p xs/\atI xs i=AA v/\Q v H
def Vo(K:AC):R2:=λx y H Q=>∃p xs i v,x=.ref p/\y=.int i/\SqT K H p xs/\atI xs i=AA v/\Q v H
def Vn:R2:=λx y H Q=>∃z i c,x=.str z/\y=.int i/\z.length<=sizeLine/\atI z.cps.toList i=AA c/\Q (.str {#[c]}) H
theorem YT:IxR X (Vp X.K):=by
 intro JV PJ pins s σ H x y v u Q I rx ry h hs;obtain⟨p,xs,i,z,rfl,rfl,hq,he,q⟩:=h;cases rx;obtain⟨t,rfl⟩:=ry;obtain⟨CP,r,pl,hz⟩:=I.list hq;obtain⟨j,h1,h2,h3,h4,h5⟩:=Ed he;obtain⟨w,ew,NA⟩:=r.get h2;have hl:=r.length;have hn:=kC;have fin:EP X pins σ Q w s:={z,H,I,NA,q}
 by_cases h0:0<=i
 .have hj:i.toNat=j:=by
   rw[V0 h0 h5] at h1;exact BV h1
  exact item_listR pl.isList h0 'l' (by rw[hj];simpa using ew) fin hs
 .have hj:(i+(CP.toArray.size:Int)).toNat=j:=by
   rw[seqIndex_neg 'l' h4] at h1;rw[A5,<-hl];exact BV h1
  exact eQ (x:=w) pl.isList.typeIs TX.lookup
   (wpAny_getItem_list_neg (Q:=λr s'=>r=w/\EP X pins σ Q r s') pl.isList 'l' (by rw[A5]<;>lia) 'l' (by rw[hj];simpa using ew) {rfl,fin}) hs
theorem nW:IxR X (Vo X.K):=by
 intro JV PJ pins s σ H x y v u Q I rx ry h hs;obtain⟨p,xs,i,z,rfl,rfl,hq,he,q⟩:=h;cases rx;obtain⟨t,rfl⟩:=ry;obtain⟨CP,r,pl,hz⟩:=I.tuple hq;obtain⟨j,h1,h2,h3,h4,h5⟩:=Ed he;obtain⟨w,ew,NA⟩:=r.get h2;have hl:=r.length;have hn:=kC;have fin:EP X pins σ Q w s:={z,H,I,NA,q}
 exact eQ (x:=w) pl.typeIs slot_tuple_getitem.lookup
  (getItem_tuple (j:=j) (Q:=λr s'=>r=w/\EP X pins σ Q r s') pl 'l' 'l' (by rw[A5,<-hl];exact h1) (by simpa using ew) {rfl,fin}) hs
theorem yEV:IxR X Vn:=by
 intro JV PJ pins s σ H x y v u Q I rx ry h hs;obtain⟨z,i,c,rfl,rfl,hz,he,q⟩:=h;obtain⟨t,rfl⟩:=rx;obtain⟨t',rfl⟩:=ry;obtain⟨j,h1,h2,h3,h4,h5⟩:=Ed he;have hl:z.cps.toList.length=z.length:=by simp[Str.length]
 rw[hl] at h1 h4 h5;have hn:=kC
 exact jF (O2 s z t) slot_str_getitem.lookup (getItem_str (c:=c) (by
  have e1:decide (i < -(2 ^ 63:Int))=AB:=decide_eq_false 'l';have e2:decide (i>=2 ^ 63)=AB:=decide_eq_false 'l'
  rw[e1,e2,Bool.or_false]) (by rw[h1];simpa using h2) {.str {#[c]},H,I.tok _,{_,rfl},q}) hs
def Xp(K:AC):R2:=λx y H Q=>Vp K x y H Q\/Vo K x y H Q\/Vn x y H Q
theorem nX:IxR X (Xp X.K):=YT.or (nW.or yEV)
theorem zR2(CP:List AI)(n j:Nat)(u:AI):IB (·.setIfInBounds j u) { cls:=.type "list",data:=.seq CP.toArray n }={ cls:=.type "list",data:=.seq (CP.set j u).toArray n }:=by
 simp[IB]
theorem Inv.lst{pins:List (AQ×IL)}{σ:St}{H:Hp}{s:AN}{p:AQ}{xs:List V}(I:Inv X pins σ H s)(h:H p=AA (.lst xs)) :
  ∃(CP:List AI) (n:Nat),Vals xs CP/\s.heap.get? p=AA { cls:=.type "list",data:=.seq CP.toArray n }/\xs.length<=sizeLine:=by
 obtain⟨z,CP,n,r,e⟩:=I.hok p _ h;exact{CP,n,r,e,z}
theorem Inv.lstUpd{p:AQ}{xs ys:List V}{O0:List AI}{n':Nat}{f:IL->IL}(I:Inv X pins σ H s)(h:H p=AA (.lst xs))
  (ho:s.heap.get? p=AA { cls:=.type "list",data:=.seq CP.toArray n }) (hf:f { cls:=.type "list",data:=.seq CP.toArray n }={ cls:=.type "list",data:=.seq O0.toArray n' }) (r:Vals ys O0) (hz:ys.length<=sizeLine) (t:Nat) :
  Inv X pins σ (EV H p (.lst ys)) { s with heap:=s.heap.update p f,toks:=t }:=by
 have e:(s.heap.update p f).get? p=AA { cls:=.type "list",data:=.seq O0.toArray n' }:=by
  rw[KM f ho (by rw[hf]<;>rfl),hf]
 refine I.write (x:=p) (e:=p) (by rw[h];trivial) (.inl rfl) (λb u hb q=>(J0 _ _ (JG hb)).trans q) {_,e} ?_;exact{hz,O0,n',r,e}
def yH8:V->V->V->Hp->(Hp->Prop)->Prop:=λo i v H Q=>∃p xs k j,o=.ref p/\i=.int k/\H p=AA (.lst xs)/\bJ xs.length k=AA j/\Q (EV H p (.lst (xs.set j v)))
theorem zWN:Vt X yH8:=by
 intro pins s σ H o i v ov iv u Q I ro ri rv h;obtain⟨p,xs,k,j,rfl,rfl,hp,hj,q⟩:=h;cases ro;obtain⟨t,rfl⟩:=ri;obtain⟨CP,n,r,ho,hz⟩:=I.lst hp;obtain⟨h1,h2,h3,h4⟩:=Pt hj;have hl:=r.length;have hn:=kC
 have I':Inv X pins σ (EV H p (.lst (xs.set j v))) { s with heap:=s.heap.update p (IB (·.setIfInBounds j u)) } :=
  I.lstUpd hp ho (zR2 CP n j u) (r.set rv j) (by rw[CC];exact hz) s.toks
 by_cases h0:0<=k
 .have hk:k.toNat=j:=by
   rw[V0 h0 h4] at h1;exact BV h1
  exact PySem.W.ki_setAt ho h0 'l' (by rw[A5,<-hl];exact h4) (by rw[hk];exact{_,I',q})
 .have hk:(k+(CP.toArray.size:Int)).toNat=j:=by
   rw[seqIndex_neg 'l' h3] at h1;rw[A5,<-hl];exact BV h1
  exact PySem.W.ki_setBack ho 'l' (by rw[A5,<-hl];exact h3) 'l' (by rw[hk];exact{_,I',q})
theorem zNE(lo hi:Option Int)(n:Nat):(G2 lo hi AH n).1=((HT.sIx n 0 lo:Nat):Int)/\(G2 lo hi AH n).2.1=((HT.sIx n n hi:Nat):Int)/\(G2 lo hi AH n).2.2=1:=by
 refine{?_,?_,rfl}
 .cases lo with
  |none=>simp[G2,HT.sIx]
  |some i =>
   simp only[G2,HT.sIx,cF,show(1:Int)>0 by decide,if_true]
   by_cases h:i<0
   .simp only[h,if_true]<;>lia
   .simp only[h,if_false]<;>lia
 .cases hi with
  |none=>simp[G2,HT.sIx]
  |some i =>
   simp only[G2,HT.sIx,cF,show(1:Int)>0 by decide,if_true]
   by_cases h:i<0
   .simp only[h,if_true]<;>lia
   .simp only[h,if_false]<;>lia
theorem zLW(CP:List AI)(lo hi:Option Int):bW CP.toArray lo hi AH=((CP.drop (HT.sIx CP.length 0 lo)).take (HT.sIx CP.length CP.length hi-HT.sIx CP.length 0 lo)).toArray:=by
 obtain⟨h1,h2,h3⟩:=zNE lo hi CP.toArray.size;unfold bW;rw[h1,h2,h3];simp only[sliceRange_one,pick_run,A5]<;>rfl
def yKR(K:AC):V->Option Int->Option Int->Hp->VK->Prop:=λx lo hi H Q=>∃a xs,x=.ref a/\SqL K H a xs/\∀p,H p=AH->Q (.ref p) (EV H p (.lst (YJ xs lo hi)))
theorem yA0:SlR X (yKR X.K):=by
 intro pins s σ H x v vl vu lo hi sl Q I rx hs pl pu h;obtain⟨a,xs,rfl,hx,q⟩:=h;cases rx;obtain⟨CP,r,ht,hz⟩:=I.list hx;have FP:=r.length;refine{"list",_,TX.lookup,ht.isList.typeIs,?_};refine aC ht.isList hs pl pu .none 's' ?_ (by rw[A5]<;>lia);rw[zLW,<-FP];refine{.ref s.heap.objs.size,_,I.laid (t':=s.toks) (o:=.lst (YJ xs lo hi)) (λb ob q=>AJ _ q) (AO _) ?_,rfl,q _ (I.hok.fresh (AO _))};exact{AV (Ua xs lo hi) hz,_,0,(r.drop (HT.sIx xs.length 0 lo)).take (HT.sIx xs.length xs.length hi-HT.sIx xs.length 0 lo),AW _ rfl}
theorem UR:CallR X (.builtin "len") (λxs H Q=>∃p ys,xs=[.ref p]/\(SqL X.K H p ys\/SqT X.K H p ys)/\Q (.int ys.length) H):=by
 intro pins s σ H xs us Q I r h;obtain⟨p,ys,rfl,hq,q⟩:=h;obtain⟨u,rfl,rx⟩:=VQ r;cases rx;have hn:=kC;rcases hq with hq|hq
 .obtain⟨CP,r',pl,hz⟩:=I.list hq
  have FP:=r'.length;exact Calls.call_len_list pl.isList (by simp only[A5]<;>lia) {.int ys.length,H,I.tok _,{s.toks+1,by rw[A5,FP]},q}
 .obtain⟨CP,r',pl,hz⟩:=I.tuple hq
  have FP:=r'.length;exact len_tuple pl (by simp only[A5]<;>lia) {.int ys.length,H,I.tok _,{s.toks+1,by rw[A5,FP]},q}
theorem UQ:CallR X (.builtin "len") (λxs H Q=>∃z,xs=[.str z]/\z.length<=sizeLine/\Q (.int z.length) H):=by
 intro pins s σ H xs us Q I r h;obtain⟨z,rfl,hz,q⟩:=h;obtain⟨u,rfl,t,rfl⟩:=VQ r;have hn:=kC;exact len_str 'l' {.int z.length,H,I.tok _,{_,rfl},q}
theorem CallR.or{f:AI}{r r':List V->Hp->VK->Prop}(h:CallR X f r)(h':CallR X f r'):CallR X f (λxs H Q=>r xs H Q\/r' xs H Q):=by
 intro pins s σ H xs us Q I rs q;rcases q with q|q
 .exact h pins s σ H xs us Q I rs q
 .exact h' pins s σ H xs us Q I rs q
theorem UP:CallR X (.type "list") (λxs H Q=>∃p ys,xs=[.ref p]/\(SqL X.K H p ys\/SqT X.K H p ys)/\∀l,H l=AH->Q (.ref l) (EV H l (.lst ys))):=by
 intro pins s σ H xs us Q I r h;obtain⟨p,ys,rfl,hq,q⟩:=h;obtain⟨u,rfl,rx⟩:=VQ r;cases rx
 have fin:∀(CP:List AI),Vals ys CP->ys.length<=sizeLine->∀(h':D0) (c':Nat),(∀b o',s.heap.get? b=AA o'->h'.get? b=AA o') ->
   h'.get? s.heap.objs.size=AA { cls:=.type "list",dict:=AH,data:=.seq CP.toArray c',slots:=#[] }->EP X pins σ Q (.ref s.heap.objs.size) { s with heap:=h' }:=λCP r' hz h' c' kp e =>
  {.ref s.heap.objs.size,_,I.laid (t':=s.toks) kp (AO _) (show ObjOk X.prog X.w _ h' _ (.lst ys) from{hz,CP,c',r',e}),rfl,q _ (I.hok.fresh (AO _))}
 rcases hq with hq|hq
 .obtain⟨CP,r',pl,hz⟩:=I.list hq
  have FP:=r'.length;obtain⟨o,ho,hc,n,hd⟩:=pl.isList;exact call_list_seq p (.inl rfl) ho hc hd (λh' c' kp e=>fin CP r' hz h' c' kp e) (by simp only[A5]<;>lia)
 .obtain⟨CP,r',pl,hz⟩:=I.tuple hq
  have FP:=r'.length;obtain⟨o,ho,hc,n,hd⟩:=pl;exact call_list_seq p (.inr rfl) ho hc hd (λh' c' kp e=>fin CP r' hz h' c' kp e) (by simp only[A5]<;>lia)
theorem zLX:CallR X (.type "tuple") (λxs H Q=>∃p ys,xs=[.ref p]/\((SqL X.K H p ys/\∀l,H l=AH->Q (.ref l) (EV H l (.tup ys)))\/(SqT X.K H p ys/\Q (.ref p) H))):=by
 intro pins s σ H xs us Q I r h;obtain⟨p,ys,rfl,h⟩:=h;obtain⟨u,rfl,rx⟩:=VQ r;cases rx;rcases h with⟨hq,q⟩|⟨hq,q⟩
 .obtain⟨CP,r',pl,hz⟩:=I.list hq
  have FP:=r'.length;refine call_tuple_list pl.isList (λh' kp=>?_) (by simp only[A5]<;>lia);have I1:Inv X pins σ H { s with heap:=h' }:=I.kept (t':=s.toks) kp
  have I2:Inv X pins σ (EV H h'.objs.size (.tup ys)) { s with heap:=h'.push { cls:=.type "tuple",data:=.seq CP.toArray } } :=
   I1.laid (t':=s.toks) (λb o e=>AJ _ e) (AO _) (show ObjOk X.prog X.w _ _ _ (.tup ys) from{hz,CP,r',IsTupP.new _ _})
  exact{.ref h'.objs.size,_,I2,rfl,q _ (I1.hok.fresh (AO _))}
 .obtain⟨CP,r',pl,hz⟩:=I.tuple hq
  exact call_tuple_same pl {.ref p,H,I,rfl,q}
def Hn(K:AC)(T:String)(x:V)(H:Hp):Prop:=match x with
 |.str _=>T="str"
 |.int _=>T="int"
 |.ref p=>(T="list"/\∃xs,SqL K H p xs)\/(T="tuple"/\∃o,K.lookup p=AA o/\o.cls=.type "tuple"/\o.dict=AH) \/
   (T="dict"/\((∃kvs,H p=AA (.dK kvs))\/∃kvs,H p=AA (.dT kvs)))\/(T="set"/\∃S n,H p=AA (.set S n))
 |_=>False
theorem yEW{T:String}{x:V}{v:AI}(I:Inv X pins σ H s)(r:RelV x v)(ty:Hn X.K T x H) :
  s.TypeIs v T/\∀a,v=.ref a->∃ob,s.heap.get? a=AA ob/\ob.dict=AH:=by
 cases x with
 |str z =>
  obtain⟨t,rfl⟩:=r;cases(show T="str" from ty);exact{O2 s z t,λ_ e=>nomatch e}
 |int i =>
  obtain⟨t,rfl⟩:=r;cases(show T="int" from ty);exact{typeIs_int s i t,λ_ e=>nomatch e}
 |ref p =>
  cases r;rcases ty with⟨rfl,xs,hq⟩|⟨rfl,o,hk,hc,hd⟩|⟨rfl,hk⟩|⟨rfl,S,n,hk⟩
  .obtain⟨CP,_,pl,_⟩:=I.list hq
   refine{pl.isList.typeIs,λa e=>?_};cases e;obtain⟨o,n,e,c,hd,_⟩:=pl;exact{o,e,hd}
  .refine{{o,I.kIn p o hk,hc},λa e=>?_}
   cases e;exact{o,I.kIn _ o hk,hd}
  .have z:∃o,s.heap.get? p=AA o/\o.ExactDict:=by
    rcases hk with⟨kvs,hk⟩|⟨kvs,hk⟩
    .obtain⟨_,_,_,_,o,_,_,e,ex,_⟩:=I.hok p _ hk
     exact{o,e,ex}
    .obtain⟨_,_,_,_,o,_,_,e,ex,_⟩:=I.hok p _ hk
     exact{o,e,ex}
   obtain⟨o,e,ex⟩:=z;refine{{o,e,ex.1},λa e2=>?_};cases e2;exact{o,e,ex.2.1}
  .obtain⟨o,_,_,_,e,ex,_⟩:=I.hok p _ hk
   refine{{o,e,ex.1},λa e2=>?_};cases e2;exact{o,e,ex.2.1}
 |_=>exact F8 ty
def tBM(K:AC)(T:String)(r:V->List V->Hp->VK->Prop)(to:TE)(t:TA):TE:=λσ H Q=>to σ H λx H1=>Hn K T x H1/\t σ H1 λxs H2=>r x xs H2 Q
variable{o:C5}{to:TE}{t:TA}{T id:String}{r:V->List V->Hp->VK->Prop}
theorem yI(pa:PlainAttrs T)(slot:Slot T name id)(hty:typeOf (.builtin id)=pure (.type "method_descriptor"))(hm:Bn X id r)(ho:PE X o to)(ha:PA X (e::es) t)
  (PQ:OB o name X.env (eval o X.env)=eval o X.env:=by rfl)
  (U0:((CZ GJ (AF (e::es) X.env)).all (λx=>!x.1)&&(NG GJ (IR [] X.env)).all (λx=>x.1.isSome)
   && decide ((e::es).length+([]:List MZ).length+(if([]:List MZ).isEmpty then 0 else 1)<30))=AG:=by rfl)
  (PL:(RG.endLine==GJ.line)=AG:=by rfl) (hs:AF (e::es) X.env=(AB,eval e X.env)::AF es X.env:=by rfl) (NC:(CZ GJ (AF es X.env)).any (·.1)=AB:=by rfl) :
  PE X (.Call (.Attribute o name RG) (e::es) [] GJ) (tBM X.K T r to t):=by
 intro pins s σ H Q I h;refine wpAny_Call_method_late PQ U0 PL rfl (GY (ho pins s σ H _ I h) λv s1 ⟨x,H1,I1,r1,ty,q1⟩=>?_);obtain⟨h1,h2⟩:=yEW I1 r1 ty;refine{T,id,pa,slot,hty,h1,h2,?_};have hA:=ha GJ pins s1 σ H1 _ I1 q1;rw[hs] at hA ⊢;refine Calls.callWith_builtin (by show(AB||(CZ GJ (AF es X.env)).any (·.1))=AB;rw[NC]<;>rfl) (YE ?_);exact GY hA (λus s2 q0=>by obtain⟨vs,H2,I2,r2,q2⟩:=q0;exact hm pins s2 σ H2 x vs v us Q I2 r1 r2 q2)
/- xs.append(e),list.index on a module's tuple .. are Bn facts of 06m -/
end
def Ib(X:Cx)(id:String)(r:V->List V->Hp->VK->Prop):Prop :=
 ∀(pins:List (AQ×IL)) (s:AN) (σ:St) (H:Hp) (x:V) (xs:List V) (v:AI) (us:List AI) (Q:VK),Inv X pins σ H s->RelV x v->Vals xs us->r x xs H Q ->
  A4 (A3 X.prog X.w) X.A (call (.builtin id) (v::us)) (EP X pins σ Q) X.xe s
theorem Vals.one:∀{x:V} {us:List AI},Vals [x] us->∃u,us=[u]/\RelV x u
 |_,_,.cons r .nil=>{_,rfl,r}
theorem Vals.eraseIdx:∀{xs:List V} {us:List AI} (i:Nat),Vals xs us->Vals (xs.eraseIdx i) (us.eraseIdx i)
 |_,_,_,.nil=>.nil
 |_,_,0,.cons _ t=>t
 |_,_,i+1,.cons r t=>.cons r (Vals.eraseIdx i t)
theorem Vals.reverse{xs:List V}{us:List AI}(h:Vals xs us):Vals xs.reverse us.reverse:=by
 induction h with
 |nil=>exact .nil
 |cons r t ih=>rw[GR,GR];exact Vals.append ih (.cons r .nil)
theorem Sh{α:Type}:∀(l:List α) (i:Nat),(l.eraseIdx i).length<=l.length
 |[],_=>AO _
 |_::_,0=>JL _
 |_::r,i+1=>Nat.succ_le_succ (Sh r i)
section
variable{l b:AQ}{xs ys zs:List V}
theorem Inv.lset{O0:List AI}{f:Array AI->Array AI}(I:Inv X pins σ H s)(hH:H l=AA (.lst xs))
  (e:s.heap.get? l=AA { cls:=.type "list",data:=.seq CP.toArray n }) (hf:f CP.toArray=O0.toArray) (hv:Vals ys O0) (hz:ys.length<=sizeLine) :
  Inv X pins σ (EV H l (.lst ys)) { s with heap:=s.heap.update l (IB f),toks:=t' }:=by
 have q:=PySem.IsL.update e f;rw[hf] at q;refine I.write (x:=l) (e:=l) (by rw[hH];exact trivial) (.inl rfl) (λb' u hb hu=>(J0 s.heap (IB f) (JG hb)).trans hu) {_,q} ?_;exact{hz,O0,_,hv,q}
theorem Inv.lnew(I:Inv X pins σ H s)(hv:Vals ys CP)(hz:ys.length<=sizeLine) :
  Inv X pins σ (EV H s.heap.objs.size (.lst ys)) { s with heap:=s.heap.push { cls:=.type "list",data:=.seq CP.toArray },toks:=t' } :=
 I.laid (λ_ _ q=>AJ _ q) (AO _) {hz,CP,0,hv,AW _ rfl}
theorem Inv.fresh(I:Inv X pins σ H s):H s.heap.objs.size=AH:=I.hok.fresh (AO _)
theorem Inv.lstM(I:Inv X pins σ H s)(hH:H l=AA (.lst xs)):xs.length<=sizeLine/\∃(CP:List AI) (n:Nat),Vals xs CP/\xs.length=CP.length/\s.heap.get? l=AA { cls:=.type "list",data:=.seq CP.toArray n }:=by
 obtain⟨z,CP,n,r,e⟩:=I.hok l _ hH;exact{z,CP,n,r,r.length,e}
theorem zWP(h:n<=sizeLine):LH n=AB:=by
 unfold LH;exact decide_eq_false (Nat.not_lt_of_le h)
end
def Ps:V->List V->Hp->VK->Prop:=λx vs H Q=>∃l xs y,x=.ref l/\vs=[y]/\H l=AA (.lst xs)/\xs.length<sizeLine/\Q .non (EV H l (.lst (xs++[y])))
theorem Sg:Ib X "list.append" Ps:=by
 intro pins s σ H x vs v us Q I rx rv h;obtain⟨l,xs,y,rfl,rfl,hH,hz,q⟩:=h;cases rx;obtain⟨u,rfl,ru⟩:=rv.one;obtain⟨z,CP,n,r,hl,e⟩:=I.lstM hH;refine O5 F.slot_list_append {_,e,rfl} F.entry_list_append (F.args_list_append_2 _ _) (PySem.list_append l CP.toArray n u (by rw[A5];lia)) {e,?_};refine{.non,_,I.lset (O0:=CP++[u]) hH e 's' (r.append (.cons ru .nil)) ?_,rfl,q};rw[BI,EB];exact M4 hz
def yA1:V->List V->Hp->VK->Prop:=λx vs H Q=>∃l b xs zs,x=.ref l/\vs=[.ref b]/\H l=AA (.lst xs)/\H b=AA (.lst zs)/\xs.length+zs.length<=sizeLine/\Q .non (EV H l (.lst (xs++zs)))
theorem yEX:Ib X "list.extend" yA1:=by
 intro pins s σ H x vs v us Q I rx rv h;obtain⟨l,b,xs,zs,rfl,rfl,hH,hB,hz,q⟩:=h;cases rx;obtain⟨u,rfl,ru⟩:=rv.one;cases ru;obtain⟨z,CP,n,r,hl,e⟩:=I.lstM hH;obtain⟨z2,L8,n2,r2,bT,e2⟩:=I.lstM hB;have hsz:CP.toArray.size+L8.toArray.size<=sizeLine:=by rw[A5,A5];lia
 have wX:¬(!CP.toArray.isEmpty&&LH (CP.toArray.size+L8.toArray.size))=AG:=by
  rw[zWP hsz,l0];exact BJ
 refine O5 F.slot_list_extend {_,e,rfl} F.entry_list_extend (F.args_list_extend_2 _ _)
  (AutoSeq1.list_extend_list_list_0 l CP.toArray n b L8.toArray n2 wX (by rw[A5];lia) (AV hsz (AY _ _))) {e,e2,?_}
 refine{.non,_,I.lset (O0:=CP++L8) hH e 's' (r.append r2) ?_,rfl,q};rw[BI];exact hz
def Nj:V->List V->Hp->VK->Prop:=λx vs H Q=>∃l xs i k y,x=.ref l/\vs=[.int i]/\H l=AA (.lst xs)/\-(2 ^ 63)<=i/\i<2 ^ 63/\seqIndex? i xs.length=AA k/\xs[k]?=AA y/\Q y (EV H l (.lst (xs.eraseIdx k)))
theorem zWQ:Ib X "list.pop" Nj:=by
 intro pins s σ H x vs v us Q I rx rv h;obtain⟨l,xs,i,k,y,rfl,rfl,hH,h1,h2,hk,hy,q⟩:=h;cases rx;obtain⟨u,rfl,ru⟩:=rv.one;obtain⟨t,rfl⟩:=ru;obtain⟨z,CP,n,r,hl,e⟩:=I.lstM hH;obtain⟨w,hw,NA⟩:=r.get hy
 refine O5 F.slot_list_pop {_,e,rfl} F.entry_list_pop (F.args_list_pop_2 _ _)
  (MeetsSeq.list_pop_at l CP.toArray n i t k w (fitsIndex_both h1 h2) (by rw[A5,<-hl];exact hk) (by rw[<-DD];exact hw) (by rw[A5];lia)) {e,?_}
 refine{y,_,I.lset (O0:=CP.eraseIdx k) hH e ?_ (r.eraseIdx k) ?_,NA,q}
 .show CP.toArray.eraseIdxIfInBounds k=(CP.eraseIdx k).toArray
  rw[List.eraseIdxIfInBounds_toArray]
 .have:=Sh xs k
  exact AV this z
def Gq:R2:=λx y H Q=>∃l b xs zs,x=.ref l/\y=.ref b/\H l=AA (.lst xs)/\H b=AA (.lst zs)/\xs.length+zs.length<=sizeLine/\∀p,H p=AH->Q (.ref p) (EV H p (.lst (xs++zs)))
theorem Ni:OpR X (HH .Add) Gq:=by
 intro pins s σ H x y v u Q I rx ry h;obtain⟨l,b,xs,zs,rfl,rfl,hH,hB,hz,q⟩:=h;cases rx;cases ry;obtain⟨z,CP,n,r,hl,e⟩:=I.lstM hH;obtain⟨z2,L8,n2,r2,bT,e2⟩:=I.lstM hB;refine PySem.P.add_list e e2 ?_ (by rw[A5,A5];lia);have ea:CP.toArray++L8.toArray=(CP++L8).toArray:=by simp
 rw[ea];exact{.ref _,_,I.lnew (t':=s.toks) (r.append r2) (by rw[BI];lia),rfl,q _ I.fresh}
section
variable[DecidableEq κ]
noncomputable def RN(kvs:List (κ×V))(k:κ):Option V:=(kvs.find? λkv=>decide (kv.1=k)).map (·.2)
noncomputable def WV(kvs:List (κ×V))(k:κ)(v:V):List (κ×V) :=
 if(kvs.any λkv=>decide (kv.1=k))=AG then kvs.map (λkv=>if kv.1=k then(kv.1,v) else kv) else kvs++[(k,v)]
theorem Em{p:κ×V}{r:List (κ×V)}{k:κ}(e:p.1=k):RN (p::r) k=AA p.2:=by simp[RN,IZ,e]
theorem El{p:κ×V}{r:List (κ×V)}{k:κ}(e:¬p.1=k):RN (p::r) k=RN r k:=by simp[RN,IZ,e]
theorem Ra(k:κ):∀kvs:List (κ×V),(kvs.any λkv=>decide (kv.1=k))=(RN kvs k).isSome
 |[]=>rfl
 |p::r=>by
  rw[FZ]
  by_cases e:p.1=k
  .simp only[Em e,decide_eq_true e,Bool.true_or,Y5]
  .rw[El e,decide_eq_false e,P3];exact Ra k r
theorem Tz(kvs:List (κ×V))(k:κ)(v:V):(WV kvs k v).length<=kvs.length+1:=by
 unfold WV;split
 .rw[AK];lia
 .rw[BI,A0,HJ];lia
theorem RelO.isSome_eq{o:Option V}{u:Option AI}(r:RelO o u):o.isSome=u.isSome:=by
 cases o with
 |none=>cases u with
  |none=>rfl
  |some _=>exact(show False from r).elim
 |some _=>cases u with
  |none=>exact(show False from r).elim
  |some _=>rfl
theorem KV.val{kvs:List (κ×V)}{vs:List (κ×AI)}(r:KV kvs vs)(k:κ):RelO (RN kvs k) (TV vs k):=by
 unfold KV at r
 induction r with
 |nil=>exact JB
 |@cons p q ps qs h t ih =>
  obtain⟨h1,h2⟩:=h
  by_cases e:p.1=k
  .have e':q.1=k:=h1.symm.trans e
   have b:TV (q::qs) k=AA q.2:=by simp[TV,IZ,e']
   rw[Em e,b];exact h2
  .have e':¬q.1=k:=λz=>e (h1.trans z)
   have b:TV (q::qs) k=TV qs k:=by simp[TV,IZ,e']
   rw[El e,b];exact ih
theorem KV.any{kvs:List (κ×V)}{vs:List (κ×AI)}(r:KV kvs vs)(k:κ):(kvs.any λkv=>decide (kv.1=k))=vs.any λkv=>decide (kv.1=k):=by
 unfold KV at r
 induction r with
 |nil=>rfl
 |cons h t ih=>rw[FZ,FZ,ih,h.1]
theorem KV.repl{kvs:List (κ×V)}{vs:List (κ×AI)}(r:KV kvs vs)(k:κ){y:V}(ry:RelV y u) :
  KV (kvs.map λkv=>if kv.1=k then(kv.1,y) else kv) (vs.map λkv=>if kv.1=k then(kv.1,u) else kv):=by
 unfold KV at r ⊢
 induction r with
 |nil=>exact .nil
 |@cons p q ps qs h t ih =>
  rw[A1,A1];refine .cons ?_ ih;obtain⟨h1,h2⟩:=h
  by_cases e:p.1=k
  .rw[if_pos e,if_pos (h1.symm.trans e)];exact{h1,ry}
  .rw[if_neg e,if_neg (λz=>e (h1.trans z))];exact{h1,h2}
theorem KV.put{kvs:List (κ×V)}{vs:List (κ×AI)}(r:KV kvs vs)(k:κ){y:V}(ry:RelV y u):KV (WV kvs k y) (stored vs k u):=by
 unfold WV stored;rw[r.any k]
 by_cases e:(vs.any λkv=>decide (kv.1=k))=AG
 .rw[if_pos e,if_pos e];exact r.repl k ry
 .rw[if_neg e,if_neg e];exact Paired.snoc r {rfl,ry}
theorem KV.keys{kvs:List (κ×V)}{vs:List (κ×AI)}(r:KV kvs vs):kvs.map (·.1)=vs.map (·.1):=by
 unfold KV at r
 induction r with
 |nil=>rfl
 |cons h t ih=>rw[A1,A1,ih,h.1]
theorem KV.length{kvs:List (κ×V)}{vs:List (κ×AI)}(r:KV kvs vs):kvs.length=vs.length:=Paired.length r
end
theorem yH{k:Key}(r:RelV (kV k) u):(V7 P w).is k u=AG:=by
 cases k with
 |inl i=>obtain⟨t,e⟩:=(show ∃t,u=IA i t from r);subst e;exact zO0 P w i t
 |inr x=>obtain⟨t,e⟩:=(show ∃t,u=LY x t from r);subst e;exact zO1 P w x t
theorem Sf{P:CF}{w:DJ}:∀{ks:List Key} {us:List AI},Vals (ks.map kV) us->ItemsAre (V7 P w) ks us
 |[],_,r=>by rw[LZ] at r;cases r;exact .nil
 |k::ks,_,r=>by
  rw[A1] at r
  cases r with
  |cons h t=>exact .cons (yH h) (Sf t)
abbrev KT(H:Hp):List (List Key×V)->List (List Key×AQ×AI)->Prop:=Paired λp q=>p.1=q.1/\H q.2.1=AA (.tup (p.1.map kV))/\RelV p.2 q.2.2
theorem KT.val{kvs:List (List Key×V)}(r:KT H kvs xs)(k:List Key):RelO (RN kvs k) ((X4 xs k).map (·.2)):=by
 induction r with
 |nil=>exact JB
 |@cons p q ps qs h t ih =>
  obtain⟨h1,_,h2⟩:=h
  by_cases e:p.1=k
  .have e':q.1=k:=h1.symm.trans e
   have b:X4 (q::qs) k=AA q.2:=by simp[X4,IZ,e']
   rw[Em e,b];exact h2
  .have e':¬q.1=k:=λz=>e (h1.trans z)
   have b:X4 (q::qs) k=X4 qs k:=by simp[X4,IZ,e']
   rw[El e,b];exact ih
theorem KT.repl{kvs:List (List Key×V)}(r:KT H kvs xs)(k:List Key){y:V}(ry:RelV y u) :
  KT H (kvs.map λkv=>if kv.1=k then(kv.1,y) else kv) (xs.map (putAt k u)):=by
 induction r with
 |nil=>exact .nil
 |@cons p q ps qs h t ih =>
  rw[A1,A1];refine .cons ?_ ih;obtain⟨h1,h2,h3⟩:=h;unfold putAt
  by_cases e:p.1=k
  .rw[if_pos e,if_pos (h1.symm.trans e)];exact{h1,h2,ry}
  .rw[if_neg e,if_neg (λz=>e (h1.trans z))];exact{h1,h2,h3}
theorem KT.put{kvs:List (List Key×V)}(r:KT H kvs xs)(k:List Key){b:AQ}{y:V}(hb:H b=AA (.tup (k.map kV)))(ry:RelV y u) :
  KT H (WV kvs k y) (storedH xs k b u):=by
 have e:(kvs.any λkv=>decide (kv.1=k))=(X4 xs k).isSome:=by
  rw[Ra,(r.val k).isSome_eq,aQ]
 unfold WV storedH;rw[e]
 by_cases q:(X4 xs k).isSome=AG
 .rw[if_pos q,if_pos q];exact r.repl k ry
 .rw[if_neg q,if_neg q];exact Paired.snoc r {rfl,hb,ry}
theorem KT.keeps{kvs:List (List Key×V)}(r:KT H kvs xs)(ht:∀b ys,H b=AA (.tup ys)->H' b=AA (.tup ys)):KT H' kvs xs :=
 pA0 r λ_ _ z=>{z.1,ht _ _ z.2.1,z.2.2}
theorem Wy{u:HO}(ok:HOk P w H h)(e:Rd H a u):ObjOk P w H h a u:=e.ok ok
theorem pW{kvs:List (Key×V)}(ok:HOk P w H h)(e:Rd H a (.dK kvs)):kvs.length<=sizeLine/\(a==HP)=AB/\∃vs,KV kvs vs/\h.DictOf (V7 P w) a vs :=
 show ObjOk P w H h a (.dK kvs) from Wy ok e
theorem yIA{kvs:List (Key×V)}(ok:HOk P w H h)(e:H a=AA (.dK kvs)):kvs.length<=sizeLine/\(a==HP)=AB/\∃vs,KV kvs vs/\h.DictOf (V7 P w) a vs:=pW ok (.inl e)
theorem yS{ks:List Key}(ok:HOk P w H h)(e:H a=AA (.tup (ks.map kV))):(Q4 (V7 P w)).is h ks a:=by
 obtain⟨_,CP,r,o,h1,h2,_,n,h3⟩:=(show ObjOk P w H h a (.tup (ks.map kV)) from ok a _ e);exact{o,CP.toArray,n,h1,h2,h3,by simpa using Sf r}
theorem yG{kvs:List (List Key×V)}(ok:HOk P w H h)(e:Rd H a (.dT kvs)):kvs.length<=sizeLine/\(a==HP)=AB /\
  ∃xs,KT H kvs xs/\h.DictOfH (Q4 (V7 P w)) a xs:=by
 obtain⟨z,y,xs,r,o,es,ep,h1,h2,h3,h4,h5⟩:=(show ObjOk P w H h a (.dT kvs) from Wy ok e);refine{z,y,xs,r,o,es,ep,h1,h2,h3,h4,λx hx=>?_,h5}
 have all:∀{l:List (List Key×V)} {m:List (List Key×AQ×AI)},KT H l m->∀x∈m,(Q4 (V7 P w)).is h x.1 x.2.1:=by
  intro l m q
  induction q with
  |nil=>intro x hx;exact nomatch hx
  |@cons p q ps qs hq t ih =>
   intro x hx;rcases A9.mp hx with e|hx
   .subst e
    exact yS ok (by rw[<-hq.1];exact hq.2.1)
   .exact ih x hx
 exact all r x hx
theorem yIB{kvs:List (List Key×V)}(ok:HOk P w H h)(e:H a=AA (.dT kvs)):kvs.length<=sizeLine/\(a==HP)=AB /\
  ∃xs,KT H kvs xs/\h.DictOfH (Q4 (V7 P w)) a xs:=yG ok (.inl e)
def rH(H:Hp)(a:AQ)(y:V)(r:Option V):Prop :=
 (∃kvs k,Rd H a (.dK kvs)/\y=kV k/\r=RN kvs k)\/∃kvs k b,Rd H a (.dT kvs)/\y=.ref b/\H b=AA (.tup (k.map kV))/\r=RN kvs k
def DPut(H:Hp)(a:AQ)(y v:V)(H':Hp):Prop :=
 (∃kvs k,H a=AA (.dK kvs)/\y=kV k/\kvs.length<sizeLine/\H'=EV H a (.dK (WV kvs k v))) \/
 ∃kvs k b,H a=AA (.dT kvs)/\y=.ref b/\H b=AA (.tup (k.map kV))/\kvs.length<sizeLine/\H'=EV H a (.dT (WV kvs k v))
theorem DPut.kk{kvs:List (Key×V)}{k:Key}{v:V}(e:H a=AA (.dK kvs))(hl:kvs.length<sizeLine):DPut H a (kV k) v (EV H a (.dK (WV kvs k v))):=.inl {kvs,k,e,rfl,hl,rfl}
theorem DPut.t{b:AQ}{kvs:List (List Key×V)}{k:List Key}{v:V}(e:H a=AA (.dT kvs))(eb:H b=AA (.tup (k.map kV)))(hl:kvs.length<sizeLine) :
  DPut H a (.ref b) v (EV H a (.dT (WV kvs k v))):=.inr {kvs,k,b,e,rfl,eb,hl,rfl}
section
variable{y v:V}{r:AI}{o:Option V}
theorem Inv.big(I:Inv X pins σ H s):HP<s.heap.objs.size:=by
 have h:BC<s.heap.objs.size:=(I.mod.glob.keeps I.bk).lt;exact CU 'd' h
theorem zTG(hu:A.units+1<G3)(I:Inv X pins σ H s)(g:rH H a y (AA v))(ry:RelV y u)(h:∀w' s',Inv X pins σ H s'->RelV v w'->Q w' s') :
  A4 (A3 X.prog X.w) A (Q5 (.ref a) u) Q E s:=by
 rcases g with⟨kvs,k,e,ey,l⟩|⟨kvs,k,b,e,ey,eb,l⟩
 .subst ey
  obtain⟨z,hd,vs,TR,dd⟩:=pW I.hok e;obtain⟨w',hw,NA⟩:=RelO.some_of (v:=v) (o:=TV vs k) (by rw[l];exact TR.val k);exact wpAny_getItem_of (yH ry) dd.mapOf hw (h w' _ (I.tok _) NA)
 .subst ey
  cases(show u=DN b from ry);obtain⟨z,hd,xs,TR,dd⟩:=yG I.hok e;obtain⟨w',hw,NA⟩:=RelO.some_of (v:=v) (o:=(X4 xs k).map (·.2)) (by rw[l];exact TR.val k);obtain⟨p,hp,XT⟩:=DF.mp hw;refine wpAny_getItem_heap (SK hu) (yS I.hok eb) dd hp ?_;rw[XT];exact h w' _ (I.tok _) NA
theorem yKS(hu:A.units+1<G3)(I:Inv X pins σ H s)(g:rH H a y o)(ry:RelV y u)(h:∀s',Inv X pins σ H s'->Q (.bool o.isSome) s') :
  A4 (A3 X.prog X.w) A (CO .In u (.ref a)) Q E s:=by
 rcases g with⟨kvs,k,e,ey,l⟩|⟨kvs,k,b,e,ey,eb,l⟩
 .subst ey
  obtain⟨z,hd,vs,TR,dd⟩:=pW I.hok e;refine wpAny_in_of (yH ry) hd dd.mapOf ?_;rw[<-(TR.val k).isSome_eq,<-l];exact h _ (I.tok _)
 .subst ey
  cases(show u=DN b from ry);obtain⟨z,hd,xs,TR,dd⟩:=yG I.hok e;refine wpAny_in_heap (SK hu) (yS I.hok eb) hd dd ?_;have q:=(TR.val k).isSome_eq;rw[aQ] at q;rw[<-q,<-l];exact h _ (I.tok _)
theorem Pq{ob:HO}(I:Inv X pins σ H s)(mu:uT (H a))(hs:FI a s.heap h')(he:∃q,h'.get? a=AA q)(new:ObjOk X.prog X.w (EV H a ob) h' a ob) :
  Inv X pins σ (EV H a ob) { s with heap:=h',toks:=t' } :=
 I.write (x:=a) (e:=a) mu (.inl rfl) (λb q hb z=>(hs.2 b hb).trans z) he new
theorem yEZ{kvs:List (Key×V)}{vs:List (Key×AI)}(z:kvs.length<=sizeLine)(hd:(a==HP)=AB)(TR:KV kvs vs)(dd:h'.DictOf (V7 P w) a vs) :
  ObjOk P w H' h' a (.dK kvs):={z,hd,vs,TR,dd}
theorem zTI{Q:Unit->AN->Prop}(hu:A.units+1<G3)(I:Inv X pins σ H s)(g:DPut H a y v H')(ry:RelV y u)(rv:RelV v r)(h:∀s',Inv X pins σ H' s'->Q () s') :
  A4 (A3 X.prog X.w) A (setItem (.ref a) u r) Q E s:=by
 rcases g with⟨kvs,k,e,ey,l,eH⟩|⟨kvs,k,b,e,ey,eb,l,eH⟩
 .subst ey eH
  obtain⟨z,hd,vs,TR,dd⟩:=yIA I.hok e;have hz:vs.length<=sizeLine:=by rw[<-TR.length];exact z
  have hl:(WV kvs k v).length<=sizeLine:=by have:=Tz kvs k v;lia
  refine wpAny_setItem_pairs (hsz:=hz) (yH ry) dd λh' Cf hs=>h _ ?_;have he:∃q,h'.get? a=AA q:=let ⟨q,_,_,hq,_⟩:=Cf;{q,hq};exact Pq I (by rw[e];exact JB) hs he (yEZ hl hd (TR.put k rv) Cf)
 .subst ey eH
  cases(show u=DN b from ry);obtain⟨z,hd,xs,TR,dd⟩:=yIB I.hok e;have hz:xs.length<=sizeLine:=by rw[<-Paired.length TR];exact z
  have hl:(WV kvs k v).length<=sizeLine:=by have:=Tz kvs k v;lia
  refine wpAny_setItem_heap (hsz:=hz) (SK hu) (yS I.hok eb) dd λh' Cf hs=>h _ ?_;obtain⟨q,es,ep,hq,h2,h3,h4,_,h5⟩:=Cf;refine Pq I (by rw[e];exact JB) hs {q,hq} {hl,hd,_,(TR.put k eb rv).keeps λc ys ec=>?_,q,es,ep,hq,h2,h3,h4,h5};rw[GP (yHP ec e (λz=>nomatch z))];exact ec
end
section
variable{kvs:List (Key×V)}{k:Key}
theorem yIC(I:Inv X pins σ H s)(e:Rd H a (.dK kvs))(h:∀t s',Inv X pins σ H s'->Q (.int kvs.length t) s'):A4 (A3 X.prog X.w) A (call (.builtin "len") [.ref a]) Q E s:=by
 obtain⟨z,hd,vs,TR,dd⟩:=pW I.hok e;refine call_len_dict hd dd (by rw[<-TR.length];rw[QO] at z;lia) ?_;rw[<-TR.length];exact h _ _ (I.tok _)
end
theorem zO4{y:V}{o:Option V}(I:Inv X pins σ H s)(g:rH H a y o):s.TypeIs (.ref a) "dict":=by
 rcases g with⟨kvs,k,e,_,_⟩|⟨kvs,k,b,e,_,_,_⟩
 .obtain⟨_,_,vs,_,dd⟩:=pW I.hok e
  exact dd.typeIs
 .obtain⟨_,_,xs,_,dd⟩:=yG I.hok e
  exact dd.typeIs
def yID(td ty tv:TE):TS:=λD σ H=>tv σ H λv H1=>td σ H1 λx H2=>ty σ H2 λy H3=>∃a H4,x=.ref a/\DPut H3 a y v H4/\D.nx σ H4
section
variable{o i:C5}{td ty tv:TE}
theorem Pp(hu:X.A.units+1<G3)(ho:PE X o td)(hi:PE X i ty)(hv:PE X JV tv)(hs:HG JV (AA (.Subscript o i NB)) pos.line X.env=pure AB) :
  PS X (.Assign [.Subscript o i NB] JV pos) (yID td ty tv):=by
 intro pins s σ H D I h;refine wpAny_Assign_Subscript (GY (hv pins s σ H _ I h) λr s1 ⟨v,H1,I1,rv,q1⟩=>GY (ho pins s1 σ H1 _ I1 q1) λu s2 ⟨x,H2,I2,rx,q2⟩=>GY (hi pins s2 σ H2 _ I2 q2) λiv s3 ⟨y,H3,I3,ry,a,H4,ex,g,q3⟩=>?_) hs;subst ex;obtain rfl:u=DN a:=rx;exact zTI hu I3 g ry rv λs4 I4=>{σ,H4,I4,q3}
end
theorem zWT(h:D0)(hb:HP<h.objs.size):ObjOk P w H (h.push { cls:=.type "dict",data:=.dict #[] }) h.objs.size (.dT []) :=
 {B0 _,beq_eq_false_iff_ne.mpr (JG (CH hb)),[],.nil,_,#[],0,AW _ rfl,{rfl,rfl,rfl},rfl,rfl,UG}
def yE0:TE:=λ_ H Q=>∀p,H p=AH->Q (.ref p) (EV H p (.dT []))
theorem cZ:PE X (.Dict [] [] pos) yE0:=λpins s σ H Q I h =>
 wpAny_Dict_empty {.ref s.heap.objs.size,_,I.laid (a:=s.heap.objs.size) (o:=.dT []) (t':=s.toks) (λ_ _ q=>AJ _ q) (AO _) (zWT s.heap I.big),rfl,h _ (I.hok.fresh (AO _))}
section
variable{y d:V}{r:AI}{o:Option V}
end
section
variable{o f:C5}{td ty tx:TE}
end
section
variable{kvs:List (Key×V)}
end
section
variable{y:V}
end
end L2
variable{q:CF}{YY:List BL}{XP:(BL->Option AI)->D0->Prop}{YP:DJ->D0->Prop}
namespace Att
open PySem PySem.W PySem.Calls PyProof.Rows
theorem zJH{P:Params}:∀(ns:List Int) (vs:List AI),WellAll P h vs (ns.map WData.int)->EA vs ns:=by
 intro ns
 induction ns with
 |nil =>
  intro vs w;rw[LZ] at w;cases w;exact .nil
 |cons n ns ih =>
  intro vs w;rw[A1] at w
  cases w with
  |cons a b =>
   cases a;exact .cons _ _ (ih _ b)
theorem zTK{l:OpenLaw}(hn:l.most=AA n){P:Params}{args:List WData}{oE:List AI}
  (i6:l.row.toRowW.claim.pre args=AG) (Bx:WellAll P h oE args) :
  ∃a vs ns,oE=[DN a]/\args=[WData.list (ns.map WData.int)]/\h.get? a=AA { cls:=.type "list",data:=.seq vs.toArray }/\EA vs ns/\ns.length<=n:=by
 have hsh:WShape.hasAll [] args [.list .int]=AG:=(pre_splitW i6).1;have hc:l.pre.holds [] { args:=args }=AG:=(pre_splitW i6).2;obtain⟨d,r,rfl,h1,h2⟩:=hasAllW_cons hsh;obtain rfl:=hasAllW_nil h2;obtain⟨xs,rfl,h3⟩:=hasW_list h1;obtain⟨ns,rfl⟩:=items_int h3
 have FP:ns.length<=n:=by
  unfold OpenLaw.pre at hc
  have h4:(WTm.not (.lt (.lit (.int (n:Int))) (.len (.arg 0)))).holds [] { args:=[.list (ns.map .int)] }=AG:=by
   have h4:=(holds_andW hc).1;rw[hn] at h4;exact h4
  have h5:=condW_of h4 (w_not (w_lt w_lit (w_len_list (w_arg rfl))));rw[AK] at h5;refine EL λq=>?_;have q':(n:Int)<((ns.length:Nat):Int):=by lia
  first
   |(rw[decide_eq_true q'] at h5;exact absurd h5 'd')
   |(simp at h5;lia)
 cases Bx with
 |cons w1 w2 =>
  cases w2
  cases w1 with
  |list ho U1=>exact{_,_,ns,rfl,rfl,ho,zJH ns _ U1,FP}
theorem zTL(l:OpenLaw)(args:List WData):l.row.toRowW.claim.post args (.bool AG) args=AG :=
 postW_of (r:=l.row.toRowW) (X:=(AG==AG))
  (show WShape.has [] (.bool AG) .bool=AG by first|rfl|decide|simp[WShape.has,WShape.arms,WShape.armsAll])
  (show(WTm.eq .res (.lit (.bool AG))).value [] { args:=args,res:=AA (.bool AG),after:=args }=AA (.bool (AG==AG)) from w_eq_bool (w_res rfl) w_lit) rfl
theorem attach_call{l:OpenLaw}{d:DefRec}
  (hn:l.most=AA n) (xB:d.params.defaults=[])
  (call:∀(w:DJ) (s₀ FC:AN) (mg mb:BL->Option AI) (fa:AQ) (o:IL) (pm cd SZ:AI) (a:AQ) (vs:List AI) (ns:List Int),
   Ground q YY [] XP w s₀ mg mb FC.heap->YP w FC.heap ->
   FC.heap.get? fa=AA o->o.data=.func (docDef d.name d.params d.body d.scope pm cd SZ)->FC.heap.CodeRec cd d.name->mg d.name=AA (.ref fa) ->
   FC.heap.get? a=AA { cls:=.type "list",data:=.seq vs.toArray }->EA vs ns->ns.length<=n->FC.gens=#[] ->
   IC (A3 l.prog w) Q7 (.call (.ref fa) {[.ref a],[]}) (λr s'=>r=.ok (.ret (.bool AG))/\OldK FC.heap s'.heap/\s'.os=FC.os/\M2 s'.gens) FC) :
  WalkO q YY XP YP l.row.toRowW d [] (λf vs=>aN f vs):=by
 intro w s₀ FC mg mb G Y fa o pm cd SZ dV kV ho hd QH hD wU hg args oE as i6 hlay hrd Bx hlo;obtain rfl:dV=.none:=Dflts.none hD xB;obtain rfl:kV=.none:=Dflts.noKw hD;obtain⟨a,vs,ns,rfl,rfl,dZ,eD,FP⟩:=zTK hn i6 Bx;refine enter_call (O4 (call w s₀ FC mg mb fa o pm cd SZ a vs ns G Y ho (fd_plain hd) QH wU dZ eD FP hg) λr s' hq=>?_);obtain⟨rfl,h2,h3,h4⟩:=hq;exact{.inl {.bool AG,.bool AG,[],rfl,λ_=>rfl,.bool AG,zTL l _,λ_=>{OF,λ_ hm=>(nomatch hm)}},h2,h3,h4}
section
variable{K:Frag}
noncomputable def yJS(h:D0)(L d:AQ):List (AQ×IL):=(D4 h.objs.size).filterMap λa=>if a=L\/a=d then AH else(h.get? a).map λo=>(a,o)
end
end Att
variable{CX:L2.CXT}{sp:L2.Sp}
namespace L2
open PySem PySem.Spec PyProof.Rows
theorem Se:∀{vs:List AI} {ns:List Int},EA vs ns->Vals (ns.map V.int) vs
 |_,_,.nil=>.nil
 |_,_,.cons n t h=>.cons {t,rfl} (Se h)
def Gn(H:Hp):Prop:=∀b,H b=AH\/(∃o xs,H b=AA (.frz o (.lst xs)))\/∃q,H b=AA (.tbl q #[])
structure Tabs(K:AC)(q:CF):Prop where
 rcs:∀x∈iJ,∀c T,D9 K x=AA (c,T)->∃d,(PyProof.Rows.recsOf q).find? (λe=>e.name==x)=AA d
 out:∀x∈iJ,∀c T,D9 K x=AA (c,T)->K.lookup T=AH
 uni:∀x∈iJ,∀y∈iJ,∀c c' T,D9 K x=AA (c,T)->D9 K y=AA (c',T)->x=y
def CB(K:AC)(base:D0):Prop:=∀x∈iJ,∀c T,D9 K x=AA (c,T)->eW base c T
theorem Tabs.uq{K:AC}(t:Tabs K q){T:AQ}{u v:BL}(a:TB K T u)(b:TB K T v):u=v:=by
 obtain⟨x,c,h1,h2,rfl⟩:=a;obtain⟨y,c',g1,g2,rfl⟩:=b;rw[t.uni x h1 y g1 c c' T h2 g2]
open Classical in
noncomputable def jY(K:AC)(H:Hp):Hp:=λb=>if h:∃q,TB K b q then AA (.tbl h.choose #[]) else H b
theorem yA2{K:AC}(t:Tabs K q){T:AQ}{u:BL}(a:TB K T u):jY K H T=AA (.tbl u #[]):=by
 have h:∃q,TB K T q:={u,a};unfold jY;rw[dif_pos h,t.uq h.choose_spec a]
theorem yA3{K:AC}{b:AQ}(a:∀q,¬TB K b q):jY K H b=H b:=by
 unfold jY;rw[dif_neg (λq0=>by obtain⟨q,z⟩:=q0;exact a q z)]
theorem zWU{K:AC}{mb:BL->Option AI}{fa:AQ}{FC:AN}{vs:List AI}
  (KX:K.In FC.heap) (wS:FC.heap.Ns BC mg) (hb:FC.heap.Ns J4 mb) (hbb:∀x:BL,x≠"__name__"->mb x=GA x) (Kr:FC.heap.NoLimit) (hbm:∃bm ob,mg "__builtins__"=AA (.ref bm)/\bm≠J4/\FC.heap.get? bm=AA ob/\ob.cls=.type "module"/\ob.dict=AA J4/\ob.data=.plain) (hg:FC.gens=#[])
  (tK:Tabs K q) (tT:∀x∈iJ,∀c T,D9 K x=AA (c,T)->eW FC.heap c T/\FC.heap.get? T=AA (OC #[]))
  (ha:FC.heap.get? a=AA { cls:=.type "list",data:=.seq vs.toArray }) (hi:EA vs ns) (hl:ns.length<=sizeLine) (hr:Room k Q7)
  (F:∀base:D0,K.In base->base.Ns BC mg->CB K base->FnOk P w K mg base CX k fa fd [x] sp) (xG:∀(s:AN) (u:AI),T4 s fd {[u],[]} [(x,u)])
  (fZ:∀H:Hp,Gn H->SqL K H a (ns.map V.int)->sp [.ref a] H (λv _=>v=.bl AG) λ_ _ _=>False)
  (Ly:∀H e s',CX [] H FC (λ_ _ _=>False) e s'->False) :
  IC (A3 P w) Q7 (.call (.ref fa) {[.ref a],[]}) (λr s'=>r=.ok (.ret (.bool AG))/\OldK FC.heap s'.heap/\s'.os=FC.os/\M2 s'.gens) FC:=by
 have rv:=Se hi;have Jv:=hi.length
 have WB:∀{T u},TB K T u->FC.heap.get? T=AA (OC #[])/\cB FC.heap T/\K.lookup T=AH:=λ{T u} h=>by
  obtain⟨x,c,h1,h2,_⟩:=h;obtain⟨z1,z2⟩:=tT x h1 c T h2;exact{z2,(z1.tab z2).isCodeTable,tK.out x h1 c T h2}
 have Ym:∀{u},¬TB K a u:=λ{u} h=>by
  have e:=(WB h).1;rw[ha] at e;cases e
 -- from an abstract heap in which nothing but the script and the tables is UW
 have xO:∀H0:Hp,(∀b,H0 b=AH\/∃o xs,H0 b=AA (.frz o (.lst xs)))->SqL K H0 a (ns.map V.int)->HOk P w H0 FC.heap->(∀b,H0 b≠AH->b=a)->(H0 a≠AH->K.lookup a=AH) ->
   IC (A3 P w) Q7 (.call (.ref fa) {[.ref a],[]}) (λr s'=>r=.ok (.ret (.bool AG))/\OldK FC.heap s'.heap/\s'.os=FC.os/\M2 s'.gens) FC:=by
  intro H0 hO0 hS0 Kj hA0 hK0;have hT:∀{T u},TB K T u->jY K H0 T=AA (.tbl u #[]):=λh=>yA2 tK h;have hN:∀b,(∀u,¬TB K b u)->jY K H0 b=H0 b:=λb h=>yA3 h
  have gr:∀b u,H0 b=AA u->jY K H0 b=AA u:=λb u e=>by
   have:b=a:=hA0 b (by rw[e];simp);rw[hN b λu=>by rw[this];exact Ym,e]
  generalize hH:jY K H0=H at hT hN gr
  have hO:Gn H:=λb=>by
   by_cases h:∃u,TB K b u
   .obtain⟨u,h⟩:=h;exact .inr (.inr {u,hT h})
   .rw[hN b λu z=>h {u,z}]
    exact(hO0 b).imp_right .inl
  have hS:SqL K H a (ns.map V.int):=hS0.imp (λz=>z.imp (gr _ _) (λq0=>by obtain⟨o,z⟩:=q0;exact{o,gr _ _ z})) id
  have hok:HOk P w H FC.heap:=λb u e=>by
   by_cases h:∃u,TB K b u
   .obtain⟨v,h⟩:=h
    rw[hT h] at e;cases e;exact{(WB h).1,trivial,λpos cv z=>by cases z}
   .rw[hN b λu z=>h {u,z}] at e
    refine(Kj b u e).stay (λc v _ q=>q) (λc q=>gr _ _ q) (λc xs q=>gr _ _ q) λc o x q=>gr _ _ q
  have hA:∀b,H b≠AH->b=a\/∃u,TB K b u:=λb z=>by
   by_cases h:∃u,TB K b u
   .exact .inr h
   .rw[hN b λu z=>h {u,z}] at z
    exact .inl (hA0 b z)
  have hK:H a≠AH->K.lookup a=AH:=λz=>hK0 (by rw[<-hN a λu=>Ym];exact z);have RU:∀{b:AQ} {o:IL},FC.heap.get? b=AA o->H b=AH->(fK FC.heap H).get? b=AA o:=λe n=>zWD e n
  have vV:∀{b:AQ} {o:IL} {es:Array KB} {ep:Nat},FC.heap.get? b=AA o->o.data=.dict es ep->H b=AH:=λ{b o es ep} e d=>by
   cases q:H b with
   |none=>rfl
   |some u =>
    rcases hA b (by rw[q];simp) with e'|⟨v,h⟩
    .subst e'
     rw[ha] at e;cases e;have d':lZ vs.toArray _=Data.dict es ep:=d;cases d'
    .rw[(WB h).1] at e;cases e
     have d':ZB #[]=Data.dict es ep:=d;cases d'
  have Bu:∀{b:AQ} {m:BL->Option AI},FC.heap.Ns b m->(fK FC.heap H).Ns b m:=λ{b m} ⟨o,es,ep,e,d,r⟩=>{o,es,ep,RU e (vV e d),d,r}
  have hKb:K.In (fK FC.heap H):=λb o e=>RU (KX b o e) (by
   cases q:H b with
   |none=>rfl
   |some u =>
    rcases hA b (by rw[q];simp) with e'|⟨v,h⟩
    .subst e'
     rw[hK (by rw[q];simp)] at e;cases e
    .rw[(WB h).2.2] at e;cases e)
  have hM:Mod K mg (fK FC.heap H):={hKb,Bu wS,{mb,Bu hb,hbb},let ⟨mc,h1,h2⟩:=Kr;{mc,Bu h1,h2},by
   obtain⟨bm,ob,b1,b2,b3,b4,b5,b6⟩:=hbm;refine{bm,ob,b1,b2,RU b3 ?_,b4,b5,b6}
   cases q:H bm with
   |none=>rfl
   |some u =>
    rcases hA bm (by rw[q];simp) with e'|⟨v,h⟩
    .subst e';rw[ha] at b3;cases b3;injection b4 with z;exact absurd z 'd'
    .rw[(WB h).1] at b3;cases b3;cases b4}
  have e0:Env0 P w K mg (fK FC.heap H) Q7 [] FC H:={λT u h=>{_,hT h},rfl,hM,λb o e=>yAJ e,CD (zS2 _ _),trivial,λb hb=>absurd (show b∈([]:List AQ) from hb) 's',hok,.of_eq hg}
  have hCB:CB K (fK FC.heap H):=λx hx c T e=>by
   obtain⟨⟨o,oD,Md,tf,xJ,tg,inF,Jd,tt,e1,e2,r⟩,_⟩:=tT x hx c T e;refine{o,oD,Md,tf,xJ,tg,inF,Jd,tt,RU e1 ?_,e2,r}
   cases q:H c with
   |none=>rfl
   |some u =>
    rcases hA c (by rw[q];simp) with e'|⟨v,h⟩
    .subst e';rw[ha] at e1;cases e1;injection e2 with z;exact absurd z 'd'
    .rw[(WB h).1] at e1;cases e1;cases e2
  refine O4 ((F _ hKb (Bu wS) hCB).run Q7 [] FC H {[.ref a],[]} [.ref a] [.ref a] _ _ hr e0 (xG FC (.ref a)) (.cons rfl .nil) (fZ H hO hS)) λr s' h=>?_
  cases r with
  |error e=>exact(Ly H e s' h).elim
  |ok fl =>
   cases fl with
   |next=>exact F8 h
   |brk=>exact F8 h
   |cont=>exact F8 h
   |ret u =>
    obtain⟨v,H',os,bare,un,wQ,r',q⟩:=h;have q':v=.bl AG:=q;subst q';obtain rfl:u=HX AG:=r'
    have NN:∀b o,FC.heap.get? b=AA o->s'.heap.get? b=AA o\/(cB FC.heap b/\o=OC #[]/\∃ps,s'.heap.get? b=AA (OC ps)):=λb o e=>by
     cases q:H b with
     |none=>exact .inl (un.keep b o e q (by intro z;exact absurd (show b∈([]:List AQ) from z) 's') 's')
     |some u =>
      rcases hO b with z|⟨ob,xs,z⟩|⟨v,z⟩
      .rw[q] at z;cases z
      .have z2:=un.frzs b ob _ z
       obtain⟨e1,_⟩:=hok b _ z;obtain⟨e2,_⟩:=wQ b _ z2;rw[e] at e1;cases e1;exact .inl e2
      .obtain⟨m,z2⟩:=un.tbls b v _ z
       obtain⟨e2,_⟩:=wQ b _ z2
       by_cases h:∃u,TB K b u
       .obtain⟨w',h⟩:=h
        rw[(WB h).1] at e;cases e;exact .inr {(WB h).2.1,rfl,_,e2}
       .rw[hN b λu z=>h {u,z}] at z
        rcases hO0 b with y|⟨ob,xs,y⟩
        .rw[z] at y;cases y
        .rw[z] at y;cases y
    refine{rfl,{λb o e=>?_,λb o e=>?_},os,bare}
    .rcases NN b o e with z|⟨ht,rfl,ps,hP⟩
     .exact .inl z
     .exact .inr (.inl {ht,rfl,#[],ps,rfl,by rw[Array.empty_append];exact hP})
    .rcases NN b o e with z|⟨_,_,ps,hP⟩
     .exact{o,z}
     .exact{_,hP}
 cases hk:K.lookup a with
 |some o =>
  -- the script is one of the module's own objects
  have e:=KX a o hk;rw[ha] at e;cases e;refine xO (λ_=>AH) (λ_=>.inl rfl) (.inr {_,vs.toArray,_,hk,rfl,rfl,rfl,by rw[A5,Jv];exact hl,by simpa using rv}) (λb u z=>by have z':(AH:Option HO)=AA u:=z;cases z') (λb z=>absurd rfl z) λz=>absurd rfl z
 |none =>
  refine xO (λb=>if b=a then AA (.frz { cls:=.type "list",data:=.seq vs.toArray } (.lst (ns.map V.int))) else AH) (λb=>?_) (.inl (.inr {{ cls:=.type "list",data:=.seq vs.toArray },if_pos rfl})) (λb u z=>?_) (λb z=>?_) λ_=>hk
  .by_cases hb:b=a
   .exact .inr {_,_,if_pos hb}
   .exact .inl (if_neg hb)
  .by_cases hb:b=a
   .have z':=(if_pos hb).symm.trans z
    cases z';subst hb;exact{ha,by rw[AK];exact hl,vs,_,rv,ha}
   .have z':=(if_neg hb).symm.trans z
    cases z'
  .by_cases hb:b=a
   .exact hb
   .exact absurd (if_neg hb) z
theorem walk_of{l:RK}{d:DefRec}{K:Params->AC}{CX:DJ->CXT}{sp:DJ->Sp}
  (hn:l.most=AA n) (Z6:n<=sizeLine) (xB:d.params.defaults=[]) (hr:Room k Q7)
  (hY:∀(w:DJ) (h:D0),YP w h->(K w.params).In h) (tK:∀w:DJ,Tabs (K w.params) q)
  (F:∀(w:DJ) (mg:BL->Option AI) (fa:AQ) (h:D0),(K w.params).In h->h.Ns BC mg->mg d.name=AA (.ref fa) ->
   ∃fd:JT,(∀(s:AN) (u:AI),T4 s fd {[u],[]} [(x,u)]) /\
    ∀base:D0,(K w.params).In base->base.Ns BC mg->CB (K w.params) base->FnOk l.prog w (K w.params) mg base (CX w) k fa fd [x] (sp w))
  (fZ:∀(w:DJ) (H:Hp) (a:AQ) (ns:List Int),ns.length<=n->Gn H->SqL (K w.params) H a (ns.map V.int)->sp w [.ref a] H (λv _=>v=.bl AG) λ_ _ _=>False)
  (Ly:∀(w:DJ) (H:Hp) (s:AN) (e:AI) (s':AN),CX w [] H s (λ_ _ _=>False) e s'->False) :
  gK q YY XP YP l.row.toRowW d [] (λf vs=>aN f vs):=by
 refine Att.attach_call hn xB λw s₀ FC mg mb fa o pm cd SZ a vs ns G Y ho hd QH wU dZ eD FP hg=>?_;have KX:=hY w _ Y;obtain⟨fd,hb,hF⟩:=F w mg fa _ KX G.T.g wU;exact zWU KX G.T.g G.T.b G.T.builtins G.T.nolimit G.T.bmain hg (tK w) (λx hx c T e=>let ⟨d,hd⟩:=(tK w).rcs x hx c T e;PySem.W.tab_of G.T KX hd e) dZ eD (AV FP Z6) hr hF hb (λH hO hS=>fZ w H a ns FP hO hS) λH e s'=>Ly w H FC e s'
noncomputable def iE(s:D5):Arguments:=match s with
 |.FunctionDef _ a _ _ _ _ _ _ _ _=>a
 |_=>{ posonlyargs:=[],args:=[],vararg:=AH,kwonlyargs:=[],kw_defaults:=[],kwarg:=AH,defaults:=[] }
noncomputable def XM(s:D5):List D5:=match s with
 |.FunctionDef _ _ b _ _ _ _ _ _ _=>b
 |_=>[]
noncomputable def JO(s:D5):RV:=match s with
 |.FunctionDef _ _ _ _ _ _ sc _ _ _=>sc
 |_=>{ kind:=.function,names:=[],isGenerator:=AB,isCoroutine:=AB }
abbrev LA:CXT:=λ_ _ _ _ _ _=>False
abbrev E0:XK:=λ_ _ _=>False
theorem yF:mL LA X E0:=λ_ _ _ _ _ _ _ h=>h.elim
structure Fun(K:AC)(x qual:BL)(st:D5)(f:AQ)(fd:JT):Prop where
 ex:∃(oc:AI) (od:Option AQ) (kV SZ pm:AI) (an:Option AQ) (GE ct:AI) (bN:Array (Option AI)),
  fd=FW x qual (iE st) (XM st) (JO st) .none kV SZ pm an GE ct/\K.lookup f=AA {oc,od,.func fd,bN}/\LP K GE qual=AG
 kp:FH K (.ref f)=AG
section
variable{K:AC}
theorem Fun.binds{st:D5}(F:Fun K x qual st f fd)
  (h:∀(kV SZ pm:AI) (an:Option AQ) (GE ct:AI) (us:List AI),us.length=ps.length->bindArgs (FW x qual (iE st) (XM st) (JO st) .none kV SZ pm an GE ct) {us,[]}=pure (ps.zip us)):Binds K fd ps []:=by
 obtain⟨oc,od,kV,SZ,pm,an,GE,ct,bN,rfl,lk,QH⟩:=F.ex;exact .all (h kV SZ pm an GE ct)
theorem Nh{st:D5}{bN:Array (Option AI)}{kV SZ GE:AI}(l:K.lookup f=AA {oc,od,.func (FW x qual (iE st) (XM st) (JO st) .none kV SZ pm an GE ct),bN})
  (c:LP K GE qual=AG) (k:FH K (.ref f)=AG):Fun K x qual st f (FW x qual (iE st) (XM st) (JO st) .none kV SZ pm an GE ct):={{oc,od,kV,SZ,pm,an,GE,ct,bN,rfl,l,c},k}
end
theorem pv(i:Nat)(hN:X.N[i]?=AA x:=by rfl)(hv:dE X.env.scope x:=by first|exact BO rfl|exact EG (BO rfl)|exact EG (EG rfl))(hd:(x==("__debug__":BL))=AB:=by decide)
  (QH:(x==("__classdict__":BL))=AB:=by decide):PE X (.Name x pos) (uO i):=kD hN hv hd QH
theorem Gm{A B:Prop}(h:B):if AB=AG then A else B:=by
 rw[if_neg BJ];exact h
theorem Gk{A B:Prop}(h:A):if AG=AG then A else B:=by
 rw[if_pos rfl];exact h
end L2
namespace TS
open PySem PyProof.Rows
section
variable{prog:CF}{w:DJ}{A:DI}{E:AI->AN->Prop}{s:AN}{BP:Array A6}{kd:EZ}
structure SB(BP:Array A6)(kd:EZ)(st:BM):Prop where
 perm:(AT st).Perm BP
 kind:kindOf st=kd
 failed:jI st=AH
theorem SB.size{st:BM}(h:SB BP kd st):(AT st).size=BP.size:=h.perm.size_eq
theorem SB.setArr{st:BM}(h:SB BP kd st){xs:Array A6}(hp:xs.Perm (AT st)):SB BP kd (setArr st xs):={hp.trans h.perm,h.kind,h.failed}
theorem SB.mem{st:BM}(h:SB BP kd st){i:Nat}(hi:i<(AT st).size):(AT st)[i]∈BP:=h.perm.mem_iff.mp (AE hi)
theorem qS{st:BM}{G1:Array A6}{i:Nat}{Q:A6->BM->Prop}(hi:i<G1.size)(h:Q G1[i] st):N9 (A3 prog w) A E s (elem' G1 i) Q st:=by
 rw[elem'_eq,getElem?_pos G1 i hi];exact A8 h
theorem MI{α:Type}{c:Prop}[Decidable c]{x y:StateT BM SM α}{Q:α->BM->Prop}{st:BM}(h1:c->N9 (A3 prog w) A E s x Q st)(h2:¬c->N9 (A3 prog w) A E s y Q st) :
  N9 (A3 prog w) A E s (if c then x else y) Q st:=by
 by_cases h:c
 .rw[if_pos h];exact h1 h
 .rw[if_neg h];exact h2 h
end
section
variable{prog:CF}{w:DJ}{A:DI}{E:AI->AN->Prop}{s:AN}{BP:Array A6}{kd:EZ}
theorem zL{st:BM}{i j:Nat}{Q:PUnit->BM->Prop}(h:Q ⟨⟩ (setArr st (O3 (AT st) i j ((j-i) / 2)))):N9 (A3 prog w) A E s (reverseSlice' i j) Q st:=by
 rw[reverseSlice'_eq];exact ND h
def Kp(BP:Array A6)(kd:EZ)(st CG:BM):Prop:=SB BP kd CG/\DB CG=DB st
theorem Kp.rev{st CG:BM}{i j d:Nat}(h:Kp BP kd st CG):Kp BP kd st (setArr CG (O3 (AT CG) i j d)):={h.1.setArr (mirror_perm _ _ _ _),h.2}
end
noncomputable def tM:Bool->A6->Array A6->Nat->Nat->Nat->StateT BM SM (Option Nat):=sortPriv% PySem.Builtin.gallop
section
variable{prog:CF}{w:DJ}{A:DI}{E:AI->AN->Prop}{s:AN}{BP:Array A6}{kd:EZ}
end
noncomputable def Fm:Nat->StateT BM SM Unit:=sortPriv% PySem.Builtin.setMinGallop
abbrev sT(st:BM)(g:Nat):BM:=S7 (kindOf st) (AT st) (DB st) g (jI st)
theorem zIW(g:Nat):Fm g=modify λs=>sT s g:=rfl
noncomputable def zWW:Array A6->Array A6->StateT BM SM (Array A6):=sortPriv% PySem.Builtin.mergeLo
noncomputable def zWX:Array A6->Array A6->StateT BM SM (Array A6):=sortPriv% PySem.Builtin.mergeHi
structure Mid(a b out:Array A6)(ia ib:Nat):Prop where
 perm:(out.toList++a.toList.drop ia++b.toList.drop ib).Perm (a.toList++b.toList)
 la:ia<=a.size
 lb:ib<=b.size
 sz:out.size=ia+ib
theorem Mid.pushB{a b out:Array A6}{ia ib:Nat}(m:Mid a b out ia ib)(h:ib<b.size):Mid a b (out.push b[ib]) ia (ib+1):=by
 refine{?_,m.la,h,by rw[EF,m.sz];lia}
 have e:b.toList.drop ib=b[ib]::b.toList.drop (ib+1):=by
  rw[IK (by simpa using h)];simp
 have p:=m.perm;rw[e] at p;refine KL ?_ p;rw[EO];simp only[DG,KJ];exact JM _ (gQ.symm)
theorem Mid.pushA{a b out:Array A6}{ia ib:Nat}(m:Mid a b out ia ib)(h:ia<a.size):Mid a b (out.push a[ia]) (ia+1) ib:=by
 refine{?_,h,m.lb,by rw[EF,m.sz];lia}
 have e:a.toList.drop ia=a[ia]::a.toList.drop (ia+1):=by
  rw[IK (by simpa using h)];simp
 have p:=m.perm;rw[e] at p;refine KL ?_ p;rw[EO];simp only[DG,KJ,NQ];exact HL _
theorem Po(a:Array A6)(i:Nat):(a.extract i a.size).toList=a.toList.drop i:=by
 rw[HY];exact JW 's'
theorem Mid.done{a b out:Array A6}{ia ib:Nat}(m:Mid a b out ia ib):(out++a.extract ia a.size++b.extract ib b.size).Perm (a++b):=by
 rw[D3];simp only[ES,Po];exact m.perm
theorem Mid.lastA{a b out:Array A6}{ia ib:Nat}(m:Mid a b out ia ib):(out++b.extract ib b.size++a.extract ia a.size).Perm (a++b):=by
 rw[D3];simp only[ES,Po];refine KL ?_ m.perm;simp only[DG];exact JM _ YA
section
variable{prog:CF}{w:DJ}{A:DI}{E:AI->AN->Prop}{s:AN}{BP:Array A6}{kd:EZ}
def Gal(st CG:BM):Prop:=∃g,CG=sT st g
theorem Gal.refl(st:BM):Gal st st:={gallopOf st,rfl}
theorem Gal.set{st CG:BM}(h:Gal st CG)(g:Nat):Gal st (sT CG g):=by
 obtain⟨g',rfl⟩:=h;exact{g,rfl}
theorem Gal.kind{st CG:BM}(h:Gal st CG)(hk:kindOf st=kd):kindOf CG=kd:=by
 obtain⟨g',rfl⟩:=h;exact hk
theorem yA4{st:BM}{g:Nat}{Q:Unit->BM->Prop}(h:Q () (sT st g)):N9 (A3 prog w) A E s (Fm g) Q st:=by
 rw[zIW];exact ND h
end
structure MidH(a b out:Array A6)(na nb:Nat):Prop where
 perm:(a.toList.take na++b.toList.take nb++out.toList.reverse).Perm (a.toList++b.toList)
 la:na<=a.size
 lb:nb<=b.size
 sz:out.size+na+nb=a.size+b.size
theorem Sd(a:Array A6)(n:Nat)(h:n-1<a.size)(h0:1<=n):a.toList.take n=a.toList.take (n-1)++[a[n-1]]:=by
 obtain⟨m,rfl⟩:∃m,n=m+1:={n-1,by lia};have h':m<a.toList.length:=by simpa using h
 simp only[Nat.add_sub_cancel];rw[GQ h'];simp
theorem MidH.pushA{a b out:Array A6}{na nb:Nat}(m:MidH a b out na nb)(h0:1<=na)(h:na-1<a.size):MidH a b (out.push a[na-1]) (na-1) nb:=by
 refine{?_,CM h,m.lb,by rw[EF];have:=m.sz;lia};have p:=m.perm;rw[Sd a na h h0] at p;refine KL ?_ p;rw[EO,aR];simp only[DG,KJ,GR,gP,LD,NQ];exact JM _ gQ
theorem MidH.pushB{a b out:Array A6}{na nb:Nat}(m:MidH a b out na nb)(h0:1<=nb)(h:nb-1<b.size):MidH a b (out.push b[nb-1]) na (nb-1):=by
 refine{?_,m.la,CM h,by rw[EF];have:=m.sz;lia};have p:=m.perm;rw[Sd b nb h h0] at p;rw[EO,aR];simpa only[DG,KJ,GR,gP,LD,NQ] using p
theorem Dz(a:Array A6)(i n:Nat)(h:i<=n):a.toList.take i++(a.extract i n).toList=a.toList.take n:=by
 rw[HY];show a.toList.take i++(a.toList.drop i).take (n-i)=_
 conv=>rhs;rw[show n=i+(n-i) by lia]
 rw[List.take_add]
theorem Qz(a:Array A6)(i:Nat):(a.extract 0 i).toList=a.toList.take i:=by
 have:=Dz a 0 i (B0 _);simpa using this
theorem MidH.done{a b out:Array A6}{na nb:Nat}(m:MidH a b out na nb):(a.extract 0 na++b.extract 0 nb++out.reverse).Perm (a++b):=by
 rw[D3];simp only[ES,Qz,OU];exact m.perm
theorem MidH.firstB{a b out:Array A6}{na nb:Nat}(m:MidH a b out na nb):(b.extract 0 nb++a.extract 0 na++out.reverse).Perm (a++b):=by
 rw[D3];simp only[ES,Qz,OU];refine KL ?_ m.perm;exact T2 _ YA
section
variable{prog:CF}{w:DJ}{A:DI}{E:AI->AN->Prop}{s:AN}{BP:Array A6}{kd:EZ}
end
theorem Pn(c:List A6):∀(a:Array A6) (sa k:Nat),sa+k+c.length<=a.size ->
  ((c.zipIdx k).foldl (λa (p:A6×Nat)=>a.setIfInBounds (sa+p.2) p.1) a).toList=a.toList.take (sa+k)++c++a.toList.drop (sa+k+c.length):=by
 induction c with
 |nil=>intro a sa k h;simp
 |cons x r ih =>
  intro a sa k h;rw[RY,S8];have hl:(x::r).length=r.length+1:=rfl;rw[ih (a.setIfInBounds (sa+k) x) sa (k+1) (by rw[M1];lia)];have NY:sa+k<a.toList.length:=by simp;lia
  rw[T5];rw[show sa+(k+1)=(sa+k)+1 by lia];rw[GQ (by simpa using NY),List.take_set_of_le (AO _),List.getElem_set_self,List.drop_set_of_lt (FV (AY _ _))];rw[show sa+k+1+r.length=sa+k+(x::r).length by rw[hl];lia];simp
theorem zTO{a c:Array A6}{sa sb nb:Nat}(h1:sa<=sb)(h2:sb+nb<=a.size)(hp:c.Perm (a.extract sa sb++a.extract sb (sb+nb))) :
  (c.toList.zipIdx.foldl (λa (p:A6×Nat)=>a.setIfInBounds (sa+p.2) p.1) a).Perm a:=by
 have hl:c.toList.length=(sb-sa)+nb:=by
  have:=hp.size_eq;rw[GO,JA,JA] at this;simp;lia
 rw[D3,Pn c.toList a sa 0 'l'];have hp':=D3.mp hp;rw[ES] at hp';have e1:=Dz a sa sb h1;have e2:=Dz a sb (sb+nb) (AY _ _);have e3:=List.take_append_drop (sb+nb) a.toList
 have q:(a.toList.take (sa+0)++c.toList++a.toList.drop (sa+0+c.toList.length)).Perm (a.toList.take sa++((a.extract sa sb).toList++(a.extract sb (sb+nb)).toList)++a.toList.drop (sb+nb)):=by
  rw[show sa+0=sa from Nat.add_zero _,show sa+c.toList.length=sb+nb by lia];exact T2 _ (JM _ hp')
 refine q.trans ?_;rw[<-DG,e1,e2,e3]
section
variable{prog:CF}{w:DJ}{A:DI}{E:AI->AN->Prop}{s:AN}{BP:Array A6}{kd:EZ}
theorem yA5{st st2:BM}{Q:PUnit->BM->Prop}(h:Q ⟨⟩ st2):N9 (A3 prog w) A E s (set st2:StateT BM SM PUnit) Q st:=by
 unfold N9;rw[StateT.run_set];exact wpAny_pure {rfl,h}
end
abbrev Run:=Nat×Nat×Nat
section
variable{prog:CF}{w:DJ}{A:DI}{E:AI->AN->Prop}{s:AN}{BP:Array A6}{kd:EZ}
theorem yE1{c:Prop}[Decidable c]{a b n:Nat}(h1:a<=n)(h2:b<=n):(if c then a else b)<=n:=by
 split
 .exact h1
 .exact h2
end
end TS
variable{xo:Option BL}{cl:List (BL×AQ)}{own C8:List BL}{js:List Nat}{y:BL}{env:TD}{ifs:List C5}{J:L2.It}{R:Result->AN->Prop}{H1:L2.Hp}{o:L2.HO}{BS:AQ}{OR:C5}{wi:L2.TI}{XO:Y4}{tt:L2.Hp->L2.TT}
namespace L2
open PySem PySem.Spec PyProof.Rows
def PTs(X:Cx)(ifs:List C5)(t:TT):Prop :=
 ∀(pins:List (AQ×IL)) (s:AN) (σ:St) (H:Hp) (Q:Bool->Hp->Prop),Inv X pins σ H s->t σ H Q ->
  A4 (A3 X.prog X.w) X.A (forIn ifs AG λc r=>if r=AG then do let ok <-U9 c X.env (eval c X.env);pure (QW ok) else pure (QW r)) (TP X pins σ Q) X.xe s
def yKT:TT:=λ_ H Q=>Q AG H
theorem iM:PTs X [] yKT:=λ_ _ _ H _ I h=>wpAny_tests_nil {H,I,h}
theorem yA6{t:TT}(h:PT X c t):PTs X [c] t:=λpins s σ H Q I hw=>wpAny_tests_one (h pins s σ H Q I hw)
noncomputable def wC(xo:Option BL)(L:AQ)(cl:List (BL×AQ)):List (BL×AQ):=match xo with
 |none=>cl
 |some x=>(x,L)::cl
noncomputable def pC(xo:Option BL)(h:D0):D0:=match xo with
 |none=>h
 |some _=>h.push { cls:=.type "cell",data:=.cell AH }
def OL(X:Cx)(scope:RV)(xo:Option BL)(cl:List (BL×AQ))(nm:List BL)(C:AQ)(s:AN)(H:Hp)(fp:List AQ):Cx where
 prog:=X.prog
 w:=X.w
 K:=X.K
 mg:=X.mg
 base:=X.base
 A:=X.A
 N:=nm
 s₀:=s
 H₀:=H
 env:=KZ scope (wC xo (C+1) cl) C X.env
 outer:=X.stack
 stack:=X.stack
 ex:=fp
 fn:=λy=>xo==AA y
 calm:=X.calm
 pn:=[]
 xe:=λ_ _=>False
noncomputable def TJ(k:Nat)(js:List Nat)(σ:St):St:=DA k AH++js.map λj=>(σ[j]?).getD AH
structure CompNm(X:Cx)(scope:RV)(xo:Option BL)(cl:List (BL×AQ))(own C8:List BL)(js:List Nat):Prop where
 clos:closureFor scope X.env=pure cl
 kind:scope.kind=.function
 one:∀n,Q6 n scope.names cl=wC xo n cl
 push:∀h,pushCells h scope.names=pC xo h
 loc:∀y∈scope.names,y.2=.local->scope.names.lookup y.1=AA .local
 dom:∀y∈scope.names,y.2=.free->y.1∈C8
 domc:∀y∈scope.names,y.2=.cell->xo=AA y.1
 nm:cl.map (·.1)=C8
 cells:∀p∈cl,X.env.cells.lookup p.1=AA p.2
 slot:C8.map AA=js.map λj=>X.N[j]?
 vis:∀x∈C8,X.env.kindOf x=AA .cell\/X.env.kindOf x=AA .free
 fr:∀x∈C8,(TY scope X.env).names.lookup x=AA .cell\/(TY scope X.env).names.lookup x=AA .free
 xc:∀x∈C8,xo≠AA x
theorem Tr{α β:Type}[BEq α][LawfulBEq α]:∀{l:List (α×β)} {x:α} {c:β},l.lookup x=AA c->(x,c)∈l
 |[],_,_,h=>by simp at h
 |(a,b)::r,x,c,h=>by
  rw[IE] at h
  cases e:x==a with
  |true=>rw[e] at h;cases h;have:=eq_of_beq e;subst this;exact AU
  |false=>rw[e] at h;exact AS _ (Tr h)
theorem Uq{α β:Type}[BEq α][LawfulBEq α]:∀{l:List (α×β)} {x:α},x∈l.map (·.1)->∃c,l.lookup x=AA c
 |[],_,h=>by simp at h
 |(a,b)::r,x,h=>by
  rw[IE]
  cases e:x==a with
  |true=>exact{b,rfl}
  |false =>
   refine Uq ?_;rcases A9.mp h with q|q
   .have q:x=a:=q
    subst q;simp at e
   .exact q
theorem Ae{env:TD}:∀{names:List (BL×T1)} {x:BL} {k:T1},(names.map λ(n,k)=>if(k==eY&&env.scope.kind==.function&&env.kindOf n==AA .cell) then(n,eZ) else(n,k)).lookup x=AA k ->
  (k=.cell\/k=.free)->∃k',(x,k')∈names/\(k'=.cell\/k'=.free)
 |[],_,_,h,_=>by simp at h
 |(n,k0)::r,x,k,h,hk=>by
  rw[A1,IE] at h
  by_cases hc:(k0==eY&&env.scope.kind==.function&&env.kindOf n==AA .cell)=AG
  .simp only[hc,if_true] at h
   cases e:x==n with
   |true =>
    have:=eq_of_beq e;subst this
    have hf:k0=.free:=by
     have:=(ZC.mp (ZC.mp hc).1).1;exact eq_of_beq this
    exact{k0,AU,.inr hf}
   |false =>
    rw[e] at h;obtain⟨k',h1,h2⟩:=Ae h hk;exact{k',AS _ h1,h2}
  .simp only[hc,if_false,EJ] at h
   cases e:x==n with
   |true =>
    rw[e] at h;have:=eq_of_beq e;subst this;cases h;exact{k0,AU,hk}
   |false =>
    rw[e] at h;obtain⟨k',h1,h2⟩:=Ae h hk;exact{k',AS _ h1,h2}
theorem CompNm.cl_of(n:CompNm X scope xo cl own C8 js){c:AQ}(h:cl.lookup x=AA c):X.env.cells.lookup x=AA c:=n.cells _ (Tr h)
theorem CompNm.has(n:CompNm X scope xo cl own C8 js)(h:x∈C8):∃c,cl.lookup x=AA c:=Uq (by rw[n.nm];exact h)
theorem mK{L c:AQ}(h:(wC xo L cl).lookup y=AA c):(xo=AA y/\c=L)\/(xo≠AA y/\cl.lookup y=AA c):=by
 cases xo with
 |none=>exact .inr {nofun,h}
 |some x =>
  rw[wC,IE] at h
  cases q:y==x with
  |true=>rw[q] at h;cases h;exact .inl {by rw[eq_of_beq q],rfl}
  |false=>rw[q] at h;exact .inr {(λz=>by cases z;rw[beq_self_eq_true] at q;cases q),h}
theorem Qy{L:AQ}(h:xo≠AA y):(wC xo L cl).lookup y=cl.lookup y:=by
 cases xo with
 |none=>rfl
 |some x =>
  rw[wC,IE]
  cases q:y==x with
  |true=>exact absurd (by rw[eq_of_beq q]) h
  |false=>rfl
theorem yA7{L:AQ}:(wC (AA y) L cl).lookup y=AA L:=by rw[wC,IE,beq_self_eq_true]
theorem zWY{globals:AQ}{Q:TD->AN->Prop}(one:∀n,Q6 n scope.names cl=wC xo n cl)(push:∀h,pushCells h scope.names=pC xo h)
  (h:Q (newEnv scope s.heap.objs.size globals (wC xo (s.heap.objs.size+1) cl) qual AH .none (AA env) J4) { s with heap:=pC xo (s.heap.push { cls:=.type "dict",data:=.dict #[] }) }) :
  A4 M A (QR scope globals cl [] qual AH .none (AA env)) Q E s:=by
 simp only[QR,Y5,if_true];refine AD (wpAny_alloc ?_);refine AD (wpAny_layCells _ (λname kind cells=>by cases hkc:kind==eZ<;>simp[hkc]) _ _ _ _ ?_);rw[show({ s with heap:=s.heap.push { cls:=.type "dict",data:=.dict #[] } }:AN).heap.objs.size=s.heap.objs.size+1 from EC ..,one,push];exact AD (by rw[MG];exact wpAny_pure (wpAny_pure h))
theorem Inv.stk_of{b:AQ}(I:Inv X pins σ H s)(hf:FpOk X pins H b):b∉QD X.stack:=λz=>by
 rcases A9.mp (I.stkSub b z) with e|e
 .exact hf.2.1 e
 .exact hf.2.2.1 e
theorem zR4{Q:TD->AN->Prop}(n:CompNm X scope xo cl own C8 js)(I:Inv X pins σ H s)(hf:∀b∈fp,FpOk X pins H b)(NY:∀b∈fp,b<s.heap.objs.size)
  (hq:∀KH,Inv (OL X scope xo cl (own++C8) s.heap.objs.size s H fp) [] (TJ own.length js σ) H { s with heap:=KH }->(∀b o,s.heap.get? b=AA o->KH.get? b=AA o) ->
   Q (newEnv scope s.heap.objs.size X.env.globals (wC xo (s.heap.objs.size+1) cl) X.env.qual AH .none (AA X.env) J4) { s with heap:=KH }) :
  A4 (A3 X.prog X.w) X.A (QR scope X.env.globals cl [] X.env.qual AH .none (AA X.env)) Q E s:=by
 refine zWY n.one n.push ?_;obtain⟨KH,lA⟩:∃KH,KH=pC xo (s.heap.push { cls:=.type "dict",data:=.dict #[] }):={_,rfl};rw[<-lA]
 have oH:∀b o,(s.heap.push { cls:=.type "dict",data:=.dict #[] }).get? b=AA o->KH.get? b=AA o:=λb o e=>by
  rw[lA]
  cases xo with
  |none=>exact e
  |some _=>exact AJ _ e
 have NN:∀b o,s.heap.get? b=AA o->KH.get? b=AA o:=λb o e=>oH b o (AJ _ e);have wS:KH.Ns s.heap.objs.size (λ_=>AH):=(Heap.Ns.new s.heap (.type "dict")).keeps λb o e=>oH b o e
 have hcl:∀x,xo=AA x->KH.IsCell (s.heap.objs.size+1) AH:=λx hx=>by
  subst hx;rw[lA];have:=AW (s.heap.push { cls:=.type "dict",data:=.dict #[] }) (o:={ cls:=.type "cell",data:=.cell AH }) rfl;rw[EC] at this;exact{_,this,rfl}
 clear lA oH;refine hq KH ?_ NN
 have hl:js.length=C8.length:=by
  have:=congrArg SO n.slot;simpa using this.symm
 have lP:∀{y:BL} {c:AQ},cl.lookup y=AA c->c<s.heap.objs.size:=λ{y c} h=>by
  obtain⟨v,z⟩:=I.cell y c (n.cl_of h);exact z.lt
 have far:∀{y:BL} {c:AQ},c=s.heap.objs.size+1->cl.lookup y=AA c->False:=λe h=>absurd (e▸lP h:s.heap.objs.size+1<s.heap.objs.size) (QT.mpr (JL _))
 refine{{I.tab,I.ok.mod,n.kind,I.ok.glob,I.ok.blt,AO _,λy z c h1 h2=>?_,λy hy=>?_,λy c hy h=>?_,I.ok.hd,I.ok.frames,.inl rfl,λb hb=>{CH (NY b hb),λy c e=>?_},
   I.bs,AV I.ok.bsz I.sz,λb o e hb=>?_,λb hb=>I.stk_of (hf b hb),I.stack,I.stkFree},
  rfl,I.bare,Un.kept NN,{_,wS,λi y v e1 e2 e3=>?_},λy c e=>?_,I.hok.fresh (AO _),λy c e=>?_,(λp hp=>nomatch hp),I.hok.kept NN,?_}
 .rcases mK h1 with⟨a1,a2⟩|⟨a1,a2⟩
  .rcases mK h2 with⟨b1,b2⟩|⟨b1,b2⟩
   .rw[a1] at b1;cases b1;rfl
   .exact(far a2 b2).elim
  .rcases mK h2 with⟨b1,b2⟩|⟨b1,b2⟩
   .exact(far b2 a2).elim
   .exact I.ok.inj y z c (n.cl_of a2) (n.cl_of b2)
 .have hy:(TY scope X.env).names.lookup y=AA .cell\/(TY scope X.env).names.lookup y=AA .free:=hy
  have J9:∃k',(y,k')∈scope.names/\(k'=.cell\/k'=.free):=by
   rcases hy with h|h
   .exact Ae h (.inl rfl)
   .exact Ae h (.inr rfl)
  obtain⟨k',h1,h2⟩:=J9;rcases h2 with h2|h2
  .obtain rfl:xo=AA y:=n.domc _ h1 h2
   exact{_,yA7}
  .have hc:=n.dom _ h1 h2
   obtain⟨c,o9⟩:=n.has hc;exact{c,(Qy (n.xc _ hc)).trans o9}
 .rcases mK h with⟨a1,a2⟩|⟨a1,a2⟩
  .rw[a2];exact JL _
  .exact absurd (eq_of_beq hy) a1
 .rcases mK e with⟨a1,a2⟩|⟨a1,a2⟩
  .rw[a2];exact GW (J6 (NY b hb))
  .exact(hf b hb).2.2.2.2.1 y c (n.cl_of a2)
 .obtain⟨_,_,_,h4,_⟩:=hf b hb
  rcases h4 with h4|h4
  .exact I.ok.noex b o e h4
  .exact absurd (AM (BB e) I.ok.bsz) (QT.mpr h4)
 .have hi:own.length<=i:=by
   rcases Nat.lt_or_ge i own.length with h|h
   .unfold TJ at e2
    rw[B9 (by simpa using h),DZ,if_pos h] at e2;cases e2
   .exact h
  have e1:(own++C8)[i]?=AA y:=e1;rw[BY hi] at e1;unfold TJ at e2;rw[BY (by simpa using hi),CV,BA] at e2
  cases ej:js[i-own.length]? with
  |none=>rw[ej] at e2;cases e2
  |some j =>
   rw[ej] at e2;have e2:AA ((σ[j]?).getD AH)=AA (AA v):=e2
   have hj:X.N[j]?=AA y:=by
    have q:=congrArg (λl=>l[i-own.length]?) n.slot;simp only[BA,e1,ej,Option.map_some] at q;exact(BV q).symm
   have hv:σ[j]?=AA (AA v):=by
    cases es:σ[j]? with
    |none=>rw[es] at e2;cases e2
    |some o=>rw[es] at e2;exact e2
   have wN:y∈C8:=K5 e1;obtain⟨m0,hn0,Zu⟩:=I.loc
   have vis:dE X.env.scope y:=by
    rcases n.vis y wN with k|k
    .exact .inr (.inl k)
    .exact .inr (.inr k)
   obtain⟨u,r,lk⟩:=Zu j y v hj hv vis;refine{u,r,.inr {n.fr y wN,?_}};obtain⟨c,hc⟩:=n.has wN;refine{c,(Qy (n.xc y wN)).trans hc,?_};rcases lk with⟨k,_⟩|⟨_,c',o9,z⟩
   .rcases n.vis y wN with k'|k'
    .rw[k] at k';cases k'
    .rw[k] at k';cases k'
   .rw[n.cl_of hc] at o9
    cases o9;obtain⟨o,ho,hd⟩:=z;exact{o,NN _ _ ho,hd}
 .rcases mK e with⟨a1,a2⟩|⟨a1,a2⟩
  .rw[a2];exact{_,hcl y a1}
  .obtain⟨v,o,ho,hd⟩:=I.cell y c (n.cl_of a2)
   exact{v,o,NN _ _ ho,hd}
 .rcases mK e with⟨a1,a2⟩|⟨a1,a2⟩
  .rw[a2];exact I.hok.fresh (JL _)
  .exact I.freeC y c (n.cl_of a2)
 .show(TJ own.length js σ).length=(own++C8).length
  unfold TJ;rw[BI,BI,CV,AK,hl]
abbrev TM:=St->Hp->(St->Hp->Prop)->Prop
def PM(X:Cx)(m:SM Unit)(t:TM):Prop :=
 ∀(pins:List (AQ×IL)) (s:AN) (σ:St) (H:Hp) (N:St->Hp->Prop),Inv X pins σ H s->t σ H N->A4 (A3 X.prog X.w) X.A m (λ_ s'=>∃σ' H',Inv X pins σ' H' s'/\N σ' H') X.xe s
def tWalkC(J:It)(g:TG)(tt:TT)(tm:TM):TM:=λσ H N=>∃W:Nat->Nat->St->Hp->Prop,(∃m,W 0 m σ H)/\∀i m σ H,W i m σ H ->
 (J.stop i H/\N σ H)\/(J.go i H/\∀x H',J.yld i H x H'->g x σ H' λσ2 H2=>tt σ2 H2 λb H3 =>
  if b=AG then tm σ2 H3 (λσ4 H4=>∃m',m'<m/\W (i+1) m' σ4 H4) else ∃m',m'<m/\W (i+1) m' σ2 H3)
variable{tm:TM}
theorem Ng{Y:Cx}{d:Nat}{BS:AI}{pp:Y4}{m:SM Unit}{g:TG}{tt:TT}{tn:Nat->D0->Prop}{N:St->Hp->Prop}
  (oP:Y.A.under (.compLoop e d (.ref it) BS Y.env)=Y.A) (o8:(A3 Y.prog Y.w).den (.compLoop e d (.ref it) BS Y.env)=(X3 e d (.ref it) BS Y.env).onRaise (λx=>do OS x Y.env;theTreesLotGoes x))
  (dS:X3 e d (.ref it) BS Y.env=(do
   LX pp
   match <-NF (.ref it) with
   |none=>pure (.done .next)
   |some v =>
    G0 tg (.ref it) v
    LM tg Y.env v
    let mut ok:=AG
    for c in ifs do
     if ok then ok <-U9 c Y.env (eval c Y.env)
    if ok then m
    X5 (.compLoop e d (.ref it) BS Y.env)))
  (hx:∀x s',Y.xe x s'->eS (A3 Y.prog Y.w) Y.A Y.env (λx s'=>R (.error x) s') x s') (hc:Y.calm=AG) (hg:PG Y tg g) (ht:PTs Y ifs tt) (hm:PM Y m tm) (T:Turn Y.prog Y.w Y.K tg J fp it tn)
  {pins:List (AQ×IL)} {σ:St} {H:Hp} {s:AN} (I:Inv Y pins σ H s) (st:tn 0 s.heap) (f:∀b∈fp,FpOk Y pins H b) (h:tWalkC J g tt tm σ H N)
  (hR:∀σ' H' s',Inv Y pins σ' H' s'->N σ' H'->R (.ok .next) s') :
  IC (A3 Y.prog Y.w) Y.A (.compLoop e d (.ref it) BS Y.env) R s:=by
 obtain⟨W,⟨m0,w0⟩,turn⟩:=h;have UY:∀{H':Hp},(∀b∈fp,H' b=AH)->∀b∈fp,FpOk Y pins H' b:=λhn b hb=>{hn b hb,(f b hb).2};refine codeAny_loop rfl (λk s'=>∃i σ' H',Inv Y pins σ' H' s'/\tn i s'.heap/\(∀b∈fp,H' b=AH)/\W i k σ' H') (λn s3 hI=>?_) m0 {0,σ,H,I,st,λb hb=>(f b hb).1,w0};obtain⟨i,σ3,H3,I3,LJ,xI,w3⟩:=hI;rw[oP,o8];refine wpAny_noted ?_;rw[dS];refine AD (LW (AD ?_));rcases turn i n σ3 H3 w3 with⟨stop,qn⟩|⟨go,TW⟩
 .refine GY (T.done Y rfl rfl rfl hc i pins s3 σ3 H3 _ I3 (UY xI) LJ stop) λr s4 q0=>?_;obtain⟨hr,I4⟩:=q0
  subst hr;exact wpAny_pure (hR _ _ _ I4 qn)
 .refine GY (T.item Y rfl rfl rfl hc i pins s3 σ3 H3 _ I3 (UY xI) LJ go) λr s4 q0=>?_;obtain⟨u,hr,h4⟩:=q0
  subst hr;refine AD (GY h4 λ_ s5 ⟨x,H5,I5,r5,y5,ZX,Mb⟩=>?_);have Mn:=I5.pinned (UY Mb) (T.obj _ _ ZX);refine AD (CJ (hg _ s5 σ3 H5 x u _ Mn r5 (TW x H5 y5)) (λ_ s6 z0=>?_) λx s' z=>hx x s' z);obtain⟨σ6,H6,I6,q6⟩:=z0
  have X5:∀{σ7:St} {H7:Hp} {s7:AN},Inv Y (pins++sZ fp s5.heap) σ7 H7 s7->(∃m',m'<n/\W (i+1) m' σ7 H7)->∃m,m<n/\∃i σ' H',Inv Y pins σ' H' s7/\tn i s7.heap/\(∀b∈fp,H' b=AH)/\W i m σ' H':=λ{σ7 H7 s7} I7 ⟨m',hm,w7⟩=>by
   refine{m',hm,i+1,σ7,H7,I7.unpinned,T.keep _ _ _ ZX λb hb o e=>(I7.pin (b,o) (CI _ (CI _ (Ac hb e)))).1,λb hb=>?_,w7};obtain⟨o,e,d⟩:=T.obj _ _ ZX b hb;exact(I7.pin (b,o) (CI _ (CI _ (Ac hb e)))).2.1
  refine AD (CJ (ht _ s6 σ6 H6 _ I6 q6) (λb s7 z0=>?_) λx s' z=>hx x s' z);obtain⟨H7,I7,q7⟩:=z0
  cases b with
  |false=>exact wpAny_pure {rfl,X5 I7 q7}
  |true=>exact AD (CJ (hm _ s7 σ6 H7 _ I7 q7) (λ_ s8 q0=>by obtain⟨σ8,H8,I8,q8⟩:=q0;exact wpAny_pure {rfl,X5 I8 q8}) λx s' z=>hx x s' z)
def mJ(wi:TI)(k:Nat)(js:List Nat)(o:HO)(g:Hp->TG)(tt:Hp->TT)(tm:Hp->AQ->TM):TE:=λσ H Q=>wi σ H λJ H1=>∀BS,H1 BS=AH ->
 tWalkC J (g (EV H1 BS o)) (tt (EV H1 BS o)) (tm (EV H1 BS o) BS) (TJ k js σ) (EV H1 BS o) λ_ H'=>Q (.ref BS) H'
abbrev pV(V:Cx->AI->AN->Prop)(X:Cx)(scope:RV)(xo:Option BL)(cl:List (BL×AQ))(nm:List BL)(C:AQ)(s:AN)(H:Hp)(fp:List AQ):Cx:=(OL X scope xo cl nm C s H fp).wish (V (OL X scope xo cl nm C s H fp))
def Ht:Cx->AI->AN->Prop:=λ_ _ _=>False
theorem Ab{V:Cx->AI->AN->Prop}{s2:AN}{pp:Y4}{dI:SM AI}{obj:IL}{m:AQ->TD->SM Unit}{g:Hp->TG}{tm:Hp->AQ->TM}{tn:Nat->D0->Prop}{Q:VK}
  {RR:AI->AQ->Result->AN->Prop}
  (Km:∀{Q:AI->AN->Prop} {s:AN},Q (.ref s.heap.objs.size) { s with heap:=s.heap.push obj }->A4 (A3 X.prog X.w) X.A dI Q E s)
  (dZ:ObjOk X.prog X.w (EV H1 s2.heap.objs.size o) (s2.heap.push obj) s2.heap.objs.size o)
  (oP:∀BS env,X.A.under (.compLoop e 0 (.ref it) BS env)=X.A) (o8:∀BS env,(A3 X.prog X.w).den (.compLoop e 0 (.ref it) BS env)=(X3 e 0 (.ref it) BS env).onRaise (λx=>do OS x env;theTreesLotGoes x))
  (dS:∀BS env,X3 e 0 (.ref it) (.ref BS) env=(do
   LX pp
   match <-NF (.ref it) with
   |none=>pure (.done .next)
   |some v =>
    G0 tg (.ref it) v
    LM tg env v
    let mut ok:=AG
    for c in ifs do
     if ok then ok <-U9 c env (eval c env)
    if ok then m BS env
    X5 (.compLoop e 0 (.ref it) (.ref BS) env)))
  (oR:∀{BS:AI} {env:TD} {R:Result->AN->Prop} {s:AN},IC (A3 X.prog X.w) X.A (.compLoop e 0 (.ref it) BS env) R s->A4 (A3 X.prog X.w) X.A (QP (.ref it)) (λwI s'=>IC (A3 X.prog X.w) X.A (.compLoop e 0 wI BS env) R s')
   (eS (A3 X.prog X.w) X.A env λx s'=>R (.error x) s') s->IC (A3 X.prog X.w) X.A (.compStart e 0 (.ref it) BS env) R s)
  (n:CompNm X scope xo cl own C8 js) (hc:X.calm=AG) (hg:∀C s H fp,PG (pV V X scope xo cl (own++C8) C s H fp) tg (g H)) (ht:∀C s H fp,PTs (pV V X scope xo cl (own++C8) C s H fp) ifs (tt H))
  (hm:∀C s H fp BS,PM (pV V X scope xo cl (own++C8) C s H fp) (m BS (KZ scope (wC xo (C+1) cl) C X.env)) (tm H BS))
  (Lf:∀{BS:AI} {Hs:Hp} {ss s':AN} {x:AI},Inv X pins σ Hs ss->(∀b∈fp,FpOk X pins Hs b)->V (OL X scope xo cl (own++C8) ss.heap.objs.size ss Hs fp) x s'->eS (A3 X.prog X.w) X.A (KZ scope (wC xo (ss.heap.objs.size+1) cl) ss.heap.objs.size X.env) (λx s'=>RR BS ss.heap.objs.size (.error x) s') x s')
  (I2:Inv X pins σ H1 s2) (T:Turn X.prog X.w X.K tg J fp it tn) (st2:tn 0 s2.heap) (f2:∀b∈fp,FpOk X pins H1 b)
  (hW:∀BS,H1 BS=AH->tWalkC J (g (EV H1 BS o)) (tt (EV H1 BS o)) (tm (EV H1 BS o) BS) (TJ own.length js σ) (EV H1 BS o) λ_ H'=>Q (.ref BS) H')
  (hRR:∀BS C H' s' m,Inv X pins σ H' s'->H' C=AH->C≠X.env.locals->X.s₀.heap.objs.size<=C->(∀x c,X.env.cells.lookup x=AA c->c≠C)->(∀p∈X.pn++pins,p.1≠C)->s'.heap.Ns C m->Q (.ref BS) H'->RR (.ref BS) C (.ok .next) s') :
  A4 (A3 X.prog X.w) X.A dI (λBS oG=>A4 (A3 X.prog X.w) X.A (QR scope X.env.globals cl [] X.env.qual AH .none (AA X.env)) (λaA Je =>
   IC (A3 X.prog X.w) X.A (.compStart e 0 (.ref it) BS { aA with scope:=TY scope X.env }) (RR BS aA.locals) Je) E oG) E s2:=by
 refine Km ?_
 have I3:Inv X pins σ (EV H1 s2.heap.objs.size o) { s2 with heap:=s2.heap.push obj } :=
  I2.laid (t':=s2.toks) (λb u e=>AJ _ e) (AO _) dZ
 have hWa:=hW s2.heap.objs.size (I2.hok.fresh (AO _));have vT:∀b o,s2.heap.get? b=AA o->({ s2 with heap:=s2.heap.push obj }:AN).heap.get? b=AA o:=λb o e=>AJ _ e;have wW:∀b∈fp,b<s2.heap.objs.size:=λb hb=>by obtain⟨o,ho,_⟩:=T.obj _ _ st2 b hb;exact BB ho
 have hsz:({ s2 with heap:=s2.heap.push obj }:AN).heap.objs.size=s2.heap.objs.size+1:=EC ..
 have f3:∀b∈fp,FpOk X pins (EV H1 s2.heap.objs.size o) b:=λb hb=>by
  obtain⟨q,r⟩:=f2 b hb;exact{by rw[GP (CH (wW b hb))];exact q,r}
 generalize ({ s2 with heap:=s2.heap.push obj }:AN)=s3 at I3 vT hsz ⊢;have wV:∀b∈fp,b<s3.heap.objs.size:=λb hb=>by rw[hsz];exact J6 (wW b hb)
 refine zR4 n I3 f3 wV λKH IY Jn=>?_;have Yp:tn 0 KH:=T.keep _ _ _ st2 λb hb o e=>Jn b o (vT b o e)
 have UY:∀b∈fp,FpOk (pV V X scope xo cl (own++C8) s3.heap.objs.size s3 (EV H1 s2.heap.objs.size o) fp) [] (EV H1 s2.heap.objs.size o) b:=λb hb =>
   {(f3 b hb).1,CH (wV b hb),I3.stk_of (f3 b hb),.inl hb,λy c e=>(IY.ok.exf b hb).2 y c e,(λp hp=>nomatch hp)}
 have oI:IC (A3 X.prog X.w) X.A (.compLoop e 0 (.ref it) (.ref s2.heap.objs.size) (KZ scope (wC xo (s3.heap.objs.size+1) cl) s3.heap.objs.size X.env)) (RR (.ref s2.heap.objs.size) s3.heap.objs.size) { s3 with heap:=KH }:=by
  refine Ng (Y:=pV V X scope xo cl (own++C8) s3.heap.objs.size s3 (EV H1 s2.heap.objs.size o) fp) (oP _ _) (o8 _ _) (dS _ _) (λx s' z=>Lf I3 f3 z) hc (hg _ _ _ _) (ht _ _ _ _) (hm _ _ _ _ _) T (IY.wish _) Yp UY hWa ?_;intro σ6 H6 s6 I6 q
  have I7:Inv X pins σ H6 s6:=I3.call' I6.os I6.base I6.hok I6.bare λb hb=>by
   obtain⟨_,g1,_,g3,g4,g5⟩:=f3 b hb;exact{g3,g1,g4,g5}
  obtain⟨mC,hnC,_⟩:=I6.loc
  exact hRR _ _ H6 s6 mC I7 I6.free (GW I3.lt) I3.sz (λx c e z=>by
    obtain⟨v,zc⟩:=I3.cell x c e
    exact absurd zc.lt (by rw[z];exact FN _))
   (λp hp z=>absurd (BB (I3.pin p hp).1) (by rw[z];exact FN _)) hnC q
 exact oR oI (T.self _ 0 _ _ _ Yp oI)
def iC(BS:AQ)(te:TE):TM:=λσ H N=>te σ H λy H4=>∃ys,H4 BS=AA (.lst ys)/\ys.length<sizeLine/\N σ (EV H4 BS (.lst (ys++[y])))
theorem zK(he:PE X OR te):PM X (do let _ <-call (.builtin "list.append") [.ref BS,<-eval OR X.env]) (iC BS te):=by
 intro pins s σ H N I h;refine AD (GY (he pins s σ H _ I h) λyv Jj ⟨y,H10,xR,r10,ys,ha,hz,q⟩=>?_);have:=Sg (X:=X) _ Jj σ H10 (.ref BS) [y] (.ref BS) [yv] (λv H'=>v=.non/\H'=EV H10 BS (.lst (ys++[y]))) xR rfl (.cons r10 .nil) {_,ys,y,rfl,rfl,ha,hz,rfl,rfl};refine AD (CJ this (λ_ s11 ⟨v,H11,I11,_,_,eH⟩=>wpAny_pure {σ,H11,I11,?_}) λ_ _ z=>z);subst eH;exact q
def Nf(wi:TI)(g:TG)(tt:TT)(tm:TM):TM:=λσ H N=>wi σ H λJ H1=>tWalkC J g tt tm σ H1 N
theorem zE0{OR g0 QF iter ifs rest scope pos it BS env}
  (h0:IC (A3 prog w) A (.compLoop (.ListComp OR (g0::{QF,iter,ifs,0}::rest) scope pos) 1 it BS env) R s)
  (h:A4 (A3 prog w) A (QP it) (λwI s'=>IC (A3 prog w) A (.compLoop (.ListComp OR (g0::{QF,iter,ifs,0}::rest) scope pos) 1 wI BS env) R s')
   (eS (A3 prog w) A env λx s'=>R (.error x) s') s) :
  IC (A3 prog w) A (.compStart (.ListComp OR (g0::{QF,iter,ifs,0}::rest) scope pos) 1 it BS env) R s:=by
 refine codeAny_of_tree ?_;show A4 _ A ((compStart (.ListComp OR (g0::{QF,iter,ifs,0}::rest) scope pos) 1 it BS env).onRaise (λx=>do OS x env;LX theWindowsPlace)) _ _ s;refine wpAny_notedAt ?_;unfold compStart;show A4 _ A (ask >>= _) _ _ s;refine AD (wpAny_askSetting (wpAny_ite ?_));split
 .first
   |exact AD (wpAny_pure (wpAny_pure (W8 rfl h0)))
   |exact wpAny_pure (W8 rfl h0)
 .first
   |exact AD (GK (AD (LW (AD (CJ h (λwI s' h'=>wpAny_pure (W8 rfl h')) λ_ _ x=>x)))))
   |(refine AD (GK ?_);show A4 _ _ (LX iter.pos >>= _) _ _ s;exact AD (LW (AD (CJ h (λwI s' h'=>wpAny_pure (W8 rfl h')) λ_ _ x=>x))))
theorem yA8{iter:C5}{g0:Comprehension}{g:TG}{tt:TT}(hx:X.xe=λ_ _=>False)(hc:X.calm=AG)(hi:PI X tg iter wi)(hg:PG X tg g)(ht:PTs X ifs tt)(he:PE X OR te)
  (hs:∀x,CW iter X.env x=pure x):PM X (do
    let x <-eval iter X.env
    LX iter.pos
    let x <-CW iter X.env x
    let _ <-runOwn (.compStart (.ListComp OR [g0,⟨tg,iter,ifs,0⟩] sc pos) 1 (<-MU [x] (QP x)) (.ref BS) X.env) X.env) (Nf wi g tt (iC BS te)):=by
 intro pins s σ H N I h;refine AD (GY (hi pins s σ H _ I h) λv s1 h2=>AD (LW (AD (jE (hs v) (AD (DP (GY h2 λoJ s2 h3=>?_)))))));obtain⟨it,fp,tn,J,H2,e,I2,T,st2,f2,hW⟩:=h3;subst e;refine AD (wpAny_runOwn (zE0 ?_ (T.self _ 0 _ _ _ st2 ?_)))
 all_goals
  refine Ng (Y:=X) (pp:=iter.pos) (m:=(do let _ <-call (.builtin "list.append") [.ref BS,<-eval OR X.env])) rfl rfl rfl (λx s' z=>by rw[hx] at z;exact z.elim) hc hg ht (zK he) T I2 st2 f2 hW ?_;intro σ' H' s' I' n';exact wpAny_pure {σ',H',I',n'}
theorem zNM(OR tg iter kS MC:C5)(ifs XR:List C5)(scope:RV)(pos:Y4)(it BS:AI)(env:TD) :
  X3 (.ListComp OR [{tg,iter,ifs,0},{kS,MC,XR,0}] scope pos) 0 it BS env=(do
   LX iter.pos
   match <-NF it with
   |none=>pure (.done .next)
   |some v =>
    G0 tg it v
    LM tg env v
    let mut ok:=AG
    for c in ifs do
     if ok then ok <-U9 c env (eval c env)
    if ok then(do
     let x <-eval MC env
     LX MC.pos
     let x <-CW MC env x
     let _ <-runOwn (.compStart (.ListComp OR [⟨tg,iter,ifs,0⟩,⟨kS,MC,XR,0⟩] scope pos) 1 (<-MU [x] (QP x)) BS env) env)
    X5 (.compLoop (.ListComp OR [{tg,iter,ifs,0},{kS,MC,XR,0}] scope pos) 0 it BS env)):=by
 simp only[bind_assoc,pure_bind]
 rfl
theorem yHF{iter kS MC:C5}{XR:List C5}{Yj:Hp->TI}{g g2:Hp->TG}{Yk:Hp->TT}{te:Hp->TE}(n:CompNm X scope xo cl own C8 js)(hc:X.calm=AG)(hi:PI X tg iter wi)
  (hg:∀C s H fp,PG (OL X scope xo cl (own++C8) C s H fp) tg (g H)) (ht:∀C s H fp,PTs (OL X scope xo cl (own++C8) C s H fp) ifs (tt H))
  (hi2:∀C s H fp,PI (OL X scope xo cl (own++C8) C s H fp) kS MC (Yj H)) (hg2:∀C s H fp,PG (OL X scope xo cl (own++C8) C s H fp) kS (g2 H)) (ht2:∀C s H fp,PTs (OL X scope xo cl (own++C8) C s H fp) XR (Yk H))
  (he:∀C s H fp,PE (OL X scope xo cl (own++C8) C s H fp) OR (te H))
  (hs:∀x,CW iter X.env x=pure x:=by intro _;rfl) (N6:∀C x,CW MC (KZ scope (wC xo (C+1) cl) C X.env) x=pure x:=by intro _ _;rfl) :
  PE X (.ListComp OR [{tg,iter,ifs,0},{kS,MC,XR,0}] scope pos) (mJ wi own.length js (.lst []) g tt λH BS=>Nf (Yj H) (g2 H) (Yk H) (iC BS (te H))):=by
 intro pins s σ H Q I h;rw[aJ];refine JR (use:=AH) rfl hs n.clos n.kind n.loc (CJ (hi pins s σ H _ I h) (λxv FC KH=>CJ KH (λoJ ZW OO=>?_) λ_ _ e=>e) λ_ _ e=>e);obtain⟨it,fp,tn,J,H2,e,I2,T,st2,f2,hW⟩:=OO;subst e
 refine Ab (V:=Ht) (obj:={ cls:=.type "list",dict:=AH,data:=.seq ([]:List AI).toArray }) (pp:=iter.pos) (ifs:=ifs) (tg:=tg) (RR:=λBS C=>jJ (A3 X.prog X.w) X.A X.xe AH (EP X pins σ Q) BS C)
  (m:=λBS env=>(do
    let x <-eval MC env
    LX MC.pos
    let x <-CW MC env x
    let _ <-runOwn (.compStart (.ListComp OR [⟨tg,iter,ifs,0⟩,⟨kS,MC,XR,0⟩] scope pos) 1 (<-MU [x] (QP x)) (.ref BS) env) env))
  (o:=.lst []) (λ{Q s} h=>DH h) (show ObjOk _ _ _ _ _ (.lst []) from{B0 _,[],0,.nil,AW _ rfl}) (λ_ _=>rfl) (λ_ _=>rfl) (λ_ _=>zNM _ _ _ _ _ _ _ _ _ _ _ _) (λh0 h1=>K0 h0 h1) n hc hg ht
  (λC s H fp BS=>yA8 (X:=OL X scope xo cl (own++C8) C s H fp) rfl hc (hi2 C s H fp) (hg2 C s H fp) (ht2 C s H fp) (he C s H fp) (N6 C)) (λ_ _ z=>z.elim) I2 T st2 f2 hW ?_
 intro BS C H' s' m I' hC h1 h2 h3 h4 hn q;exact{m,hn,λh' sb=>{.ref BS,H',I'.turned (t':=s'.toks) (λb o hb e=>sb.extBut b o hb e) hC h1 (.inr h2) h3 h4,rfl,q}}
theorem yA9{iter:C5}{g:Hp->TG}{te:Hp->TE}(n:CompNm X scope xo cl own C8 js)(hc:X.calm=AG)(hi:PI X tg iter wi)
  (hg:∀C s H fp,PG (OL X scope xo cl (own++C8) C s H fp) tg (g H)) (ht:∀C s H fp,PTs (OL X scope xo cl (own++C8) C s H fp) ifs (tt H)) (he:∀C s H fp,PE (OL X scope xo cl (own++C8) C s H fp) OR (te H))
  (hs:∀x,CW iter X.env x=pure x:=by intro _;rfl):PE X (.ListComp OR [{tg,iter,ifs,0}] scope pos) (mJ wi own.length js (.lst []) g tt λH BS=>iC BS (te H)):=by
 intro pins s σ H Q I h;rw[aJ];refine JR (use:=AH) rfl hs n.clos n.kind n.loc (CJ (hi pins s σ H _ I h) (λxv FC KH=>CJ KH (λoJ ZW OO=>?_) λ_ _ e=>e) λ_ _ e=>e);obtain⟨it,fp,tn,J,H2,e,I2,T,st2,f2,hW⟩:=OO;subst e
 refine Ab (V:=Ht) (obj:={ cls:=.type "list",dict:=AH,data:=.seq ([]:List AI).toArray }) (pp:=iter.pos) (ifs:=ifs) (tg:=tg) (RR:=λBS C=>jJ (A3 X.prog X.w) X.A X.xe AH (EP X pins σ Q) BS C)
  (m:=λBS env=>(do let _ <-call (.builtin "list.append") [.ref BS,<-eval OR env]))
  (o:=.lst []) (λ{Q s} h=>DH h) (show ObjOk _ _ _ _ _ (.lst []) from{B0 _,[],0,.nil,AW _ rfl}) (λ_ _=>rfl) (λ_ _=>rfl) (λ_ _=>rfl) (λh0 h1=>K0 h0 h1) n hc hg ht
  (λC s H fp BS=>zK (X:=OL X scope xo cl (own++C8) C s H fp) (he C s H fp)) (λ_ _ z=>z.elim) I2 T st2 f2 hW ?_
 intro BS C H' s' m I' hC h1 h2 h3 h4 hn q;exact{m,hn,λh' sb=>{.ref BS,H',I'.turned (t':=s'.toks) (λb o hb e=>sb.extBut b o hb e) hC h1 (.inr h2) h3 h4,rfl,q}}
theorem zR6{iter:C5}{g:Hp->TG}{te:Hp->TE}(n:CompNm X scope xo cl own C8 js)(hc:X.calm=AG)(hi:PI X tg iter wi)
  (hg:∀C s H fp,PG (OL X scope xo cl (own++C8) C s H fp) tg (g H)) (ht:∀C s H fp,PTs (OL X scope xo cl (own++C8) C s H fp) ifs (tt H)) (he:∀C s H fp,PE (OL X scope xo cl (own++C8) C s H fp) OR (te H))
  (hN:X.N.Nodup) (hx:X.N[i]?=AA x) (hl:X.env.scope.names.lookup x=AA .local)
  (oQ:HG (.ListComp OR [{tg,iter,ifs,0}] scope pos) (AA (.Name x NB)) XO.line X.env=pure AG)
  (hs:∀x,CW iter X.env x=pure x:=by intro _;rfl):PS X (.Assign [.Name x NB] (.ListComp OR [{tg,iter,ifs,0}] scope pos) XO) (nO (mJ wi own.length js (.lst []) g tt λH BS=>iC BS (te H)) (mF i)):=by
 intro pins s σ H D I h;rw[exec_Assign_Name_used _ _ _ _ oQ];refine AD (LW (AD ?_));show A4 _ X.A (do let _ <-comprehension (.ListComp OR [⟨tg,iter,ifs,0⟩] scope pos) scope X.env _ (newList []) AB (eval iter X.env) (AA (LM (.Name x NB) X.env))) _ _ s
 refine AD (CJ (JR (use:=AA (LM (.Name x NB) X.env)) (Q:=λ_ s'=>SP X pins D .next s') rfl hs n.clos n.kind n.loc
  (CJ (hi pins s σ H _ I h) (λxv FC KH=>CJ KH (λoJ ZW OO=>?_) λ_ _ e=>e) λ_ _ e=>e)) (λ_ s' hq=>wpAny_pure (wpAny_pure hq)) λ_ _ e=>e)
 obtain⟨it,fp,tn,J,H2,e,I2,T,st2,f2,hW⟩:=OO;subst e
 refine Ab (V:=Ht) (obj:={ cls:=.type "list",dict:=AH,data:=.seq ([]:List AI).toArray }) (pp:=iter.pos) (ifs:=ifs) (tg:=tg) (Q:=λx H1=>mF i x σ H1 D.nx) (RR:=λBS C=>jJ (A3 X.prog X.w) X.A X.xe (AA (LM (.Name x NB) X.env)) (λ_ s'=>SP X pins D .next s') BS C)
  (m:=λBS env=>(do let _ <-call (.builtin "list.append") [.ref BS,<-eval OR env]))
  (o:=.lst []) (λ{Q s} h=>DH h) (show ObjOk _ _ _ _ _ (.lst []) from{B0 _,[],0,.nil,AW _ rfl}) (λ_ _=>rfl) (λ_ _=>rfl) (λ_ _=>rfl) (λh0 h1=>K0 h0 h1) n hc hg ht
  (λC s H fp BS=>zK (X:=OL X scope xo cl (own++C8) C s H fp) (he C s H fp)) (λ_ _ z=>z.elim) I2 T st2 f2 hW ?_
 intro BS C H' s' m I' hC h1 h2 h3 h4 hn q;show A4 _ X.A (LM (.Name x NB) X.env (.ref BS)) _ _ _;refine wpAny_assign_Name (Er I' hN hx (.inl hl) (v:=.ref BS) rfl (λiW I'' sb=>?_) (.inr hl));obtain⟨a,sb,ha⟩:=sb
 have hCa:C≠a:=by
  rcases ha with ha|ha
  .rw[ha];exact h1
  .exact λz=>h3 x a ha z.symm
 exact{m,hn.sameBut sb hCa,λh' Jh=>{_,H',I''.turned (t':=iW.toks) (λb o hb e=>Jh.extBut b o hb e) hC h1 (.inr h2) h3 h4,q}}
end L2
namespace TS
open PySem PySem.W PyProof.Rows
section
variable{prog:CF}{w:DJ}{A:DI}{E:AI->AN->Prop}{s:AN}
theorem zNN{vs:List AI}{xs:Array A6}(h:xs.Perm (HQ vs)):(xs.map (·.2)).toList.Perm vs:=by
 have p:=(D3.mp h).map (·.2);rw[QQ] at p;have e:(vs.zip vs).map (·.2)=vs:=List.map_snd_zip (AO _);rw[e] at p;simpa using p
end
end TS
variable{ep:Nat}{l1 l2:AQ}{H2:L2.Hp}
namespace L2
open PySem PySem.Spec PyProof.Rows
theorem Vals.perm(p:ws.Perm us):∀{xs:List V},Vals xs us->∃ys,ys.Perm xs/\Vals ys ws:=by
 induction p with
 |nil=>intro xs r;cases r;exact{[],HL _,.nil}
 |cons a _ ih =>
  intro xs r
  cases r with
  |cons h t =>
   obtain⟨ys,q,r'⟩:=ih t;exact{_::ys,q.cons _,.cons h r'}
 |swap a b l =>
  intro xs r
  cases r with
  |cons h t =>
   cases t with
   |cons h' t'=>exact{_::_::_,I0 _ _ _,.cons h' (.cons h t')}
 |trans _ _ ih1 ih2 =>
  intro xs r;obtain⟨ys,q,r'⟩:=ih2 r;obtain⟨zs,q',vM⟩:=ih1 r';exact{zs,q'.trans q,vM}
def Nd(H:Hp)(y:V):Prop:=∃(p:AQ) (n:Int) (ns:List Int),y=.ref p/\H p=AA (.tup ((n::ns).map V.int))
theorem Pm{X:Cx}{pins:List (AQ×IL)}{σ:St}{H:Hp}{s:AN}(I:Inv X pins σ H s):∀{ys:List V} {us:List AI},Vals ys us->(∀y∈ys,Nd H y) ->
  ∃fs:List AI,fs.length=us.length/\RL s.heap us fs/\(∀v∈fs,∃n t,v=.int n t)/\∀u∈us,∃(p:AQ) (CP:List AI) (ns:List Int),u=.ref p/\QU s.heap p CP.toArray/\EA CP ns
 |_,_,.nil,_=>{[],rfl,RW,(λv hv=>nomatch hv),(λu hu=>nomatch hu)}
 |_,_,.cons r t,h=>by
  obtain⟨fs,e1,e2,e3,e4⟩:=Pm I t λy hy=>h y (AS _ hy);obtain⟨p,n,ns,ey,hp⟩:=h _ AU;subst ey;cases r;obtain⟨CP,rv,tp,_⟩:=I.tuple (SqT.of (K:=X.K) hp);have hi:EA CP (n::ns):=fU rv;have Kx:=hi
  cases hi with
  |cons _ tk r' =>
   obtain⟨o,ho,hc,k,hd⟩:=id tp;refine{.int n tk::fs,by rw[A0,A0,e1],PySem.W.KatTups.cons ho hc hd 's' e2,λv hv=>?_,λu hu=>?_}
   .rcases A9.mp hv with rfl|hv
    .exact{_,_,rfl}
    .exact e3 v hv
   .rcases A9.mp hu with rfl|hu
    .exact{p,_,n::ns,rfl,tp,Kx}
    .exact e4 u hu
theorem Sc{h h':D0}(k:∀b o,h.get? b=AA o->h'.get? b=AA o):∀{us fs:List AI},RL h us fs->RL h' us fs
 |[],[],_=>RW
 |[],_::_,t=>t.elim
 |_::_,[],t=>t.elim
 |_::_,_::_,t=>by
  obtain⟨⟨a,o,xs,n,e,ho,r⟩,t⟩:=t;exact{{a,o,xs,n,e,k _ _ ho,r},Sc k t}
structure RawD(h:D0)(d:AQ)(es:Array KB)(ep:Nat):Prop where
 ex:∃o,h.get? d=AA o/\o.ExactDict/\o.data=.dict es ep
 ns:(d==HP)=AB
theorem RawD.ty{d:AQ}{es:Array KB}(r:RawD s.heap d es ep):s.TypeIs (.ref d) "dict":=let ⟨o,h1,h2,_⟩:=r.ex;{o,h1,h2.1}
theorem yBA{d:AQ}{es:Array KB}(r:RawD s.heap d es ep)(hf:(es.size:Int)<2 ^ 63)(h:∀t tk,Q (.int es.size t) { s with toks:=tk }) :
  A4 (A3 prog w) A (call (.builtin "len") [.ref d]) Q E s:=by
 obtain⟨o,ho,hc,hd⟩:=r.ex;refine UH kind_len plain_len entry_len (args_len1 _) ?_;unfold FJ.«len»;refine AD (m:=oneArg "len" _) (wpAny_pure ?_);refine AD (m:=callSpecial? (.ref d) (GV "__len__")) (DM (name:=GV "__len__") r.ty F.slot_dict_len (DX F.slot_dict_len r.ty F.entry_dict_len ?_ (F.args_dict_len_1 _)));show A4 _ _ (dictSize d >>= _) _ _ s;unfold dictSize;refine AD (AD (N0 ho hd (wpAny_pure ?_)));show A4 _ _ (Builtin.Dict.pendingCount d >>= _) _ _ s;refine AD (wpAny_pendingCount_other r.ns ?_);refine AD (wpAny_mkInt (wpAny_pure {_,rfl,?_}));refine AD (DP (wpAny_pure (AD (VZ ?_))));show A4 _ _ (if((es.size:Int)+((0:Nat):Int))<0 then _ else _) _ _ _;rw[if_neg 'l'];show A4 _ _ (if((es.size:Int)+((0:Nat):Int))>=2 ^ 63 then _ else _) _ _ _;rw[if_neg 'l'];have e0:((es.size:Int)+((0:Nat):Int))=(es.size:Int):=by simp
 show A4 _ _ (retInt ((es.size:Int)+((0:Nat):Int))) _ _ _;rw[e0];exact AD (wpAny_mkInt (wpAny_pure {_,rfl,h _ _}))
theorem zP{d:AQ}{es:Array KB}(r:RawD s.heap d es ep)
  (h:∀h',(∀b o,s.heap.get? b=AA o->h'.get? b=AA o)->h'.IsKeyIter s.heap.objs.size d 0 es.size ep->Q (.ref s.heap.objs.size) { s with heap:=h' }):A4 (A3 prog w) A (QP (.ref d)) Q E s:=by
 obtain⟨o,ho,hc,hd⟩:=r.ex;refine wpAny_pyIter_slot r.ty F.slot_dict_iter (DX F.slot_dict_iter r.ty F.entry_dict_iter ?_ (F.args_dict_iter_1 _));unfold FJ.«dict.__iter__» Builtin.Dict.dictSlotNone;refine AD (AD (wpAny_notOrdered_dict r.ty (wpAny_pure ?_)));unfold Builtin.Dict.showsAll;show A4 _ _ ((if _ then _ else _) >>= _) _ _ s;rw[if_neg (by rw[r.ns];exact BJ)];refine AD (wpAny_pure (AD (N0 ho hd (AD (WN ho hd ?_)))));refine AD (DH (wpAny_pure {_,rfl,"dict_keyiterator",_,{_,AW _ rfl,rfl},F.slot_dict_keyiterator_next.lookup,?_}));exact h _ (λb o e=>AJ _ e) {_,AW _ rfl,rfl,by simp[J3]}
theorem Qx{d:AQ}{es:Array KB}{Q:Option AI->AN->Prop}(k:s.heap.IsKeyIter it d i es.size ep)(r:RawD s.heap d es ep)(hi:i<es.size)
  (h:∀h',h'.IsKeyIter it d (i+1) es.size ep->FI it s.heap h'->Q (AA es[i].key) { s with heap:=h' }):A4 (A3 prog w) A (NF (.ref it)) Q E s:=by
 obtain⟨oi,kZ,Zz,i9⟩:=id k;obtain⟨o,ho,hc,hd⟩:=r.ex;unfold NF;refine AD (JS (DM (name:=GV "__next__") k.typeIs F.slot_dict_keyiterator_next (DX F.slot_dict_keyiterator_next k.typeIs F.entry_dict_keyiterator_next ?_ (F.args_dict_keyiterator_next_1 _))));refine AD (wpAny_pure (AD (AD ?_)))
 first
  |refine AD (HM k.typeIs (wpAny_pure (AD (QN kZ i9 ?_))))
  |refine AD (JQ k.typeIs (wpAny_pure (AD (QN kZ i9 ?_))))
 simp only[show N1 "dict_keyiterator"=AB by decide,EJ,if_false];show A4 _ _ (if(DN d==D2)=AG then _ else _) _ _ s;rw[if_neg (show ¬((DN d==D2)=AG) from BJ)];refine AD (wpAny_pure (AD (N0 ho hd ?_)));rw[if_neg 's'];refine AD (wpAny_pure (AD (WN ho hd ?_)));rw[if_neg 's'];refine wpAny_pure ?_;simp only[show ¬((i:Int)<0) from by lia,if_false,M5,Array.getElem?_eq_getElem hi];refine AD ?_
 first
  |refine AD (HM k.typeIs (wpAny_pure (AD (PX k.typeIs ?_))))
  |refine AD (JQ k.typeIs (wpAny_pure (AD (PX k.typeIs ?_))))
 show A4 _ _ (jG (.ref it) 1 (J3 ((i:Int)+1)) >>= _) _ _ s;refine AD (KY kZ i9 's' ?_)
 have k':(s.heap.update it (P6 (·.setIfInBounds 1 (J3 ((i:Int)+1))))).IsKeyIter it d (i+1) es.size ep :=
  {_,KM _ kZ (OT (HI i9 _)),(gM ..).trans Zz,by rw[HI i9];simp[J3]}
 refine AD (DP (AD (PX (s:={ s with heap:=s.heap.update it (P6 (·.setIfInBounds 1 (J3 ((i:Int)+1)))) }) k'.typeIs ?_)));show A4 _ _ (pure es[i].key) _ _ _;exact wpAny_pure (wpAny_pure {_,rfl,wpAny_pure (h _ k' (J7 ..))})
theorem Pk{d:AQ}{es:Array KB}{Q:Option AI->AN->Prop}(hh:A.handled=AH)(k:s.heap.IsKeyIter it d i es.size ep)(r:RawD s.heap d es ep)(hi:es.size<=i)
  (h:∀h',Heap.ExtBut it s.heap h'->Q AH { s with heap:=h' }):A4 (A3 prog w) A (NF (.ref it)) Q E s:=by
 obtain⟨oi,kZ,Zz,i9⟩:=id k;obtain⟨o,ho,hc,hd⟩:=r.ex;unfold NF;refine AD (JS (DM (name:=GV "__next__") k.typeIs F.slot_dict_keyiterator_next (DX F.slot_dict_keyiterator_next k.typeIs F.entry_dict_keyiterator_next ?_ (F.args_dict_keyiterator_next_1 _))));refine AD (wpAny_pure (AD (AD ?_)))
 first
  |refine AD (HM k.typeIs (wpAny_pure (AD (QN kZ i9 ?_))))
  |refine AD (JQ k.typeIs (wpAny_pure (AD (QN kZ i9 ?_))))
 simp only[show N1 "dict_keyiterator"=AB by decide,EJ,if_false];show A4 _ _ (if(DN d==D2)=AG then _ else _) _ _ s;rw[if_neg (show ¬((DN d==D2)=AG) from BJ)];refine AD (wpAny_pure (AD (N0 ho hd ?_)));rw[if_neg 's'];refine AD (wpAny_pure (AD (WN ho hd ?_)));rw[if_neg 's'];refine wpAny_pure ?_;simp only[show ¬((i:Int)<0) from by lia,if_false,M5,Array.getElem?_eq_none hi];refine AD ?_
 first
  |refine AD (HM k.typeIs (wpAny_pure ?_))
  |refine AD (JQ k.typeIs (wpAny_pure ?_))
 show A4 _ _ (jG (.ref it) 0 .none >>= _) _ _ s;refine AD (KY kZ i9 's' ?_);show A4 _ _ (newExc (.type "StopIteration") [] >>= _) _ _ _;refine AD ?_;simp only[newExc,newTuple];refine AD (DH ?_ (by size_fits));refine AD (m:=QS _ _) (jE (a:=D2) (by first|rfl|(simp only[QS];rfl)) (DH ?_ (by size_fits)));simp only[raiseNew];refine AD (wpAny_handled ?_);rw[show A.in1.handled=AH from hh];refine AD (wpAny_pure (jC ?_));refine AD (wpAny_isInstance (T:="StopIteration") (b:=AG) {_,AW _ rfl,rfl} isSubtype_stop ?_);exact wpAny_pure (h _ (((J7 ..).extBut.push _).push _))
theorem qF{kvs:List (List Key×V)}(x:ObjOk P w H h a (.dT kvs)):∃es ep,RawD h a es ep/\es.size=kvs.length/\kvs.length<=sizeLine /\
  ∀(i:Nat) (hi:i<es.size),∃(p:AQ) (k:List Key),es[i].key=.ref p/\(kvs.map (·.1))[i]?=AA k/\H p=AA (.tup (k.map kV)):=by
 obtain⟨z,y,xs,r,o,es,ep,h1,h2,h3,h4,h5⟩:=x
 have hl:es.size=xs.length:=by
  have:=congrArg SO h4;simpa using this
 have bT:kvs.length=xs.length:=Paired.length r;refine{es,ep,{{o,h1,h2,h3},y},by lia,z,λi hi=>?_}
 have J9:∀{l:List (List Key×V)} {m:List (List Key×AQ×AI)},Paired (λ(p:List Key×V) (q:List Key×AQ×AI)=>p.1=q.1/\H q.2.1=AA (.tup (p.1.map kV))/\RelV p.2 q.2.2) l m ->
   ∀(i:Nat) q,m[i]?=AA q->∃k,(l.map (·.1))[i]?=AA k/\H q.2.1=AA (.tup (k.map kV)):=by
  intro l m q
  induction q with
  |nil=>intro i q e;simp at e
  |@cons p q ps qs hq t ih =>
   intro i z e
   cases i with
   |zero=>simp at e;subst e;exact{p.1,by simp,hq.2.1}
   |succ i=>obtain⟨k,e1,e2⟩:=ih i z (by simpa using e);exact{k,by simpa using e1,e2}
 have SY:i<xs.length:=AM hi (CD hl);obtain⟨k,e1,e2⟩:=J9 r i xs[i] (by simp[SY])
 have e3:es[i]=entryOfKey (Q4 (V7 P w)) xs[i]:=by
  have q:es.toList[i]?=AA es[i]:=by simp[hi]
  rw[h4] at q;simp[SY] at q;exact q.symm
 exact{xs[i].2.1,k,by rw[e3];rfl,e1,e2}
def Yg(d:AQ)(o:IL)(kvs:List (List Key×V)):It :=
 {λi H=>i<kvs.length/\H d=AA (.frz o (.dT kvs)),λi H x H'=>H'=H/\∃p k,x=.ref p/\(kvs.map (·.1))[i]?=AA k/\H p=AA (.tup (k.map kV)),λi H=>kvs.length<=i/\H d=AA (.frz o (.dT kvs))}
theorem Sb{K:AC}(d it:AQ)(o:IL)(kvs:List (List Key×V))(es:Array KB)(ep:Nat)(hd:o.data=.dict es ep)(hz:es.size=kvs.length) :
  Turn P w K tg (Yg d o kvs) [it] it (λi h=>h.IsKeyIter it d i es.size ep) where
 mem:=by simp
 obj:=λi h st b hb=>by
  have e:b=it:=by simpa using hb
  subst e;obtain⟨o,e,c,d⟩:=st;exact{o,e,λv z=>by rw[d] at z;cases z}
 keep:=λi h h' st k=>let ⟨o,e,r⟩:=st;{o,k it 's' o e,r}
 item:=by
  intro X hP hw hK hc i pins s σ H E I hf st hg;subst hP hw hK;obtain⟨hi,hk⟩:=hg;obtain⟨ho,hx⟩:=I.hok d _ hk;obtain⟨pF,pG,NA,e1,e2,e3⟩:=qF hx;obtain⟨o',q1,q2,q3⟩:=NA.ex;rw[ho] at q1;cases q1;rw[hd] at q3;injection q3 with q4 q5;subst q4;subst q5;obtain⟨f0,f1,f2,f3,f4,f5⟩:=hf it 's';refine Qx st NA 'l' λh' CG sb=>?_;obtain⟨p,k,p1,p2,p3⟩:=e3 i 'l';have I1:Inv X pins σ H { s with heap:=h' }:=I.turned (t':=s.toks) (λb ob hb e=>(sb.2 b hb).trans e) f0 f1 f3 f4 f5;obtain⟨oi,e,c,dd⟩:=id CG;refine{_,rfl,pT (s:={ s with heap:=h' }) e c dd 'd' {.ref p,H,I1,p1,{rfl,p,k,rfl,p2,p3},CG,λb hb=>(hf b hb).1}}
 done:=by
  intro X hP hw hK hc i pins s σ H E I hf st hg;subst hP hw hK;obtain⟨hi,hk⟩:=hg;obtain⟨ho,hx⟩:=I.hok d _ hk;obtain⟨pF,pG,NA,e1,e2,e3⟩:=qF hx;obtain⟨o',q1,q2,q3⟩:=NA.ex;rw[ho] at q1;cases q1;rw[hd] at q3;injection q3 with q4 q5;subst q4;subst q5;obtain⟨f0,f1,f2,f3,f4,f5⟩:=hf it 's';exact Pk (I.ok.hd hc) st NA (AV (CD hz) hi) λh' eb=>{rfl,I.turned (t':=s.toks) (λb ob hb e=>eb b ob hb e) f0 f1 f3 f4 f5}
 self:=λ_ _ _ _ _ st h=>jD st h
theorem Inv.freeze{kvs:List (List Key×V)}(I:Inv X pins σ H s)(ha:H a=AA (.dT kvs)) :
  ∃o,s.heap.get? a=AA o/\Inv X pins σ (EV H a (.frz o (.dT kvs))) s:=by
 have x:=I.hok a _ ha;obtain⟨es,ep,⟨⟨o,h1,h2,h3⟩,_⟩,_⟩:=qF x;have kt:∀b ys,H b=AA (.tup ys)->b≠a:=λb ys e z=>by rw[z,ha] at e;cases e
 have ko:∀b y,H b=AA (.own y)->b≠a:=λb y e z=>by rw[z,ha] at e;cases e
 have kf:∀b ob u,H b=AA (.frz ob u)->b≠a:=λb ob u e z=>by rw[z,ha] at e;cases e
 have kb:∀b t ps,H b=AA (.tbl t ps)->b≠a:=λb t ps e z=>by rw[z,ha] at e;cases e
 have kn:∀b,H b=AH->b≠a:=λb e z=>by rw[z,ha] at e;cases e
 refine{o,h1,I.un (t':=s.toks) (h':=s.heap) {λb ob e _ _ _=>e,λb ob e _ _ _=>{ob.slots,e},λb ob e n _=>by rw[GP (kn b n)];exact n,λb ob e _=>{ob,e},λb ys e=>by rw[GP (kt b ys e)];exact e,λb ob u e=>by rw[GP (kf b ob u e)];exact e,λb t ps e=>{#[],by rw[GP (kb b t ps e),e];simp}} λb u e=>?_}
 by_cases hb:b=a
 .subst hb
  rw[JU] at e;cases e;exact{h1,x.stay (λc v _ q=>q) (λc q=>by rw[GP (ko c _ q)];exact q) (λc ys q=>by rw[GP (kt c ys q)];exact q) λc ob x q=>by rw[GP (kf c ob _ q)];exact q}
 .rw[GP hb] at e
  exact(I.hok b u e).stay (λc v _ q=>q) (λc q=>by rw[GP (ko c _ q)];exact q) (λc ys q=>by rw[GP (kt c ys q)];exact q) λc ob x q=>by rw[GP (kf c ob _ q)];exact q
theorem zWZ:CallR X (.type "range") (λxs H Q=>∃j:Int,xs=[.int j]/\∀p,H p=AH->Q (.ref p) (EV H p (.rng 0 j))):=by
 intro pins s σ H xs us Q I r h;obtain⟨j,rfl,q⟩:=h;obtain⟨u,rfl,ru⟩:=VQ r;obtain⟨t,rfl⟩:=ru;exact call_range_1 {.ref s.heap.objs.size,_,I.laid (o:=.rng 0 j) (λb o e=>AJ _ e) (AO _) {_,_,_,AW _ rfl},rfl,q _ I.fresh}
theorem zR7:∀(n:Nat) (us:List AI),us.length=n->(∀(i:Nat) v,us[i]?=AA v->∃t,v=IA (i:Int) t)->Vals ((D4 n).map λi:Nat=>V.int (i:Int)) us:=by
 intro n
 induction n with
 |zero=>intro us hl _;have:=List.length_eq_zero_iff.mp hl;subst this;exact .nil
 |succ n ih =>
  intro us hl h
  have e:us=us.take n++[us[n]'(by lia)]:=by
   rw[<-GQ 'l',JW (CD hl)]
  rw[e,List.range_succ,LG];refine Vals.append (ih _ (by rw[IF];lia) λi v hv=>?_) (.cons ?_ .nil)
  .rw[List.getElem?_take] at hv
   split at hv
   .exact h i v hv
   .cases hv
  .obtain⟨t,et⟩:=h n (us[n]'(by lia)) 's'
   exact{t,et}
theorem zL3(hc:X.calm=AG):CallR X (.type "list") (λxs H Q=>∃(p:AQ) (n:Nat),xs=[.ref p]/\H p=AA (.rng 0 (n:Int))/\n<=1000/\∀l,H l=AH->Q (.ref l) (EV H l (.lst ((D4 n).map λi:Nat=>V.int (i:Int))))):=by
 intro pins s σ H xs us Q I r h;obtain⟨p,n,rfl,hp,hn,q⟩:=h;obtain⟨u,rfl,ru⟩:=VQ r;cases ru;obtain⟨t,u,v,e⟩:=(show ObjOk X.prog X.w H s.heap p (.rng 0 (n:Int)) from I.hok p _ hp);refine call_list_range (I.ok.hd hc) (show IsRange s.heap p 0 (n:Int) 1 t u v from e) (small_one 'd' 'd' 'l' 'l') (n:=n) (by rw[rangeSize_one];first|lia|(split<;>lia)) (AV hn (CK _ _)) λh' tk BS c k hS hI=>?_;obtain⟨hz,hi⟩:=hI
 have rv:Vals ((D4 n).map λi:Nat=>V.int (i:Int)) BS.toList:=zR7 n _ (by simpa using hz) λi v hv=>by
  obtain⟨t,et⟩:=hi i v (by rw[<-DD];exact hv);exact{t,by rw[et];simp}
 refine{.ref s.heap.objs.size,_,I.laid (o:=.lst ((D4 n).map λi:Nat=>V.int (i:Int))) k (AO _) {?_,BS.toList,c,rv,by simpa using hS},rfl,q _ I.fresh};rw[AK,JZ,QO];exact AV hn (CK _ _)
theorem zTR{Q:Option IL->AN->Prop}(h:Q (s.heap.get? a) s):A4 (A3 prog w) A (loadIfAlive a) Q E s:=λΓ p hΓ=>by
 show Sem.wp _ Γ (.loadIfAlive a .pure) _ _ p s;rw[Sem.wp_loadIfAlive];exact(wpAny_pure h:A4 (A3 prog w) A (pure _) Q E s) Γ p hΓ
theorem qP{t:AQ}{x:AI}(k:s.heap.IsTupleIter it t i)(ht:s.heap.IsTuple t items)(hx:items[i]?=AA x)
  (h:∀h',h'.IsTupleIter it t (i+1)->FI it s.heap h'->Q x { s with heap:=h' }):A4 (A3 prog w) A (CA (.ref it)) Q E s:=by
 obtain⟨o,ho,hc,hd⟩:=id k;obtain⟨ol,Ki,_,nl,Ll⟩:=ht;unfold CA;refine AD (DM (name:=GV "__next__") k.typeIs F.slot_tuple_iterator_next (DX F.slot_tuple_iterator_next k.typeIs F.entry_tuple_iterator_next ?_ (F.args_tuple_iterator_next_1 _)));show A4 _ _ (bZ (.ref it) 0 >>= _) _ _ s;refine AD (DL ho hd (x:=.ref t) rfl ?_);show A4 _ _ (if(DN t==D2)=AG then _ else _) _ _ s;rw[if_neg (show ¬((DN t==D2)=AG) from BJ)];show A4 _ _ (bZ (.ref it) 1 >>= _) _ _ s;refine AD (DL ho hd (x:=.int i 0) rfl ?_);show A4 _ _ (seqItems? (.ref t) >>= _) _ _ s;refine AD (HF Ki Ll ?_);simp only[M5,hx];refine AD (KY ho hd 's' (wpAny_pure {x,rfl,wpAny_pure (h _ ?_ (J7 ..))}));exact{_,KM _ ho (OT (HI hd _)),(gM ..).trans hc,by rw[HI hd];simp[J3]}
theorem zJ{t:AQ}(hh:A.handled=AH)(k:s.heap.IsTupleIter it t i)(ht:s.heap.IsTuple t items)(hx:items[i]?=AH)
  (h:∀h' e,Heap.ExtBut it s.heap h'->(∃o,h'.get? e=AA o/\o.cls=.type "StopIteration")->E (.ref e) { s with heap:=h' }):A4 (A3 prog w) A (CA (.ref it)) Q E s:=by
 obtain⟨o,ho,hc,hd⟩:=id k;obtain⟨ol,Ki,_,nl,Ll⟩:=ht;unfold CA;refine AD (DM (name:=GV "__next__") k.typeIs F.slot_tuple_iterator_next (DX F.slot_tuple_iterator_next k.typeIs F.entry_tuple_iterator_next ?_ (F.args_tuple_iterator_next_1 _)));show A4 _ _ (bZ (.ref it) 0 >>= _) _ _ s;refine AD (DL ho hd (x:=.ref t) rfl ?_);show A4 _ _ (if(DN t==D2)=AG then _ else _) _ _ s;rw[if_neg (show ¬((DN t==D2)=AG) from BJ)];show A4 _ _ (bZ (.ref it) 1 >>= _) _ _ s;refine AD (DL ho hd (x:=.int i 0) rfl ?_);show A4 _ _ (seqItems? (.ref t) >>= _) _ _ s;refine AD (HF Ki Ll ?_);simp only[M5,hx];refine AD (GK (AD (KY ho hd 's' ?_)));show A4 _ _ (newExc (.type "StopIteration") [] >>= _) _ _ _;refine AD ?_;simp only[newExc,newTuple];refine AD (DH ?_ (by size_fits));refine AD (m:=QS _ _) (jE (a:=D2) (by first|rfl|(simp only[QS];rfl)) (DH ?_ (by size_fits)));simp only[raiseNew];refine AD (wpAny_handled ?_)
 first|rw[show A.in1.handled=AH from hh]|rw[hh]
 exact AD (wpAny_pure (jC (h _ _ (((J7 ..).extBut.push _).push _) {_,AW _ rfl,rfl})))
structure ZipSt(h:D0)(n l1 l2:AQ)(i:Nat):Prop where
 zo:∃f0 f1,h.get? (n+4)=AA { cls:=.type "zip",dict:=AH,data:=.fields #[f0,.bool f1,.bool AB,.ref (n+2),.ref (n+3)],slots:=#[] }/\(f0=.none\/∃T:Nat,f0=J3 T)
 ti:NJ h (n+2) (.ref n) (.ref (n+1))
 to:∃a b,NJ h (n+3) a b
 k1:h.IsTupleIter n l1 i
 k2:h.IsTupleIter (n+1) l2 i
theorem sS{t:AQ}(x:h.IsTupleIter it t i)(k:∀o,h.get? it=AA o->h'.get? it=AA o):h'.IsTupleIter it t i:=let ⟨o,e,r⟩:=x;{o,k o e,r}
theorem Nc{t:AQ}{CP:Array AI}(x:h.IsTuple t CP)(k:∀o,h.get? t=AA o->h'.get? t=AA o):h'.IsTuple t CP:=let ⟨o,e,r⟩:=x;{o,k o e,r}
theorem ZipSt.keep{n:AQ}(z:ZipSt h n l1 l2 i)(k:∀b∈[n,n+1,n+2,n+3,n+4],∀o,h.get? b=AA o->h'.get? b=AA o):ZipSt h' n l1 l2 i:=by
 obtain⟨f0,f1,e,r⟩:=z.zo;obtain⟨a,b,to⟩:=z.to;exact{{f0,f1,k _ 's' _ e,r},k _ 's' _ z.ti,{a,b,k _ 's' _ to},sS z.k1 (k _ 's'),sS z.k2 (k _ 's')}
def Dy(n:AQ)(h h':D0):Prop:=∀c o,c≠n->c≠n+1->c≠n+3->c≠n+4->h.get? c=AA o->h'.get? c=AA o
abbrev fY(h:D0)(n:AQ)(f0:AI)(f1:Bool):Prop:=h.get? (n+4)=AA { cls:=.type "zip",dict:=AH,data:=.fields #[f0,.bool f1,.bool AB,.ref (n+2),.ref (n+3)],slots:=#[] }
def F0(f0:AI):Prop:=f0=.none\/∃T:Nat,f0=J3 T
theorem zI(a:AQ)(h:D0):FI a h h:={rfl,λ_ _=>rfl}
theorem Tq{n:AQ}{f0:AI}{f1:Bool}{Q:Bool->AN->Prop}(hz:fY s.heap n f0 f1)(hf:F0 f0)
  (h:∀b h' f1,fY h' n f0 f1->FI (n+4) s.heap h'->Q b { s with heap:=h' }):A4 (A3 prog w) A (FD (.ref (n+4))) Q E s:=by
 unfold FD;rcases hf with rfl|⟨T,rfl⟩
 .exact AD (DL hz rfl (x:=.none) rfl (wpAny_pure (h AG s.heap f1 hz (zI _ _))))
 .refine AD (DL hz rfl (x:=J3 T) rfl ?_)
  show A4 _ _ (loadIfAlive (T:Int).toNat >>= _) _ _ _;refine AD (zTR ?_)
  cases e:(s.heap.get? (T:Int).toNat).isNone with
  |true=>exact wpAny_pure (h AG s.heap f1 hz (zI _ _))
  |false =>
   simp only[EJ,if_false];refine AD (DL hz rfl (x:=.bool f1) rfl ?_)
   cases f1 with
   |true =>
    exact wpAny_pure (h AB s.heap AG hz (zI _ _))
   |false =>
    show A4 _ _ (jG (.ref (n+4)) 1 (.bool AG) >>= _) _ _ _;exact AD (FQ hz 's' λh' Jy VX=>wpAny_pure (h AB h' AG Jy VX))
def uN(n l:AQ):Prop:=l≠n/\l≠n+1/\l≠n+3/\l≠n+4
theorem XJ{t:AQ}{CP:Array AI}(k:h.IsTuple t CP)(hs:FI a h h')(ne:t≠a):h'.IsTuple t CP:=Nc k λo e=>hs.extBut _ _ ne e
theorem SW{t l:AQ}(k:h.IsTupleIter t l i)(hs:FI a h h')(ne:t≠a):h'.IsTupleIter t l i:=sS k λo e=>hs.extBut _ _ ne e
theorem ZM(h:j≠k):n+j≠n+k:=by lia
theorem kF(h:k≠0):n≠n+k:=by lia
theorem zW0{n:AQ}{xs ys:Array AI}{x y:AI}{Q:Option AI->AN->Prop}(z:ZipSt s.heap n l1 l2 i)(o1:uN n l1)(o2:uN n l2)
  (eA:s.heap.IsTuple l1 xs) (bT:s.heap.IsTuple l2 ys) (hx:xs[i]?=AA x) (hy:ys[i]?=AA y)
  (hQ:∀h',ZipSt h' n l1 l2 (i+1)->NJ h' s.heap.objs.size x y->h'.objs.size=s.heap.objs.size+1->Dy n s.heap h'->Q (AA (.ref s.heap.objs.size)) { s with heap:=h' }) :
  A4 (A3 prog w) A (NF (.ref (n+4))) Q E s:=by
 obtain⟨f0,f1,hz,hf⟩:=z.zo;obtain⟨a,b,rW⟩:=z.to;have rX:=z.ti;have k1:=z.k1;have k2:=z.k2;obtain⟨p1,p2,p3,p4⟩:=o1;obtain⟨q1,q2,q3,q4⟩:=o2;have hT:s.TypeIs (.ref (n+4)) "zip":={_,hz,rfl};have gH:n+3≠n+4:=ZM 'd';have pH:n+2≠n+4:=ZM 'd';have eL:n+1≠n+4:=ZM 'd';have eM:n≠n+4:=kF 'd';have lM:n+1≠n+3:=ZM 'd';have sB:n≠n+3:=kF 'd';have pJ:n≠n+1:=kF 'd';have Mj:n+2≠n+3:=ZM 'd';have Cg:n+2≠n+1:=ZM 'd';have Ch:n+2≠n:=(kF 'd').symm;unfold NF;refine AD (JS (DM (name:=GV "__next__") hT F.slot_zip_next (DX F.slot_zip_next hT F.entry_zip_next ?_ (F.args_zip_next_1 _))));show A4 _ _ (bZ (.ref (n+4)) 2 >>= _) _ _ _;refine AD (DL hz rfl (x:=.bool AB) rfl ?_);show A4 _ _ (bZ (.ref (n+4)) 3 >>= _) _ _ _;refine AD (DL hz rfl (x:=.ref (n+2)) rfl ?_);refine AD (HF rX rfl ?_);show A4 _ _ (FD (.ref (n+4)) >>= _) _ _ _;refine AD (Tq hz hf λfr h₀ g1 UB IW=>?_);have XV:NJ h₀ (n+3) a b:=IW.extBut _ _ gH rW;have SE:=SW k1 IW eM;have WD:=SW k2 IW eL;have SD:=XJ eA IW p4;have WC:=XJ bT IW q4;have hTI₀:NJ h₀ (n+2) (.ref n) (.ref (n+1)):=IW.extBut _ _ pH rX
 cases fr with
 |true =>
  simp only[if_true];refine AD (GK ?_);refine AD (DL UB rfl (x:=.ref (n+3)) rfl ?_);refine AD (FQ UB 's' λKH Q2 KI=>?_);replace Q2:fY KH n .ellipsis g1:=Q2;refine AD ?_;simp only[RY,jO,OE,MG];refine AD (AD (OA ?_));show A4 _ _ (CA (.ref n) >>= _) _ _ _;refine AD (qP (SW SE KI eM) (XJ SD KI p4) hx λOO WE GZ=>wpAny_pure ?_);have SG:NJ OO (n+3) a b:=GZ.extBut _ _ sB.symm (KI.extBut _ _ gH XV);refine AD (HF SG rfl ?_);refine AD (QM SG λoK U3 MD=>?_);replace U3:NJ oK (n+3) x b:=U3;refine AD (VZ (wpAny_pure ?_));refine AD (AD (OA ?_));show A4 _ _ (CA (.ref (n+1)) >>= _) _ _ _;refine AD (qP (SW (SW (SW WD KI eL) GZ pJ.symm) MD lM) (XJ (XJ (XJ WC KI q4) GZ q1) MD q3) hy λPK dM LK=>wpAny_pure ?_);have eK:NJ PK (n+3) x b:=LK.extBut _ _ lM.symm U3;refine AD (HF eK rfl ?_);refine AD (QM eK λON U2 Q3=>?_);replace U2:NJ ON (n+3) x y:=U2;refine AD (VZ (wpAny_pure (wpAny_pure ?_)));refine AD (HF U2 rfl ?_);refine AD (XZ ?_);have hsz:ON.objs.size=s.heap.objs.size:=by rw[Q3.1,LK.1,MD.1,GZ.1,KI.1,IW.1]
  have kU:fY ON n .ellipsis g1:=Q3.extBut _ _ gH.symm (LK.extBut _ _ eL.symm (MD.extBut _ _ gH.symm (GZ.extBut _ _ eM.symm Q2)))
  have k8:∀c o,c≠n+4->c≠n+3->c≠n->c≠n+1->s.heap.get? c=AA o->ON.get? c=AA o:=λc o c1 c2 c3 c4 e =>
   Q3.extBut _ _ c2 (LK.extBut _ _ c4 (MD.extBut _ _ c2 (GZ.extBut _ _ c3 (KI.extBut _ _ c1 (IW.extBut _ _ c1 e)))))
  have wH:ON.IsTupleIter n l1 (i+1):=SW (SW (SW WE MD sB) LK pJ) Q3 sB;have wG:ON.IsTupleIter (n+1) l2 (i+1):=SW dM Q3 lM;have wK:n+4<ON.objs.size:=BB kU;show A4 _ _ (MH (.ref (n+4)) (.ref ON.objs.size) >>= _) _ _ _;refine AD ?_;unfold MH;have wJ:fY (ON.push { cls:=.type "tuple",data:=.seq #[x,y] }) n .ellipsis g1:=AJ _ kU;refine AD (FQ wJ 's' λJx dQ dW=>?_);replace dQ:fY Jx n (J3 ON.objs.size) g1:=dQ;refine FQ dQ 's' λZ2 dP dU=>?_;replace dP:fY Z2 n (J3 ON.objs.size) AB:=dP;have up:∀c o,c≠n+4->ON.get? c=AA o->Z2.get? c=AA o:=λc o c1 e=>dU.extBut _ _ c1 (dW.extBut _ _ c1 (AJ _ e));have lJ:NJ Z2 ON.objs.size x y:=dU.extBut _ _ (GW wK) (dW.extBut _ _ (GW wK) (AW _ rfl));have Zf:Z2.objs.size=ON.objs.size+1:=by rw[dU.1,dW.1,EC]
  have zs:ZipSt Z2 n l1 l2 (i+1):={{_,_,dP,.inr {_,rfl}},up _ _ pH (k8 _ _ pH Mj Ch Cg rX),{x,y,up _ _ gH U2},sS wH λo e=>up _ o eM e,sS wG λo e=>up _ o eL e};rw[hsz] at lJ Zf;refine wpAny_pure {_,rfl,wpAny_pure ?_};show Q (AA (.ref ON.objs.size)) _;rw[hsz];exact hQ Z2 zs lJ Zf λc o c1 c2 c3 c4 e=>up c o c4 (k8 c o c4 c3 c1 c2 e)
 |false =>
  simp only[EJ,if_false];refine AD ?_;rw[<-aW];simp only[OE,MG];refine AD (AD (DP ?_));show A4 _ _ (CA (.ref n) >>= _) _ _ _;refine AD (qP SE SD hx λOO WE GZ=>wpAny_pure (wpAny_pure ?_));refine AD (AD (DP ?_));show A4 _ _ (CA (.ref (n+1)) >>= _) _ _ _;refine AD (qP (SW WD GZ pJ.symm) (XJ WC GZ q1) hy λPK dM LK=>wpAny_pure (wpAny_pure (wpAny_pure ?_)));refine AD (XZ (items:=[x,y]) ?_);have hsz:PK.objs.size=s.heap.objs.size:=by rw[LK.1,GZ.1,IW.1]
  have eC:∀c o,c≠n+4->c≠n->c≠n+1->s.heap.get? c=AA o->PK.get? c=AA o:=λc o c1 c3 c4 e=>LK.extBut _ _ c4 (GZ.extBut _ _ c3 (IW.extBut _ _ c1 e))
  have zs:ZipSt (PK.push { cls:=.type "tuple",data:=.seq #[x,y] }) n l1 l2 (i+1):=ZipSt.keep (h:=PK) {{f0,g1,LK.extBut _ _ eL.symm (GZ.extBut _ _ eM.symm UB),hf},eC _ _ pH Ch Cg rX,{a,b,eC _ _ gH sB.symm lM.symm rW},SW WE LK pJ,dM}
   λb _ o e=>AJ _ e
  refine wpAny_pure {_,rfl,wpAny_pure ?_};show Q (AA (.ref PK.objs.size)) _;have hP:NJ (PK.push { cls:=.type "tuple",data:=.seq #[x,y] }) PK.objs.size x y:=AW _ rfl;have VX:(PK.push { cls:=.type "tuple",data:=.seq #[x,y] }).objs.size=PK.objs.size+1:=EC ..;rw[hsz] at hP VX ⊢;exact hQ _ zs hP VX λc o c1 c2 c3 c4 e=>AJ _ (eC c o c4 c1 c2 e)
theorem yBB{n:AQ}{xs ys:Array AI}{Q:Option AI->AN->Prop}(hh:A.handled=AH)(z:ZipSt s.heap n l1 l2 i)(o1:uN n l1)(o2:uN n l2)
  (eA:s.heap.IsTuple l1 xs) (bT:s.heap.IsTuple l2 ys) (i8:xs[i]?=AH\/ys[i]?=AH)
  (hQ:∀h',Dy n s.heap h'->Q AH { s with heap:=h' }):A4 (A3 prog w) A (NF (.ref (n+4))) Q E s:=by
 obtain⟨f0,f1,hz,hf⟩:=z.zo;obtain⟨a,b,rW⟩:=z.to;have rX:=z.ti;have k1:=z.k1;have k2:=z.k2;obtain⟨p1,p2,p3,p4⟩:=o1;obtain⟨q1,q2,q3,q4⟩:=o2;have hT:s.TypeIs (.ref (n+4)) "zip":={_,hz,rfl};have gH:n+3≠n+4:=ZM 'd';have pH:n+2≠n+4:=ZM 'd';have eL:n+1≠n+4:=ZM 'd';have eM:n≠n+4:=kF 'd';have lM:n+1≠n+3:=ZM 'd';have sB:n≠n+3:=kF 'd';have pJ:n≠n+1:=kF 'd'
 have fin:∀{h':D0} {e:AQ},(∃o,h'.get? e=AA o/\o.cls=.type "StopIteration")->Dy n s.heap h' ->
   A4 (A3 prog w) A (isInstance (.ref e) (.type "StopIteration") >>= λb=>if b=AG then pure AH else throw (.ref e)) Q E { s with heap:=h' }:=λ{h' e} he hk=>by
  obtain⟨o,ho,hc⟩:=he;exact AD (wpAny_isInstance (T:="StopIteration") (b:=AG) {o,ho,hc} isSubtype_stop (wpAny_pure (hQ _ hk)))
 unfold NF;refine AD (JS (DM (name:=GV "__next__") hT F.slot_zip_next (DX F.slot_zip_next hT F.entry_zip_next ?_ (F.args_zip_next_1 _))));show A4 _ _ (bZ (.ref (n+4)) 2 >>= _) _ _ _;refine AD (DL hz rfl (x:=.bool AB) rfl ?_);show A4 _ _ (bZ (.ref (n+4)) 3 >>= _) _ _ _;refine AD (DL hz rfl (x:=.ref (n+2)) rfl ?_);refine AD (HF rX rfl ?_);show A4 _ _ (FD (.ref (n+4)) >>= _) _ _ _;refine AD (Tq hz hf λfr h₀ g1 UB IW=>?_);have XV:NJ h₀ (n+3) a b:=IW.extBut _ _ gH rW;have SE:=SW k1 IW eM;have WD:=SW k2 IW eL;have SD:=XJ eA IW p4;have WC:=XJ bT IW q4
 cases fr with
 |true =>
  simp only[if_true];refine AD (GK ?_);refine AD (DL UB rfl (x:=.ref (n+3)) rfl ?_);refine AD (FQ UB 's' λKH Q2 KI=>?_);replace Q2:fY KH n .ellipsis g1:=Q2;refine AD ?_;simp only[RY,jO,OE,MG];refine AD (AD (OA ?_));show A4 _ _ (CA (.ref n) >>= _) _ _ _
  cases hx:xs[i]? with
  |none =>
   refine AD (zJ hh (SW SE KI eM) (XJ SD KI p4) hx λOO e GZ he=>?_);obtain⟨oe,oZ,xE⟩:=he;have kX:fY OO n .ellipsis g1:=GZ _ _ eM.symm Q2;have Lc:e≠n+4:=λx=>by subst x;rw[kX] at oZ;cases oZ;simp at xE
   exact FQ kX 's' λoK _ MD=>fin {oe,MD.extBut _ _ Lc oZ,xE} λc o c1 c2 c3 c4 x=>MD.extBut _ _ c4 (GZ _ _ c1 (KI.extBut _ _ c4 (IW.extBut _ _ c4 x)))
  |some x =>
   have hy:ys[i]?=AH:=by rcases i8 with h|h;rw[hx] at h;cases h;exact h
   refine AD (qP (SW SE KI eM) (XJ SD KI p4) hx λOO WE GZ=>wpAny_pure ?_);have SG:NJ OO (n+3) a b:=GZ.extBut _ _ sB.symm (KI.extBut _ _ gH XV);refine AD (HF SG rfl ?_);refine AD (QM SG λoK U3 MD=>?_);refine AD (VZ (wpAny_pure ?_));refine AD (AD (OA ?_));show A4 _ _ (CA (.ref (n+1)) >>= _) _ _ _;refine AD (zJ hh (SW (SW (SW WD KI eL) GZ pJ.symm) MD lM) (XJ (XJ (XJ WC KI q4) GZ q1) MD q3) hy λPK e LK he=>?_);obtain⟨oe,oZ,xE⟩:=he;have kW:fY PK n .ellipsis g1:=LK _ _ eL.symm (MD.extBut _ _ gH.symm (GZ.extBut _ _ eM.symm Q2));have Lc:e≠n+4:=λx=>by subst x;rw[kW] at oZ;cases oZ;simp at xE
   exact FQ kW 's' λON _ Q3=>fin {oe,Q3.extBut _ _ Lc oZ,xE} λc o c1 c2 c3 c4 x=>Q3.extBut _ _ c4 (LK _ _ c2 (MD.extBut _ _ c3 (GZ.extBut _ _ c1 (KI.extBut _ _ c4 (IW.extBut _ _ c4 x)))))
 |false =>
  simp only[EJ,if_false];refine AD ?_;rw[<-aW];simp only[OE,MG];refine AD (AD (DP ?_));show A4 _ _ (CA (.ref n) >>= _) _ _ _
  cases hx:xs[i]? with
  |none =>
   refine AD (zJ hh SE SD hx λOO e GZ he=>?_);exact fin he λc o c1 c2 c3 c4 x=>GZ _ _ c1 (IW.extBut _ _ c4 x)
  |some x =>
   have hy:ys[i]?=AH:=by rcases i8 with h|h;rw[hx] at h;cases h;exact h
   refine AD (qP SE SD hx λOO WE GZ=>wpAny_pure (wpAny_pure ?_));refine AD (AD (DP ?_));show A4 _ _ (CA (.ref (n+1)) >>= _) _ _ _;refine AD (zJ hh (SW WD GZ pJ.symm) (XJ WC GZ q1) hy λPK e LK he=>?_);exact fin he λc o c1 c2 c3 c4 x=>LK _ _ c2 (GZ.extBut _ _ c1 (IW.extBut _ _ c4 x))
theorem Inv.turnedL(I:Inv X pins σ H s)(hf:∀b∈fp,FpOk X pins H b)(k:∀b o,b∉fp->s.heap.get? b=AA o->h'.get? b=AA o):Inv X pins σ H { s with heap:=h',toks:=t' }:=by
 have vW:∀b u,H b=AA u->b∉fp:=λb u e z=>by rw[(hf b z).1] at e;cases e
 refine I.step (g':=s.gens) (d':=s.drawn) (ch:=fp) (λb hb=>?_) (λb o _ _ hc e _=>k b o hc e) (λb o _ _ hc e _=>{o.slots,k b o hc e}) (λ_ _ _ _ n=>n)
  (λb o hc e=>{o,k b o hc e}) (λ_ _ e=>e) (λ_ _ _ e=>e) (λb t ps e=>{#[],by rw[e];simp}) (λm hm=>?_) (λb u e=>?_) I.bare
 .obtain⟨f0,f1,f2,f3,f4,f5⟩:=hf b hb
  exact{f3,f1,f4,f5}
 .obtain⟨o,es,ep,ho,r⟩:=hm
  exact{o,es,ep,k _ o (λz=>(hf _ z).2.1 rfl) ho,r}
 .refine(I.hok b u e).stay (λc v hc q=>k c v ?_ q) (λ_ q=>q) (λ_ _ q=>q) λ_ _ _ q=>q
  rcases hc with z|z
  .rw[z];exact vW b u e
  .exact vW c _ z
theorem FpOk.off{xs:List V}(I:Inv X pins σ H s)(hf:∀b∈fp,FpOk X pins H b)(h:SqT X.K H a xs):a∉fp:=λz=>by
 obtain⟨f0,f1,f2,f3,f4,f5⟩:=hf a z;rcases h with h|⟨o,CP,n,hk,_⟩
 .rcases h with h|⟨o,h⟩
  .rw[f0] at h;cases h
  .rw[f0] at h;cases h
 .have hb:=I.ok.mod.kin a o hk
  rcases f3 with f3|f3
  .exact I.ok.noex a o hb f3
  .exact absurd (AM (BB hb) I.ok.bsz) (QT.mpr f3)
theorem yE3{n:AQ}{Q:Unit → AN → Prop}(z : ZipSt s.heap n l1 l2 i)(h : ∀ h', ZipSt h' n l1 l2 i → FI (n + 4) s.heap h' → Q () { s with heap := h' }) :
    A4 (A3 prog w) A (G0 tg (.ref (n + 4)) u) Q E s := by
  have hz := h s.heap z (zI _ _);obtain ⟨f0, f1, e, hf⟩ := id z.zo;unfold G0
  cases tg <;> first
    | exact wpAny_pure hz
    | (cases u <;> first
        | exact wpAny_pure hz
        | (
          refine AD (wpAny_load e ?_);dsimp only;split
          · refine AD (GK ?_)
            show A4 _ _ (jG (.ref (n + 4)) 0 .none) Q E s;refine FQ e 's' fun h' Jy VX => h h' ?_ VX
            obtain ⟨a, b, rW⟩ := z.to;exact {{.none, f1, Jy, .inl rfl}, VX.extBut _ _ (ZM 'd') z.ti, {a, b, VX.extBut _ _ (ZM 'd') rW}, SW z.k1 VX (kF 'd'), SW z.k2 VX (ZM 'd')}
          · exact wpAny_pure hz))
theorem Qw{n:AQ}(z:ZipSt s.heap n l1 l2 i)(h:Q (.ref (n+4)) s):A4 (A3 prog w) A (QP (.ref (n+4))) Q E s:=by
 obtain⟨f0,f1,e,hf⟩:=z.zo;have hT:s.TypeIs (.ref (n+4)) "zip":={_,e,rfl};refine wpAny_pyIter_slot hT F.slot_zip_iter (DX F.slot_zip_iter hT F.entry_zip_iter ?_ (F.args_zip_iter_1 _));show A4 _ _ (ret (.ref (n+4))) _ _ s;exact wpAny_pure {_,rfl,"zip",_,hT,F.slot_zip_next.lookup,h}
noncomputable abbrev zX(h:D0)(l1:AQ):D0:=h.push { cls:=.type "tuple_iterator",data:=.fields #[.ref l1,.int 0 0] }
abbrev zW(h:D0)(l1 l2:AQ):D0:=(zX h l1).push { cls:=.type "tuple_iterator",data:=.fields #[.ref l2,.int 0 0] }
abbrev zV(h:D0)(l1 l2:AQ):D0:=(zW h l1 l2).push { cls:=.type "tuple",data:=.seq #[.ref h.objs.size,.ref (zX h l1).objs.size] }
abbrev zU(h:D0)(l1 l2:AQ):D0:=(zV h l1 l2).push { cls:=.type "tuple",data:=.seq #[.none,.none] }
abbrev mQ(h:D0)(l1 l2:AQ):D0:=(zU h l1 l2).push { cls:=.type "zip",data:=.fields #[.none,.bool AB,.bool AB,.ref (zW h l1 l2).objs.size,.ref (zV h l1 l2).objs.size] }
theorem zR8(l1 l2:AQ)(xs ys:Array AI) :
  Meets (FJ.«zip.__new__» {[.type "zip",.ref l1,.ref l2],[]}) (λ_ R s=>s.heap.IsTuple l1 xs/\s.heap.IsTuple l2 ys /\
   R (.ok (.ret (.ref (zU s.heap l1 l2).objs.size))) { s with heap:=mQ s.heap l1 l2 }) :=
 .of_wp λprog w A R s h=>by
  obtain⟨hp,g,d,tk,os⟩:=s;obtain⟨eA,bT,h⟩:=h;have hsub:=sub_zip;have hL1:Heap.IsTuple (Shared.heap {hp,g,d,tk,os}) l1 xs:=eA;have hL2:Heap.IsTuple (Shared.heap {hp.push { cls:=.type "tuple_iterator",data:=.fields #[.ref l1,.int 0 0] },g,d,tk,os}) l2 ys:=Nc bT λo e=>AJ _ e
  wp_walk using J2 hL1,J2 hL2
  exact{_,rfl,h}
theorem zTS{xs ys:Array AI}(eA:s.heap.IsTuple l1 xs)(bT:s.heap.IsTuple l2 ys)
  (h:∀h',ZipSt h' s.heap.objs.size l1 l2 0->h'.objs.size=s.heap.objs.size+5->(∀c o,s.heap.get? c=AA o->h'.get? c=AA o)->Q (.ref (s.heap.objs.size+4)) { s with heap:=h' }) :
  A4 (A3 prog w) A (call (.type "zip") [.ref l1,.ref l2]) Q E s:=by
 refine callType_new F.called_zip 'd' (F.typeCall_zip_2 _ _) (F.newCall_zip_2 _ _) (λobj=>F.args_object_init_3 obj _ _) F.entry_zip_new
  (zR8 l1 l2 xs ys) {eA,bT,?_}
 have z1:(zX s.heap l1).objs.size=s.heap.objs.size+1:=EC ..;have z2:(zW s.heap l1 l2).objs.size=s.heap.objs.size+2:=by rw[EC,z1]
 have z3:(zV s.heap l1 l2).objs.size=s.heap.objs.size+3:=by rw[EC,z2]
 have z4:(zU s.heap l1 l2).objs.size=s.heap.objs.size+4:=by rw[EC,z3]
 have z5:(mQ s.heap l1 l2).objs.size=s.heap.objs.size+5:=by rw[EC,z4]
 have g5:(mQ s.heap l1 l2).get? (zU s.heap l1 l2).objs.size=AA _:=AW _ rfl;have g4:(mQ s.heap l1 l2).get? (zV s.heap l1 l2).objs.size=AA _:=AJ _ (AW _ rfl);have g3:(mQ s.heap l1 l2).get? (zW s.heap l1 l2).objs.size=AA _:=AJ _ (AJ _ (AW _ rfl));have g2:(mQ s.heap l1 l2).get? (zX s.heap l1).objs.size=AA _:=AJ _ (AJ _ (AJ _ (AW _ rfl)));have g1:(mQ s.heap l1 l2).get? s.heap.objs.size=AA _:=AJ _ (AJ _ (AJ _ (AJ _ (AW _ rfl))));show _/\_;rw[z2,z3,z4] at g5;rw[z1,z2] at g3;rw[z3] at g4;rw[z1] at g2;rw[z4]
 exact{{_,g5,rfl},h _ {{.none,AB,g5,.inl rfl},g3,{_,_,g4},{_,g1,rfl,rfl},{_,g2,rfl,rfl}} z5 λc o x =>
  AJ _ (AJ _ (AJ _ (AJ _ (AJ _ x))))}
def Yf(K:AC)(a b:AQ):It :=
 {λi H=>∃xs ys x y,SqT K H a xs/\SqT K H b ys/\xs[i]?=AA x/\ys[i]?=AA y,
  λi H v H'=>∃p x y,v=.ref p/\H p=AH/\H'=EV H p (.tup [x,y])/\(∀xs,SqT K H a xs->xs[i]?=AA x)/\(∀ys,SqT K H b ys->ys[i]?=AA y),
  λi H=>∃xs ys,SqT K H a xs/\SqT K H b ys/\(xs.length<=i\/ys.length<=i)}
abbrev iR(n:AQ):List AQ:=[n,n+1,n+2,n+3,n+4]
theorem lt5{c S:Nat}(h:c∈[n,n+1,n+2,n+3,n+4])(NY:n+4<S):c<S:=by
 simp only[A9,D6,or_false] at h;lia
theorem Xy{c:Nat}(h:c∈[n,n+1,n+2,n+3,n+4]):n<=c:=by
 simp only[A9,D6,or_false] at h;lia
theorem rG{n:AQ}(h:a∉iR n):uN n a:=by
 simp only[iR,A9,D6,or_false,not_or] at h;exact{h.1,h.2.1,h.2.2.2.1,h.2.2.2.2}
theorem zW1{K:AC}(a b n:AQ):Turn P w K tg (Yf K a b) (iR n) (n+4) (λi h=>ZipSt h n a b i) where
 mem:=by simp
 obj:=λi h st c hc=>by
  obtain⟨f0,f1,e,_⟩:=st.zo;obtain⟨u,v,e3⟩:=st.to;obtain⟨o0,e0,_,d0⟩:=st.k1;obtain⟨o1,e1,_,d1⟩:=st.k2;simp only[iR,A9,D6,or_false] at hc;rcases hc with rfl|rfl|rfl|rfl|rfl
  .exact{_,e0,λv z=>by rw[d0] at z;cases z}
  .exact{_,e1,λv z=>by rw[d1] at z;cases z}
  .exact{_,st.ti,λv z=>by have z':lZ _ _=WS v:=z;cases z'}
  .exact{_,e3,λv z=>by have z':lZ _ _=WS v:=z;cases z'}
  .exact{_,e,λv z=>by have z':ZB _=WS v:=z;cases z'}
 keep:=λi h h' st k=>st.keep k
 item:=by
  intro X hP hw hK hc i pins s σ H E I hf st hg;subst hP hw hK;obtain⟨xs,ys,x,y,Y0,bQ,hx,hy⟩:=hg;obtain⟨dN,Br,p1,wL⟩:=I.tuple Y0;obtain⟨L8,Bq,p2,Z3⟩:=I.tuple bQ;obtain⟨u1,Hw,ru1⟩:=Br.get hx;obtain⟨u2,hu2,ru2⟩:=Bq.get hy;refine zW0 st (rG (FpOk.off I hf Y0)) (rG (FpOk.off I hf bQ)) (show s.heap.IsTuple a dN.toArray from p1) (show s.heap.IsTuple b L8.toArray from p2) (x:=u1) (y:=u2) (by simpa using Hw) (by simpa using hu2) λh' CG hp hsz hk=>?_;refine{_,rfl,yE3 (s:={ s with heap:=h' }) CG λh2 st2 N6=>?_};obtain⟨f0,f1,e4,_⟩:=id st.zo;have NY:∀c∈iR n,c<s.heap.objs.size:=λc hc=>lt5 hc (BB e4);have nin:s.heap.objs.size∉iR n:=λz=>FN _ (NY _ z)
  have I1:Inv X pins σ (EV H s.heap.objs.size (.tup [x,y])) { s with heap:=s.heap.push { cls:=.type "tuple",data:=.seq #[u1,u2] } } :=
   I.laid (t':=s.toks) (λb u e=>AJ _ e) (AO _) {by show 2<=sizeLine;decide,[u1,u2],.cons ru1 (.cons ru2 .nil),{_,AW _ rfl,rfl,rfl,0,rfl}}
  have Zy:∀c∈iR n,FpOk X pins (EV H s.heap.objs.size (.tup [x,y])) c:=λc hc=>{by rw[GP (CH (NY c hc))];exact(hf c hc).1,(hf c hc).2};have n4:n+4∈iR n:=by simp
  have I2:Inv X pins σ (EV H s.heap.objs.size (.tup [x,y])) { s with heap:=h2 }:=I1.turnedL (t':=s.toks) Zy λc o hc e=>by
   have c4:c≠n+4:=λz=>hc (by rw[z];exact n4);refine N6.extBut _ _ c4 ?_
   by_cases lG:c=s.heap.objs.size
   .subst lG
    rw[AW _ rfl] at e;cases e;exact hp
   .have e':s.heap.get? c=AA o:=by
     rw[Heap.get?_push_ne _ _ _ lG] at e;exact e
    obtain⟨q0,q1,q3,q4⟩:=rG hc;exact hk c o q0 q1 q3 q4 e'
  exact{.ref s.heap.objs.size,_,I2,rfl,{_,x,y,rfl,I.fresh,rfl,λzs hz=>by rw[I.tuple_inj hz Y0];exact hx,λzs hz=>by rw[I.tuple_inj hz bQ];exact hy},st2,λc hc=>(Zy c hc).1}
 done:=by
  intro X hP hw hK hc i pins s σ H E I hf st hg;subst hP hw hK;obtain⟨xs,ys,Y0,bQ,hx⟩:=hg;obtain⟨dN,Br,p1,wL⟩:=I.tuple Y0;obtain⟨L8,Bq,p2,Z3⟩:=I.tuple bQ;have l1:=Br.length;have l2:=Bq.length;refine yBB (I.ok.hd hc) st (rG (FpOk.off I hf Y0)) (rG (FpOk.off I hf bQ)) (show s.heap.IsTuple a dN.toArray from p1) (show s.heap.IsTuple b L8.toArray from p2) (hx.imp (λh=>by simp;lia) (λh=>by simp;lia)) λh' hk=>{rfl,I.turnedL (t':=s.toks) hf λc o hc e=>?_};obtain⟨q0,q1,q3,q4⟩:=rG hc;exact hk c o q0 q1 q3 q4 e
 self:=λ_ _ _ _ _ st h=>Qw st h
def yKU(K:AC)(ta:TA):TI:=λσ H R=>ta σ H λvs H1=>∃a b,vs=[.ref a,.ref b]/\(∃xs,SqT K H1 a xs)/\(∃ys,SqT K H1 b ys)/\R (Yf K a b) H1
theorem yE4{a b:C5}{ta:TA}(hg:Gl X "zip")(hm:X.mg "zip"=AH)(ha:PA X [a,b] ta)(hs:AF [a,b] X.env=[(AB,eval a X.env),(AB,eval b X.env)]:=by rfl)(N6:AF [b] X.env=[(AB,eval b X.env)]:=by rfl) :
  PI X tg (.Call (.Name "zip" p) [a,b] [] pos) (yKU X.K ta):=by
 intro pins s σ H R I h;refine Call_ (qA I hg hm (u:=.type "zip") (by decide +kernel) (G8 (GY (ha pos pins s σ H _ I h) λus s1 ⟨vs,H1,I1,r1,q1⟩=>?_) (by rw[hs,N6]) (by rw[N6];rfl)));obtain⟨c,d,e,⟨xs,Y0⟩,⟨ys,bQ⟩,q⟩:=q1;subst e
 cases r1 with
 |cons r rr =>
  cases rr with
  |cons r' rr =>
   cases rr;cases r;cases r';obtain⟨dN,Br,p1,wL⟩:=I1.tuple Y0;obtain⟨L8,Bq,p2,Z3⟩:=I1.tuple bQ;refine zTS (show s1.heap.IsTuple c dN.toArray from p1) (show s1.heap.IsTuple d L8.toArray from p2) λh' st hsz k=>?_;refine Qw (s:={ s1 with heap:=h' }) st ?_;refine{s1.heap.objs.size+4,iR s1.heap.objs.size,_,_,H1,rfl,I1.kept (t':=s1.toks) k,zW1 c d _,st,λb hb=>?_,q};exact I1.fpOk (Xy hb) (I1.hok.fresh (Xy hb))
mutual
inductive DV(K:AC)(H:Hp):V->GB->Prop
 |non:DV K H .non .none
 |bl (b:Bool):DV K H (.bl b) (.bool b)
 |int (i:Int):DV K H (.int i) (.int i)
 |str (x:BL):HS (.str x)=AG->DV K H (.str x) (.str x)
 |tup {a:AQ} {xs:List V} {ds:List GB}:SqT K H a xs->DVs K H xs ds->DV K H (.ref a) (.tuple ds)
 |lst {a:AQ} {xs:List V} {ds:List GB}:SqL K H a xs->DVs K H xs ds->DV K H (.ref a) (.list ds)
inductive DVs(K:AC)(H:Hp):List V->List GB->Prop
 |nil:DVs K H [] []
 |cons {x:V} {d:GB} {xs:List V} {ds:List GB}:DV K H x d->DVs K H xs ds->DVs K H (x::xs) (d::ds)
end
theorem DV.ind{K:AC}{P:V->GB->Prop}{Q:List V->List GB->Prop}(h1:P .non .none)(h2:∀b,P (.bl b) (.bool b))(h3:∀i,P (.int i) (.int i))(h4:∀x,HS (.str x)=AG->P (.str x) (.str x))
  (h5:∀{a xs ds},SqT K H a xs->DVs K H xs ds->Q xs ds->P (.ref a) (.tuple ds)) (h6:∀{a xs ds},SqL K H a xs->DVs K H xs ds->Q xs ds->P (.ref a) (.list ds))
  (q1:Q [] []) (q2:∀{x d xs ds},DV K H x d->DVs K H xs ds->P x d->Q xs ds->Q (x::xs) (d::ds)):(∀{v d},DV K H v d->P v d)/\∀{v d},DVs K H v d->Q v d :=
 {λh=>DV.rec (motive_1:=λv d _=>P v d) (motive_2:=λv d _=>Q v d) h1 h2 h3 h4 h5 h6 q1 q2 h,λh=>DVs.rec (motive_1:=λv d _=>P v d) (motive_2:=λv d _=>Q v d) h1 h2 h3 h4 h5 h6 q1 q2 h}
theorem pA1{K:AC}:(∀{v d},DV K H v d->d.canLay0=AG)/\∀{v d},DVs K H v d->FR d=AG :=
 DV.ind (P:=λ_ d=>d.canLay0=AG) (Q:=λ_ d=>FR d=AG) rfl (λ_=>rfl) (λ_=>rfl) (λ_ h=>h) (λ_ _ h=>by rw[HS];exact h) (λ_ _ h=>by rw[HS];exact h) rfl (λ_ _ h t=>by rw[FR,h,t];rfl)
theorem DV.can{K:AC}{v:V}{d:GB}(h:DV K H v d):d.canLay0=AG:=pA1.1 h
theorem DVs.can{K:AC}{v:List V}{d:List GB}(h:DVs K H v d):FR d=AG:=pA1.2 h
theorem pA2(I:Inv X pins σ H s):(∀{v d},DV X.K H v d->∀u,RelV v u->∃as,cA s.heap u d as)/\∀{v d},DVs X.K H v d->∀u,Vals v u->∃as,X7 s.heap u d as:=by
 refine DV.ind (P:=λv d=>∀u,RelV v u->∃as,cA s.heap u d as) (Q:=λv d=>∀u,Vals v u->∃as,X7 s.heap u d as) ?_ ?_ ?_ ?_ ?_ ?_ ?_ ?_
 .intro _ r;cases r;exact{_,.none}
 .intro b _ r;cases r;exact{_,.bool b}
 .intro i _ r;obtain⟨t,rfl⟩:=r;exact{_,.int i t}
 .intro x _ _ r;obtain⟨t,rfl⟩:=r;exact{_,.str x t}
 .intro a xs ds hq _ ih _ r
  cases r;obtain⟨CP,rv,⟨o,ho,hc,n,hd⟩,hz⟩:=I.tuple hq;obtain⟨as,ra⟩:=ih _ rv;exact{as,.tuple ho hc hd (by simpa using ra)}
 .intro a xs ds hq _ ih _ r
  cases r;obtain⟨CP,rv,pl,hz⟩:=I.list hq;obtain⟨o,ho,hc,n,hd⟩:=pl.isList;obtain⟨as,ra⟩:=ih _ rv;exact{_,.list ho hc hd (by simpa using ra)}
 .intro _ r;cases r;exact{_,.nil}
 .intro x d xs ds _ _ h t _ r
  cases r with
  |cons r1 r2 =>
   obtain⟨as,ra⟩:=h _ r1;obtain⟨bs,rb⟩:=t _ r2;exact{_,.cons ra rb}
theorem DV.reads(I:Inv X pins σ H s){v:V}{d:GB}(h:DV X.K H v d)(r:RelV v u):∃as,cA s.heap u d as:=(pA2 I).1 h u r
theorem DVs.reads(I:Inv X pins σ H s){v:List V}{d:List GB}(h:DVs X.K H v d){u:List AI}(r:Vals v u):∃as,X7 s.heap u d as:=(pA2 I).2 h u r
def Av(K:AC)(dJ:Bool):R2:=λx y H Q=>∃d e,DV K H x d/\DV K H y e/\min d.depth e.depth<=60/\Q (.bl (if dJ then !DO d e else DO d e)) H
theorem Nb(hu:X.A.units+64<G3):OpR X (CO .Eq) (Av X.K AB):=by
 intro pins s σ H x y v u Q I rx ry h;obtain⟨d,e,hd,he,hm,q⟩:=h;obtain⟨as,ra⟩:=hd.reads I rx;obtain⟨bs,rb⟩:=he.reads I ry;exact SeqAt.compareEq_reads ra rb hd.can he.can 'l' {.bl _,H,I,rfl,q}
theorem Na(hu:X.A.units+64<G3):OpR X (CO .NotEq) (Av X.K AG):=by
 intro pins s σ H x y v u Q I rx ry h;obtain⟨d,e,hd,he,hm,q⟩:=h;obtain⟨as,ra⟩:=hd.reads I rx;obtain⟨bs,rb⟩:=he.reads I ry;exact SeqAt.compareNe_reads ra rb hd.can he.can 'l' {.bl _,H,I,rfl,q}
open Classical in
noncomputable def iS(h:D0)(e:GB)(y:AI):Bool:=if z:∃(d:GB) (as:List AQ),cA h y d as then DO z.choose e else AB
theorem Da{e d:GB}{y:AI}{as:List AQ}(r:cA h y d as):iS h e y=DO d e:=by
 have z:∃(d:GB) (as:List AQ),cA h y d as:={d,as,r};unfold iS;rw[dif_pos z];obtain⟨as',r'⟩:=z.choose_spec;rw[(cA.unique r _ _ r').1]
theorem Ui:∀{us:List AI} {ds:List GB} {as:List AQ},X7 h us ds as->∀u∈us,∃d∈ds,∃bs,cA h u d bs:=by
 intro us
 induction us with
 |nil=>intro _ _ _ u hu;cases hu
 |cons v us ih =>
  intro ds as h u hu
  cases h with
  |cons r t =>
  rcases A9.mp hu with rfl|hu
  .exact{_,AU,_,r}
  .obtain⟨d,hd,bs,q⟩:=ih t u hu
   exact{d,AS _ hd,bs,q}
theorem Uh{e:GB}:∀{us:List AI} {ds:List GB} {as:List AQ},X7 h us ds as->us.any (iS h e)=ds.any λd=>DO d e:=by
 intro us
 induction us with
 |nil=>intro ds as h;cases h;rfl
 |cons v us ih =>
  intro ds as h
  cases h with
  |cons r t=>rw[FZ,FZ,Da r,ih t]
theorem Dx:∀{ds:List GB},FR ds=AG->∀d∈ds,d.canLay0=AG
 |[],_,d,hd=>by cases hd
 |x::ds,h,d,hd=>by
  rw[FR,BE] at h;rcases A9.mp hd with rfl|hd
  .exact h.1
  .exact Dx h.2 d hd
def Au(K:AC)(dJ:Bool):R2:=λx y H Q=>∃p xs ds e,y=.ref p/\(SqL K H p xs\/SqT K H p xs)/\DVs K H xs ds/\DV K H x e/\e.depth<=60 /\
 Q (.bl (if dJ then !(ds.any λd=>DO d e) else ds.any λd=>DO d e)) H
theorem yE5(hu:X.A.units+64<G3):OpR X (CO .In) (Au X.K AB):=by
 intro pins s σ H x y v u Q I rx ry h;obtain⟨p,xs,ds,e,rfl,hq,gF,hx,hm,q⟩:=h;cases ry;obtain⟨bs,rb⟩:=hx.reads I rx
 have Hw:X.A.in1.units+61<G3:=by
  have:X.A.in1.units<=X.A.units+1:=by first|exact AO _|simp[Around.in1]
  lia
 rcases hq with hq|hq
 .obtain⟨CP,r,pl,hz⟩:=I.list hq
  obtain⟨as,ra⟩:=gF.reads I r;refine SeqAt.in_listAt (iS s.heap e) pl.isList (λw hw=>?_) {.bl _,H,I,rfl,?_}
  .obtain⟨d,hd,cs,rd⟩:=Ui ra w (by simpa using hw)
   rw[Da rd];exact eT d e _ s w v cs bs rd rb (Dx gF.can d hd) hx.can 'l'
  .rw[show CP.toArray.any (iS s.heap e)=CP.any (iS s.heap e) by simp,Uh ra]
   exact q
 .obtain⟨CP,r,pl,hz⟩:=I.tuple hq
  obtain⟨as,ra⟩:=gF.reads I r;refine SeqAt.in_tupleAt (iS s.heap e) pl (λw hw=>?_) {.bl _,H,I,rfl,?_}
  .obtain⟨d,hd,cs,rd⟩:=Ui ra w (by simpa using hw)
   rw[Da rd];exact eT d e _ s w v cs bs rd rb (Dx gF.can d hd) hx.can 'l'
  .rw[show CP.toArray.any (iS s.heap e)=CP.any (iS s.heap e) by simp,Uh ra]
   exact q
def Gr(H H':Hp):Prop:=∀b u,H b=AA u->H' b=AA u
theorem Gr.trans(g:Gr H H1)(g':Gr H1 H2):Gr H H2:=λb u e=>g' b u (g b u e)
theorem Gr.new{p:AQ}(hp:H p=AH):Gr H (EV H p o):=λb u e=>by rw[GP (fV e hp)];exact e
theorem zF6{t sl:AQ}{lo:Option Int}(ht:QU s.heap t items)(hs:s.heap.IsSliceOf sl vl vu .none)(pl:QV vl lo)(pu:QV vu hi)
  (hw:HT.sIx items.size 0 lo=0/\HT.sIx items.size items.size hi=items.size) (h:Q (.ref t) s):A4 (A3 prog w) A (Q5 (.ref t) (.ref sl)) Q E s:=by
 obtain⟨os,oY,lG,gF⟩:=id hs;have Lw:s.TypeIs (.ref sl) "slice":={os,oY,lG};unfold Q5
 try with_reducible refine DP ?_
 first|refine AD (wpAny_pure ?_)|skip
 refine AD (wpAny_sequenceKey ht.typeIs 'd' ?_)
 refine AD (DM (name:=GV "__getitem__") ht.typeIs DT
  (DX DT ht.typeIs lR ?_ (args_tuple_getitem _ _)))
 show A4 _ _ (P0 (.ref t) >>= _) _ _ s;refine AD (tupleItemsOf_ ht ?_);refine AD (eO Lw ?_);rw[if_pos 'd'];refine AD (HT.sliceApplied_gen hs pl pu ?_);rw[hw.1,hw.2];have e:(((0:Nat):Int)==0&&(1:Int)==1&&(items.size-0)==items.size)=AG:=by simp
 show A4 _ _ (if(((0:Nat):Int)==0&&(1:Int)==1&&(items.size-0)==items.size)=AG then _ else _) _ _ s;rw[if_pos e];show A4 _ _ (P1 (.ref t) >>= _) _ _ s;unfold P1;refine AD (AD (eO ht.typeIs (wpAny_pure ?_)));show A4 _ _ (if(aM "tuple"==aM "tuple")=AG then _ else _) _ _ s;rw[if_pos 'd'];exact AD (GK (wpAny_pure {_,rfl,wpAny_pure h}))
theorem yBC{t b:AQ}{vs:List AI}(ht:QU s.heap t vs.toArray)(hb:QU s.heap b ws.toArray)
  (h0:vs=[]->Q (.ref b) s) (h1:vs≠[]->ws=[]->Q (.ref t) s) (h2:vs≠[]->ws≠[]->Q (.ref s.heap.objs.size) { s with heap:=s.heap.push { cls:=.type "tuple",data:=.seq (vs++ws).toArray } })
  (hsz:vs.length+ws.length<=sizeLine):A4 (A3 prog w) A (HH .Add (.ref t) (.ref b)) Q E s:=by
 by_cases hv:vs=[]
 .obtain⟨⟨cls,dd,data,sl⟩,ho,hc,n,hd⟩:=id ht
  obtain⟨⟨pK,bV,data2,bL⟩,WF,Y2,n2,Z7⟩:=id hb;simp only at hc hd Y2 Z7;subst hc hd Y2 Z7
  exact TZ {_,ho,rfl} {_,WF,rfl} U8 aG NI MV (MK _ _)
   (tuple_addW0 t b vs.toArray ws.toArray n n2 dd bV sl bL (by simp[hv])) {ho,WF,h0 hv}
 .exact HT.cat_tup ht hb hv (h1 hv) (h2 hv) hsz
theorem zTU{xs:List V}{lo:Option Int}(h:HT.sIx xs.length 0 lo=0/\HT.sIx xs.length xs.length hi=xs.length):YJ xs lo hi=xs:=by
 unfold YJ;rw[h.1,h.2,OY,Nat.sub_zero,List.take_length]
section
variable(K:AC)
end
theorem zW2{xs:List V}{c:AI}{b:Bool}(I:Inv X pins σ H s)(ha:SqT X.K H a xs)
  (e:BN X.K (.type "tuple") c=AA b) (h:∀tk,Q (.bool b) { s with toks:=tk }):A4 (A3 X.prog X.w) A (call (.builtin "isinstance") [.ref a,c]) Q E s:=by
 obtain⟨CP,r,p,_⟩:=I.tuple ha;obtain⟨o,h1,h2,_⟩:=p;exact C7 X8 I.kIn {o,h1,h2} e (λz=>nomatch z) h
theorem yBD{bs:List Bool}:∀{us:List AI},Vals (bs.map V.bl) us->us=bs.map HX:=by
 induction bs with
 |nil=>intro us r;rw[LZ] at r;cases r;rfl
 |cons b bs ih =>
  intro us r;rw[A1] at r
  cases r with
  |cons r1 r2=>cases r1;rw[ih r2];rfl
theorem zTV(bs:List Bool):(D4 bs.length).all (λi=>bs.getD i AB)=bs.all id:=by
 rw[Bool.eq_iff_iff,EK,EK];constructor
 .intro h b hb
  obtain⟨i,hi,e⟩:=K6.mp hb;have:=h i (JY.mpr hi);rw[F9,BU hi] at this;rw[<-e];exact this
 .intro h i hi
  have hi:=JY.mp hi;rw[F9,BU hi];exact h _ (F7 hi)
theorem zW3(bs:List Bool):TruthOf prog w A (λi v=>(bs.map HX).toArray[i]?=AA v) (λi=>bs.getD i AB):=by
 intro i v s Q E hP hQ;have hP:(bs.map HX)[i]?=AA v:=by simpa using hP
 rw[BA] at hP
 cases e:bs[i]? with
 |none=>rw[e] at hP;cases hP
 |some b =>
  rw[e] at hP;cases hP;refine EY ?_;have e3:bs.getD i AB=b:=by rw[F9,e];rfl
  have hQ:Q (bs.getD i AB) s:=hQ;rw[e3] at hQ;exact hQ
def Vm(K:AC):List V->Hp->VK->Prop:=λxs H Q=>∃(p:AQ) (bs:List Bool),xs=[.ref p]/\SqL K H p (bs.map V.bl)/\Q (.bl (bs.all id)) H
theorem zW4(hc:X.calm=AG):CallR X (.builtin "all") (Vm X.K):=by
 intro pins s σ H xs us Q I r h;obtain⟨p,bs,rfl,hp,q⟩:=h;obtain⟨u,rfl,ru⟩:=VQ r;cases ru;obtain⟨CP,rv,pl,hz⟩:=I.list hp;have e:=yBD rv;subst e;have NY:p<s.heap.objs.size:=by obtain⟨o,ho,_⟩:=pl.isList;exact BB ho
 refine call_all_walk (wpAny_pyIter_list pl.isList ?_);refine{_,_,_,_,_,_,λi=>bs.getD i AB,rfl,Walks.list (by have:=I.ok.hd hc;simp[this]) _ p (CH NY) (bs.map HX).toArray,{{_,AW _ rfl,rfl,rfl},pl.isList.push _},zW3 bs,λh' tk hk=>?_};have e2:(D4 (bs.map HX).toArray.size).all (λi=>bs.getD i AB)=bs.all id:=by simpa using zTV bs
 refine{.bl (bs.all id),H,I.kept (t':=tk) λb o e=>hk b o ?_ (AJ _ e),by rw[e2];rfl,q};simp only[BW];exact CH (BB e)
section
variable{a b x:AI}{T I S:AQ}
end
theorem zTW{l1 l2:List V}(pp:l1.Perm l2):∀ns:List Int,l2=ns.map V.int->∃ms:List Int,l1=ms.map V.int/\ms.Perm ns:=by
 induction pp with
 |nil=>intro ns e;cases ns with|nil=>exact{[],rfl,HL _}|cons _ _=>cases e
 |cons a _ ih =>
  intro ns e
  cases ns with
  |nil=>cases e
  |cons b ns =>
   rw[A1] at e;injection e with e1 e2;obtain⟨ms,h1,h2⟩:=ih ns e2;exact{b::ms,by rw[A1,e1,h1],h2.cons b}
 |swap a b l =>
  intro ns e
  match ns,e with
  |c::d::ns,e =>
   rw[A1,A1] at e;injection e with e1 e2;injection e2 with e2 e3;exact{d::c::ns,by rw[A1,A1,e1,e2,e3],I0 _ _ _}
 |trans _ _ ih1 ih2 =>
  intro ns e;obtain⟨ms,h1,h2⟩:=ih2 ns e;obtain⟨ks,h3,h4⟩:=ih1 ms h1;exact{ks,h3,h4.trans h2}
theorem tL{kvs:List (Key×V)}(x:ObjOk P w H h a (.dK kvs)):∃es ep,RawD h a es ep/\es.size=kvs.length/\kvs.length<=sizeLine /\
  ∀(i:Nat) (hi:i<es.size),∃k:Key,(kvs.map (·.1))[i]?=AA k/\RelV (kV k) es[i].key:=by
 obtain⟨z,y,vs,r,o,es,ep,h1,h2,h3,h4,h5,h6⟩:=x;have hl:es.size=vs.length:=by rw[<-h5.length];simp
 have bT:kvs.length=vs.length:=r.length;refine{es,ep,{{o,h1,h2,h3},y},by lia,z,λi hi=>?_};have SY:i<vs.length:=AM hi (CD hl);obtain⟨e1,_⟩:=h5.get? (i:=i) (e:=es[i]) (k:=vs[i].1) (v:=vs[i].2) (by simp[hi]) (by simp[SY]);refine{vs[i].1,by rw[r.keys];simp[SY],?_};rw[Th] at e1;rcases cV e1 with⟨j,t,z1,z2⟩|⟨y,t,z1,z2⟩
 .rw[z1,z2];exact{t,rfl}
 .rw[z1,z2];exact{t,rfl}
def Yh(d:AQ)(o:IL)(kvs:List (Key×V)):It :=
 {λi H=>i<kvs.length/\H d=AA (.frz o (.dK kvs)),λi H x H'=>H'=H/\∃k,x=kV k/\(kvs.map (·.1))[i]?=AA k,λi H=>kvs.length<=i/\H d=AA (.frz o (.dK kvs))}
theorem Tp{K:AC}(d it:AQ)(o:IL)(kvs:List (Key×V))(es:Array KB)(ep:Nat)(hd:o.data=.dict es ep)(hz:es.size=kvs.length) :
  Turn P w K tg (Yh d o kvs) [it] it (λi h=>h.IsKeyIter it d i es.size ep) where
 mem:=by simp
 obj:=λi h st b hb=>by
  have e:b=it:=by simpa using hb
  subst e;obtain⟨o,e,c,d⟩:=st;exact{o,e,λv z=>by rw[d] at z;cases z}
 keep:=λi h h' st k=>let ⟨o,e,r⟩:=st;{o,k it 's' o e,r}
 item:=by
  intro X hP hw hK hc i pins s σ H E I hf st hg;subst hP hw hK;obtain⟨hi,hk⟩:=hg;obtain⟨ho,hx⟩:=I.hok d _ hk;obtain⟨pF,pG,NA,e1,e2,e3⟩:=tL hx;obtain⟨o',q1,q2,q3⟩:=NA.ex;rw[ho] at q1;cases q1;rw[hd] at q3;injection q3 with q4 q5;subst q4;subst q5;obtain⟨f0,f1,f2,f3,f4,f5⟩:=hf it 's';refine Qx st NA 'l' λh' CG sb=>?_;obtain⟨k,p2,p3⟩:=e3 i 'l';have I1:Inv X pins σ H { s with heap:=h' }:=I.turned (t':=s.toks) (λb ob hb e=>(sb.2 b hb).trans e) f0 f1 f3 f4 f5;obtain⟨oi,e,c,dd⟩:=id CG;refine{_,rfl,pT (s:={ s with heap:=h' }) e c dd 'd' {kV k,H,I1,p3,{rfl,k,rfl,p2},CG,λb hb=>(hf b hb).1}}
 done:=by
  intro X hP hw hK hc i pins s σ H E I hf st hg;subst hP hw hK;obtain⟨hi,hk⟩:=hg;obtain⟨ho,hx⟩:=I.hok d _ hk;obtain⟨pF,pG,NA,e1,e2,e3⟩:=tL hx;obtain⟨o',q1,q2,q3⟩:=NA.ex;rw[ho] at q1;cases q1;rw[hd] at q3;injection q3 with q4 q5;subst q4;subst q5;obtain⟨f0,f1,f2,f3,f4,f5⟩:=hf it 's';exact Pk (I.ok.hd hc) st NA (AV (CD hz) hi) λh' eb=>{rfl,I.turned (t':=s.toks) (λb ob hb e=>eb b ob hb e) f0 f1 f3 f4 f5}
 self:=λ_ _ _ _ _ st h=>jD st h
theorem Inv.freezeK{kvs:List (Key×V)}(I:Inv X pins σ H s)(ha:H a=AA (.dK kvs)) :
  ∃o,s.heap.get? a=AA o/\Inv X pins σ (EV H a (.frz o (.dK kvs))) s:=by
 have x:=I.hok a _ ha;obtain⟨es,ep,⟨⟨o,h1,h2,h3⟩,_⟩,_⟩:=tL x;have kt:∀b ys,H b=AA (.tup ys)->b≠a:=λb ys e z=>by rw[z,ha] at e;cases e
 have ko:∀b y,H b=AA (.own y)->b≠a:=λb y e z=>by rw[z,ha] at e;cases e
 have kf:∀b ob u,H b=AA (.frz ob u)->b≠a:=λb ob u e z=>by rw[z,ha] at e;cases e
 have kb:∀b t ps,H b=AA (.tbl t ps)->b≠a:=λb t ps e z=>by rw[z,ha] at e;cases e
 have kn:∀b,H b=AH->b≠a:=λb e z=>by rw[z,ha] at e;cases e
 refine{o,h1,I.un (t':=s.toks) (h':=s.heap) {λb ob e _ _ _=>e,λb ob e _ _ _=>{ob.slots,e},λb ob e n _=>by rw[GP (kn b n)];exact n,λb ob e _=>{ob,e},λb ys e=>by rw[GP (kt b ys e)];exact e,λb ob u e=>by rw[GP (kf b ob u e)];exact e,λb t ps e=>{#[],by rw[GP (kb b t ps e),e];simp}} λb u e=>?_}
 by_cases hb:b=a
 .subst hb
  rw[JU] at e;cases e;exact{h1,x.stay (λc v _ q=>q) (λc q=>by rw[GP (ko c _ q)];exact q) (λc ys q=>by rw[GP (kt c ys q)];exact q) λc ob x q=>by rw[GP (kf c ob _ q)];exact q}
 .rw[GP hb] at e
  exact(I.hok b u e).stay (λc v _ q=>q) (λc q=>by rw[GP (ko c _ q)];exact q) (λc ys q=>by rw[GP (kt c ys q)];exact q) λc ob x q=>by rw[GP (kf c ob _ q)];exact q
end L2
namespace TS
open PySem PyProof.Rows
section
variable{prog:CF}{w:DJ}{A:DI}{E:AI->AN->Prop}{s:AN}{BP:Array A6}{kd:EZ}{L:A6->A6->Bool}
def V5(prog:CF)(w:DJ)(A:DI)(s:AN)(kd:EZ)(BP:Array A6)(L:A6->A6->Bool):Prop :=
 ∀x y:A6,x∈BP->y∈BP->∀(Q:Bool->AN->Prop) (E:AI->AN->Prop),Q (L x y) s->A4 (A3 prog w) A (keyLt' kd x.1 y.1) Q E s
theorem zH{st:BM}{x y:A6}{Q:Option Bool->BM->Prop}(hA:V5 prog w A s kd BP L)(hk:kindOf st=kd)(hx:x∈BP)(hy:y∈BP)(h:Q (AA (L x y)) st) :
  N9 (A3 prog w) A E s (lt' x y) Q st:=by
 rw[lt'_eq];refine BG (NZ ?_);rw[hk];refine BG (QL (JS (hA x y hx hy _ _ {rfl,?_})));exact A8 h
def Yi(B:Nat->Bool)(n k:Nat):Prop:=k<=n/\(∀i<k,B i=AG)/\∀i,k<=i->i<n->B i=AB
theorem Hm{α β γ:Type}{T:β->γ->StateT BM SM α}{M:Model}{A:DI}{E:AI->AN->Prop}{s:AN}{Q:α->BM->Prop}{st:BM}{N7:Prop}(P:β->γ->Prop)(h1:(∀x y,P x y->N9 M A E s (T x y) Q st)->N7)(h2:∀x y,P x y->N9 M A E s (T x y) Q st):N7:=h1 h2
theorem To{st:BM}{left:Bool}{J9:A6}{G1:Array A6}{base n FL:Nat}{Q:Option Nat->BM->Prop}{B:Nat->Bool}(hA:V5 prog w A s kd BP L)(hk:kindOf st=kd)(PN:J9∈BP)(QI:∀x∈G1,x∈BP)
  (hb:base+n<=G1.size) (hh:FL<n) (hB:∀i (hi:base+i<G1.size),B i=if left then L G1[base+i] J9 else !L J9 G1[base+i]) (iZ:∀i j,i<=j->j<n->B j=AG->B i=AG)
  (h:∀k,Yi B n k->Q (AA k) st):N9 (A3 prog w) A E s (tM left J9 G1 base n FL) Q st:=by
 have hm:∀(i:Nat) (hi:base+i<G1.size),G1[base+i]∈BP:=λi hi=>QI _ (AE hi)
 have pM:∀i j,i<=j->j<n->B i=AB->B j=AB:=λi j MN hj hi=>by
  cases e:B j with
  |false=>rfl
  |true=>rw[iZ i j MN hj e] at hi;cases hi
 have Cj:∀(i:Nat) (hi:i<n) {Q:Option Bool->BM->Prop},Q (AA (B i)) st->N9 (A3 prog w) A E s (do let x <-elem' G1 (base+i);if left=AG then lt' x J9 else return (<-lt' J9 x).map (!·)) Q st:=λi hi {Q} q=>by
  have SY:base+i<G1.size:=AM (A2 hi _) hb;have eB:=hB i SY;refine BG (qS SY (MI (λhl=>zH hA hk (hm _ SY) PN ?_) λhl=>BG (zH hA hk PN (hm _ SY) (A8 ?_))))
  .rw[if_pos hl] at eB;rw[<-eB];exact q
  .rw[if_neg hl] at eB;show Q (AA (!_)) st;rw[<-eB];exact q
 clear hB
 refine Hm (M:=A3 prog w) (A:=A) (E:=E) (s:=s) (λlo hi:Nat=>lo<=hi/\hi<=n/\(∀i<lo,B i=AG)/\∀i,hi<=i->i<n->B i=AB) (λK=>by
  refine BG (Cj FL hh ?_)
  cases e:B FL with
  |true =>
   refine BG (JP (FT (I:=λx c CG=>CG=st/\∃l o,c=(AH,l,o)/\B (FL+l)=AG/\FL+l<n/\l<o/\x+1<=o)
    (Q:=λc CG=>CG=st/\∃l o,c=(AH,l,o)/\B (FL+l)=AG/\FL+l<n/\l<o/\(n-FL<=o\/FL+o<n/\B (FL+o)=AB)) ?TW ((λc CG q0=>by obtain⟨e,l,o,e1,e2,e3,e4,e5⟩:=q0;exact{e,l,o,e1,e2,e3,e4,.inl 'o'})) {rfl,0,1,rfl,e,hh,C9 _,AO _}) ?post)
   case TW =>
    rintro x c CG _ _ ⟨rfl,l,o,rfl,h1,h2,h3,h4⟩
    try dsimp only
    refine MI (λq=>A8 {rfl,l,o,rfl,h1,h2,h3,.inl q}) (λq=>?_);refine BG (Cj (FL+o) 'o' ?_)
    cases e:B (FL+o) with
    |true=>exact A8 {rfl,o,2 * o+1,rfl,e,by omega,by omega,by omega}
    |false=>exact A8 {rfl,l,o,rfl,h1,h2,h3,.inr {by omega,e}}
   case post =>
    rintro c CG ⟨rfl,l,o,rfl,h1,h2,h3,h4⟩
    have hP:FL+l+1<=FL+min o (n-FL)/\FL+min o (n-FL)<=n/\(∀i<FL+l+1,B i=AG)/\∀i,FL+min o (n-FL)<=i->i<n->B i=AB:={by omega,by omega,λi hi=>iZ i (FL+l) (HU hi) h2 h1,λi hi hn=>by
     rcases h4 with h4|⟨h4,h5⟩
     .omega
     .exact pM (FL+o) i 'o' hn h5}
    revert hP
    dsimp only;generalize FL+l+1=lo',FL+min o (n-FL)=SY;exact λhP=>K lo' SY hP
  |false =>
   refine BG (JP (FT (I:=λx c CG=>CG=st/\∃l o,c=(AH,l,o)/\B (FL-l)=AB/\l<=FL/\l<o/\x+1<=o)
    (Q:=λc CG=>CG=st/\∃l o,c=(AH,l,o)/\B (FL-l)=AB/\l<=FL/\l<o/\(FL+1<=o\/o<=FL/\B (FL-o)=AG)) ?TW ((λc CG q0=>by obtain⟨e,l,o,e1,e2,e3,e4,e5⟩:=q0;exact{e,l,o,e1,e2,e3,e4,.inl 'o'})) {rfl,0,1,rfl,e,B0 _,C9 _,AO _}) ?post)
   case TW =>
    rintro x c CG _ _ ⟨rfl,l,o,rfl,h1,h2,h3,h4⟩
    try dsimp only
    refine MI (λq=>A8 {rfl,l,o,rfl,h1,h2,h3,.inl q}) (λq=>?_);refine BG (Cj (FL-o) (AL (C6 _ _) hh) ?_)
    cases e:B (FL-o) with
    |true=>exact A8 {rfl,l,o,rfl,h1,h2,h3,.inr {HU (jN q),e}}
    |false=>exact A8 {rfl,o,2 * o+1,rfl,e,HU (jN q),by omega,by omega}
   case post =>
    rintro c CG ⟨rfl,l,o,rfl,h1,h2,h3,h4⟩
    exact K (FL+1-min o (FL+1)) (FL-l) {by omega,CM (AL (C6 _ _) hh),λi hi=>by
     rcases h4 with h4|⟨h4,h5⟩
     .omega
     .exact iZ i (FL-o) 'o' (AL (C6 _ _) hh) h5,λi hi hn=>pM (FL-l) i hi hn h1}) ?_
 rintro lo hi ⟨p1,p2,p3,p4⟩
 refine BG (JP (FT (I:=λx c st2=>st2=st/\∃l r,c=(AH,l,r)/\l<=r/\r<=n/\(∀i<l,B i=AG)/\(∀i,r<=i->i<n->B i=AB)/\r-l+x<=n)
  (Q:=λc st2=>st2=st/\∃l r,c=(AH,l,r)/\Yi B n r) ?st2 ((λc st2 q0=>by obtain⟨e,l,r,e1,e2,e3,e4,e5,e6⟩:=q0;exact{e,l,r,e1,e3,λi hi=>e4 i 'o',e5})) {rfl,lo,hi,rfl,p1,p2,p3,p4,by omega}) ?po2)
 case po2 =>
  rintro c st2 ⟨rfl,l,r,rfl,hr⟩;exact A8 (h r hr)
 case st2 =>
  rintro x c st2 _ _ ⟨rfl,l,r,rfl,q1,q2,q3,q4,q5⟩
  try dsimp only
  refine MI (λq=>A8 {rfl,l,r,rfl,q2,λi hi=>q3 i 'o',q4}) (λq=>?_);refine BG (Cj (l+(r-l) / 2) 'o' ?_)
  cases e:B (l+(r-l) / 2) with
  |true=>exact A8 {rfl,l+(r-l) / 2+1,r,rfl,by omega,q2,λi hi=>iZ i (l+(r-l) / 2) (HU hi) 'o' e,q4,by omega}
  |false=>exact A8 {rfl,l,l+(r-l) / 2,rfl,AY _ _,by omega,q3,λi hi hn=>pM (l+(r-l) / 2) i hi hn e,by omega}
end
structure Ord(L:A6->A6->Bool)(BP:Array A6):Prop where
 asym:∀x y,x∈BP->y∈BP->L x y=AG->L y x=AB
 trans:∀x y z,x∈BP->y∈BP->z∈BP->L y x=AB->L z y=AB->L z x=AB
def SA(L:A6->A6->Bool)(a:Array A6):Prop:=∀(i j:Nat) (hj:j<a.size) (MN:i<j),L a[j] (a[i]'(CU MN hj))=AB
theorem Ord.refl{L:A6->A6->Bool}{BP:Array A6}(O:Ord L BP){x:A6}(hx:x∈BP):L x x=AB:=by
 cases e:L x x with
 |false=>rfl
 |true=>rw[O.asym x x hx hx e] at e;cases e
theorem SA.le{L:A6->A6->Bool}{BP a:Array A6}(O:Ord L BP)(ha:∀x∈a,x∈BP)(s:SA L a){i j:Nat}(hj:j<a.size)(MN:i<=j):L a[j] (a[i]'(AL MN hj))=AB:=by
 rcases DC MN with h|h
 .exact s i j hj h
 .subst h;exact O.refl (ha _ (AE _))
section
variable{prog:CF}{w:DJ}{A:DI}{E:AI->AN->Prop}{s:AN}{BP:Array A6}{kd:EZ}{L:A6->A6->Bool}
theorem Sa{st:BM}{J9:A6}{G1:Array A6}{base n FL:Nat}{Q:Option Nat->BM->Prop}(hA:V5 prog w A s kd BP L)(O:Ord L BP)(hk:kindOf st=kd)(PN:J9∈BP)(QI:∀x∈G1,x∈BP)
  (hb:base+n<=G1.size) (hh:FL<n) (sl:∀(i j:Nat) (hj:base+j<G1.size) (MN:i<j),j<n->L G1[base+j] (G1[base+i]'(CU (A2 MN _) hj))=AB)
  (h:∀k,k<=n->(∀(i:Nat) (hi:base+i<G1.size),i<k->L J9 G1[base+i]=AB)->(∀(i:Nat) (hi:base+i<G1.size),k<=i->i<n->L J9 G1[base+i]=AG)->Q (AA k) st):N9 (A3 prog w) A E s (tM AB J9 G1 base n FL) Q st:=by
 refine To (B:=λi=>if hi:base+i<G1.size then !L J9 G1[base+i] else AB) hA hk PN QI hb hh (λi hi=>by simp[hi]) (λi j MN hj e=>?_) λk ⟨c1,c2,c3⟩=>h k c1 (λi hi eF=>?_) (λi hi Ku W4=>?_)
 .rcases DC MN with h'|h'
  .have bU:base+j<G1.size:=AM (A2 hj _) hb
   have SY:base+i<G1.size:=AL (ED (AO _) MN) bU;rw[dif_pos bU] at e;show(if hi:base+i<G1.size then !L J9 G1[base+i] else AB)=AG;rw[dif_pos SY];have e':L J9 G1[base+j]=AB:=by simpa using e
   rw[O.trans _ _ _ (QI _ (AE SY)) (QI _ (AE bU)) PN (sl i j bU h' hj) e']
   rfl
  .subst h';exact e
 .have:=c2 i eF
  simpa[hi] using this
 .have:=c3 i Ku W4
  simpa[hi] using this
theorem Rz{st:BM}{J9:A6}{G1:Array A6}{base n FL:Nat}{Q:Option Nat->BM->Prop}(hA:V5 prog w A s kd BP L)(O:Ord L BP)(hk:kindOf st=kd)(PN:J9∈BP)(QI:∀x∈G1,x∈BP)
  (hb:base+n<=G1.size) (hh:FL<n) (sl:∀(i j:Nat) (hj:base+j<G1.size) (MN:i<j),j<n->L G1[base+j] (G1[base+i]'(CU (A2 MN _) hj))=AB)
  (h:∀k,k<=n->(∀(i:Nat) (hi:base+i<G1.size),i<k->L G1[base+i] J9=AG)->(∀(i:Nat) (hi:base+i<G1.size),k<=i->i<n->L G1[base+i] J9=AB)->Q (AA k) st):N9 (A3 prog w) A E s (tM AG J9 G1 base n FL) Q st:=by
 refine To (B:=λi=>if hi:base+i<G1.size then L G1[base+i] J9 else AB) hA hk PN QI hb hh (λi hi=>by simp[hi]) (λi j MN hj e=>?_) λk ⟨c1,c2,c3⟩=>h k c1 (λi hi eF=>?_) (λi hi Ku W4=>?_)
 .rcases DC MN with h'|h'
  .have bU:base+j<G1.size:=AM (A2 hj _) hb
   have SY:base+i<G1.size:=AL (ED (AO _) MN) bU;rw[dif_pos bU] at e;show(if hi:base+i<G1.size then L G1[base+i] J9 else AB)=AG;rw[dif_pos SY]
   cases ei:L G1[base+i] J9 with
   |true=>rfl
   |false =>
    rw[O.trans _ _ _ PN (QI _ (AE SY)) (QI _ (AE bU)) ei (sl i j bU h' hj)] at e;cases e
  .subst h';exact e
 .have:=c2 i eF
  simpa[hi] using this
 .have:=c3 i Ku W4
  simpa[hi] using this
end
structure MidO(L:A6->A6->Bool)(a b out:Array A6)(ia ib:Nat):Prop where
 m:Mid a b out ia ib
 so:out.toList.Pairwise λx y=>L y x=AB
 oa:∀x∈out,∀(i:Nat) (hi:i<a.size),ia<=i->L a[i] x=AB
 ob:∀x∈out,∀(i:Nat) (hi:i<b.size),ib<=i->L b[i] x=AB
section
variable{L:A6->A6->Bool}{a b out:Array A6}{ia ib:Nat}
theorem Pj{x:A6}(h:out.toList.Pairwise λx y=>L y x=AB)(hx:∀y∈out,L x y=AB):(out.push x).toList.Pairwise λx y=>L y x=AB:=by
 rw[EO,Y6];refine{h,WP _ _,λy hy z hz=>?_};rw[BW.mp hz];exact hx y (FO.mp hy)
theorem MidO.pushB(m:MidO L a b out ia ib)(sb:SA L b)(h:ib<b.size)(UC:∀(i:Nat) (hi:i<a.size),ia<=i->L a[i] b[ib]=AB):MidO L a b (out.push b[ib]) ia (ib+1) where
 m:=m.m.pushB h
 so:=Pj m.so λy hy=>m.ob y hy ib h (AO _)
 oa:=λx hx i hi PP=>by
  rcases G4.mp hx with hx|rfl
  .exact m.oa x hx i hi PP
  .exact UC i hi PP
 ob:=λx hx i hi RT=>by
  rcases G4.mp hx with hx|rfl
  .exact m.ob x hx i hi (AV (AY _ _) RT)
  .exact sb ib i hi (FV RT)
theorem MidO.pushA(m:MidO L a b out ia ib)(sa:SA L a)(h:ia<a.size)(UC:∀(i:Nat) (hi:i<b.size),ib<=i->L b[i] a[ia]=AB):MidO L a b (out.push a[ia]) (ia+1) ib where
 m:=m.m.pushA h
 so:=Pj m.so λy hy=>m.oa y hy ia h (AO _)
 oa:=λx hx i hi PP=>by
  rcases G4.mp hx with hx|rfl
  .exact m.oa x hx i hi (AV (AY _ _) PP)
  .exact sa ia i hi (FV PP)
 ob:=λx hx i hi RT=>by
  rcases G4.mp hx with hx|rfl
  .exact m.ob x hx i hi RT
  .exact UC i hi RT
theorem En(a:Array A6){i k:Nat}(h:i+k<a.size):out++a.extract i (i+(k+1))=(out++a.extract i (i+k)).push a[i+k]:=by
 apply Array.ext'
 rw[ES,EO,ES,HY,HY,DG]
 congr 1
 show(a.toList.drop i).take (i+(k+1)-i)=(a.toList.drop i).take (i+k-i)++[a[i+k]];rw[show i+(k+1)-i=k+1 from NV _ _,show i+k-i=k from NV _ _,GQ (by simp;lia)];simp
theorem MidO.manyA(sa:SA L a):∀{k:Nat},MidO L a b out ia ib->ia+k<=a.size->(∀(i:Nat) (hi:i<a.size),ia<=i->i<ia+k->∀(j:Nat) (hj:j<b.size),ib<=j->L b[j] a[i]=AB)->MidO L a b (out++a.extract ia (ia+k)) (ia+k) ib
 |0,m,_,_=>by
  have e:out++a.extract ia (ia+0)=out:=by simp<;>lia
  rw[e];exact m
 |k+1,m,h,UC=>by
  have z:=MidO.manyA sa (k:=k) m 'l' λi hi h1 h2=>UC i hi h1 (CU h2 (A2 (C9 _) _));rw[En a (show ia+k<a.size from AM (A2 (C9 _) _) h)];exact z.pushA sa (AM (A2 (C9 _) _) h) λj hj w8=>UC (ia+k) (AM (A2 (C9 _) _) h) (AY _ _) (A2 (C9 _) _) j hj w8
theorem MidO.manyB(sb:SA L b):∀{k:Nat},MidO L a b out ia ib->ib+k<=b.size->(∀(i:Nat) (hi:i<b.size),ib<=i->i<ib+k->∀(j:Nat) (hj:j<a.size),ia<=j->L a[j] b[i]=AB)->MidO L a b (out++b.extract ib (ib+k)) ia (ib+k)
 |0,m,_,_=>by
  have e:out++b.extract ib (ib+0)=out:=by simp<;>lia
  rw[e];exact m
 |k+1,m,h,UC=>by
  have z:=MidO.manyB sb (k:=k) m 'l' λi hi h1 h2=>UC i hi h1 (CU h2 (A2 (C9 _) _));rw[En b (show ib+k<b.size from AM (A2 (C9 _) _) h)];exact z.pushB sb (AM (A2 (C9 _) _) h) λj hj w9=>UC (ib+k) (AM (A2 (C9 _) _) h) (AY _ _) (A2 (C9 _) _) j hj w9
theorem MidO.doneB(m:MidO L a b out ia ib)(sa:SA L a)(h:ib=b.size):(out++a.extract ia a.size++b.extract ib b.size).toList.Pairwise λx y=>L y x=AB:=by
 have la:=m.m.la;have z:=m.manyA sa (k:=a.size-ia) 'l' λi hi h1 h2 j hj w8=>by lia
 rw[show ia+(a.size-ia)=a.size by lia] at z;have e:b.extract ib b.size=#[]:=by rw[h];simp
 rw[e,aX];exact z.so
theorem MidO.doneA(m:MidO L a b out ia ib)(sb:SA L b)(h:ia=a.size):(out++a.extract ia a.size++b.extract ib b.size).toList.Pairwise λx y=>L y x=AB:=by
 have lb:=m.m.lb;have z:=m.manyB sb (k:=b.size-ib) 'l' λi hi h1 h2 j hj w9=>by lia
 rw[show ib+(b.size-ib)=b.size by lia] at z;have e:a.extract ia a.size=#[]:=by rw[h];simp
 rw[e,aX];exact z.so
theorem MidO.lastA(m:MidO L a b out ia ib)(sa:SA L a)(sb:SA L b)(h:ia+1=a.size)(hl:∀(j:Nat) (hj:j<b.size),L (a[a.size-1]'(by lia)) b[j]=AB):(out++b.extract ib b.size++a.extract ia a.size).toList.Pairwise λx y=>L y x=AB:=by
 have lb:=m.m.lb
 have z:=m.manyB sb (k:=b.size-ib) 'l' λi hi h1 h2 j hj w9=>by
  have e:j=a.size-1:=by lia
  subst e;exact hl i hi
 rw[show ib+(b.size-ib)=b.size by lia] at z;have z2:=z.manyA sa (k:=1) (CD h) λi hi h1 h2 j hj w8=>by lia
 rw[h] at z2;exact z2.so
end
@[elab_as_elim] theorem At{K:Prop}{α0 α1 α2 α3 γ:Type}{f:α0->α1->α2->α3->γ}{P:α0->α1->α2->α3->Prop}{G:γ->Prop}{c:γ}(H:K/\∃x0 x1 x2 x3,c=f x0 x1 x2 x3/\P x0 x1 x2 x3)(k:K->∀x0 x1 x2 x3,P x0 x1 x2 x3->G (f x0 x1 x2 x3)):G c:=by
 obtain⟨g,x0,x1,x2,x3,rfl,p⟩:=H;exact k g x0 x1 x2 x3 p
@[elab_as_elim] theorem rF{K:Prop}{α0 α1 α2 α3 α4 γ:Type}{f:α0->α1->α2->α3->α4->γ}{P:α0->α1->α2->α3->α4->Prop}{G:γ->Prop}{c:γ}(H:K/\∃x0 x1 x2 x3 x4,c=f x0 x1 x2 x3 x4/\P x0 x1 x2 x3 x4)(k:K->∀x0 x1 x2 x3 x4,P x0 x1 x2 x3 x4->G (f x0 x1 x2 x3 x4)):G c:=by
 obtain⟨g,x0,x1,x2,x3,x4,rfl,p⟩:=H;exact k g x0 x1 x2 x3 x4 p
@[elab_as_elim] theorem rE{K:Prop}{α0 α1 α2 α3 α4 α5 γ:Type}{f:α0->α1->α2->α3->α4->α5->γ}{P:α0->α1->α2->α3->α4->α5->Prop}{G:γ->Prop}{c:γ}(H:K/\∃x0 x1 x2 x3 x4 x5,c=f x0 x1 x2 x3 x4 x5/\P x0 x1 x2 x3 x4 x5)(k:K->∀x0 x1 x2 x3 x4 x5,P x0 x1 x2 x3 x4 x5->G (f x0 x1 x2 x3 x4 x5)):G c:=by
 obtain⟨g,x0,x1,x2,x3,x4,x5,rfl,p⟩:=H;exact k g x0 x1 x2 x3 x4 x5 p
@[elab_as_elim] theorem Vl{K:Prop}{α0 α1 α2 α3 α4 α5 α6 γ:Type}{f:α0->α1->α2->α3->α4->α5->α6->γ}{P:α0->α1->α2->α3->α4->α5->α6->Prop}{G:γ->Prop}{c:γ}(H:K/\∃x0 x1 x2 x3 x4 x5 x6,c=f x0 x1 x2 x3 x4 x5 x6/\P x0 x1 x2 x3 x4 x5 x6)(k:K->∀x0 x1 x2 x3 x4 x5 x6,P x0 x1 x2 x3 x4 x5 x6->G (f x0 x1 x2 x3 x4 x5 x6)):G c:=by
 obtain⟨g,x0,x1,x2,x3,x4,x5,x6,rfl,p⟩:=H;exact k g x0 x1 x2 x3 x4 x5 x6 p
section
variable{prog:CF}{w:DJ}{A:DI}{E:AI->AN->Prop}{s:AN}{BP:Array A6}{kd:EZ}{L:A6->A6->Bool}{β:Type}{Q:β->BM->Prop}{st:BM}
theorem VP{G1:Array A6}{i:Nat}{f:A6->StateT BM SM β}(hi:i<G1.size)(h:N9 (A3 prog w) A E s (f G1[i]) Q st):N9 (A3 prog w) A E s (elem' G1 i >>= f) Q st:=BG (qS hi h)
theorem As{g:Nat}{f:Unit->StateT BM SM β}(h:N9 (A3 prog w) A E s (f ()) Q (sT st g)):N9 (A3 prog w) A E s (Fm g >>= f) Q st:=BG (yA4 h)
theorem Vk{x y:A6}{f:Option Bool->StateT BM SM β}(hA:V5 prog w A s kd BP L)(hk:kindOf st=kd)(hx:x∈BP)(hy:y∈BP)(h:N9 (A3 prog w) A E s (f (AA (L x y))) Q st):N9 (A3 prog w) A E s (lt' x y >>= f) Q st:=BG (zH hA hk hx hy h)
theorem qD{γ:Type}{a b:Nat}{f:Nat->γ->StateT BM SM (ForInStep γ)}{k:γ->StateT BM SM β}(I:Nat->γ->BM->Prop)(R:γ->BM->Prop)
  (wP:∀i c st,a<=i->i<b->I i c st->N9 (A3 prog w) A E s (f i c) (λr CG=>match r with|.done c'=>R c' CG|.yield c'=>I (i+1) c' CG) st)
  (i8:∀c st,I (max a b) c st->R c st) {c:γ} (h:I a c st) (hp:∀c CG,R c CG->N9 (A3 prog w) A E s (k c) Q CG):N9 (A3 prog w) A E s (forIn [a:b] c f >>= k) Q st:=BG (JP (FT I wP i8 h) hp)
theorem Vj{J9:A6}{G1:Array A6}{base n FL:Nat}{f:Option Nat->StateT BM SM β}(hA:V5 prog w A s kd BP L)(O:Ord L BP)(hk:kindOf st=kd)(PN:J9∈BP)(QI:∀x∈G1,x∈BP)
  (hb:base+n<=G1.size) (hh:FL<n) (sl:∀(i j:Nat) (hj:base+j<G1.size) (MN:i<j),j<n->L G1[base+j] (G1[base+i]'(CU (A2 MN _) hj))=AB)
  (h:∀k,k<=n->(∀(i:Nat) (hi:base+i<G1.size),i<k->L J9 G1[base+i]=AB)->(∀(i:Nat) (hi:base+i<G1.size),k<=i->i<n->L J9 G1[base+i]=AG)->N9 (A3 prog w) A E s (f (AA k)) Q st):N9 (A3 prog w) A E s (tM AB J9 G1 base n FL >>= f) Q st:=BG (Sa hA O hk PN QI hb hh sl h)
theorem Vi{J9:A6}{G1:Array A6}{base n FL:Nat}{f:Option Nat->StateT BM SM β}(hA:V5 prog w A s kd BP L)(O:Ord L BP)(hk:kindOf st=kd)(PN:J9∈BP)(QI:∀x∈G1,x∈BP)
  (hb:base+n<=G1.size) (hh:FL<n) (sl:∀(i j:Nat) (hj:base+j<G1.size) (MN:i<j),j<n->L G1[base+j] (G1[base+i]'(CU (A2 MN _) hj))=AB)
  (h:∀k,k<=n->(∀(i:Nat) (hi:base+i<G1.size),i<k->L G1[base+i] J9=AG)->(∀(i:Nat) (hi:base+i<G1.size),k<=i->i<n->L G1[base+i] J9=AB)->N9 (A3 prog w) A E s (f (AA k)) Q st):N9 (A3 prog w) A E s (tM AG J9 G1 base n FL >>= f) Q st:=BG (Rz hA O hk PN QI hb hh sl h)
end
section
variable{prog:CF}{w:DJ}{A:DI}{E:AI->AN->Prop}{s:AN}{BP:Array A6}{kd:EZ}{L:A6->A6->Bool}
theorem Vh{α β:Type}{T:β->StateT BM SM α}{M:Model}{A:DI}{E:AI->AN->Prop}{s:AN}{Q:α->BM->Prop}{st:BM}{N7:Prop}(h1:(∀x,N9 M A E s (T x) Q st)->N7)(h2:∀x,N9 M A E s (T x) Q st):N7:=h1 h2
theorem zO8{st:BM}{a b:Array A6}{Q:Array A6->BM->Prop}(hA:V5 prog w A s kd BP L)(O:Ord L BP)(hk:kindOf st=kd)(ha:∀x∈a,x∈BP)(hb:∀x∈b,x∈BP)(na:1<=a.size)(nb:1<=b.size)(sa:SA L a)(sb:SA L b)(hf:∀(i:Nat) (hi:i<a.size),L a[i] (b[0]'(FV nb))=AB)(hl:∀(j:Nat) (hj:j<b.size),L (a[a.size-1]'(by lia)) b[j]=AB)
  (h:∀c CG,Gal st CG->c.Perm (a++b)->(c.toList.Pairwise λx y=>L y x=AB)->Q c CG):N9 (A3 prog w) A E s (zWW a b) Q st:=by
 refine BG (QL (GK {rfl,?_}));dsimp only;refine VP (FV nb) ?_
 have m0:MidO L a b #[b[0]] 0 1:=by
  have z:MidO L a b #[] 0 0:={{by simp,B0 _,B0 _,rfl},OF,λx hx=>by simp at hx,λx hx=>by simp at hx};exact z.pushB sb (FV nb) λi hi _=>hf i hi
 refine MI (λe1=>A8 (h _ _ (Gal.refl st) m0.m.done (m0.doneB sa (beq_iff_eq.mp e1)))) (λe1=>?_);replace e1:¬1=b.size:=λz=>e1 (beq_iff_eq.mpr z);refine MI (λe2=>A8 (h _ _ (Gal.refl st) m0.m.lastA (m0.lastA sa sb (beq_iff_eq.mp e2) hl))) (λe2=>?_);replace e2:¬0+1=a.size:=λz=>e2 (beq_iff_eq.mpr z);refine BG (NZ ?_)
 refine qD
  (I:=λi c CG=>Gal st CG/\∃out ia ib g,c=(AH,out,ia,ib,g)/\MidO L a b out ia ib/\ia+1<a.size/\ib<b.size/\i+1<=out.size)
  (R:=λc CG=>Gal st CG/\∃r out ia ib g,c=(AA r,out,ia,ib,g)/\(r.Perm (a++b)/\r.toList.Pairwise λx y=>L y x=AB)) ?TW ?fin ?init ?post
 case init=>exact{Gal.refl st,_,_,_,_,rfl,m0,GC na e2,GC nb e1,by simp}
 case post =>
  intro c CG H;refine rF (c:=c) H λg r out ia ib gg p=>?_;clear H;exact A8 (h _ _ g p.1 p.2)
 case fin =>
  intro c CG H;refine At (c:=c) H λg out ia ib gg P=>?_;clear H;have m:=P.1;have h1:=P.2.1;have h2:=P.2.2.1;have h3:=P.2.2.2;clear P;exfalso;have:=m.m.sz;lia
 case TW =>
  intro i c CG _ hi H;refine At (c:=c) H λg out ia ib gg P=>?_;clear H;have m:=P.1;have h1:=P.2.1;have h2:=P.2.2.1;have h3:=P.2.2.2;clear P;dsimp only;have Jc:0<a.size+b.size:=AL (B0 _) hi
  -- one by one
  refine qD
   (I:=λ_ c st2=>Gal st st2/\∃out ia ib ac bc,c=(AH,out,ia,ib,ac,bc)/\MidO L a b out ia ib/\ia+1<a.size/\ib<b.size/\i+1<=out.size)
   (R:=λc st2=>Gal st st2/\∃r out ia ib ac bc,c=(r,out,ia,ib,ac,bc)/\(match r with
    |some r=>(r.Perm (a++b)/\r.toList.Pairwise λx y=>L y x=AB)
    |none=>MidO L a b out ia ib/\ia+1<a.size/\ib<b.size/\i+1<=out.size)) ?step1 ?fin1 {g,_,_,_,_,_,rfl,m,h1,h2,h3} ?post1
  case fin1 =>
   intro c st2 H;refine rF (c:=c) H λg2 out ia ib ac bc P=>?_;clear H;have m:=P.1;have h1:=P.2.1;have h2:=P.2.2.1;have h3:=P.2.2.2;clear P;exact{g2,AH,_,_,_,_,_,rfl,m,h1,h2,h3}
  case step1 =>
   intro j c st2 _ hj H;refine rF (c:=c) H λg2 out ia ib ac bc P=>?_;clear H;have m:=P.1;have h1:=P.2.1;have h2:=P.2.2.1;have h3:=P.2.2.2;clear P;dsimp only;refine VP h2 (VP (AL (AY _ _) h1) (Vk hA (g2.kind hk) (hb _ (AE h2)) (ha _ (AE _)) ?_));have PP:ia<a.size:=AL (AY _ _) h1;refine MI (λew=>?_) (λew=>?_)
   .refine VP h2 ?_
    have m2:=m.pushB sb h2 λi hi xA=>O.trans _ _ _ (hb _ (AE h2)) (ha _ (AE PP)) (ha _ (AE hi)) (O.asym _ _ (hb _ (AE h2)) (ha _ (AE PP)) ew) (sa.le O ha hi xA);have N6:i+1<=(out.push b[ib]).size:=by rw[EF];lia
    refine MI (λq=>A8 {g2,AA _,_,_,_,_,_,rfl,m2.m.done,m2.doneB sa (beq_iff_eq.mp q)}) (λq=>?_);have U4:ib+1<b.size:=GC h2 λz=>q (beq_iff_eq.mpr z);refine MI (λ_=>?_) (λ_=>?_)
    .exact A8 {g2,AH,_,_,_,_,_,rfl,m2,h1,U4,N6}
    .exact A8 {g2,_,_,_,_,_,rfl,m2,h1,U4,N6}
   .refine VP PP ?_
    have m2:=m.pushA sa PP λi hi xA=>O.trans _ _ _ (ha _ (AE PP)) (hb _ (AE h2)) (hb _ (AE hi)) (Q8.mpr ew) (sb.le O hb hi xA);have N6:i+1<=(out.push a[ia]).size:=by rw[EF];lia
    refine MI (λq=>A8 {g2,AA _,_,_,_,_,_,rfl,m2.m.lastA,m2.lastA sa sb (beq_iff_eq.mp q) hl}) (λq=>?_);have WG:ia+1+1<a.size:=GC h1 λz=>q (beq_iff_eq.mpr z);refine MI (λ_=>?_) (λ_=>?_)
    .exact A8 {g2,AH,_,_,_,_,_,rfl,m2,WG,h2,N6}
    .exact A8 {g2,_,_,_,_,_,rfl,m2,WG,h2,N6}
  case post1 =>
   intro c st2 H;refine rE (c:=c) H λg2 r out ia ib ac bc hr=>?_;clear H
   cases r with
   |some r=>exact A8 {g2,r,_,_,_,_,rfl,hr}
   |none =>
    have m:=hr.1;have h1:=hr.2.1;have h2:=hr.2.2.1;have h3:=hr.2.2.2;clear hr;dsimp only;refine BG (QL (GK {rfl,?_}))
    refine qD
     (I:=λj c LJ=>Gal st LJ/\∃out ia ib gg ac bc,c=(AH,out,ia,ib,gg,ac,bc)/\MidO L a b out ia ib/\ia+1<a.size/\ib<b.size/\i+1+(if j=0 then 0 else 1)<=out.size)
     (R:=λc LJ=>Gal st LJ/\∃r out ia ib gg ac bc,c=(r,out,ia,ib,gg,ac,bc)/\(match r with
      |some r=>(r.Perm (a++b)/\r.toList.Pairwise λx y=>L y x=AB)
      |none=>MidO L a b out ia ib/\ia+1<a.size/\ib<b.size/\i+2<=out.size)) ?step2 ?fin2 {g2,_,_,_,_,_,_,rfl,m,h1,h2,by simpa using h3} ?post2
    case fin2 =>
     intro c LJ H;refine rE (c:=c) H λg3 out ia ib gg ac bc P=>?_;clear H;have m:=P.1;have h1:=P.2.1;have h2:=P.2.2.1;have h3:=P.2.2.2;clear P;rw[if_neg (GW (AM Jc (NU _ _)))] at h3;exact{g3,AH,_,_,_,_,_,_,rfl,m,h1,h2,h3}
    case step2 =>
     intro j c LJ _ hj H;refine rE (c:=c) H λg3 out ia ib gg ac bc P=>?_;clear H;have m:=P.1;have h1:=P.2.1;have h2:=P.2.2.1;have h3:=P.2.2.2;clear P
     replace h3:i+1<=out.size:=by
      split at h3<;>lia
     dsimp only
     refine Vh (M:=A3 prog w) (A:=A) (E:=E) (s:=s) (λK=>by
      refine MI (λhg=>?gpos) (λhg=>?gneg)
      case gneg =>
       generalize gg=g';exact K g'
      case gpos=>exact K (gg-1)) (λgg=>?_)
     refine As ?_;refine VP h2 (Vj hA O ((g3.set _).kind hk) (hb _ (AE h2)) ha 'l' 'l' (λi j hj MN _=>sa (ia+i) (ia+j) hj (A2 MN _)) λk Y1 c1 c2=>?_)
     have lO:∀(i:Nat) (hi:i<a.size),ia+k<=i->L a[i] b[ib]=AB:=λi hi eF=>O.asym _ _ (hb _ (AE h2)) (ha _ (AE hi)) (by
      have z:=c2 (i-ia) 'l' 'l' 'l'
      simpa[show ia+(i-ia)=i by lia] using z)
     dsimp only
     refine Hm (λ(out:Array A6) (ia:Nat)=>MidO L a b out ia ib/\ia+1<a.size/\i+1<=out.size/\∀(i:Nat) (hi:i<a.size),ia<=i->L a[i] b[ib]=AB) (λK=>by
      by_cases o7:¬(k>0)
      .rw[if_neg o7]
       have hP:MidO L a b out ia ib/\ia+1<a.size/\i+1<=out.size/\∀(i:Nat) (hi:i<a.size),ia<=i->L a[i] b[ib]=AB:={m,h1,h3,λi hi eF=>lO i hi 'l'}
       revert hP
       generalize out=XQ,ia=ia';exact λhP=>K XQ ia' hP
      .rw[if_pos (L6.mp o7)]
       replace m:=m.manyA sa (k:=k) 'l' λi hi WG U4 j hj w8=>O.trans _ _ _ (ha _ (AE hi)) (hb _ (AE h2)) (hb _ (AE hj)) (by
        have z:=c1 (i-ia) 'l' 'l'
        simpa[show ia+(i-ia)=i by lia] using z) (sb.le O hb hj w8)
       refine MI (λq1=>A8 {g3.set _,AA _,_,_,_,_,_,_,rfl,m.m.lastA,m.lastA sa sb (beq_iff_eq.mp q1) hl}) (λq1=>?_);replace q1:¬(ia+k+1=a.size):=λz=>q1 (beq_iff_eq.mpr z);refine MI (λq2=>A8 {g3.set _,AA _,_,_,_,_,_,_,rfl,m.m.done,m.doneA sb (beq_iff_eq.mp q2)}) (λq2=>?_);replace q2:¬(ia+k=a.size):=λz=>q2 (beq_iff_eq.mpr z)
       exact K _ _ {m,by lia,by rw[GO];lia,lO}) ?_
     clear c1 c2 lO m h1 h3 Y1;intro out ia P;have m:=P.1;have h1:=P.2.1;have h3:=P.2.2.1;have lO:=P.2.2.2;clear P;refine VP h2 ?_;have bP:=m.m.sz;replace m:=m.pushB sb h2 lO;have hs:=m.m.sz;refine MI (λq3=>A8 {g3.set _,AA _,_,_,_,_,_,_,rfl,m.m.done,m.doneB sa (beq_iff_eq.mp q3)}) (λq3=>?_);replace q3:¬(ib+1=b.size):=λz=>q3 (beq_iff_eq.mpr z);refine VP (AL (AY _ _) h1) (Vi hA O ((g3.set _).kind hk) (ha _ (AE _)) hb 'l' 'l' (λi j hj MN _=>sb (ib+1+i) (ib+1+j) hj (A2 MN _)) λk2 k9 d1 d2=>?_);dsimp only
     refine Hm (λ(out:Array A6) (ib:Nat)=>MidO L a b out ia ib/\ib<b.size/\i+2<=out.size/\∀(i:Nat) (hi:i<b.size),ib<=i->L b[i] (a[ia]'(AL (AY _ _) h1))=AB) (λK=>by
      by_cases w6:¬(k2>0)
      .rw[if_neg w6]
       have hP:MidO L a b (out.push b[ib]) ia (ib+1)/\ib+1<b.size/\i+2<=(out.push b[ib]).size/\∀(i:Nat) (hi:i<b.size),ib+1<=i->L b[i] (a[ia]'(AL (AY _ _) h1))=AB:={m,GC (M4 h2) q3,by rw[EF];lia,λi hi xA=>by
        have z:=d2 (i-(ib+1)) 'l' 'l' 'l'
        simpa[show ib+1+(i-(ib+1))=i by lia] using z}
       revert hP
       generalize out.push b[ib]=XQ,ib+1=ib';exact λhP=>K XQ ib' hP
      .rw[if_pos (L6.mp w6)]
       replace m:=m.manyB sb (k:=k2) 'l' λi hi WG U4 j hj w9=>O.trans _ _ _ (hb _ (AE hi)) (ha _ (AE _)) (ha _ (AE hj)) (O.asym _ _ (hb _ (AE hi)) (ha _ (AE _)) (by
        have z:=d1 (i-(ib+1)) 'l' 'l'
        simpa[show ib+1+(i-(ib+1))=i by lia] using z)) (sa.le O ha hj w9)
       refine MI (λq4=>A8 {g3.set _,AA _,_,_,_,_,_,_,rfl,m.m.done,m.doneB sa (beq_iff_eq.mp q4)}) (λq4=>?_);replace q4:¬(ib+1+k2=b.size):=λz=>q4 (beq_iff_eq.mpr z)
       exact K _ _ {m,by lia,by rw[GO];lia,λi hi xA=>by
        have z:=d2 (i-(ib+1)) 'l' 'l' 'l'
        simpa[show ib+1+(i-(ib+1))=i by lia] using z}) ?_
     clear d1 d2 k9 m q3 hs bP h3 lO;intro out ib P;have m:=P.1;have h2:=P.2.1;have h3:=P.2.2.1;have d2:=P.2.2.2;clear P;refine VP (AL (AY _ _) h1) ?_;have N6:=m.m.sz;replace m:=m.pushA sa (AL (AY _ _) h1) d2;have hs3:=m.m.sz;refine MI (λq5=>?_) (λq5=>?_)
     .exact A8 {g3.set _,AA _,_,_,_,_,_,_,rfl,m.m.lastA,m.lastA sa sb (beq_iff_eq.mp q5) hl}
     .have Yr:¬(_=_):=λz=>q5 (beq_iff_eq.mpr z)
      refine MI (λq6=>?_) (λq6=>?_)
      .exact A8 {g3.set _,AH,_,_,_,_,_,_,rfl,m,GC (M4 h1) Yr,h2,by lia}
      .exact A8 {g3.set _,_,_,_,_,_,_,rfl,m,GC (M4 h1) Yr,h2,by rw[if_neg (GW (Nat.succ_pos _))];lia}
    case post2 =>
     intro c LJ H;refine Vl (c:=c) H λg3 r out ia ib gg ac bc hr=>?_;clear H
     cases r with
     |some r=>exact A8 {g3,r,_,_,_,_,rfl,hr}
     |none =>
      have m:=hr.1;have h1:=hr.2.1;have h2:=hr.2.2.1;have h3:=hr.2.2.2;clear hr;exact As (A8 {g3.set _,_,_,_,_,rfl,m,h1,h2,h3})
end
structure MidHO(L:A6->A6->Bool)(a b out:Array A6)(na nb:Nat):Prop where
 m:MidH a b out na nb
 so:out.toList.Pairwise λx y=>L x y=AB
 oa:∀x∈out,∀(i:Nat) (hi:i<a.size),i<na->L x a[i]=AB
 ob:∀x∈out,∀(i:Nat) (hi:i<b.size),i<nb->L x b[i]=AB
section
variable{L:A6->A6->Bool}{a b out:Array A6}{na nb:Nat}
theorem Qv{x:A6}(h:out.toList.Pairwise λx y=>L x y=AB)(hx:∀y∈out,L y x=AB):(out.push x).toList.Pairwise λx y=>L x y=AB:=by
 rw[EO,Y6];refine{h,WP _ _,λy hy z hz=>?_};rw[BW.mp hz];exact hx y (FO.mp hy)
theorem MidHO.pushA(m:MidHO L a b out na nb)(sa:SA L a)(h0:1<=na)(h:na-1<a.size)(UC:∀(j:Nat) (hj:j<b.size),j<nb->L a[na-1] b[j]=AB):MidHO L a b (out.push a[na-1]) (na-1) nb where
 m:=m.m.pushA h0 h
 so:=Qv m.so λy hy=>m.oa y hy (na-1) h 'l'
 oa:=λx hx i hi PP=>by
  rcases G4.mp hx with hx|rfl
  .exact m.oa x hx i hi (AM PP (C6 _ _))
  .exact sa i (na-1) h (PP)
 ob:=λx hx i hi RT=>by
  rcases G4.mp hx with hx|rfl
  .exact m.ob x hx i hi RT
  .exact UC i hi RT
theorem MidHO.pushB(m:MidHO L a b out na nb)(sb:SA L b)(h0:1<=nb)(h:nb-1<b.size)(UC:∀(j:Nat) (hj:j<a.size),j<na->L b[nb-1] a[j]=AB):MidHO L a b (out.push b[nb-1]) na (nb-1) where
 m:=m.m.pushB h0 h
 so:=Qv m.so λy hy=>m.ob y hy (nb-1) h 'l'
 oa:=λx hx i hi PP=>by
  rcases G4.mp hx with hx|rfl
  .exact m.oa x hx i hi PP
  .exact UC i hi PP
 ob:=λx hx i hi RT=>by
  rcases G4.mp hx with hx|rfl
  .exact m.ob x hx i hi (AM RT (C6 _ _))
  .exact sb i (nb-1) h (RT)
theorem Pi(a:Array A6){i n:Nat}(h:i<n)(hn:n-1<a.size):out++(a.extract i n).reverse=(out.push a[n-1])++(a.extract i (n-1)).reverse:=by
 have e:a.extract i n=(a.extract i (n-1)).push a[n-1]:=by
  have z:=En (out:=#[]) a (i:=i) (k:=n-1-i) 'l';rw[show i+(n-1-i+1)=n by lia] at z;simpa[show i+(n-1-i)=n-1 by lia] using z
 rw[e];generalize a.extract i (n-1)=x;generalize a[n-1]=y
 apply Array.ext'
 simp
theorem MidHO.manyA(sa:SA L a){i0:Nat}(m:MidHO L a b out na nb)(h:i0<=na)(UC:∀(i:Nat) (hi:i<a.size),i0<=i->i<na->∀(j:Nat) (hj:j<b.size),j<nb->L a[i] b[j]=AB):MidHO L a b (out++(a.extract i0 na).reverse) i0 nb:=by
 obtain⟨d,hd⟩:∃d,na=i0+d:={na-i0,by lia}
 induction d generalizing na out with
 |zero =>
  have e0:na=i0:=by lia
  subst e0
  have e:out++(a.extract na na).reverse=out:=by
   have:a.extract na na=#[]:=by simp<;>lia
   rw[this];simp
  rw[e];exact m
 |succ d ih =>
  have la:=m.m.la;rw[Pi a (show i0<na by lia) 'l'];exact ih (m.pushA sa 'l' 'l' λj hj SF=>UC (na-1) 'l' 'l' 'l' j hj SF) 'l' (λi hi h1 h2=>UC i hi h1 (AM h2 (C6 _ _))) 'l'
theorem MidHO.manyB(sb:SA L b){i0:Nat}(m:MidHO L a b out na nb)(h:i0<=nb)(UC:∀(i:Nat) (hi:i<b.size),i0<=i->i<nb->∀(j:Nat) (hj:j<a.size),j<na->L b[i] a[j]=AB):MidHO L a b (out++(b.extract i0 nb).reverse) na i0:=by
 obtain⟨d,hd⟩:∃d,nb=i0+d:={nb-i0,by lia}
 induction d generalizing nb out with
 |zero =>
  have e0:nb=i0:=by lia
  subst e0
  have e:out++(b.extract nb nb).reverse=out:=by
   have:b.extract nb nb=#[]:=by simp<;>lia
   rw[this];simp
  rw[e];exact m
 |succ d ih =>
  have lb:=m.m.lb;rw[Pi b (show i0<nb by lia) 'l'];exact ih (m.pushB sb 'l' 'l' λj hj SF=>UC (nb-1) 'l' 'l' 'l' j hj SF) 'l' (λi hi h1 h2=>UC i hi h1 (AM h2 (C6 _ _))) 'l'
theorem Cz(h:out.toList.Pairwise λx y=>L x y=AB):out.reverse.toList.Pairwise λx y=>L y x=AB:=by
 rw[OU,List.pairwise_reverse];exact h
theorem MidHO.doneA(m:MidHO L a b out na nb)(sb:SA L b)(h:na=0):(a.extract 0 na++b.extract 0 nb++out.reverse).toList.Pairwise λx y=>L y x=AB:=by
 have z:=Cz (m.manyB sb (i0:=0) (B0 _) λi hi h1 h2 j hj SF=>by lia).so;subst h;simpa using z
theorem MidHO.doneB(m:MidHO L a b out na nb)(sa:SA L a)(h:nb=0):(a.extract 0 na++b.extract 0 nb++out.reverse).toList.Pairwise λx y=>L y x=AB:=by
 have z:=Cz (m.manyA sa (i0:=0) (B0 _) λi hi h1 h2 j hj SF=>by lia).so;subst h;simpa using z
theorem MidHO.firstB(m:MidHO L a b out na nb)(sa:SA L a)(sb:SA L b)(h:nb=1)(hf:∀(i:Nat) (hi:i<a.size),L a[i] (b[0]'(by have:=m.m.lb;lia))=AB):(b.extract 0 nb++a.extract 0 na++out.reverse).toList.Pairwise λx y=>L y x=AB:=by
 have z1:=m.manyA sa (i0:=0) (B0 _) λi hi h1 h2 j hj SF=>by
  have e:j=0:=by lia
  subst e;exact hf i hi
 have z:=Cz (z1.manyB sb (i0:=0) (B0 _) λi hi h1 h2 j hj SF=>by lia).so;simpa using z
end
section
variable{prog:CF}{w:DJ}{A:DI}{E:AI->AN->Prop}{s:AN}{BP:Array A6}{kd:EZ}{L:A6->A6->Bool}
theorem Vg{α β γ δ:Type}{T:β->γ->δ->StateT BM SM α}{M:Model}{A:DI}{E:AI->AN->Prop}{s:AN}{Q:α->BM->Prop}{st:BM}{N7:Prop}(P:β->γ->Prop)(h1:(∀x y z,P x y->N9 M A E s (T x y z) Q st)->N7)(h2:∀x y z,P x y->N9 M A E s (T x y z) Q st):N7:=h1 h2
theorem zO9{st:BM}{a b:Array A6}{Q:Array A6->BM->Prop}(hA:V5 prog w A s kd BP L)(O:Ord L BP)(hk:kindOf st=kd)(ha:∀x∈a,x∈BP)(hb:∀x∈b,x∈BP)(na:1<=a.size)(nb:1<=b.size)(sa:SA L a)(sb:SA L b)(hf:∀(i:Nat) (hi:i<a.size),L a[i] (b[0]'(FV nb))=AB)(hl:∀(j:Nat) (hj:j<b.size),L (a[a.size-1]'(by lia)) b[j]=AB)
  (h:∀c CG,Gal st CG->c.Perm (a++b)->(c.toList.Pairwise λx y=>L y x=AB)->Q c CG):N9 (A3 prog w) A E s (zWX a b) Q st:=by
 refine BG (QL (GK {rfl,?_}));dsimp only;refine VP 'l' ?_
 have m0:MidHO L a b #[a[a.size-1]] (a.size-1) b.size:=by
  have z:MidHO L a b #[] a.size b.size:={{by rw[JW 's',JW 's'];simp,AO _,AO _,by simp},OF,λx hx=>by simp at hx,λx hx=>by simp at hx};exact z.pushA sa (na) 'l' λj hj _=>hl j hj
 refine MI (λe1=>?_) (λe1=>?_)
 .exact A8 (h _ _ (Gal.refl st) m0.m.done (m0.doneA sb (beq_iff_eq.mp e1)))
 refine MI (λe2=>?_) (λe2=>?_)
 .exact A8 (h _ _ (Gal.refl st) m0.m.firstB (m0.firstB sa sb (beq_iff_eq.mp e2) hf))
 have Mg:¬(a.size-1=0):=λz=>e1 (beq_iff_eq.mpr z);have Mf:¬(b.size=1):=λz=>e2 (beq_iff_eq.mpr z);refine BG (NZ ?_)
 refine qD
  (I:=λi c CG=>Gal st CG/\∃na nb out g,c=(AH,na,nb,out,g)/\MidHO L a b out na nb/\1<=na/\2<=nb/\i+1<=out.size)
  (R:=λc CG=>Gal st CG/\∃r na nb out g,c=(AA r,na,nb,out,g)/\(r.Perm (a++b)/\r.toList.Pairwise λx y=>L y x=AB)) ?TW ?fin ?init ?post
 case init=>exact{Gal.refl st,_,_,_,_,rfl,m0,by lia,by lia,by simp}
 case post =>
  intro c CG H;refine rF (c:=c) H λg r ia ib out gg p=>?_;clear H;exact A8 (h _ _ g p.1 p.2)
 case fin =>
  intro c CG H;refine At (c:=c) H λg na nb out gg P=>?_;clear H;have m:=P.1;have h1:=P.2.1;have h2:=P.2.2.1;have h3:=P.2.2.2;clear P;exfalso;have:=m.m.sz;lia
 case TW =>
  intro i c CG _ hi H;refine At (c:=c) H λg na nb out gg P=>?_;clear H;have m:=P.1;have h1:=P.2.1;have h2:=P.2.2.1;have h3:=P.2.2.2;clear P;dsimp only;have Jc:0<a.size+b.size:=AL (B0 _) hi
  refine qD
   (I:=λ_ c st2=>Gal st st2/\∃na nb out ac bc,c=(AH,na,nb,out,ac,bc)/\MidHO L a b out na nb/\1<=na/\2<=nb/\i+1<=out.size)
   (R:=λc st2=>Gal st st2/\∃r na nb out ac bc,c=(r,na,nb,out,ac,bc)/\(match r with
    |some r=>(r.Perm (a++b)/\r.toList.Pairwise λx y=>L y x=AB)
    |none=>MidHO L a b out na nb/\1<=na/\2<=nb/\i+1<=out.size)) ?step1 ?fin1 {g,_,_,_,_,_,rfl,m,h1,h2,h3} ?post1
  case fin1 =>
   intro c st2 H;refine rF (c:=c) H λg2 na nb out ac bc P=>?_;clear H;have m:=P.1;have h1:=P.2.1;have h2:=P.2.2.1;have h3:=P.2.2.2;clear P;exact{g2,AH,_,_,_,_,_,rfl,m,h1,h2,h3}
  case step1 =>
   intro j c st2 _ hj H;refine rF (c:=c) H λg2 na nb out ac bc P=>?_;clear H;have m:=P.1;have h1:=P.2.1;have h2:=P.2.2.1;have h3:=P.2.2.2;clear P;dsimp only;have la:=m.m.la;have lb:=m.m.lb;refine VP 'l' (VP 'l' (Vk hA (g2.kind hk) (hb _ (AE _)) (ha _ (AE _)) ?_));have PP:na-1<a.size:=by lia
   have RT:nb-1<b.size:=by lia
   refine MI (λew=>?_) (λew=>?_)
   .refine VP PP ?_
    have m2:=m.pushA sa h1 PP λj hj SF=>O.trans _ _ _ (hb _ (AE hj)) (hb _ (AE RT)) (ha _ (AE PP)) (sb.le O hb RT 'l') (O.asym _ _ (hb _ (AE RT)) (ha _ (AE PP)) ew);have N6:i+1<=(out.push a[na-1]).size:=by rw[EF];lia
    refine MI (λq=>A8 {g2,AA _,_,_,_,_,_,rfl,m2.m.done,m2.doneA sb (beq_iff_eq.mp q)}) (λq=>?_);have WG:1<=na-1:=Nat.pos_of_ne_zero λz=>q (beq_iff_eq.mpr z);refine MI (λq=>?_) (λq=>?_)
    .exact A8 {g2,AH,_,_,_,_,_,rfl,m2,WG,h2,N6}
    .exact A8 {g2,_,_,_,_,_,rfl,m2,WG,h2,N6}
   .refine VP RT ?_
    have m2:=m.pushB sb (AV (CK _ _) h2) RT λj hj SF=>O.trans _ _ _ (ha _ (AE hj)) (ha _ (AE PP)) (hb _ (AE RT)) (sa.le O ha PP 'l') (Q8.mpr ew);have N6:i+1<=(out.push b[nb-1]).size:=by rw[EF];lia
    refine MI (λq=>A8 {g2,AA _,_,_,_,_,_,rfl,m2.m.firstB,m2.firstB sa sb (beq_iff_eq.mp q) hf}) (λq=>?_)
    have U4:2<=nb-1:=by
     have q':¬(nb-1=1):=λz=>q (beq_iff_eq.mpr z);lia
    refine MI (λq=>?_) (λq=>?_)
    .exact A8 {g2,AH,_,_,_,_,_,rfl,m2,h1,U4,N6}
    .exact A8 {g2,_,_,_,_,_,rfl,m2,h1,U4,N6}
  case post1 =>
   intro c st2 H;refine rE (c:=c) H λg2 r na nb out ac bc hr=>?_;clear H
   cases r with
   |some r=>exact A8 {g2,r,_,_,_,_,rfl,hr}
   |none =>
    have m:=hr.1;have h1:=hr.2.1;have h2:=hr.2.2.1;have h3:=hr.2.2.2;clear hr;dsimp only;refine BG (QL (GK {rfl,?_}))
    refine qD
     (I:=λj c LJ=>Gal st LJ/\∃na nb out gg ac bc,c=(AH,na,nb,out,gg,ac,bc)/\MidHO L a b out na nb/\1<=na/\2<=nb/\i+1+(if j=0 then 0 else 1)<=out.size)
     (R:=λc LJ=>Gal st LJ/\∃r na nb out gg ac bc,c=(r,na,nb,out,gg,ac,bc)/\(match r with
      |some r=>(r.Perm (a++b)/\r.toList.Pairwise λx y=>L y x=AB)
      |none=>MidHO L a b out na nb/\1<=na/\2<=nb/\i+2<=out.size)) ?step2 ?fin2 {g2,_,_,_,_,_,_,rfl,m,h1,h2,by simpa using h3} ?post2
    case fin2 =>
     intro c LJ H;refine rE (c:=c) H λg3 na nb out gg ac bc P=>?_;clear H;have m:=P.1;have h1:=P.2.1;have h2:=P.2.2.1;have h3:=P.2.2.2;clear P;rw[if_neg (GW (AM Jc (NU _ _)))] at h3;exact{g3,AH,_,_,_,_,_,_,rfl,m,h1,h2,h3}
    case step2 =>
     intro j c LJ _ hj H;refine rE (c:=c) H λg3 na nb out gg ac bc P=>?_;clear H;have m:=P.1;have h1:=P.2.1;have h2:=P.2.2.1;have h3:=P.2.2.2;clear P
     replace h3:i+1<=out.size:=by
      split at h3<;>lia
     dsimp only;have la:=m.m.la;have lb:=m.m.lb
     refine Vh (λK=>by
      refine MI (λhg=>?gpos) (λhg=>?gneg)
      case gneg =>
       generalize gg=g';exact K g'
      case gpos=>exact K (gg-1)) (λgg=>?_)
     refine As ?_;refine VP 'l' (Vj hA O ((g3.set _).kind hk) (hb _ (AE _)) ha (AV (CD (IJ _)) la) 'l' (λi j hj MN _=>sa (0+i) (0+j) hj (A2 MN _)) λk Y1 c1 c2=>?_);have RT:nb-1<b.size:=by lia
     have gI:∀(i:Nat) (hi:i<a.size),i<k->L b[nb-1] a[i]=AB:=λi hi eF=>by
      have z:=c1 i (AL (CD (IJ _)) hi) eF;simpa using z
     dsimp only
     refine Vg (λ(out:Array A6) (na:Nat)=>MidHO L a b out na nb/\1<=na/\i+1<=out.size/\∀(i:Nat) (hi:i<a.size),i<na->L b[nb-1] a[i]=AB) (λK=>by
      by_cases o7:¬(na-k>0)
      .rw[if_neg o7]
       have hP:MidHO L a b out na nb/\1<=na/\i+1<=out.size/\∀(i:Nat) (hi:i<a.size),i<na->L b[nb-1] a[i]=AB:={m,h1,h3,λi hi eF=>gI i hi 'l'}
       revert hP
       generalize na-k=ac';generalize out=XQ,na=na';exact λhP=>K XQ na' ac' hP
      .rw[if_pos (L6.mp o7)]
       replace m:=m.manyA sa Y1 λi hi WG U4 j hj SF=>O.trans _ _ _ (hb _ (AE hj)) (hb _ (AE RT)) (ha _ (AE hi)) (sb.le O hb RT 'l') (O.asym _ _ (hb _ (AE RT)) (ha _ (AE hi)) (by
        have z:=c2 i (AL (CD (IJ _)) hi) WG U4
        simpa using z))
       refine MI (λq1=>A8 {g3.set _,AA _,_,_,_,_,_,_,rfl,m.m.done,m.doneA sb (beq_iff_eq.mp q1)}) (λq1=>?_);replace q1:¬(k=0):=λz=>q1 (beq_iff_eq.mpr z)
       exact K _ _ _ {m,by lia,by rw[GO];lia,gI}) ?_
     clear c1 c2 gI m h1 h3 Y1 la;intro out na ac P;have m:=P.1;have h1:=P.2.1;have h3:=P.2.2.1;have gI:=P.2.2.2;clear P;refine VP (RT) ?_;have bP:=m.m.sz;have la:=m.m.la;replace m:=m.pushB sb (AV (CK _ _) h2) (RT) gI;have hs:=m.m.sz;refine MI (λq3=>A8 {g3.set _,AA _,_,_,_,_,_,_,rfl,m.m.firstB,m.firstB sa sb (beq_iff_eq.mp q3) hf}) (λq3=>?_);have q3':¬(nb-1=1):=λz=>q3 (beq_iff_eq.mpr z);refine VP 'l' (Vi hA O ((g3.set _).kind hk) (ha _ (AE _)) hb 'l' 'l' (λi j hj MN _=>sb (0+i) (0+j) hj (A2 MN _)) λk2 k9 d1 d2=>?_);have PP:na-1<a.size:=by lia
     have pI:∀(j:Nat) (hj:j<b.size),j<k2->L a[na-1] b[j]=AB:=λj hj SF=>O.asym _ _ (hb _ (AE hj)) (ha _ (AE _)) (by
      have z:=d1 j (AL (CD (IJ _)) hj) SF
      simpa using z)
     dsimp only
     refine Vg (λ(out:Array A6) (nb:Nat)=>MidHO L a b out na nb/\2<=nb/\i+2<=out.size/\∀(j:Nat) (hj:j<b.size),j<nb->L a[na-1] b[j]=AB) (λK=>by
      by_cases w6:¬(nb-1-k2>0)
      .rw[if_neg w6]
       have hP:MidHO L a b (out.push b[nb-1]) na (nb-1)/\2<=nb-1/\i+2<=(out.push b[nb-1]).size/\∀(j:Nat) (hj:j<b.size),j<nb-1->L a[na-1] b[j]=AB:={m,by lia,by rw[EF];lia,λj hj SF=>pI j hj 'l'}
       revert hP
       generalize nb-1-k2=bc';generalize out.push b[nb-1]=XQ;generalize nb-1=Zc;exact λhP=>K XQ Zc bc' hP
      .rw[if_pos (L6.mp w6)]
       replace m:=m.manyB sb k9 λi hi WG U4 j hj SF=>O.trans _ _ _ (ha _ (AE hj)) (ha _ (AE PP)) (hb _ (AE hi)) (sa.le O ha PP 'l') (by
        have z:=d2 i (AL (CD (IJ _)) hi) WG U4
        simpa using z)
       refine MI (λq4=>A8 {g3.set _,AA _,_,_,_,_,_,_,rfl,m.m.firstB,m.firstB sa sb (beq_iff_eq.mp q4) hf}) (λq4=>?_);replace q4:¬(k2=1):=λz=>q4 (beq_iff_eq.mpr z);refine MI (λq5=>A8 {g3.set _,AA _,_,_,_,_,_,_,rfl,m.m.done,m.doneB sa (beq_iff_eq.mp q5)}) (λq5=>?_);replace q5:¬(k2=0):=λz=>q5 (beq_iff_eq.mpr z)
       exact K _ _ _ {m,by lia,by rw[GO,EF];lia,pI}) ?_
     clear d1 d2 pI k9 m hs bP h3 gI;intro out Zc bc P;have m:=P.1;have U4:=P.2.1;have h3:=P.2.2.1;have pI:=P.2.2.2;clear P;refine VP (PP) ?_;have N6:=m.m.sz;replace m:=m.pushA sa (h1) (PP) pI;have hs3:=m.m.sz;refine MI (λq6=>A8 {g3.set _,AA _,_,_,_,_,_,_,rfl,m.m.done,m.doneA sb (beq_iff_eq.mp q6)}) (λq6=>?_);have q6':¬(na-1=0):=λz=>q6 (beq_iff_eq.mpr z);refine MI (λq7=>?_) (λq7=>?_)
     .exact A8 {g3.set _,AH,_,_,_,_,_,_,rfl,m,by lia,U4,by lia}
     .exact A8 {g3.set _,_,_,_,_,_,_,rfl,m,by lia,U4,by rw[if_neg (GW (Nat.succ_pos _))];lia}
    case post2 =>
     intro c LJ H;refine Vl (c:=c) H λg3 r na nb out gg ac bc hr=>?_;clear H
     cases r with
     |some r=>exact A8 {g3,r,_,_,_,_,rfl,hr}
     |none =>
      have m:=hr.1;have h1:=hr.2.1;have h2:=hr.2.2.1;have h3:=hr.2.2.2;clear hr;exact As (A8 {g3.set _,_,_,_,_,rfl,m,h1,h2,h3})
end
def Seg(L:A6->A6->Bool)(a:Array A6)(i n:Nat):Prop:=∀(p q:Nat) (hq:q<a.size) (OP:p<q),i<=p->q<i+n->L a[q] (a[p]'(CU OP hq))=AB
theorem yBE{a c:Array A6}{sa:Nat}(h:sa+c.size<=a.size):(c.toList.zipIdx.foldl (λa (p:A6×Nat)=>a.setIfInBounds (sa+p.2) p.1) a).size=a.size /\
  ∀(p:Nat) (hp:p<(c.toList.zipIdx.foldl (λa (p:A6×Nat)=>a.setIfInBounds (sa+p.2) p.1) a).size) (hp':p<a.size),
   (c.toList.zipIdx.foldl (λa (p:A6×Nat)=>a.setIfInBounds (sa+p.2) p.1) a)[p]=if h:sa<=p/\p-sa<c.size then c[p-sa]'h.2 else a[p]:=by
 have e:=Pn c.toList a sa 0 (by simpa using h);generalize c.toList.zipIdx.foldl (λa (p:A6×Nat)=>a.setIfInBounds (sa+p.2) p.1) a=r at e ⊢;rw[show sa+0=sa from Nat.add_zero _] at e
 have hs:r.size=a.size:=by
  have:=congrArg SO e;simp at this;lia
 refine{hs,λp hp hp'=>?_};have e2:r.toList[p]?=(a.toList.take sa++c.toList++a.toList.drop (sa+c.toList.length))[p]?:=by rw[e]
 rw[DD,getElem?_pos r p hp] at e2;have hl:(a.toList.take sa).length=sa:=by simp;lia
 by_cases h1:p<sa
 .rw[dif_neg 'l']
  rw[DG,B9 'l',V3 h1,DD,getElem?_pos a p hp'] at e2;exact BV e2
 .by_cases h2:p-sa<c.size
  .rw[dif_pos {EL h1,h2}]
   rw[DG,BY 'l',hl,B9 (by simpa using h2),DD,getElem?_pos c (p-sa) h2] at e2;exact BV e2
  .rw[dif_neg 'l']
   rw[DG,BY 'l',hl,BY (by simp;lia),List.getElem?_drop] at e2;rw[show sa+c.toList.length+(p-sa-c.toList.length)=p by simp;lia,DD,getElem?_pos a p hp'] at e2;exact BV e2
section
variable{prog:CF}{w:DJ}{A:DI}{E:AI->AN->Prop}{s:AN}{BP:Array A6}{kd:EZ}{L:A6->A6->Bool}
theorem Du{a:Array A6}{i j:Nat}{x:A6}(hx:x∈a.extract i j):∃(p:Nat) (hp:p<a.size),i<=p/\p<j/\x=a[p]:=by
 rw[Array.mem_iff_getElem] at hx;obtain⟨k,hk,rfl⟩:=hx;rw[JA] at hk;exact{i+k,by lia,AY _ _,by lia,by simp}
theorem yKV{P N7:Prop}(h1:P->N7)(h2:P):N7:=h1 h2
theorem zPB{st:BM}{i sa na sb nb pa pb:Nat}{Q:Bool->BM->Prop}(hA:V5 prog w A s kd BP L)(O:Ord L BP)(hB:SB BP kd st)(e1:(DB st)[i]?=AA (sa,na,pa))(e2:(DB st)[i+1]?=AA (sb,nb,pb))
  (h1:1<=na) (h2:1<=nb) (Zj:sb=sa+na) (hz:sb+nb<=BP.size) (ga:Seg L (AT st) sa na) (gb:Seg L (AT st) sb nb)
  (h:∀CG,SB BP kd CG->DB CG=((DB st).setIfInBounds i (sa,na+nb,pa)).eraseIdxIfInBounds (i+1)->Seg L (AT CG) sa (na+nb) ->
   (∀(p:Nat) (hp:p<(AT CG).size) (hp':p<(AT st).size),p<sa\/sa+(na+nb)<=p->(AT CG)[p]=(AT st)[p])->Q AG CG) :
  N9 (A3 prog w) A E s (mergeAt' i) Q st:=by
 refine BG (NZ ?_);rw[e1,e2];dsimp only;have hsz:=hB.size;have U1:∀x∈AT st,x∈BP:=λx hx=>hB.perm.mem_iff.mp hx;have mm:∀(p:Nat) (hp:p<(AT st).size),(AT st)[p]∈BP:=λp hp=>U1 _ (AE hp);refine BG (yA5 ?_);have rZ:SB BP kd (setPending st (((DB st).setIfInBounds i (sa,na+nb,pa)).eraseIdxIfInBounds (i+1))):={hB.perm,hB.kind,hB.failed};have dX:sb<(AT st).size:=by lia
 -- b's first is at DW the others of b;a's last is at least the others of a
 have b0:∀(q:Nat) (hq:q<(AT st).size),sb<=q->q<sb+nb->L (AT st)[q] (AT st)[sb]=AB:=λq hq h3 h4=>by
  rcases DC h3 with z|z
  .exact gb sb q hq z (AO _) h4
  .subst z;exact O.refl (mm _ _)
 have Cb:sa+na-1<(AT st).size:=by lia
 have aL:∀(p:Nat) (hp:p<(AT st).size),sa<=p->p<sa+na->L (AT st)[sa+na-1] (AT st)[p]=AB:=λp hp h3 h4=>by
  rcases DC (show p<=sa+na-1 by lia) with z|z
  .exact ga p (sa+na-1) Cb z h3 'l'
  .subst z;exact O.refl (mm _ _)
 refine BG (qS (G1:=AT st) (dX) (BG (Sa (G1:=AT st) hA O rZ.kind (U1 _ (AE _)) U1 'l' (FV h1) (λi j hj MN SF=>ga (sa+i) (sa+j) hj (A2 MN _) (AY _ _) (A2 SF _)) λk hk c1 c2=>?_)))
 have gI:∀(p:Nat) (hp:p<(AT st).size),sa<=p->p<sa+k->L (AT st)[sb] (AT st)[p]=AB:=λp hp h3 h4=>by
  have z:=c1 (p-sa) 'l' 'l';simpa[show sa+(p-sa)=p by lia] using z
 have lO:∀(p:Nat) (hp:p<(AT st).size),sa+k<=p->p<sa+na->L (AT st)[sb] (AT st)[p]=AG:=λp hp h3 h4=>by
  have z:=c2 (p-sa) 'l' 'l' 'l';simpa[show sa+(p-sa)=p by lia] using z
 dsimp only;refine MI (λq=>?_) (λq=>?_)
 .have q':na-k=0:=beq_iff_eq.mp q
  refine A8 (h _ rZ rfl (λp r hr VY h3 h4=>?_) λp hp hp' _=>rfl)
  by_cases Lv:r<sa+na
  .exact ga p r hr VY h3 Lv
  .by_cases eJ:sb<=p
   .exact gb p r hr VY eJ 'l'
   .exact O.trans _ _ _ (mm p (CU VY hr)) (mm sb dX) (mm r hr) (gI p (CU VY hr) h3 'l') (b0 r hr 'l' 'l')
 have q':¬(na-k=0):=λz=>q (beq_iff_eq.mpr z);refine BG (qS (G1:=AT st) 'l' (BG (Rz (G1:=AT st) hA O rZ.kind (U1 _ (AE _)) U1 'l' 'l' (λi j hj MN SF=>gb (sb+i) (sb+j) hj (A2 MN _) (AY _ _) (A2 SF _)) λm hm d1 d2=>?_)));have eal:sa+k+(na-k)-1=sa+na-1:=by lia
 have pI:∀(r:Nat) (hr:r<(AT st).size),sb<=r->r<sb+m->L (AT st)[r] (AT st)[sa+na-1]=AG:=λr hr h3 h4=>by
  have z:=d1 (r-sb) 'l' 'l';simpa[show sb+(r-sb)=r by lia,eal] using z
 have d2':∀(r:Nat) (hr:r<(AT st).size),sb+m<=r->r<sb+nb->L (AT st)[r] (AT st)[sa+na-1]=AB:=λr hr h3 h4=>by
  have z:=d2 (r-sb) 'l' 'l' 'l';simpa[show sb+(r-sb)=r by lia,eal] using z
 dsimp only;refine MI (λr=>?_) (λr=>?_)
 .have r':m=0:=beq_iff_eq.mp r
  refine A8 (h _ rZ rfl (λp r hr VY h3 h4=>?_) λp hp hp' _=>rfl)
  by_cases Lv:r<sa+na
  .exact ga p r hr VY h3 Lv
  .by_cases eJ:sb<=p
   .exact gb p r hr VY eJ 'l'
   .exact O.trans _ _ _ (mm p (CU VY hr)) (mm _ Cb) (mm r hr) (aL p (CU VY hr) h3 'l') (d2' r hr 'l' 'l')
 have r':¬(m=0):=λz=>r (beq_iff_eq.mpr z)
 have ex:∀i j x,x∈(AT st).extract i j->x∈BP:=λi j x hx=>by
  obtain⟨p,hp,_,_,rfl⟩:=Du hx;exact mm p hp
 have zx:((AT st).extract (sa+k) sb).size=na-k:=by rw[JA];lia
 have zy:((AT st).extract sb (sb+m)).size=m:=by rw[JA];lia
 have sx:SA L ((AT st).extract (sa+k) sb):=λi j hj MN=>by
  rw[zx] at hj;simpa using ga (sa+k+i) (sa+k+j) 'l' (A2 MN _) 'l' 'l'
 have sy:SA L ((AT st).extract sb (sb+m)):=λi j hj MN=>by
  rw[zy] at hj;simpa using gb (sb+i) (sb+j) 'l' (A2 MN _) (AY _ _) (A2 (AM hj hm) _)
 have hf:∀(i:Nat) (hi:i<((AT st).extract (sa+k) sb).size),L ((AT st).extract (sa+k) sb)[i] (((AT st).extract sb (sb+m))[0]'(by lia))=AB:=λi hi=>by
  have z:=O.asym _ _ (mm sb dX) (mm (sa+k+i) 'l') (lO (sa+k+i) 'l' (AY _ _) 'l');simpa using z
 have hl:∀(j:Nat) (hj:j<((AT st).extract sb (sb+m)).size),L (((AT st).extract (sa+k) sb)[((AT st).extract (sa+k) sb).size-1]'(by lia)) ((AT st).extract sb (sb+m))[j]=AB:=λj hj=>by
  have z:=O.asym _ _ (mm (sb+j) 'l') (mm (sa+na-1) Cb) (pI (sb+j) 'l' (AY _ _) 'l');simpa[zx,show sa+k+(na-k-1)=sa+na-1 by lia] using z
 refine yKV (λK=>MI (λ_=>BG (zO8 (a:=(AT st).extract (sa+k) sb) (b:=(AT st).extract sb (sb+m)) hA O rZ.kind (ex _ _) (ex _ _) 'l' 'l' sx sy hf hl K)) (λ_=>BG (zO9 (a:=(AT st).extract (sa+k) sb) (b:=(AT st).extract sb (sb+m)) hA O rZ.kind (ex _ _) (ex _ _) 'l' 'l' sx sy hf hl K))) ?_;rintro c CG ⟨g,rfl⟩ hp oX;refine BG (ND (BG (NZ (A8 ?_))));have hn:(jI st).isNone=AG:=by rw[hB.failed];rfl
 show Q (jI st).isNone _;rw[hn];have lG:c.size=na-k+m:=by rw[hp.size_eq,GO,zx,zy]
 obtain⟨os,Jq⟩:=yBE (a:=AT st) (c:=c) (sa:=sa+k) 'l'
 have xP:∀(j:Nat) (hj:j<c.size),(∃(p:Nat) (hp:p<(AT st).size),sa+k<=p/\p<sb/\c[j]=(AT st)[p])\/∃(p:Nat) (hp:p<(AT st).size),sb<=p/\p<sb+m/\c[j]=(AT st)[p]:=λj hj=>by
  have hx:c[j]∈(AT st).extract (sa+k) sb++(AT st).extract sb (sb+m):=hp.mem_iff.mp (AE hj);rcases Array.mem_append.mp hx with hx|hx
  .exact .inl (Du hx)
  .exact .inr (Du hx)
 refine h _ {(zTO 'l' 'l' hp).trans hB.perm,hB.kind,hB.failed} rfl (λp r hr VY h3 h4=>?_) λp hpp Kg Zo=>?_
 .have Z5:r<(AT st).size:=by rw[<-os];exact hr
  show L (_:Array A6)[r] (_:Array A6)[p]=AB;rw[Jq r hr Z5,Jq p (CU VY hr) (CU VY Z5)]
  by_cases gA:p<sa+k
  .rw[dif_neg (show ¬(sa+k<=p/\p-(sa+k)<c.size) by lia)]
   by_cases Zl:r<sa+k
   .rw[dif_neg (show ¬(sa+k<=r/\r-(sa+k)<c.size) by lia)]
    exact ga p r Z5 VY h3 (AM Zl (ED (AO _) hk))
   .by_cases oV:r-(sa+k)<c.size
    .rw[dif_pos (show sa+k<=r/\r-(sa+k)<c.size from{EL Zl,oV})]
     rcases xP _ oV with⟨u,hu,u1,u2,eu⟩|⟨u,hu,u1,u2,eu⟩
     .rw[eu];exact ga p u hu (AM gA u1) h3 (AM u2 (CD Zj))
     .rw[eu];exact O.trans _ _ _ (mm p (CU VY Z5)) (mm sb dX) (mm u hu) (gI p (CU VY Z5) h3 gA) (b0 u hu u1 (AM u2 (ED (AO _) hm)))
    .rw[dif_neg (show ¬(sa+k<=r/\r-(sa+k)<c.size) by lia)]
     exact O.trans _ _ _ (mm p (CU VY Z5)) (mm sb dX) (mm r Z5) (gI p (CU VY Z5) h3 gA) (b0 r Z5 'l' 'l')
  .by_cases XT:p-(sa+k)<c.size
   .rw[dif_pos (show sa+k<=p/\p-(sa+k)<c.size from{EL gA,XT})]
    by_cases oV:r-(sa+k)<c.size
    .rw[dif_pos (show sa+k<=r/\r-(sa+k)<c.size from{by lia,oV})]
     have z:=GF.mp oX (p-(sa+k)) (r-(sa+k)) (by simpa using XT) (by simpa using oV) 'l';simpa using z
    .rw[dif_neg (show ¬(sa+k<=r/\r-(sa+k)<c.size) by lia)]
     rcases xP _ XT with⟨u,hu,u1,u2,eu⟩|⟨u,hu,u1,u2,eu⟩
     .rw[eu];exact O.trans _ _ _ (mm u hu) (mm _ Cb) (mm r Z5) (aL u hu (AV (AY _ _) u1) (AM u2 (CD Zj))) (d2' r Z5 'l' 'l')
     .rw[eu];exact gb u r Z5 'l' u1 'l'
   .rw[dif_neg (show ¬(sa+k<=p/\p-(sa+k)<c.size) by lia),dif_neg (show ¬(sa+k<=r/\r-(sa+k)<c.size) by lia)]
    exact gb p r Z5 VY 'l' 'l'
 .show(_:Array A6)[p]=_
  rw[Jq p hpp Kg,dif_neg (show ¬(sa+k<=p/\p-(sa+k)<c.size) by lia)]
end
theorem seg_iff{L:A6->A6->Bool}{a:Array A6}{i n:Nat}:Seg L a i n↔∀p q x y,p<q->i<=p->q<i+n->a[p]?=AA x->a[q]?=AA y->L y x=AB:=by
 constructor
 .intro h p q x y OP hi hq ex ey
  obtain⟨h1,rfl⟩:=BQ.mp ex;obtain⟨h2,rfl⟩:=BQ.mp ey;exact h p q h2 OP hi hq
 .intro h p q hq OP hi hn
  exact h p q _ _ OP hi hn (getElem?_pos a p (CU OP hq)) (getElem?_pos a q hq)
section
variable{prog:CF}{w:DJ}{A:DI}{E:AI->AN->Prop}{s:AN}{BP:Array A6}{kd:EZ}{L:A6->A6->Bool}
theorem qV{st:BM}{i j:Nat}{Q:Option Bool->BM->Prop}(hA:V5 prog w A s kd BP L)(hB:SB BP kd st)(hi:i<(AT st).size)(hj:j<(AT st).size)(h:Q (AA (L (AT st)[i] (AT st)[j])) st) :
  N9 (A3 prog w) A E s (ltAt' i j) Q st:=by
 rw[ltAt'_eq];refine BG (NZ ?_);exact BG (qS hi (BG (qS hj (zH hA hB.kind (hB.mem hi) (hB.mem hj) h))))
theorem zKN{st:BM}{lo n ok:Nat}{Q:Bool->BM->Prop}(hA:V5 prog w A s kd BP L)(O:Ord L BP)(hn:lo+n<=BP.size)(hok:ok<=n)(h1:1<=n)(hB:SB BP kd st)(hs:Seg L (AT st) lo ok)
  (h:∀CG,SB BP kd CG->DB CG=DB st->Seg L (AT CG) lo n->(∀p,p<lo->(AT CG)[p]?=(AT st)[p]?)->Q AG CG):N9 (A3 prog w) A E s (binarySort' lo n ok) Q st:=by
 rw[binarySort'_eq]
 refine BG (JP (FT (I:=λk c CG=>c=(AH,())/\SB BP kd CG/\DB CG=DB st/\Seg L (AT CG) lo k/\∀p,p<lo->(AT CG)[p]?=(AT st)[p]?)
  (Q:=λc CG=>c=(AH,())/\SB BP kd CG/\DB CG=DB st/\Seg L (AT CG) lo n/\∀p,p<lo->(AT CG)[p]?=(AT st)[p]?) ?TW ?fin {rfl,hB,rfl,?ini,λ_ _=>rfl}) ?post)
 case ini =>
  intro p q hq OP hp oW;exact hs p q hq OP hp 'o'
 case fin =>
  rintro c CG ⟨e,lK,hp,VX,ho⟩;refine{e,lK,hp,λp q hq OP hp oW=>VX p q hq OP hp ?_,ho};omega
 case post =>
  rintro c CG ⟨rfl,lK,hp,VX,ho⟩;exact A8 (h CG lK hp VX ho)
 case TW =>
  rintro k c CG hak hkn ⟨rfl,lK,hp,VX,ho⟩;have hsz:=lK.size;have Y1:lo+k<(AT CG).size:=by omega
  have mm:∀(p:Nat) (hp:p<(AT CG).size),(AT CG)[p]∈BP:=λp hp=>lK.mem hp
  refine BG (JP (FT (I:=λx c PH=>PH=CG/\∃l r,c=(AH,l,r)/\l<=r/\r<=k/\(∀(p:Nat) (hp:lo+p<(AT CG).size),p<l->L (AT CG)[lo+k] (AT CG)[lo+p]=AB)/\(∀(p:Nat) (hp:lo+p<(AT CG).size),r<=p->p<k->L (AT CG)[lo+k] (AT CG)[lo+p]=AG)/\r-l+x<=k)
   (Q:=λc PH=>PH=CG/\∃l r,c=(AH,l,r)/\l<=k/\(∀(p:Nat) (hp:lo+p<(AT CG).size),p<l->L (AT CG)[lo+k] (AT CG)[lo+p]=AB)/\(∀(p:Nat) (hp:lo+p<(AT CG).size),l<=p->p<k->L (AT CG)[lo+k] (AT CG)[lo+p]=AG)) ?istep
   ((λc PH q0=>by obtain⟨e,l,r,e2,q1,q2,q3,q4,q5⟩:=q0;exact{e,l,r,e2,AV q1 q2,q3,λp hp h1 h2=>q4 p hp 'o' h2})) {rfl,0,k,rfl,B0 _,AO _,λp hp h=>by omega,λp hp h1 h2=>by omega,by omega}) ?ipost)
  case istep =>
   rintro x c PH _ hxk ⟨rfl,l,r,rfl,q1,q2,q3,q4,q5⟩;dsimp only
   by_cases Zx:l>=r
   .rw[if_pos Zx]
    exact A8 {rfl,l,r,rfl,AV q1 q2,q3,λp hp h1 h2=>q4 p hp 'o' h2}
   .rw[if_neg Zx]
    have hm:lo+(l+r) / 2<(AT PH).size:=by omega
    refine BG (qV hA lK Y1 hm ?_)
    cases e:L (AT PH)[lo+k] (AT PH)[lo+(l+r) / 2] with
    |true =>
     refine A8 {rfl,l,(l+r) / 2,rfl,by omega,by omega,q3,λp hp h1 h2=>?_,by omega}
     cases e3:L (AT PH)[lo+k] (AT PH)[lo+p] with
     |true=>rfl
     |false =>
      rcases DC h1 with z|z
      .rw[O.trans _ _ _ (mm _ hm) (mm _ hp) (mm _ Y1) (VX (lo+(l+r) / 2) (lo+p) hp (A2 z _) (AY _ _) (A2 h2 _)) e3] at e
       cases e
      .subst z;rw[e] at e3;cases e3
    |false =>
     refine A8 {rfl,(l+r) / 2+1,r,rfl,by omega,q2,λp hp h1=>?_,q4,by omega};rcases DC (show p<=(l+r) / 2 from HU h1) with z|z
     .exact O.trans _ _ _ (mm _ hp) (mm _ hm) (mm _ Y1) (VX (lo+p) (lo+(l+r) / 2) hm (A2 z _) (AY _ _) 'o') e
     .subst z;exact e
  case ipost =>
   rintro c PH ⟨rfl,l,r,rfl,hl,q3,q4⟩;show N9 _ _ _ _ (do moveDown' (lo+k) (lo+l);pure (QW (AH,()))) _ _;rw[moveDown'_eq];have bu:=getElem?_bubble (xs:=AT PH) Y1 (lo+k-(lo+l)) (C6 _ _);refine BG (ND (A8 {rfl,lK.setArr (bubble_perm _ _ _),hp,?_,λp XT=>?_}))
   .show Seg L (bubble (AT PH) (lo+k) (lo+k-(lo+l))) lo (k+1)
    have dY:=seg_iff.mp VX;rw[seg_iff];intro p q x y OP Zs oW ex ey;rw[bu] at ex ey;rw[show lo+k-(lo+k-(lo+l))=lo+l by omega] at ex ey
    by_cases gA:p=lo+l
    .rw[if_pos gA] at ex
     rw[if_neg 'o',if_pos 'o'] at ey;obtain⟨z1,rfl⟩:=BQ.mp ex;obtain⟨z2,rfl⟩:=BQ.mp ey;have z:=q4 (q-1-lo) 'o' 'o' 'o';have e:lo+(q-1-lo)=q-1:=by omega
     simp only[e] at z;exact O.asym _ _ (mm _ z1) (mm _ z2) z
    .rw[if_neg gA] at ex
     by_cases Y0:q=lo+l
     .rw[if_pos Y0] at ey
      rw[if_neg 'o'] at ex;obtain⟨z1,rfl⟩:=BQ.mp ex;obtain⟨z2,rfl⟩:=BQ.mp ey;have z:=q3 (p-lo) 'o' 'o';have e:lo+(p-lo)=p:=by omega
      simp only[e] at z;exact z
     .rw[if_neg Y0] at ey
      by_cases XT:lo+l<p/\p<=lo+k
      .rw[if_pos XT] at ex
       rw[if_pos 'o'] at ey;exact dY (p-1) (q-1) x y 'o' 'o' 'o' ex ey
      .rw[if_neg XT] at ex
       by_cases bQ:lo+l<q/\q<=lo+k
       .rw[if_pos bQ] at ey
        exact dY p (q-1) x y 'o' (Zs) 'o' ex ey
       .rw[if_neg bQ] at ey
        exact dY p q x y (OP) (Zs) 'o' ex ey
   .show(bubble (AT PH) (lo+k) (lo+k-(lo+l)))[p]?=_
    rw[bu,if_neg 'o',if_neg 'o'];exact ho p XT
end
section
variable{L:A6->A6->Bool}{a BP:Array A6}
def Desc(L:A6->A6->Bool)(a:Array A6)(i n:Nat):Prop:=∀p q x y,p<q->i<=p->q<i+n->a[p]?=AA x->a[q]?=AA y->L x y=AB
def Blk(L:A6->A6->Bool)(a:Array A6)(i j:Nat):Prop:=∀p q x y,i<=p->p<j->i<=q->q<j->a[p]?=AA x->a[q]?=AA y->L x y=AB
theorem mir{xs:Array A6}{i j:Nat}(hj:j<=xs.size)(k:Nat):(O3 xs i j ((j-i) / 2))[k]?=if i<=k/\k<j then xs[i+j-1-k]? else xs[k]?:=getElem?_mirror_all hj k
theorem Desc.blk{lo n i:Nat}(d:Desc L a lo n)(hi:lo<=i)(hj:lo+n<=a.size)(b:Blk L a i (lo+n)):Desc L (O3 a i (lo+n) ((lo+n-i) / 2)) lo n:=by
 intro p q x y OP hp hq ex ey;rw[mir hj] at ex ey
 by_cases gA:i<=p/\p<lo+n
 .rw[if_pos gA] at ex
  rw[if_pos 'l'] at ey;exact b _ _ x y 'l' 'l' 'l' 'l' ex ey
 .rw[if_neg gA] at ex
  by_cases Y0:i<=q/\q<lo+n
  .rw[if_pos Y0] at ey
   exact d p _ x y 'l' hp 'l' ex ey
  .rw[if_neg Y0] at ey
   exact d p q x y OP hp hq ex ey
theorem Desc.rev{lo n:Nat}(d:Desc L a lo n)(hj:lo+n<=a.size):Seg L (O3 a lo (lo+n) ((lo+n-lo) / 2)) lo n:=by
 rw[seg_iff];intro p q x y OP hp hq ex ey;rw[mir hj] at ex ey;rw[if_pos 'l'] at ex ey;exact d _ _ y x 'l' 'l' 'l' ey ex
theorem Seg.more{lo n:Nat}(O:Ord L BP)(hm:∀x∈a,x∈BP)(s:Seg L a lo n)(h1:1<=n)(hs:lo+n<a.size)(h:L a[lo+n] (a[lo+n-1]'(AL (C6 _ _) hs))=AB):Seg L a lo (n+1):=by
 intro p q hq OP hp oW;rcases DC (show q<=lo+n by lia) with z|z
 .exact s p q hq OP hp z
 .subst z
  rcases DC (show p<=lo+n-1 by lia) with z|z
  .exact O.trans _ _ _ (hm _ (AE _)) (hm _ (AE _)) (hm _ (AE hs)) (s p (lo+n-1) (AL (C6 _ _) hs) z hp 'l') h
  .subst z;exact h
theorem Desc.snoc{lo n:Nat}{y:A6}(d:Desc L a lo n)(h:∀p z,lo<=p->p<lo+n->a[p]?=AA z->L z y=AB)(e:a[lo+n]?=AA y):Desc L a lo (n+1):=λp q x y' OP hp hq ex ey=>by
 rcases DC (show q<=lo+n by lia) with z|z
 .exact d p q x y' OP hp z ex ey
 .subst z
  rw[e] at ey;cases ey;exact h p x hp (OP) ex
theorem Pz{lo n i:Nat}{P:A6->Prop}(hj:lo+n<=a.size)(hi:lo<=i)(h:∀p z,lo<=p->p<lo+n->a[p]?=AA z->P z):∀p z,lo<=p->p<lo+n->(O3 a i (lo+n) ((lo+n-i) / 2))[p]?=AA z->P z:=λp z h1 h2 e=>by
 rw[mir hj] at e;split at e
 .exact h _ z 'l' 'l' e
 .exact h p z h1 h2 e
theorem Blk.mir{i j:Nat}(b:Blk L a i j)(hj:j<=a.size):Blk L (O3 a i j ((j-i) / 2)) i j:=λp q x y h1 h2 h3 h4 ex ey=>by
 rw[TS.mir hj,if_pos {h1,h2}] at ex;rw[TS.mir hj,if_pos {h3,h4}] at ey;exact b _ _ x y 'l' 'l' 'l' 'l' ex ey
theorem Blk.one{i:Nat}(O:Ord L BP)(hm:∀x∈a,x∈BP):Blk L a i (i+1):=λp q x y h1 h2 h3 h4 ex ey=>by
 have e1:p=i:=by lia
 have e2:q=i:=by lia
 subst e1;subst e2;rw[ex] at ey;cases ey;exact O.refl (hm _ (W7 ex))
theorem Seg.one{lo:Nat}:Seg L a lo 1:=λp q hq OP hp oW=>by lia
end
section
variable{prog:CF}{w:DJ}{A:DI}{E:AI->AN->Prop}{s:AN}{BP:Array A6}{kd:EZ}{L:A6->A6->Bool}
def KpO(BP:Array A6)(kd:EZ)(lo:Nat)(st CG:BM):Prop:=Kp BP kd st CG/\∀p,p<lo->(AT CG)[p]?=(AT st)[p]?
theorem KpO.rev{st CG:BM}{lo i j:Nat}(h:KpO BP kd lo st CG)(hi:lo<=i)(hj:j<=BP.size):KpO BP kd lo st (setArr CG (O3 (AT CG) i j ((j-i) / 2))):=by
 refine{h.1.rev,λp hp=>?_};show(O3 (AT CG) i j ((j-i) / 2))[p]?=_;rw[mir (by rw[h.1.1.size];exact hj),if_neg 'l'];exact h.2 p hp
theorem We{α:Type}{T:StateT BM SM α}{M:Model}{A:DI}{E:AI->AN->Prop}{s:AN}{Q:α->BM->Prop}{N7:Prop}(P:BM->Prop)(h1:(∀st,P st->N9 M A E s T Q st)->N7)(h2:∀st,P st->N9 M A E s T Q st):N7:=h1 h2
theorem zNU{st:BM}{lo RB:Nat}{Q:Option Nat->BM->Prop}(hA:V5 prog w A s kd BP L)(O:Ord L BP)(hn:lo+RB<=BP.size)(h1:1<=RB)(hB:SB BP kd st)
  (h:∀m CG,KpO BP kd lo st CG->1<=m->m<=RB->Seg L (AT CG) lo m->Q (AA m) CG):N9 (A3 prog w) A E s (countRun' lo RB) Q st:=by
 have k0:KpO BP kd lo st st:={{hB,rfl},λ_ _=>rfl};have hsz:=hB.size;have mm:∀x∈AT st,x∈BP:=λx hx=>hB.perm.mem_iff.mp hx;refine BG (JP (FT (I:=λx c CG=>CG=st/\c=(AH,x)/\Seg L (AT st) lo x) (Q:=λc CG=>CG=st/\∃n,c=(AH,n)/\1<=n/\n<=RB/\Seg L (AT st) lo n/\(n=RB\/∃(hx:lo+n<(AT st).size),L (AT st)[lo+n] ((AT st)[lo+n-1]'(AL (C6 _ _) hx))=AG)) ?s1 ?f1 {rfl,rfl,Seg.one}) ?p1)
 case f1 =>
  rintro c CG ⟨rfl,rfl,sg⟩;have e:(if 1<=RB then RB else 1)=RB:=if_pos h1;exact{rfl,_,rfl,lW _ _,by lia,sg,.inl 'l'}
 case s1 =>
  rintro x c CG pD wM ⟨rfl,rfl,sg⟩;have RC:lo+x<(AT CG).size:=by lia
  refine BG (qV hA hB RC (show lo+x-1<(AT CG).size from AL (C6 _ _) RC) ?_)
  cases e:L (AT CG)[lo+x] ((AT CG)[lo+x-1]'(AL (C6 _ _) RC)) with
  |true=>exact A8 {rfl,x,rfl,pD,CM wM,sg,.inr {RC,e}}
  |false=>exact A8 {rfl,rfl,sg.more O mm pD RC e}
 case p1 =>
  rintro c CG ⟨rfl,n,rfl,Zr,Z6,sg,Zo⟩;refine MI (λq=>?_) (λq=>?_)
  .exact A8 (h n _ k0 Zr Z6 sg)
  have q':¬(n=RB):=λz=>q (beq_iff_eq.mpr z)
  obtain⟨RC,wY⟩:∃(hx:lo+n<(AT CG).size),L (AT CG)[lo+n] ((AT CG)[lo+n-1]'(AL (C6 _ _) hx))=AG:=by
   rcases Zo with z|z
   .exact absurd z q'
   .exact z
  -- the first n are alike,and the next is lP
  have Q9:∀st1,KpO BP kd lo CG st1->Blk L (AT st1) lo (lo+n)->(∀p x,lo<=p->p<lo+n->(AT st1)[p]?=AA x->L x (AT CG)[lo+n]=AB)->(AT st1)[lo+n]?=(AT CG)[lo+n]?->Desc L (AT st1) lo (n+1):=λst1 k1 bl U1 he p q x y OP hp hq ex ey=>by
   rcases DC (show q<=lo+n by lia) with z|z
   .exact bl p q x y hp (CU OP z) (CM (AL hp OP)) z ex ey
   .subst z
    rw[he,getElem?_pos (AT CG) (lo+n) RC] at ey;cases ey;exact U1 p x hp (OP) ex
  have Ci:∀(Zm:n=1\/L ((AT CG)[lo]'(AL (AY _ _) RC)) ((AT CG)[lo+n-1]'(AL (C6 _ _) RC))=AB),Blk L (AT CG) lo (lo+n):=λZm p q x y hp XT hq bQ ex ey=>by
   obtain⟨z1,rfl⟩:=BQ.mp ex;obtain⟨z2,rfl⟩:=BQ.mp ey
   have le:∀(u v:Nat) (hv:v<(AT CG).size) (Kc:u<=v),lo<=u->v<lo+n->L (AT CG)[v] ((AT CG)[u]'(AL Kc hv))=AB:=λu v hv Kc h3 h4=>by
    rcases DC Kc with z|z
    .exact sg u v hv z h3 h4
    .subst z;exact O.refl (mm _ (AE _))
   rcases Zm with z|z
   .have e1:p=lo:=by lia
    have e2:q=lo:=by lia
    subst e1;subst e2;exact O.refl (mm _ (AE _))
   ·-- y<=last<=first<=x turned: y at DW x
    have a1:=le q (lo+n-1) (AL (C6 _ _) RC) 'l' hq 'l';have a2:=le lo p z1 hp (AO _) XT
    exact O.trans _ _ _ (mm _ (AE z2)) (mm _ (AE (show lo<(AT CG).size from AL (AY _ _) RC))) (mm _ (AE z1))
     (O.trans _ _ _ (mm _ (AE z2)) (mm _ (AE (show lo+n-1<(AT CG).size from AL (C6 _ _) RC))) (mm _ (AE (show lo<(AT CG).size from AL (AY _ _) RC))) a1 z) a2
  have pN:Blk L (AT CG) lo (lo+n)->∀p x,lo<=p->p<lo+n->(AT CG)[p]?=AA x->L x (AT CG)[lo+n]=AB:=λbl p x hp XT ex=>by
   obtain⟨z1,rfl⟩:=BQ.mp ex;have a1:=O.asym _ _ (mm _ (AE RC)) (mm _ (AE (show lo+n-1<(AT CG).size from AL (C6 _ _) RC))) wY;have a2:=bl p (lo+n-1) _ _ hp XT 'l' 'l' (getElem?_pos (AT CG) p z1) (getElem?_pos (AT CG) (lo+n-1) (AL (C6 _ _) RC));exact O.trans _ _ _ (mm _ (AE RC)) (mm _ (AE (show lo+n-1<(AT CG).size from AL (C6 _ _) RC))) (mm _ (AE z1)) a1 a2
  refine We (λst1=>KpO BP kd lo CG st1/\Desc L (AT st1) lo (n+1)) (λK=>by
   refine MI (λq1=>?_) (λq1=>?_)
   case refine_2=>exact K _ {k0,Q9 _ k0 (Ci (.inl 'l')) (pN (Ci (.inl 'l'))) rfl}
   case refine_1 =>
    refine BG (qV hA hB (show lo<(AT CG).size from AL (AY _ _) RC) (show lo+n-1<(AT CG).size from AL (C6 _ _) RC) ?_);cases eq1:L ((AT CG)[lo]'(AL (AY _ _) RC)) ((AT CG)[lo+n-1]'(AL (C6 _ _) RC))
    case true=>exact A8 (h n _ k0 Zr Z6 sg)
    refine BG (zL ?_);have bl:=Ci (.inr eq1);have k1:=k0.rev (i:=lo) (j:=lo+n) (AO _) (AV (ED (AO _) Z6) hn)
    exact K _ {k1,Q9 _ k1 (Blk.mir (i:=lo) (j:=lo+n) bl (CM RC)) (Pz (CM RC) (AO _) (pN bl)) (by
     show(O3 (AT CG) lo (lo+n) ((lo+n-lo) / 2))[lo+n]?=_
     rw[mir (CM RC),if_neg 'l'])}) ?_
  clear Q9 Ci pN;rintro st1 ⟨k1,D1⟩;refine BG (QL (GK {rfl,?_}));have mk:∀st2,KpO BP kd lo CG st2->∀x∈AT st2,x∈BP:=λst2 k x hx=>k.1.1.perm.mem_iff.mp hx
  refine BG (JP (FT (I:=λx c st2=>∃VV,c=(AH,x,VV)/\KpO BP kd lo CG st2/\Desc L (AT st2) lo x/\VV+1<=x/\Blk L (AT st2) (lo+x-(VV+1)) (lo+x))
   (Q:=λc st2=>∃m VV,c=(AH,m,VV)/\KpO BP kd lo CG st2/\n+1<=m/\m<=RB/\Desc L (AT st2) lo m/\VV+1<=m/\Blk L (AT st2) (lo+m-(VV+1)) (lo+m)) ?s2 ?f2 {0,rfl,k1,D1,CK _ _,Blk.one O (mk _ k1)}) ?p2)
  case f2 =>
   rintro c st2 ⟨VV,rfl,k,D,gD,bk⟩;exact{_,VV,rfl,k,lW _ _,by lia,D,gD,bk}
  case s2 =>
   rintro x c st2 pD wM ⟨VV,rfl,k,D,gD,bk⟩;have Z3:=k.1.1.size;have m2:=mk _ k;have QG:lo+x<(AT st2).size:=by lia
   have oM:lo+x-1<(AT st2).size:=AL (C6 _ _) QG
   have all1:L (AT st2)[lo+x-1] (AT st2)[lo+x]=AB->∀p z,lo<=p->p<lo+x->(AT st2)[p]?=AA z->L z (AT st2)[lo+x]=AB:=λe p z hp XT ez=>by
    obtain⟨z1,rfl⟩:=BQ.mp ez;rcases DC (show p<=lo+x-1 by lia) with u|u
    .exact O.trans _ _ _ (m2 _ (AE QG)) (m2 _ (AE oM)) (m2 _ (AE z1)) e (D p (lo+x-1) _ _ u hp 'l' ez (getElem?_pos (AT st2) (lo+x-1) oM))
    .subst u;exact e
   refine BG (qV hA k.1.1 QG oM ?_)
   cases e:L (AT st2)[lo+x] (AT st2)[lo+x-1] with
   |true =>
    have al:=all1 (O.asym _ _ (m2 _ (AE QG)) (m2 _ (AE oM)) e);simp only[if_true];refine MI (λ_=>?_) (λ_=>?_)
    .have k':=k.rev (i:=lo+x-(VV+1)) (j:=lo+x) 'l' 'l'
     refine BG (zL (A8 {0,rfl,k',?_,CK _ _,Blk.one O (mk _ k')}));refine Desc.snoc (y:=(AT st2)[lo+x]) (D.blk 'l' (CM QG) bk) (Pz (CM QG) 'l' al) ?_;show(O3 (AT st2) (lo+x-(VV+1)) (lo+x) ((lo+x-(lo+x-(VV+1))) / 2))[lo+x]?=_;rw[mir (CM QG),if_neg 'l'];exact getElem?_pos (AT st2) (lo+x) QG
    .exact A8 {0,rfl,k,D.snoc al (getElem?_pos (AT st2) (lo+x) QG),CK _ _,Blk.one O m2}
   |false =>
    refine BG (qV hA k.1.1 oM QG ?_)
    cases e2:L (AT st2)[lo+x-1] (AT st2)[lo+x] with
    |true=>exact A8 {x,VV,rfl,k,pD,CM wM,D,gD,bk}
    |false =>
     have al:=all1 e2;refine A8 {VV+1,rfl,k,D.snoc al (getElem?_pos (AT st2) (lo+x) QG),ED gD (AO _),λp q u v WG U4 h3' h4' eu ev=>?_}
     by_cases hp:p<lo+x
     .by_cases hq:q<lo+x
      .exact bk p q u v 'l' hp 'l' hq eu ev
      .have e3:q=lo+x:=by lia
       subst e3;rw[getElem?_pos (AT st2) (lo+x) QG] at ev;cases ev;exact al p u 'l' hp eu
     .have e3:p=lo+x:=by lia
      subst e3;rw[getElem?_pos (AT st2) (lo+x) QG] at eu;cases eu
      by_cases hq:q<lo+x
      .obtain⟨z1,rfl⟩:=BQ.mp ev
       have a1:=bk (lo+x-1) q _ _ 'l' 'l' 'l' hq (getElem?_pos (AT st2) (lo+x-1) oM) ev;exact O.trans _ _ _ (m2 _ (AE z1)) (m2 _ (AE oM)) (m2 _ (AE QG)) a1 e
      .have e4:q=lo+x:=by lia
       subst e4;rw[getElem?_pos (AT st2) (lo+x) QG] at ev;cases ev;exact O.refl (m2 _ (AE QG))
  case p2 =>
   rintro c st2 ⟨m,VV,rfl,k2,gE,k7,D,gD,bk⟩;have Z3:=k2.1.1.size;dsimp only
   refine We (λst1=>KpO BP kd lo CG st1/\Desc L (AT st1) lo m) (λK=>by
    refine MI (λ_=>?_) (λ_=>?_)
    case refine_2=>exact K _ {k2,D}
    case refine_1=>exact BG (zL (K _ {k2.rev (i:=lo+m-(VV+1)) (j:=lo+m) 'l' (AV (ED (AO _) k7) hn),D.blk (i:=lo+m-(VV+1)) 'l' 'l' bk}))) ?_
   clear k2 D bk Z3;rintro st2 ⟨k2,D⟩;have hz3:=k2.1.1.size;refine BG (zL ?_);have rR:=Desc.rev D (by first|exact AV (AV (ED (AO _) k7) hn) (CD hz3.symm)|lia);have k3:=k2.rev (i:=lo) (j:=lo+m) (AO _) (AV (ED (AO _) k7) hn);refine BG (JP (FT (I:=λx c LJ=>KpO BP kd lo CG LJ/\c=(AH,x)/\Seg L (AT LJ) lo x) (Q:=λc LJ=>KpO BP kd lo CG LJ/\∃n,c=(AH,n)/\1<=n/\n<=RB/\Seg L (AT LJ) lo n) ?s3 ?f3 {k3,rfl,rR}) ?p3)
   case f3 =>
    rintro c LJ ⟨k,rfl,sg⟩;exact{k,_,rfl,AV h1 (NU _ _),by lia,sg}
   case s3 =>
    rintro x c LJ pD wM ⟨k,rfl,sg⟩;have hz4:=k.1.1.size;have QG:lo+x<(AT LJ).size:=by lia
    refine BG (qV hA k.1.1 QG (show lo+x-1<(AT LJ).size from AL (C6 _ _) QG) ?_)
    cases e:L (AT LJ)[lo+x] ((AT LJ)[lo+x-1]'(AL (C6 _ _) QG)) with
    |true=>exact A8 {k,x,rfl,AV (AV (CK _ _) gE) pD,CM wM,sg}
    |false=>exact A8 {k,rfl,sg.more O (mk _ k) (AV (AV (CK _ _) gE) pD) QG e}
   case p3 =>
    rintro c LJ ⟨k,z,rfl,wL,Z3,sg⟩;exact A8 (h z _ k wL Z3 sg)
end
section
variable{L:A6->A6->Bool}{x x':Array A6}
theorem Seg.keep{i n:Nat}(s:Seg L x i n)(h:∀q,i<=q->q<i+n->x'[q]?=x[q]?):Seg L x' i n:=by
 rw[seg_iff] at s ⊢;intro p q u v OP hp hq eu ev;rw[h p hp (CU OP hq)] at eu;rw[h q (CM (AL hp OP)) hq] at ev;exact s p q u v OP hp hq eu ev
def CovO(L:A6->A6->Bool)(x:Array A6):List Run->Nat->Nat->Prop
 |[],a,b=>a=b
 |(st,len,_)::r,a,b=>st=a/\1<=len/\Seg L x a len/\CovO L x r (a+len) b
theorem CovO.le:∀{p:List Run} {a b:Nat},CovO L x p a b->a<=b
 |[],_,_,h=>CD h
 |(_,len,_)::r,a,b,h=>by have:=CovO.le h.2.2.2;lia
theorem CovO.len:∀{p:List Run} {a b:Nat},CovO L x p a b->p.length+a<=b
 |[],_,_,h=>by have h:_=_:=h;simp;lia
 |(_,len,_)::r,a,b,h=>by have:=CovO.len h.2.2.2;have:=h.2.1;rw[A0];lia
theorem CovO.keepIn:∀{p:List Run} {a b:Nat},CovO L x p a b->(∀q,a<=q->q<b->x'[q]?=x[q]?)->CovO L x' p a b
 |[],_,_,h,_=>h
 |(_,len,_)::r,a,b,h,hk=>by
  have:=CovO.le h.2.2.2;exact{h.1,h.2.1,h.2.2.1.keep λq h1 h2=>hk q h1 (AM h2 this),CovO.keepIn h.2.2.2 λq h1 h2=>hk q (AV (AY _ _) h1) h2}
theorem CovO.keep{p:List Run}{b:Nat}(h:CovO L x p 0 b)(hk:∀q,q<b->x'[q]?=x[q]?):CovO L x' p 0 b:=h.keepIn λq _ hq=>hk q hq
theorem CovO.snoc:∀{p:List Run} {a b n k:Nat},CovO L x p a b->1<=n->Seg L x b n->CovO L x (p++[(b,n,k)]) a (b+n)
 |[],a,b,n,k,h,hn,s=>by
  have h:a=b:=h;subst h;exact{rfl,hn,s,rfl}
 |(_,len,_)::r,a,b,n,k,h,hn,s=>{h.1,h.2.1,h.2.2.1,CovO.snoc h.2.2.2 hn s}
theorem CovO.modify:∀{p:List Run} {a b i pw:Nat},CovO L x p a b->CovO L x (p.modify i λ(st,len,_)=>(st,len,pw)) a b
 |[],a,b,i,pw,h=>by simpa using h
 |(_,len,_)::r,a,b,0,pw,h=>{h.1,h.2.1,h.2.2.1,h.2.2.2}
 |(_,len,_)::r,a,b,i+1,pw,h=>by
  rw[List.modify_succ_cons];exact{h.1,h.2.1,h.2.2.1,CovO.modify h.2.2.2}
theorem CovO.last{p:List Run}{b:Nat}(h:CovO L x p 0 b)(hl:p.length<=1):Seg L x 0 b:=by
 match p,h,hl with
 |[],h,_ =>
  have h:0=b:=h;subst h;intro p q hq OP hp oW;lia
 |[(st,len,k)],h,_ =>
  obtain⟨_,_,s,e⟩:=h;have e:0+len=b:=e;have e':b=len:=by lia
  subst e';exact s
theorem CovO.at:∀{p:List Run} {a b i sa na pa sb nb pb:Nat},CovO L x p a b->p[i]?=AA (sa,na,pa)->p[i+1]?=AA (sb,nb,pb) ->
  (1<=na/\1<=nb/\sb=sa+na/\sb+nb<=b/\a<=sa)/\Seg L x sa na/\Seg L x sb nb /\
  ((∀q,q<sa\/sa+(na+nb)<=q->x'[q]?=x[q]?)->Seg L x' sa (na+nb)->CovO L x' ((p.set i (sa,na+nb,pa)).eraseIdx (i+1)) a b)
 |[],a,b,i,_,_,_,_,_,_,h,e,_=>by simp at e
 |[y],a,b,0,_,_,_,_,_,_,h,e,e2=>by simp at e2
 |y::z::r,a,b,0,sa,na,pa,sb,nb,pb,h,e,e2=>by
  simp at e e2;subst e;subst e2;obtain⟨h1,h2,h3,h4,h5,h6,h7⟩:=h;have:=h7.le;refine{{h2,h5,by lia,by lia,by lia},by rw[h1];exact h3,by rw[h4];exact h6,λhk s=>?_};show CovO L x' ((sa,na+nb,pa)::r) a b;refine{h1,AV h2 (AY _ _),by rw[<-h1];exact s,?_};rw[<-Nat.add_assoc];exact h7.keepIn λq h8 _=>hk q 'l'
 |(_,len,_)::r,a,b,i+1,sa,na,pa,sb,nb,pb,h,e,e2=>by
  obtain⟨⟨q1,q2,q3,q4,q5⟩,s1,s2,q6⟩:=CovO.at h.2.2.2 (by simpa using e) (by simpa using e2);exact{{q1,q2,q3,q4,AV (AY _ _) q5},s1,s2,λhk s=>{h.1,h.2.1,h.2.2.1.keep λq h8 h9=>hk q 'l',q6 hk s}}
end
section
variable{prog:CF}{w:DJ}{A:DI}{E:AI->AN->Prop}{s:AN}{BP:Array A6}{kd:EZ}{L:A6->A6->Bool}
structure SRO(L:A6->A6->Bool)(BP:Array A6)(kd:EZ)(lo:Nat)(st:BM):Prop where
 sb:SB BP kd st
 cov:CovO L (AT st) (DB st).toList 0 lo
 le:lo<=BP.size
theorem Ug{st:BM}{i lo:Nat}{Q:Bool->BM->Prop}(hA:V5 prog w A s kd BP L)(O:Ord L BP)(R:SRO L BP kd lo st)(hi:i+1<(DB st).size)
  (h:∀CG,SRO L BP kd lo CG->(DB CG).size+1=(DB st).size->(∀q,lo<=q->(AT CG)[q]?=(AT st)[q]?)->Q AG CG) :
  N9 (A3 prog w) A E s (mergeAt' i) Q st:=by
 have Kx:i<(DB st).size:=AL (AY _ _) hi;obtain⟨⟨sa,na,pa⟩,e1⟩:∃r:Run,(DB st)[i]?=AA r:={_,getElem?_pos _ i Kx};obtain⟨⟨sb,nb,pb⟩,e2⟩:∃r:Run,(DB st)[i+1]?=AA r:={_,getElem?_pos _ (i+1) hi};obtain⟨⟨q1,q2,q3,q4,q5⟩,s1,s2,_⟩:=R.cov.at (x':=AT st) (i:=i) (by rw[DD];exact e1) (by rw[DD];exact e2);refine zPB hA O R.sb e1 e2 q1 q2 q3 (AV q4 R.le) s1 s2 λCG hB hp sg hk=>?_;have wL:=hB.size;have Z3:=R.sb.size
 have Y1:∀q,q<sa\/sa+(na+nb)<=q->(AT CG)[q]?=(AT st)[q]?:=λq hq=>by
  by_cases z:q<BP.size
  .rw[getElem?_pos (AT CG) q 'l',getElem?_pos (AT st) q 'l',hk q 'l' 'l' hq]
  .rw[getElem?_neg (AT CG) q 'l',getElem?_neg (AT st) q 'l']
 have hz:i+1<((DB st).setIfInBounds i (sa,na+nb,pa)).size:=by rw[M1];exact hi
 refine h CG {hB,?_,R.le} ?_ λq hq=>Y1 q (.inr 'l')
 .rw[hp,VF,dif_pos hz,Array.toList_eraseIdx,T5]
  exact(R.cov.at (x':=AT CG) (i:=i) (by rw[DD];exact e1) (by rw[DD];exact e2)).2.2.2 Y1 sg
 .rw[hp,VF,dif_pos hz,Array.size_eraseIdx,M1]
  lia
theorem yKW{α:Type}{T:Nat->StateT BM SM α}{M:Model}{A:DI}{E:AI->AN->Prop}{s:AN}{Q:α->BM->Prop}{N7:Prop}(P:Nat->BM->Prop)(h1:(∀n st,P n st->N9 M A E s (T n) Q st)->N7)(h2:∀n st,P n st->N9 M A E s (T n) Q st):N7:=h1 h2
theorem zNV{st:BM}{Q:Unit->BM->Prop}(hA:V5 prog w A s kd BP L)(O:Ord L BP)(hB:SB BP kd st)(hp:DB st=#[])
  (h:∀CG,SB BP kd CG->Seg L (AT CG) 0 BP.size->Q () CG):N9 (A3 prog w) A E s sortRuns' Q st:=by
 rw[sortRuns'_eq];refine BG (NZ ?_);dsimp only;rw[hB.size]
 refine BG (JP (FT (I:=λx c CG=>∃lo,c=(AH,lo)/\SRO L BP kd lo CG/\x<=lo)
  (Q:=λc CG=>∃lo,c=(AH,lo)/\SRO L BP kd lo CG/\BP.size<=lo) ?TW ((λc CG q0=>by obtain⟨lo,e,R,hx⟩:=q0;exact{lo,e,R,AV (NU _ _) hx})) {0,rfl,{hB,by rw[hp];rfl,B0 _},AO _}) ?post)
 case TW =>
  rintro x c CG _ hx ⟨lo,rfl,R,Zg⟩;dsimp only;refine MI (λq=>?_) (λq=>?_)
  .exact A8 {lo,rfl,R,q}
  refine BG (zNU hA O 'l' 'l' R.sb λm st2 k2 gE k7 sg2=>?_);have R2:SRO L BP kd lo st2:={k2.1.1,by rw[k2.1.2];exact R.cov.keep λq hq=>k2.2 q hq,R.le};dsimp only
  refine yKW (λm LJ=>SRO L BP kd lo LJ/\Seg L (AT LJ) lo m/\1<=m/\lo+m<=BP.size) (λK=>by
   refine MI (λNY=>?_) (λNY=>?_)
   case refine_2 =>
    have hP:SRO L BP kd lo st2/\Seg L (AT st2) lo m/\1<=m/\lo+m<=BP.size:={R2,sg2,gE,by lia}
    revert hP
    generalize m=m';exact λhP=>K m' _ hP
   case refine_1 =>
    refine BG (QL (GK {rfl,?_}));refine BG (zKN hA O 'l' 'l' 'l' R2.sb sg2 λLJ hB3 hp3 rR ho3=>?_)
    exact K _ _ {{hB3,by rw[hp3];exact R2.cov.keep λq hq=>ho3 q hq,R2.le},rR,by lia,by lia}) ?_
  clear sg2 k2 R2 gE k7;rintro m LJ ⟨R3,rR,gE,k7⟩;refine BG (NZ ?_);split
  .rename_i s1 n1 p1 hb
   refine BG (JP (FT (I:=λ_ c CG=>c=(AH,())/\SRO L BP kd lo CG/\Seg L (AT CG) lo _) (Q:=λc CG=>c=(AH,())/\SRO L BP kd lo CG/\Seg L (AT CG) lo _) ?st1 (λ_ _ h=>h) {rfl,R3,rR}) ?po1)
   case po1 =>
    rintro c bK ⟨rfl,R4,vJ⟩;refine BG (ND (BG (ND (A8 {_,rfl,{{R4.sb.perm,R4.sb.kind,R4.sb.failed},?_,k7},ED Zg gE}))));show CovO L (AT bK) (Array.push _ _).toList 0 _;rw[EO];refine CovO.snoc ?_ (gE) vJ;show CovO L (AT bK) (Array.modify _ _ _).toList 0 lo;rw[Array.toList_modify];exact R4.cov.modify
   case st1 =>
    rintro y c bK _ _ ⟨rfl,R4,vJ⟩;refine BG (NZ ?_)
    by_cases hz:(DB bK).size>1
    .rw[if_pos hz,getElem?_pos (DB bK) ((DB bK).size-2) 'l']
     refine MI (λ_=>?_) (λ_=>?_)
     .exact A8 {rfl,R4,vJ}
     refine BG (Ug hA O R4 'l' λZX R5 _ ho5=>?_);exact A8 {rfl,R5,vJ.keep λq hq _=>ho5 q hq}
    .rw[if_neg hz]
     exact A8 {rfl,R4,vJ}
  .refine BG (ND (A8 {_,rfl,{{R3.sb.perm,R3.sb.kind,R3.sb.failed},?_,k7},ED Zg gE}))
   show CovO L _ (Array.push _ _).toList 0 _;rw[EO];exact R3.cov.snoc (gE) rR
 case post =>
  rintro c CG ⟨lo,rfl,R,hlo⟩;dsimp only;have UC:=R.le;have elo:lo=BP.size:=by lia
  subst elo;have hpz:=R.cov.len;refine BG (JP (FT (I:=λy c CG=>c=(AH,())/\SRO L BP kd BP.size CG/\(DB CG).size+y<=BP.size+1) (Q:=λc CG=>c=(AH,())/\SRO L BP kd BP.size CG/\(DB CG).size<=1) ?st2 ((λc CG q0=>by obtain⟨e,R,hs⟩:=q0;exact{e,R,by lia})) {rfl,R,by simp at hpz;lia}) ?po2)
  case po2 =>
   rintro c bK ⟨rfl,R4,h4⟩;exact A8 (h _ R4.sb (R4.cov.last (by simpa using h4)))
  case st2 =>
   rintro y c bK _ _ ⟨rfl,R4,h4⟩;refine BG (NZ ?_);refine MI (λhz=>?_) (λhz=>?_)
   .exact A8 {rfl,R4,hz}
   refine BG (Ug hA O R4 ?_ λZX R5 hs5 _=>?_)
   .exact AL (Nat.add_le_add_right (yE1 (n:=(DB bK).size-2) (C6 _ _) (AO _)) 1) 'l'
   .exact A8 {rfl,R5,by lia}
end
end TS
namespace TS
open PySem PySem.W PyProof.Rows
theorem yE6{vs:List AI}{LV:AI->AI->Bool}{xs:Array A6}(hp:xs.Perm (HQ vs))(sg:Seg (λx y=>LV x.1 y.1) xs 0 (HQ vs).size):(xs.map (·.2)).toList.Pairwise λx y=>LV y x=AB:=by
 rw[Array.toList_map,JX,GF];intro i j hi hj MN;have hz:=hp.size_eq;have SY:i<xs.size:=by simpa using hi
 have bU:j<xs.size:=by simpa using hj
 have z:=sg i j bU MN (B0 _) 'o'
 have same:∀x∈xs,x.1=x.2:=λx hx=>by
  have h1:x∈HQ vs:=hp.mem_iff.mp hx;have h2:x∈vs.zip vs:=by rw[<-QQ];exact FO.mpr h1
  exact(mem_zip_self h2).1
 have e1:=same _ (AE SY);have e2:=same _ (AE bU);simp only[e1,e2] at z;simpa using z
section
variable{prog:CF}{w:DJ}{A:DI}{E:AI->AN->Prop}{s:AN}
theorem zW5{a:AQ}{vs:List AI}{n:Nat}{R:PySem.Fin->AN->Prop}{LV:AI->AI->Bool}(O:Ord (λx y=>LV x.1 y.1) (HQ vs))(ho:s.heap.get? a=AA (SL "list" vs.toArray n))(hz:vs.length<=sizeLine)
  (hk:∀h6:D0,(∀b o,b≠a->s.heap.get? b=AA o->h6.get? b=AA o)->2<=vs.length->A4 (A3 prog w) A (keyKind' vs.toArray) (λk s'=>s'={ s with heap:=h6 }/\V5 prog w A s' k (HQ vs) (λx y=>LV x.1 y.1)) E { s with heap:=h6 })
  (h:∀out:List AI,out.Perm vs->(out.Pairwise λx y=>LV y x=AB)->R (.done (.ret .none)) { s with heap:=sortedHeap s.heap a vs out.toArray }):A4 (A3 prog w) A (FJ.«list.sort» {[.ref a],[]}) R E s:=by
 have la:a<s.heap.objs.size:=BB ho;have zs:vs.toArray.size<=sizeLine:=by simpa using hz
 rw[list_sort_plain];refine AD (listItems_at ho rfl (AD (aI ho rfl ?_ zs (B0 _))));have g1:=get?_update_seq ho (λ_=>#[]);generalize lA:s.heap.update a (IB λ_=>#[])=h1 at g1;have z1:h1.objs.size=s.heap.objs.size:=by rw[<-lA,gU]
 have o1:∀b o,b≠a->s.heap.get? b=AA o->h1.get? b=AA o:=λb o hb e=>by rw[<-lA,aV _ _ _ _ hb];exact e
 refine AD (jH g1 rfl (AD (XZ (AD (wpAny_newList (DP ?_))) (by simpa using hz))));generalize Zw:(h1.push (SL "tuple" vs.toArray 0)).push (SL "list" #[] 0)=h6;have vR:∀b o,h1.get? b=AA o->h6.get? b=AA o:=λb o e=>by rw[<-Zw];exact AJ _ (AJ _ e)
 have g6:=vR _ _ g1
 have fin:∀CG:BM,(AT CG).Perm (HQ vs)->Seg (λx y=>LV x.1 y.1) (AT CG) 0 (HQ vs).size->R (.done (.ret .none)) { s with heap:=h6.update a (IB λ_=>(AT CG).map (·.2)) }:=λCG hp sg=>by
  have q:=h _ (zNN hp) (yE6 hp sg);unfold sortedHeap at q;rw[lA,Zw,Array.toArray_toList] at q;exact q
 have Yo:∀CG:BM,(AT CG).Perm (HQ vs)->((AT CG).map (·.2)).size<=sizeLine+1:=λCG hp=>by
  rw[Array.size_map,hp.size_eq,pairsOf_size];omega
 by_cases h2:vs.toArray.size<2
 .rw[if_pos h2,if_pos h2]
  refine AD (wpAny_pure ?_);dsimp only;rw[StateT.run_pure];refine AD (wpAny_pure (AD (jH g6 rfl ?_)));refine AD (aI g6 rfl ?_ (B0 _) (Yo (S7 general' (HQ vs) #[] 7 AH) (P8 _)));simp only[bne_self_eq_false,EJ,if_false];exact wpAny_pure (fin (S7 general' (HQ vs) #[] 7 AH) (P8 _) (λp q hq OP hp oW=>by rw[pairsOf_size] at oW;simp at h2;omega))
 .rw[if_neg h2,if_neg h2]
  refine AD (CJ (hk h6 (λb o hb e=>vR b o (o1 b o hb e)) (by simpa using h2)) (λk s7 ⟨e7,ask⟩=>?_) λ_ _ e=>e);subst e7;refine AD (CJ (zNV (st:=S7 k (vs.toArray.zip vs.toArray) #[] 7 AH) (Q:=λ_ CG=>SB (HQ vs) k CG/\Seg (λx y=>LV x.1 y.1) (AT CG) 0 (HQ vs).size) ask O {P8 _,rfl,rfl} rfl λCG b sg=>{b,sg}) ?_ λ_ _ e=>e);rintro⟨⟨⟩,CG⟩ s8 ⟨e8,B,sg⟩;subst e8;dsimp only;refine AD (jH g6 rfl (AD (aI g6 rfl ?_ (B0 _) (Yo CG B.perm))));rw[B.failed];simp only[bne_self_eq_false,EJ,if_false];exact wpAny_pure (fin CG B.perm sg)
theorem sorted_inO{l:AQ}{vs:List AI}{Q:AI->AN->Prop}{LV:AI->AI->Bool}(O:Ord (λx y=>LV x.1 y.1) (HQ vs))(hl:s.heap.IsList l vs.toArray)(hz:vs.length<=sizeLine)
  (hk:∀h6:D0,(∀b o,s.heap.get? b=AA o->h6.get? b=AA o)->2<=vs.length->∀E',A4 (A3 prog w) A.in1.in1 (keyKind' vs.toArray) (λk s'=>s'={ s with heap:=h6 }/\V5 prog w A.in1.in1 s' k (HQ vs) (λx y=>LV x.1 y.1)) E' { s with heap:=h6 })
  (h:∀out:List AI,out.Perm vs->(out.Pairwise λx y=>LV y x=AB)->Q (.ref (s.heap.objs.size+1)) { s with heap:=sortedAll s.heap vs out.toArray }):A4 (A3 prog w) A (call (.builtin "sorted") [.ref l]) Q E s:=by
 refine UH kind_sorted plain_sorted entry_sorted (args_sorted1 _) ?_;unfold FJ.«sorted»;refine AD (m:=checkCount "sorted" 1 1 _) (wpAny_pure (AD (collect_list hl (AD (wpAny_newList ?_ hz)) hz)))
 have NN:∀b o,s.heap.get? b=AA o->((s.heap.push (SL "list" #[] 0)).update s.heap.objs.size (IB (·++vs.toArray))).get? b=AA o:=λb o e=>by
  rw[aV _ _ _ _ (CH (BB e))];exact AJ _ e
 have z2:((s.heap.push (SL "list" #[] 0)).update s.heap.objs.size (IB (·++vs.toArray))).objs.size=s.heap.objs.size+1:=by rw[gU,size_push']
 generalize hh2:(s.heap.push (SL "list" #[] 0)).update s.heap.objs.size (IB (·++vs.toArray))=h2 at NN z2;have gL:(h2.push (SL "list" vs.toArray 0)).get? h2.objs.size=AA (SL "list" vs.toArray 0):=AW _ rfl;show A4 _ _ _ _ _ { s with heap:=h2.push (SL "list" vs.toArray 0) };refine AD (DP (DX slot_list_sort {_,gL,rfl} entry_list_sort (zW5 O gL hz (λh6 o6 U4=>?_) λout ho oX=>{_,rfl,?_}) (args_list_sort _)))
 .exact hk h6 (λb o e=>o6 b o (by rw[z2];exact CH (J6 (BB e))) (AJ _ (NN b o e))) U4 _
 .have q:=h out ho oX
  unfold sortedAll at q;rw[hh2,<-z2] at q;exact wpAny_pure {_,rfl,q}
end
end TS
variable{β:Type}{F F' H₀ F1 F2:L2.Hp}{τ:AQ}{σ':L2.St}{ZY bM:AQ->Prop}{is:List Nat}{D':L2.Ends}{np:Nat}{xn:BL}{tm:L2.TM}
namespace L2
open PySem PySem.Spec PyProof.Rows
theorem yBF(BP:Array A6):TS.Ord (λx y=>decide (bX x.1<bX y.1)) BP where
 asym:=λx y _ _ h=>by
  have:=of_decide_eq_true h;exact decide_eq_false 'o'
 trans:=λx y z _ _ _ h1 h2=>by
  have a:=of_decide_eq_false h1;have b:=of_decide_eq_false h2;exact decide_eq_false 'o'
theorem yBG(h:EA us ns)(p:us.Pairwise λx y=>decide (bX y<bX x)=AB):ns.Pairwise (·<=·):=by
 rw[<-h.nums,JX];exact p.imp λh=>by have:=of_decide_eq_false h;omega
theorem yE7:∀{l:List α},2<=l.length->∃a b r,l=a::b::r
 |a::b::r,_=>{a,b,r,rfl}
 |[],h=>by simp at h
 |[_],h=>by simp at h
theorem TK:CallR X (.builtin "sorted") (λxs H Q=>∃(l:AQ) (ns:List Int),xs=[.ref l]/\SqL X.K H l (ns.map V.int)/\∀(ms:List Int) (q:AQ),ms.Perm ns->ms.Pairwise (·<=·)->H q=AH->Q (.ref q) (EV H q (.lst (ms.map V.int)))):=by
 intro pins s σ H xs us Q I r h;obtain⟨l,ns,rfl,hl,q⟩:=h;obtain⟨u,rfl,ru⟩:=VQ r;cases ru;obtain⟨CP,rv,pl,z⟩:=I.list hl;have FP:=rv.length;have hi:EA CP ns:=fU rv;refine TS.sorted_inO (LV:=λx y=>decide (bX x<bX y)) (yBF _) pl.isList (by rw[<-FP];exact z) (λh6 o6 h2 E'=>?_) λout ho oX=>?_
 .obtain⟨v1,v2,vr,rfl⟩:=yE7 h2
  rw[keyKind_ints hi];refine wpAny_pure {rfl,λx y hx hy Q' E2 hq=>?_}
  have mem:∀x:A6,x∈HQ (v1::v2::vr)->∃n t,x.1=.int n t:=λx hx=>by
   have:x∈(v1::v2::vr).zip (v1::v2::vr):=by rw[<-QQ];exact FO.mpr hx
   obtain⟨i,SY,ei⟩:=K6.mp (IX this).1;obtain⟨t,et⟩:=LR hi i x.1 (by rw[BU SY,ei]);exact{_,t,et}
  obtain⟨n1,t1,e1⟩:=mem x hx;obtain⟨n2,t2,e2⟩:=mem y hy;dsimp only at hq;rw[e1,e2] at hq ⊢;exact PySem.W.kat_lt_int hq
 .obtain⟨zs,p,rz⟩:=Vals.perm ho rv
  obtain⟨e',Ls⟩:=sortedAll_at s.heap CP out.toArray;have hf:H (s.heap.objs.size+1)=AH:=I.hok.fresh (JL _);obtain⟨ms,rfl,pm⟩:=zTW p ns rfl;refine{.ref (s.heap.objs.size+1),_,I.laid (t':=s.toks) (o:=.lst (ms.map V.int)) (λb o hb=>sortedAll_old hb) (JL _) {?_,out,e',rz,Ls},rfl,q ms _ pm (yBG (fU rz) oX) hf};rw[p.length_eq];exact z
noncomputable def kB(h:D0):AI->Int×Int
 |.ref p=>match h.get? p with
  |some o=>match o.data with
   |.seq xs _=>(bX (xs.getD 0 .none),bX (xs.getD 1 .none))
   |_=>(0,0)
  |none=>(0,0)
 |_=>(0,0)
def UO(a b:Int×Int):Bool:=decide (a.1<b.1\/a.1=b.1/\a.2<b.2)
theorem zW6(h:D0)(BP:Array A6):TS.Ord (λx y=>UO (kB h x.1) (kB h y.1)) BP where
 asym:=λx y _ _ e=>by
  have:=of_decide_eq_true e;exact decide_eq_false 'o'
 trans:=λx y z _ _ _ h1 h2=>by
  have a:=of_decide_eq_false h1;have b:=of_decide_eq_false h2;exact decide_eq_false 'o'
def Prs(H:Hp)(ys:List V)(ps:List (Int×Int)):Prop:=Paired (λ(z:V) (p:Int×Int)=>∃q,z=.ref q/\H q=AA (.tup [.int p.1,.int p.2])) ys ps
theorem zW7{b fin:Bool}{Q:Bool->AN->Prop}{x1 y1 x2 y2:Int}{t1 t2 t3 t4:b9}(hf:fin=AB)(hq:Q (UO (x1,y1) (x2,y2)) s):PySem.W.KatLex prog w A b fin Q [(.int x1 t1,.int x2 t2),(.int y1 t3,.int y2 t4)] 0 s:=by
 have one:∀{i:Nat} {u v:Int} {t t':b9},Q (decide (u<v)) s->A4 (A3 prog w) A (oneLt' (b&&i==0) (.int u t) (.int v t')) Q (λ_ _=>False) s:=λ{i u v t t'} h=>by
  cases hb:(b&&i==0) with
  |true=>exact oneLt_int h
  |false=>exact PySem.W.kat_one _ _ (lt_int h)
 refine aP (U7 (eV (λh1=>cD (aP (U7 (eV (λh2=>cD (PySem.W.kat_nil ?_)) λh2=>eU (one ?_))))) λh1=>eU (one ?_)))
 .have e1:x1=x2:=by simpa using h1
  have e2:y1=y2:=by simpa using h2
  subst e1;subst e2;rw[hf];have:UO (x1,y1) (x1,y1)=AB:=decide_eq_false 's';rw[this] at hq;exact hq
 .have e1:x1=x2:=by simpa using h1
  subst e1;have:UO (x1,y1) (x1,y2)=decide (y1<y2):=by unfold UO;simp
  rw[this] at hq;exact hq
 .have e1:¬x1=x2:=by simpa using h1
  have:UO (x1,y1) (x2,y2)=decide (x1<x2):=by unfold UO;simp[e1]
  rw[this] at hq;exact hq
theorem Prs.perm{zs ys:List V}(p:zs.Perm ys):∀{ps:List (Int×Int)},Prs H ys ps->∃qs,qs.Perm ps/\Prs H zs qs:=by
 induction p with
 |nil=>intro ps r;cases r;exact{[],HL _,.nil}
 |cons a _ ih =>
  intro ps r
  cases r with
  |cons h t =>
   obtain⟨qs,q,r'⟩:=ih t;exact{_::qs,q.cons _,.cons h r'}
 |swap a b l =>
  intro ps r
  cases r with
  |cons h t =>
   cases t with
   |cons h' t'=>exact{_::_::_,I0 _ _ _,.cons h' (.cons h t')}
 |trans _ _ ih1 ih2 =>
  intro ps r;obtain⟨qs,q,r'⟩:=ih2 r;obtain⟨us,q',vM⟩:=ih1 r';exact{us,q'.trans q,vM}
theorem Mz(I:Inv X pins σ H s):∀{ys:List V} {us:List AI} {ps:List (Int×Int)},Vals ys us->Prs H ys ps ->
  (∀y∈ys,Nd H y)/\us.map (kB s.heap)=ps/\∀u∈us,∃(p:AQ) (o:IL) (k:Nat) (x y:Int) (t1 t2:b9),u=.ref p/\s.heap.get? p=AA o/\o.data=.seq #[.int x t1,.int y t2] k/\kB s.heap u=(x,y)
  := by
 intro ys
 induction ys with
 |nil=>intro us ps h1 h2;cases h1;cases h2;exact{(λy hy=>nomatch hy),rfl,(λu hu=>nomatch hu)}
 |cons y0 ys ih =>
  intro us ps h1 h2
  cases h1 with
  |cons r t =>
  cases h2 with
  |@cons _ pp _ _ pr t' =>
  obtain⟨q,e,hq⟩:=pr;obtain⟨i1,i2,i3⟩:=ih t t';subst e;cases r;obtain⟨CP,rv,tp,_⟩:=I.tuple (SqT.of (K:=X.K) hq);have hi:EA CP [pp.1,pp.2]:=fU (ns:=[pp.1,pp.2]) rv;obtain⟨o,ho,hc,k,hd⟩:=tp
  obtain⟨t1,t2,rfl⟩:∃t1 t2,CP=[.int pp.1 t1,.int pp.2 t2]:=by
   cases hi with
   |cons _ t1 h2 =>
    cases h2 with
    |cons _ t2 h3=>cases h3;exact{t1,t2,rfl}
  have e2:kB s.heap (.ref q)=(pp.1,pp.2):=by
   unfold kB;simp only[ho,hd]
   rfl
  refine{λy hy=>?_,?_,λv hv=>?_}
  .rcases A9.mp hy with rfl|hy
   .exact{q,pp.1,[pp.2],rfl,hq}
   .exact i1 y hy
  .rw[A1,i2,e2]
  .rcases A9.mp hv with rfl|hv
   .exact{q,o,k,pp.1,pp.2,t1,t2,rfl,ho,hd,e2}
   .exact i3 v hv
theorem zL8:CallR X (.builtin "sorted") (λxs H Q=>∃(l:AQ) (ys:List V) (ps:List (Int×Int)),xs=[.ref l]/\SqL X.K H l ys/\Prs H ys ps/\∀(zs:List V) (qs:List (Int×Int)) (q:AQ),zs.Perm ys->Prs H zs qs->qs.Perm ps->(qs.Pairwise λa b=>UO b a=AB)->H q=AH->Q (.ref q) (EV H q (.lst zs))):=by
 intro pins s σ H xs us Q I r h;obtain⟨l,ys,ps,rfl,hl,Zn,q⟩:=h;obtain⟨u,rfl,ru⟩:=VQ r;cases ru;obtain⟨CP,rv,pl,z⟩:=I.list hl;have FP:=rv.length;obtain⟨ht,e0,at0⟩:=Mz I rv Zn;obtain⟨fs,f1,f2,f3,f4⟩:=Pm I rv ht;refine TS.sorted_inO (LV:=λx y=>UO (kB s.heap x) (kB s.heap y)) (zW6 _ _) pl.isList (by rw[<-FP];exact z) (λh6 o6 h2 E'=>?_) λout ho oX=>?_
 .refine PySem.W.kat_kind (T:=.type "int") (Sc o6 f2) (by rw[f1];omega) (λv hv=>?_) 'd' {rfl,λx y hx hy Q' E2 hq=>?_}
  .obtain⟨n,t,rfl⟩:=f3 v hv
   exact PySem.W.Looks.now
  .have mem:∀x:A6,x∈HQ CP->x.1∈CP:=λx hx=>by
    have:x∈CP.zip CP:=by rw[<-QQ];exact FO.mpr hx
    exact(IX this).1
   obtain⟨p1,o1,k1,x1,y1,t1,t2,e1,Kl,hd1,ep1⟩:=at0 _ (mem x hx);obtain⟨p2,o2,k2,x2,y2,t3,t4,e2,WF,Z7,ep2⟩:=at0 _ (mem y hy);dsimp only at hq;rw[ep1,ep2] at hq;rw[e1,e2];exact PySem.W.kat_lt (o6 _ _ Kl) hd1 (o6 _ _ WF) Z7 (zW7 rfl hq)
 .obtain⟨zs,p,rz⟩:=Vals.perm ho rv
  obtain⟨qs,pq,i5⟩:=Prs.perm p Zn;obtain⟨_,e3,_⟩:=Mz I rz i5;obtain⟨e',Ls⟩:=sortedAll_at s.heap CP out.toArray;have hf:H (s.heap.objs.size+1)=AH:=I.hok.fresh (JL _)
  have pw:qs.Pairwise λa b=>UO b a=AB:=by
   rw[<-e3,JX];exact oX
  refine{.ref (s.heap.objs.size+1),_,I.laid (t':=s.toks) (o:=.lst zs) (λb o hb=>sortedAll_old hb) (JL _) {?_,out,e',rz,Ls},rfl,q zs qs _ p i5 pq pw hf};rw[p.length_eq];exact z
inductive D where
 |non|bl (b:Bool)|int (i:Int)|str (x:BL)|tup (xs:List D)|lst (xs:List D)
 |dk (kvs:List (Key×D))|dt (kvs:List (List Int×D))
inductive Out(α:Type) where
 |ok (a:α)|exc (c:Nat)|bad
noncomputable def Out.bind:Out α->(α->Out β)->Out β
 |.ok a,f=>f a
 |.exc c,_=>.exc c
 |.bad,_=>.bad
theorem pA3{x:Out α}{f:α->Out β}{b:β}(h:x.bind f=.ok b):∃a,x=.ok a/\f a=.ok b:=by
 cases x with
 |ok a=>exact{a,rfl,h}
 |exc c=>cases h
 |bad=>cases h
inductive Sl where
 |no|val (d:D)|own (t:Bool) (d:D)
abbrev Ev:=List Sl
def sM:HO->Prop
 |.dK _=>True
 |.dT _=>True
 |_=>False
def Le(F F':Hp):Prop:=∀a u,F a=AA u->F' a=AA u\/(sM u/\∃o,F' a=AA (.frz o u))\/∃t ps vO,u=.tbl t ps/\F' a=AA (.tbl t vO)
theorem Le.refl(F:Hp):Le F F:=λ_ _ h=>.inl h
theorem Le.trans{G:Hp}(x:Le F G)(y:Le G H):Le F H:=λa u e=>by
 rcases x a u e with h|⟨hd,o,h⟩|⟨t,ps,vO,rfl,h⟩
 .exact y a u h
 .rcases y a _ h with h|⟨xC,_⟩|⟨_,_,_,z,_⟩
  .exact .inr (.inl {hd,o,h})
  .exact xC.elim
  .cases z
 .rcases y a _ h with h|⟨xC,_⟩|⟨_,_,_,z,h⟩
  .exact .inr (.inr {_,_,_,rfl,h})
  .exact xC.elim
  .cases z;exact .inr (.inr {_,_,_,rfl,h})
theorem Le.rd(l:Le F F'){u:HO}(h:Rd F a u)(hu:∀t ps,u≠.tbl t ps:=by intro _ _ z;cases z):Rd F' a u:=by
 rcases h with h|⟨o,h⟩
 .rcases l a u h with h|⟨_,o,h⟩|⟨_,_,_,z,_⟩
  .exact .inl h
  .exact .inr {o,h}
  .exact absurd z (hu _ _)
 .rcases l a _ h with h|⟨hd,_⟩|⟨_,_,_,z,_⟩
  .exact .inr {o,h}
  .exact hd.elim
  .cases z
theorem Le.tup{F F':Hp}(l:Le F F'){a:AQ}{vs:List V}(h:F a=AA (.tup vs)):F' a=AA (.tup vs):=by
 rcases l a _ h with h|⟨hd,_⟩|⟨_,_,_,z,_⟩
 .exact h
 .exact hd.elim
 .cases z
theorem Le.of_gr(g:Gr F F'):Le F F':=λa u e=>.inl (g a u e)
mutual
inductive Rep(K:AC)(F:Hp):V->D->Prop
 |non:Rep K F .non .non
 |bl (b:Bool):Rep K F (.bl b) (.bl b)
 |int (i:Int):Rep K F (.int i) (.int i)
 |str (x:BL):Rep K F (.str x) (.str x)
 |tup {a:AQ} {vs:List V} {ds:List D}:F a=AA (.tup vs)->Reps K F vs ds->Rep K F (.ref a) (.tup ds)
 |tupK {a:AQ} {xs:List BL}:SqT K (λ_=>AH) a (xs.map V.str)->xs≠[]->Rep K F (.ref a) (.tup (xs.map D.str))
 |lst {a:AQ} {vs:List V} {ds:List D}:SqL K F a vs->Reps K F vs ds->Rep K F (.ref a) (.lst ds)
 |dk {a:AQ} {kvs:List (Key×V)} {ds:List (Key×D)}:Rd F a (.dK kvs)->RepK K F kvs ds->Rep K F (.ref a) (.dk ds)
 |dt {a:AQ} {kvs:List (List Key×V)} {ds:List (List Int×D)}:Rd F a (.dT kvs)->RepT K F kvs ds->Rep K F (.ref a) (.dt ds)
inductive Reps(K:AC)(F:Hp):List V->List D->Prop
 |nil:Reps K F [] []
 |cons {v:V} {d:D} {vs:List V} {ds:List D}:Rep K F v d->Reps K F vs ds->Reps K F (v::vs) (d::ds)
inductive RepK(K:AC)(F:Hp):List (Key×V)->List (Key×D)->Prop
 |nil:RepK K F [] []
 |cons {k:Key} {v:V} {d:D} {vs:List (Key×V)} {ds:List (Key×D)}:Rep K F v d->RepK K F vs ds->RepK K F ((k,v)::vs) ((k,d)::ds)
inductive RepT(K:AC)(F:Hp):List (List Key×V)->List (List Int×D)->Prop
 |nil:RepT K F [] []
 |cons {k:List Int} {v:V} {d:D} {vs:List (List Key×V)} {ds:List (List Int×D)}:Rep K F v d->RepT K F vs ds->RepT K F ((k.map DK,v)::vs) ((k,d)::ds)
end
section
variable{K:AC}
theorem Rep.ind{P:V->D->Prop}{Q:List V->List D->Prop}{R:List (Key×V)->List (Key×D)->Prop}{T:List (List Key×V)->List (List Int×D)->Prop}
  (h1:P .non .non) (h2:∀b,P (.bl b) (.bl b)) (h3:∀i,P (.int i) (.int i)) (h4:∀x,P (.str x) (.str x))
  (h5:∀{a vs ds},F a=AA (.tup vs)->Reps K F vs ds->Q vs ds->P (.ref a) (.tup ds)) (h6:∀{a xs},SqT K (λ_=>AH) a (xs.map V.str)->xs≠[]->P (.ref a) (.tup (xs.map D.str)))
  (h7:∀{a vs ds},SqL K F a vs->Reps K F vs ds->Q vs ds->P (.ref a) (.lst ds)) (h8:∀{a kvs ds},Rd F a (.dK kvs)->RepK K F kvs ds->R kvs ds->P (.ref a) (.dk ds)) (h9:∀{a kvs ds},Rd F a (.dT kvs)->RepT K F kvs ds->T kvs ds->P (.ref a) (.dt ds))
  (q1:Q [] []) (q2:∀{v d vs ds},Rep K F v d->Reps K F vs ds->P v d->Q vs ds->Q (v::vs) (d::ds))
  (r1:R [] []) (r2:∀{k v d vs ds},Rep K F v d->RepK K F vs ds->P v d->R vs ds->R ((k,v)::vs) ((k,d)::ds))
  (t1:T [] []) (t2:∀{k:List Int} {v d vs ds},Rep K F v d->RepT K F vs ds->P v d->T vs ds->T ((k.map DK,v)::vs) ((k,d)::ds)) :
  (∀{v d},Rep K F v d->P v d)/\(∀{vs ds},Reps K F vs ds->Q vs ds)/\(∀{vs ds},RepK K F vs ds->R vs ds)/\∀{vs ds},RepT K F vs ds->T vs ds :=
 {λh=>Rep.rec (motive_1:=λv d _=>P v d) (motive_2:=λv d _=>Q v d) (motive_3:=λv d _=>R v d) (motive_4:=λv d _=>T v d) h1 h2 h3 h4 h5 h6 h7 h8 h9 q1 q2 r1 r2 t1 t2 h,
  λh=>Reps.rec (motive_1:=λv d _=>P v d) (motive_2:=λv d _=>Q v d) (motive_3:=λv d _=>R v d) (motive_4:=λv d _=>T v d) h1 h2 h3 h4 h5 h6 h7 h8 h9 q1 q2 r1 r2 t1 t2 h,
  λh=>RepK.rec (motive_1:=λv d _=>P v d) (motive_2:=λv d _=>Q v d) (motive_3:=λv d _=>R v d) (motive_4:=λv d _=>T v d) h1 h2 h3 h4 h5 h6 h7 h8 h9 q1 q2 r1 r2 t1 t2 h,
  λh=>RepT.rec (motive_1:=λv d _=>P v d) (motive_2:=λv d _=>Q v d) (motive_3:=λv d _=>R v d) (motive_4:=λv d _=>T v d) h1 h2 h3 h4 h5 h6 h7 h8 h9 q1 q2 r1 r2 t1 t2 h}
theorem pA4(l:Le F F'):(∀{v d},Rep K F v d->Rep K F' v d)/\(∀{vs ds},Reps K F vs ds->Reps K F' vs ds)/\(∀{vs ds},RepK K F vs ds->RepK K F' vs ds)/\∀{vs ds},RepT K F vs ds->RepT K F' vs ds :=
 Rep.ind .non .bl .int .str (λh _ r=>.tup (l.tup h) r) (λh n=>.tupK h n) (λh _ r=>.lst (h.imp (λz=>l.rd z) id) r) (λh _ r=>.dk (l.rd h) r) (λh _ r=>.dt (l.rd h) r) .nil (λ_ _ h r=>.cons h r) .nil (λ_ _ h r=>.cons h r) .nil (λ_ _ h r=>.cons h r)
theorem Rep.le(l:Le F F'){v:V}{d:D}(r:Rep K F v d):Rep K F' v d:=(pA4 l).1 r
theorem Reps.le(l:Le F F'){v:List V}{d:List D}(r:Reps K F v d):Reps K F' v d:=(pA4 l).2.1 r
theorem RepK.le(l:Le F F'){v:List (Key×V)}{d:List (Key×D)}(r:RepK K F v d):RepK K F' v d:=(pA4 l).2.2.1 r
theorem RepT.le(l:Le F F'){v:List (List Key×V)}{d:List (List Int×D)}(r:RepT K F v d):RepT K F' v d:=(pA4 l).2.2.2 r
theorem Rep.vI{v:V}{i:Int}(r:Rep K F v (.int i)):v=.int i:=by cases r;rfl
theorem Rep.vB{v:V}{b:Bool}(r:Rep K F v (.bl b)):v=.bl b:=by cases r;rfl
theorem Rep.vS{v:V}(r:Rep K F v (.str x)):v=.str x:=by cases r;rfl
theorem Rep.vN{v:V}(r:Rep K F v .non):v=.non:=by cases r;rfl
theorem Reps.rec1{Q:List V->List D->Prop}(q1:Q [] [])(q2:∀{v d vs ds},Rep K F v d->Reps K F vs ds->Q vs ds->Q (v::vs) (d::ds)){vs:List V}{ds:List D}(h:Reps K F vs ds):Q vs ds :=
 (Rep.ind (P:=λ_ _=>True) (Q:=Q) (R:=λ_ _=>True) (T:=λ_ _=>True) trivial (λ_=>trivial) (λ_=>trivial) (λ_=>trivial) (λ_ _ _=>trivial) (λ_ _=>trivial) (λ_ _ _=>trivial) (λ_ _ _=>trivial) (λ_ _ _=>trivial) q1 (λh r _ ih=>q2 h r ih) trivial (λ_ _ _ _=>trivial) trivial (λ_ _ _ _=>trivial)).2.1 h
theorem RepK.rec1{R:List (Key×V)->List (Key×D)->Prop}(r1:R [] [])(r2:∀{k v d vs ds},Rep K F v d->RepK K F vs ds->R vs ds->R ((k,v)::vs) ((k,d)::ds)){vs:List (Key×V)}{ds:List (Key×D)}(h:RepK K F vs ds):R vs ds :=
 (Rep.ind (P:=λ_ _=>True) (Q:=λ_ _=>True) (R:=R) (T:=λ_ _=>True) trivial (λ_=>trivial) (λ_=>trivial) (λ_=>trivial) (λ_ _ _=>trivial) (λ_ _=>trivial) (λ_ _ _=>trivial) (λ_ _ _=>trivial) (λ_ _ _=>trivial) trivial (λ_ _ _ _=>trivial) r1 (λh r _ ih=>r2 h r ih) trivial (λ_ _ _ _=>trivial)).2.2.1 h
theorem RepT.rec1{T:List (List Key×V)->List (List Int×D)->Prop}(t1:T [] [])(t2:∀{k:List Int} {v d vs ds},Rep K F v d->RepT K F vs ds->T vs ds->T ((k.map DK,v)::vs) ((k,d)::ds)){vs:List (List Key×V)}{ds:List (List Int×D)}(h:RepT K F vs ds):T vs ds :=
 (Rep.ind (P:=λ_ _=>True) (Q:=λ_ _=>True) (R:=λ_ _=>True) (T:=T) trivial (λ_=>trivial) (λ_=>trivial) (λ_=>trivial) (λ_ _ _=>trivial) (λ_ _=>trivial) (λ_ _ _=>trivial) (λ_ _ _=>trivial) (λ_ _ _=>trivial) trivial (λ_ _ _ _=>trivial) trivial (λ_ _ _ _=>trivial) t1 (λh r _ ih=>t2 h r ih)).2.2.2 h
theorem Reps.length{vs:List V}{ds:List D}(r:Reps K F vs ds):vs.length=ds.length :=
 r.rec1 (Q:=λvs ds=>vs.length=ds.length) rfl λ_ _ ih=>congrArg (·+1) ih
theorem Reps.append{vs ws:List V}{ds es:List D}(r:Reps K F vs ds)(s:Reps K F ws es):Reps K F (vs++ws) (ds++es) :=
 r.rec1 (Q:=λvs ds=>Reps K F (vs++ws) (ds++es)) s λh _ ih=>.cons h ih
theorem Reps.get{vs:List V}{ds:List D}{d:D}(r:Reps K F vs ds):ds[i]?=AA d->∃v,vs[i]?=AA v/\Rep K F v d :=
 r.rec1 (Q:=λvs ds=>∀i,ds[i]?=AA d->∃v,vs[i]?=AA v/\Rep K F v d) (λ_ e=>by simp at e) (λh _ ih i e=>by
  cases i with
  |zero=>cases e;exact{_,rfl,h}
  |succ i=>exact ih i e) i
theorem Reps.set{vs:List V}{ds:List D}(i:Nat){v:V}{d:D}(r:Reps K F vs ds)(h:Rep K F v d):Reps K F (vs.set i v) (ds.set i d) :=
 r.rec1 (Q:=λvs ds=>∀i,Reps K F (vs.set i v) (ds.set i d)) (λ_=>.nil) (λq r ih i=>by
  cases i with
  |zero=>exact .cons h r
  |succ i=>exact .cons q (ih i)) i
theorem Reps.take{vs:List V}{ds:List D}(n:Nat)(r:Reps K F vs ds):Reps K F (vs.take n) (ds.take n) :=
 r.rec1 (Q:=λvs ds=>∀n,Reps K F (vs.take n) (ds.take n)) (λn=>by rw[List.take_nil,List.take_nil];exact .nil) (λq r ih n=>by
  cases n with
  |zero=>exact .nil
  |succ n=>exact .cons q (ih n)) n
theorem Reps.drop{vs:List V}{ds:List D}(n:Nat)(r:Reps K F vs ds):Reps K F (vs.drop n) (ds.drop n) :=
 r.rec1 (Q:=λvs ds=>∀n,Reps K F (vs.drop n) (ds.drop n)) (λn=>by rw[List.drop_nil,List.drop_nil];exact .nil) (λq r ih n=>by
  cases n with
  |zero=>exact .cons q r
  |succ n=>exact ih n) n
theorem Reps.reverse{vs:List V}{ds:List D}(r:Reps K F vs ds):Reps K F vs.reverse ds.reverse :=
 r.rec1 (Q:=λvs ds=>Reps K F vs.reverse ds.reverse) .nil λh _ ih=>by rw[GR,GR];exact ih.append (.cons h .nil)
theorem Reps.eraseIdx{vs:List V}{ds:List D}(i:Nat)(r:Reps K F vs ds):Reps K F (vs.eraseIdx i) (ds.eraseIdx i) :=
 r.rec1 (Q:=λvs ds=>∀n,Reps K F (vs.eraseIdx n) (ds.eraseIdx n)) (λn=>.nil) (λq r ih n=>by
  cases n with
  |zero=>exact r
  |succ n=>exact .cons q (ih n)) i
theorem Reps.nil_iff{vs:List V}{ds:List D}(r:Reps K F vs ds):vs=[]↔ds=[]:=by cases r<;>simp
theorem Reps.ints:∀ns:List Int,Reps K F (ns.map V.int) (ns.map D.int)
 |[]=>.nil
 |n::ns=>.cons (.int n) (Reps.ints ns)
theorem Reps.vint{vs:List V}(r:Reps K F vs (ns.map D.int)):vs=ns.map V.int :=
 r.rec1 (Q:=λvs ds=>∀bs:List Int,ds=bs.map D.int->vs=bs.map V.int) (λbs e=>by cases bs with
  |nil=>rfl
  |cons=>cases e) (λh _ ih bs e=>by
  cases bs with
  |nil=>cases e
  |cons b bs=>cases e;rw[h.vI,ih bs rfl];rfl) ns rfl
theorem Reps.vbl{bs:List Bool}{vs:List V}(r:Reps K F vs (bs.map D.bl)):vs=bs.map V.bl :=
 r.rec1 (Q:=λvs ds=>∀bs:List Bool,ds=bs.map D.bl->vs=bs.map V.bl) (λbs e=>by cases bs with
  |nil=>rfl
  |cons=>cases e) (λh _ ih bs e=>by
  cases bs with
  |nil=>cases e
  |cons b bs=>cases e;rw[h.vB,ih bs rfl];rfl) bs rfl
theorem Reps.vstr{bs:List BL}{vs:List V}(r:Reps K F vs (bs.map D.str)):vs=bs.map V.str :=
 r.rec1 (Q:=λvs ds=>∀bs:List BL,ds=bs.map D.str->vs=bs.map V.str) (λbs e=>by cases bs with
  |nil=>rfl
  |cons=>cases e) (λh _ ih bs e=>by
  cases bs with
  |nil=>cases e
  |cons b bs=>cases e;rw[h.vS,ih bs rfl];rfl) bs rfl
end
def Sub(F H:Hp):Prop:=∀a u,F a=AA u->H a=AA u
theorem Sub.rd(s:Sub F H){u:HO}(h:Rd F a u):Rd H a u:=h.imp (s a u) (λq0=>by obtain⟨o,h⟩:=q0;exact{o,s a _ h})
def OwnAt(K:AC)(F H:Hp)(a:AQ):D->Prop
 |.lst ds=>∃vs,H a=AA (.lst vs)/\Reps K F vs ds
 |.dk ds=>∃kvs,H a=AA (.dK kvs)/\RepK K F kvs ds
 |.dt ds=>∃kvs,H a=AA (.dT kvs)/\RepT K F kvs ds
 |_=>False
def jX:HO->Prop
 |.lst _=>True
 |.dK _=>True
 |.dT _=>True
 |_=>False
theorem OwnAt.ho{K:AC}{d:D}(h:OwnAt K F H a d):∃o,H a=AA o/\jX o:=by
 cases d with
 |lst ds=>obtain⟨vs,e,_⟩:=h;exact{_,e,trivial}
 |dk ds=>obtain⟨vs,e,_⟩:=h;exact{_,e,trivial}
 |dt ds=>obtain⟨vs,e,_⟩:=h;exact{_,e,trivial}
 |_=>exact h.elim
theorem OwnAt.mono{K:AC}{d:D}(h:OwnAt K F H a d)(l:Le F F')(e:H' a=H a):OwnAt K F' H' a d:=by
 cases d with
 |lst ds=>obtain⟨vs,q,r⟩:=h;exact{vs,e.trans q,r.le l}
 |dk ds=>obtain⟨vs,q,r⟩:=h;exact{vs,e.trans q,r.le l}
 |dt ds=>obtain⟨vs,q,r⟩:=h;exact{vs,e.trans q,r.le l}
 |_=>exact h.elim
theorem OwnAt.rep{K:AC}{d:D}(h:OwnAt K F H a d)(n:F a=AH)(eo:H a=AA o):Rep K (EV F a o) (.ref a) d:=by
 have l:Le F (EV F a o):=.of_gr (Gr.new n)
 cases d with
 |lst ds=>obtain⟨vs,q,r⟩:=h;rw[eo] at q;cases q;exact .lst (.inl (.inl JU)) (r.le l)
 |dk ds=>obtain⟨vs,q,r⟩:=h;rw[eo] at q;cases q;exact .dk (.inl JU) (r.le l)
 |dt ds=>obtain⟨vs,q,r⟩:=h;rw[eo] at q;cases q;exact .dt (.inl JU) (r.le l)
 |_=>exact h.elim
def DU(σ:St)(E:Ev)(a:AQ):Prop:=∃(i:Nat) (t:Bool) (d:D),E[i]?=AA (Sl.own t d)/\σ[i]?=AA (AA (V.ref a))
structure Sim(K:AC)(H₀:Hp)(τ:AQ)(F H:Hp)(σ:St)(E:Ev):Prop where
 sub:Sub F H
 len:E.length=σ.length
 val:∀(i:Nat) d,E[i]?=AA (.val d)->∃v,σ[i]?=AA (AA v)/\Rep K F v d
 own:∀(i:Nat) t d,E[i]?=AA (.own t d)->∃a,σ[i]?=AA (AA (.ref a))/\F a=AH/\OwnAt K F H a d/\(∀o u,H₀ a≠AA (.frz o u))/\(t=AG->τ=a)
 inj:∀(i j:Nat) t u d e a,E[i]?=AA (.own t d)->E[j]?=AA (.own u e)->σ[i]?=AA (AA (.ref a))->σ[j]?=AA (AA (.ref a))->i=j
def Nw(H:Hp)(a:AQ):Prop:=∀o,H a=AA o->¬jX o
theorem Nw.none{H:Hp}{a:AQ}(h:H a=AH):Nw H a:=λo e=>by rw[h] at e;cases e
structure Stp(ow:AQ->Prop)(F H F' H':Hp)(bM:AQ->Prop):Prop where
 keep:∀a o,H a=AA o->jX o->F a=AH->¬ow a->H' a=AA o
 dom:∀a,H' a=AH->H a=AH
 le:Le F F'
 new:∀a o,F' a=AA o->F a≠AH\/Nw H a\/ow a
 own:∀a,bM a->ow a\/H a=AH
variable{E':Ev}
section
variable{K:AC}{E:Ev}{ow Bs:AQ->Prop}
theorem Stp.refl:Stp ow F H F H ow:={λ_ _ h _ _ _=>h,λ_ h=>h,.refl _,λa o e=>.inl (by rw[e];exact nofun),λ_ h=>.inl h}
theorem Stp.nF(x:Stp ow F H F1 H1 ZY)(hf:F a=AH)(e:H a=AA o)(hw:jX o)(ho:¬ow a):F1 a=AH:=by
 cases e1:F1 a with
 |none=>rfl
 |some u =>
  rcases x.new a u e1 with z|z|z
  .exact absurd hf z
  .exact absurd hw (z o e)
  .exact absurd z ho
theorem Stp.nw(x:Stp ow F H F1 H1 ZY)(z:Nw H1 a):F a≠AH\/Nw H a\/ow a:=by
 by_cases h1:F a=AH
 .by_cases h2:ow a
  .exact .inr (.inr h2)
  .exact .inr (.inl λo e hw=>z o (x.keep a o e hw h1 h2) hw)
 .exact .inl h1
theorem Stp.trans(x:Stp ow F H F1 H1 ZY)(y:Stp ZY F1 H1 F2 H2 Bs):Stp ow F H F2 H2 Bs:=by
 have o1:∀a,H a≠AH->¬ow a->¬ZY a:=λa hh ho z=>(x.own a z).elim ho hh;refine{λa o e hw hf ho=>?_,λa h=>x.dom a (y.dom a h),x.le.trans y.le,λa o e=>?_,λa h=>?_}
 .have hh:H a≠AH:=by rw[e];exact nofun
  exact y.keep a o (x.keep a o e hw hf ho) hw (x.nF hf e hw ho) (o1 a hh ho)
 .rcases y.new a o e with z|z|z
  .cases e1:F1 a with
   |none=>exact absurd e1 z
   |some u=>exact x.new a u e1
  .exact x.nw z
  .exact(x.own a z).elim (λq=>.inr (.inr q)) λq=>.inr (.inl (.none q))
 .exact(y.own a h).elim (x.own a) λq=>.inr (x.dom a q)
theorem Stp.weak(x:Stp ow F H F1 H1 ZY)(h:∀a,Bs a->ZY a):Stp ow F H F1 H1 Bs:={x.keep,x.dom,x.le,x.new,λa q=>x.own a (h a q)}
def New(F H F' H':Hp):Prop:=Stp (λ_=>False) F H F' H' (λ_=>False)/\Sub F' H'
theorem New.stp(n:New F H F' H'):Stp ow F H F' H' ow :=
 {λa o e hw hf _=>n.1.keep a o e hw hf id,n.1.dom,n.1.le,λa o e=>(n.1.new a o e).elim .inl λz=>z.elim (λz=>.inr (.inl z)) λz=>z.elim,λ_ h=>.inl h}
theorem New.refl(s:Sub F H):New F H F H:={Stp.refl,s}
theorem New.trans(x:New F H F1 H1)(y:New F1 H1 F2 H2):New F H F2 H2:={x.1.trans y.1,y.2}
theorem New.laid{p:AQ}(s:Sub F H)(h:H p=AH):New F H (EV F p o) (EV H p o):=by
 have hf:F p=AH:=by
  cases e:F p with
  |none=>rfl
  |some u=>rw[s p u e] at h;cases h
 refine{{λa u e _ _ _=>by rw[GP (fV e h)];exact e,λa e=>?_,.of_gr (Gr.new hf),λa u e=>?_,λ_ z=>z.elim},λa u e=>?_}
 .by_cases ha:a=p
  .subst ha;rw[JU] at e;cases e
  .rw[GP ha] at e;exact e
 .by_cases ha:a=p
  .subst ha;exact .inr (.inl (.none h))
  .rw[GP ha] at e;exact .inl (by rw[e];exact nofun)
 .by_cases ha:a=p
  .subst ha;rw[JU] at e ⊢;exact e
  .rw[GP ha] at e ⊢;exact s a u e
theorem Gr.dom(g:Gr H H')(a:AQ)(e:H' a=AH):H a=AH:=by
 cases q:H a with
 |none=>rfl
 |some o=>rw[g a o q] at e;cases e
theorem pA5(s:Sub F H)(g:Gr H H'):New F H F H' :=
 {{λa o e _ _ _=>g a o e,g.dom,.refl _,λa o e=>.inl (by rw[e];exact nofun),λ_ z=>z.elim},λa u e=>g a u (s a u e)}
def gro(F H H':Hp):Hp:=λa=>match H a with|none=>H' a|some _=>F a
theorem Py(h:H a=AH):gro F H H' a=H' a:=by unfold gro;rw[h]
theorem Dt(h:H a=AA o):gro F H H' a=F a:=by unfold gro;rw[h]
theorem New.gro(s:Sub F H)(g:Gr H H'):New F H (gro F H H') H':=by
 refine{{λa o e _ _ _=>g a o e,g.dom,.of_gr λa u e=>by rw[Dt (s a u e)];exact e,λa o e=>?_,λ_ z=>z.elim},λa u e=>?_}
 .cases q:H a with
  |none=>exact .inr (.inl (.none q))
  |some v=>rw[Dt q] at e;exact .inl (by rw[e];exact nofun)
 .cases q:H a with
  |none=>rw[Py q] at e;exact e
  |some v=>rw[Dt q] at e;exact g a u (s a u e)
theorem Sim.new(S:Sim K H₀ τ F H σ E)(n:New F H F' H'):Sim K H₀ τ F' H' σ E where
 sub:=n.2
 len:=S.len
 val:=λi d e=>let ⟨v,h1,h2⟩:=S.val i d e;{v,h1,h2.le n.1.le}
 own:=λi t d e=>by
  obtain⟨a,h1,h2,h3,h4⟩:=S.own i t d e;obtain⟨o,ho,hw⟩:=h3.ho;exact{a,h1,n.1.nF h2 ho hw id,h3.mono n.1.le ((n.1.keep a o ho hw h2 id).trans ho.symm),h4}
 inj:=S.inj
theorem Sim.fresh(S:Sim K H₀ τ F H σ E)(h:H a=AH):¬DU σ E a:=λq0=>by
 obtain⟨i,t,d,e,e'⟩:=q0;obtain⟨b,h1,_,h3,_⟩:=S.own i t d e;rw[e'] at h1;cases h1;obtain⟨o,ho,_⟩:=h3.ho;rw[h] at ho;cases ho
end
abbrev G:=Ev->Out (D×Ev)
def tV(K:AC)(H₀:Hp)(g:G):TE:=λσ H Q=>∃τ F E d E',Sim K H₀ τ F H σ E/\g E=.ok (d,E') /\
 ∀v F' H',Stp (DU σ E) F H F' H' (DU σ E')->Sim K H₀ τ F' H' σ E'->Rep K F' v d->Q v H'
def tF(K:AC)(H₀:Hp)(g:G):TE:=λσ H Q=>∃τ F E d E',Sim K H₀ τ F H σ E/\g E=.ok (d,E') /\
 ∀a F' H',Stp (DU σ E) F H F' H' (DU σ E')->Sim K H₀ τ F' H' σ E'->F' a=AH->H a=AH->OwnAt K F' H' a d->¬DU σ E' a->Q (.ref a) H'
def tT(K:AC)(H₀:Hp)(g:Ev->Out (Bool×Ev)):TT:=λσ H Q=>∃τ F E b E',Sim K H₀ τ F H σ E/\g E=.ok (b,E') /\
 ∀F' H',Stp (DU σ E) F H F' H' (DU σ E')->Sim K H₀ τ F' H' σ E'->Q b H'
theorem PE.imp{t t':TE}(h:PE X e t)(hi:∀σ H Q,t' σ H Q->t σ H Q):PE X e t':=λpins s σ H Q I q=>h pins s σ H Q I (hi σ H Q q)
theorem PT.imp{t t':TT}(h:PT X e t)(hi:∀σ H Q,t' σ H Q->t σ H Q):PT X e t':=λpins s σ H Q I q=>h pins s σ H Q I (hi σ H Q q)
theorem PW.imp{t t':TT}(h:PW X e t)(hi:∀σ H Q,t' σ H Q->t σ H Q):PW X e t':=λw pins s σ H Q I q=>h w pins s σ H Q I (hi σ H Q q)
theorem PS.imp{e:D5}{t t':TS}(h:PS X e t)(hi:∀D σ H,t' D σ H->t D σ H):PS X e t':=λpins s σ H D I q=>h pins s σ H D I (hi D σ H q)
theorem PSs.imp{e:List D5}{t t':TS}(h:PSs X e t)(hi:∀D σ H,t' D σ H->t D σ H):PSs X e t':=λpins s σ H D I q=>h pins s σ H D I (hi D σ H q)
abbrev VE(X:Cx)(e:C5)(g:G):Prop:=PE X e (tV X.K X.H₀ g)
abbrev FE(X:Cx)(e:C5)(g:G):Prop:=PE X e (tF X.K X.H₀ g)
abbrev VT(X:Cx)(e:C5)(g:Ev->Out (Bool×Ev)):Prop:=PT X e (tT X.K X.H₀ g)
section
variable{a b:C5}{g ga gb gc:G}{K:AC}
theorem pA6{Q:VK}(h:tV K H₀ g σ H Q):tF K H₀ g σ H Q:=by
 obtain⟨τ,F,E,d,E',S,hg,k⟩:=h;refine{τ,F,E,d,E',S,hg,λp F' H' st S' n n0 ow no=>?_};obtain⟨o,ho,hown⟩:=ow.ho
 have nw:Stp (DU σ E) F H (EV F' p o) H' (DU σ E'):={st.keep,st.dom,st.le.trans (.of_gr (Gr.new n)),λa u e=>by
  by_cases ha:a=p
  .subst ha;exact .inr (.inl (.none n0))
  .rw[GP ha] at e;exact st.new a u e,st.own}
 refine k _ _ _ nw {λa u e=>?_,S'.len,λi d e=>?_,λi t d e=>?_,S'.inj} (ow.rep n ho)
 .by_cases ha:a=p
  .subst ha;rw[JU] at e;rw[ho];exact e
  .rw[GP ha] at e;exact S'.sub a u e
 .obtain⟨v,h1,h2⟩:=S'.val i d e;exact{v,h1,h2.le (.of_gr (Gr.new n))}
 .obtain⟨b,h1,h2,h3,h4⟩:=S'.own i t d e
  refine{b,h1,?_,h3.mono (.of_gr (Gr.new n)) rfl,h4};rw[GP (λz=>no {i,t,d,e,by rw[<-z];exact h1})];exact h2
theorem pA7(h:FE X e g):VE X e g:=PE.imp h λ_ _ _ q=>pA6 q
noncomputable def AR(i:Nat):G:=λE=>match E[i]? with
 |some (.val d)=>.ok (d,E)
 |some (.own AB d)=>.ok (d,E.set i (.val d))
 |_=>.bad
def gC(d:D):G:=λE=>.ok (d,E)
theorem Sim.share{E:Ev}{t:Bool}{d:D}(S:Sim K H₀ τ F H σ E)(e:E[i]?=AA (.own t d)) :
  ∃a F',σ[i]?=AA (AA (.ref a))/\Stp (DU σ E) F H F' H (DU σ (E.set i (.val d)))/\Sim K H₀ τ F' H σ (E.set i (.val d))/\Rep K F' (.ref a) d:=by
 obtain⟨a,h1,h2,h3,h4⟩:=S.own i t d e;obtain⟨o,ho,_⟩:=h3.ho;have hi:i<E.length:=(AX.mp e).1;have l:Le F (EV F a o):=.of_gr (Gr.new h2)
 have NN:∀(j:Nat) t d',(E.set i (.val d))[j]?=AA (.own t d')->j≠i/\E[j]?=AA (.own t d'):=λj t d' q=>by
  by_cases hj:i=j
  .subst hj;rw[BF hi] at q;cases q
  .rw[A7 hj] at q;exact{JG hj,q}
 refine{a,EV F a o,h1,{λ_ _ q _ _ _=>q,λ_ q=>q,l,λb u q=>?_,λb ⟨j,t',d',q1,q2⟩=>.inl {j,t',d',(NN j t' d' q1).2,q2}},{λb u q=>?_,by rw[CC];exact S.len,λj d' q=>?_,λj t' d' q=>?_,λj k t1 t2 d1 d2 b q1 q2=>S.inj j k t1 t2 d1 d2 b (NN _ _ _ q1).2 (NN _ _ _ q2).2},h3.rep h2 ho}
 .by_cases hb:b=a
  .subst hb;exact .inr (.inr {i,t,d,e,h1})
  .rw[GP hb] at q;exact .inl (by rw[q];exact nofun)
 .by_cases hb:b=a
  .subst hb;rw[JU] at q;rw[ho];exact q
  .rw[GP hb] at q;exact S.sub b u q
 .by_cases hj:i=j
  .subst hj;rw[BF hi] at q;cases q;exact{_,h1,h3.rep h2 ho}
  .rw[A7 hj] at q
   obtain⟨v,z1,z2⟩:=S.val j d' q;exact{v,z1,z2.le l}
 .obtain⟨hj,q⟩:=NN j t' d' q
  obtain⟨b,z1,z2,z3,z4⟩:=S.own j t' d' q;refine{b,z1,?_,z3.mono l rfl,z4};rw[GP (λz=>hj (S.inj j i t' t d' d a q e (by rw[z1,z]) h1))];exact z2
theorem BX(i:Nat)(hN:X.N[i]?=AA x:=by rfl)(hv:dE X.env.scope x:=by first|exact BO rfl|exact EG (BO rfl)|exact EG (EG rfl))(hd:(x==("__debug__":BL))=AB:=by decide)
  (QH:(x==("__classdict__":BL))=AB:=by decide):VE X (.Name x pos) (AR i):=(kD hN hv hd QH).imp λσ H Q h=>by
 obtain⟨τ,F,E,d,E',S,hg,k⟩:=h;unfold AR at hg;split at hg
 .cases hg
  rename_i e;obtain⟨v,h1,h2⟩:=S.val i _ e;exact{v,h1,k v F H .refl S h2}
 .cases hg
  rename_i e;obtain⟨a,F',h1,h2,h3,h4⟩:=S.share e;exact{_,h1,k _ F' H h2 h3 h4}
 .cases hg
theorem uM{v:V}{d:D}(r:∀F,Rep K F v d){Q:VK}(h:tV K H₀ (gC d) σ H Q):tC v σ H Q:=by
 obtain⟨τ,F,E,d',E',S,hg,k⟩:=h;cases hg;exact k v F H .refl S (r F)
theorem DY{i j pos}:VE X (.Constant (.int i) j pos) (gC (.int i)):=nT.imp λ_ _ _ h=>uM (λ_=>.int i) h
theorem fJ{b j pos}:VE X (.Constant (.bool b) j pos) (gC (.bl b)):=uQ.imp λ_ _ _ h=>uM (λ_=>.bl b) h
theorem YL{j pos}:VE X (.Constant .none j pos) (gC .non):=nS.imp λ_ _ _ h=>uM (λ_=>.non) h
theorem L9{x j pos}:VE X (.Constant (.str x) j pos) (gC (.str x)):=nR.imp λ_ _ _ h=>uM (λ_=>.str x) h
theorem kA{v:V}{d:D}(hm:X.mg x=AA u)(r:RelV v u)(rd:∀F,Rep X.K F v d)(hg:Gl X x:=by rfl)(hd:(x==("__debug__":BL))=AB:=by decide):VE X (.Name x pos) (gC d):=(YQ hg hm r hd).imp λ_ _ _ h=>uM rd h
def g2(f:D->D->Out D)(ga gb:G):G:=λE=>(ga E).bind λp=>(gb p.2).bind λq=>(f p.1 q.1).bind λd=>.ok (d,q.2)
def g1(f:D->Out D)(ga:G):G:=λE=>(ga E).bind λp=>(f p.1).bind λd=>.ok (d,p.2)
def P5(K:AC)(rd:R2)(f:D->D->Out D):Prop:=∀v u x y F H d Q,Sub F H->Rep K F v x->Rep K F u y->f x y=.ok d->(∀z F' H',New F H F' H'->Rep K F' z d->Q z H')->rd v u H Q
def Hz(K:AC)(rd:V->Hp->VK->Prop)(f:D->Out D):Prop:=∀v x F H d Q,Sub F H->Rep K F v x->f x=.ok d->(∀z F' H',New F H F' H'->Rep K F' z d->Q z H')->rd v H Q
theorem yL{rd:R2}{f:D->D->Out D}(hs:P5 K rd f){Q:VK}(h:tV K H₀ (g2 f ga gb) σ H Q):nQ rd (tV K H₀ ga) (tV K H₀ gb) σ H Q:=by
 obtain⟨τ,F,E,d,E',S,hg,k⟩:=h;obtain⟨p,ea,hg⟩:=pA3 hg;obtain⟨q,eb,hg⟩:=pA3 hg;obtain⟨z,ef,hg⟩:=pA3 hg;cases hg;refine{τ,F,E,p.1,p.2,S,ea,λv F1 H1 st1 S1 r1=>?_};refine{τ,F1,p.2,q.1,q.2,S1,eb,λu F2 H2 st2 S2 r2=>?_};exact hs v u p.1 q.1 F2 H2 d Q S2.sub (r1.le st2.le) r2 ef λz F3 H3 n r3=>k z F3 H3 ((st1.trans st2).trans n.stp) (S2.new n) r3
theorem yIH{rd:V->Hp->VK->Prop}{f:D->Out D}(hs:Hz K rd f){Q:VK}(h:tV K H₀ (g1 f ga) σ H Q):Xn rd (tV K H₀ ga) σ H Q:=by
 obtain⟨τ,F,E,d,E',S,hg,k⟩:=h;obtain⟨p,ea,hg⟩:=pA3 hg;obtain⟨z,ef,hg⟩:=pA3 hg;cases hg;refine{τ,F,E,p.1,p.2,S,ea,λv F1 H1 st1 S1 r1=>?_};exact hs v p.1 F1 H1 d Q S1.sub r1 ef λz F3 H3 n r3=>k z F3 H3 (st1.trans n.stp) (S1.new n) r3
theorem rD{op:Operator}{rd:R2}{f:D->D->Out D}(ho:OpR X (HH op) rd)(hs:P5 X.K rd f)(ha:VE X a ga)(hb:VE X b gb):VE X (.BinOp a op b pos) (g2 f ga gb):=(Hk ho ha hb).imp λ_ _ _ h=>yL hs h
theorem yKX{op:UnaryOp}{rd:V->Hp->VK->Prop}{f:D->Out D}(ho:Bm X (unaryOp op) rd)(hs:Hz X.K rd f)(ha:VE X a ga):VE X (.UnaryOp op a pos) (g1 f ga):=(yH2 ho ha).imp λ_ _ _ h=>yIH hs h
theorem yK{rd:R2}{f:D->D->Out D}(ho:OpR X (CO op) rd)(hs:P5 X.K rd f)(ha:VE X a ga)(hb:VE X b gb)(hm:CY op b=AB):VE X (.Compare a [op] [b] pos) (g2 f ga gb):=(yAT ho ha hb hm).imp λ_ _ _ h=>yL hs h
def gB(g:G):Ev->Out (Bool×Ev):=λE=>(g E).bind λp=>match p.1 with|.bl b=>.ok (b,p.2)|_=>.bad
theorem fR{rd:R2}{f:D->D->Out D}(ho:OpR X (CO op) rd)(hs:P5 X.K rd f)(ha:VE X a ga)(hb:VE X b gb)(hm:CY op b=AB):VT X (.Compare a [op] [b] pos) (gB (g2 f ga gb)):=(yAU ho ha hb hm).imp λσ H Q h=>by
 obtain⟨τ,F,E,b',E',S,hg,k⟩:=h;obtain⟨p,ea,hg⟩:=pA3 hg;refine yL hs {τ,F,E,p.1,p.2,S,ea,λv F1 H1 st1 S1 r1=>?_};split at hg
 .rename_i b' eb
  cases hg;rw[eb] at r1;cases r1;exact{_,rfl,k F1 H1 st1 S1}
 .cases hg
def M7(t:Ev->Out (Bool×Ev)):Ev->Out (Bool×Ev):=λE=>(t E).bind λp=>.ok (!p.1,p.2)
def YK(t u:Ev->Out (Bool×Ev)):Ev->Out (Bool×Ev):=λE=>(t E).bind λp=>if p.1=AG then u p.2 else .ok (AB,p.2)
def LU(t u:Ev->Out (Bool×Ev)):Ev->Out (Bool×Ev):=λE=>(t E).bind λp=>if p.1=AG then .ok (AG,p.2) else u p.2
theorem WZ{t:Ev->Out (Bool×Ev)}(h:VT X a t):VT X (.UnaryOp .Not a pos) (M7 t):=(yEA h).imp λσ H Q q=>by
 obtain⟨τ,F,E,b',E',S,hg,k⟩:=q;obtain⟨p,ea,hg⟩:=pA3 hg;cases hg;exact{τ,F,E,p.1,p.2,S,ea,λF1 H1 st1 S1=>k F1 H1 st1 S1}
abbrev VW(X:Cx)(e:C5)(g:Ev->Out (Bool×Ev)):Prop:=PW X e (tT X.K X.H₀ g)
theorem VW.t{t:Ev->Out (Bool×Ev)}(h:VW X a t):VT X a t:=PW.pt h
theorem qO{t:Ev->Out (Bool×Ev)}(h:VT X a t):VW X (.BoolOp .And [a] pos) t:=yAL h
theorem ZL{t:Ev->Out (Bool×Ev)}(h:VT X a t):VW X (.BoolOp .Or [a] pos) t:=yD8 h
theorem qC{t u:Ev->Out (Bool×Ev)}{rest:List C5}(h:VT X a t)(h':VW X (.BoolOp .And (b::rest) pos) u):VW X (.BoolOp .And (a::b::rest) pos) (YK t u):=(yD9 h h').imp λσ H Q q=>by
 obtain⟨τ,F,E,b',E',S,hg,k⟩:=q;obtain⟨p,ea,hg⟩:=pA3 hg;refine{τ,F,E,p.1,p.2,S,ea,λF1 H1 st1 S1=>?_}
 by_cases hp:p.1=AG
 .rw[if_pos hp] at hg ⊢
  exact{τ,F1,p.2,b',E',S1,hg,λF2 H2 st2 S2=>k F2 H2 (st1.trans st2) S2}
 .rw[if_neg hp] at hg ⊢
  cases hg;exact k F1 H1 st1 S1
theorem WY{t u:Ev->Out (Bool×Ev)}{rest:List C5}(h:VT X a t)(h':VW X (.BoolOp .Or (b::rest) pos) u):VW X (.BoolOp .Or (a::b::rest) pos) (LU t u):=(yHQ h h').imp λσ H Q q=>by
 obtain⟨τ,F,E,b',E',S,hg,k⟩:=q;obtain⟨p,ea,hg⟩:=pA3 hg;refine{τ,F,E,p.1,p.2,S,ea,λF1 H1 st1 S1=>?_}
 by_cases hp:p.1=AG
 .rw[if_pos hp] at hg ⊢
  cases hg;exact k F1 H1 st1 S1
 .rw[if_neg hp] at hg ⊢
  exact{τ,F1,p.2,b',E',S1,hg,λF2 H2 st2 S2=>k F2 H2 (st1.trans st2) S2}
def jS(ga gb:G):G:=λE=>(ga E).bind λp=>match p.1 with|.bl AG=>gb p.2|.bl AB=>.ok (.bl AB,p.2)|_=>.bad
def Yb(ga gb:G):G:=λE=>(ga E).bind λp=>match p.1 with|.bl AG=>.ok (.bl AG,p.2)|.bl AB=>gb p.2|_=>.bad
def Ar(ga:G):G:=λE=>(ga E).bind λp=>match p.1 with|.bl b=>.ok (.bl (!b),p.2)|_=>.bad
theorem pU{op}(h:VE X a g):VE X (.BoolOp op [a] pos) g:=yEB h
theorem sK{rest:List C5}(ha:VE X a ga)(hb:VE X (.BoolOp .And (b::rest) pos) gb):VE X (.BoolOp .And (a::b::rest) pos) (jS ga gb):=(yEC ha hb).imp λσ H Q q=>by
 obtain⟨τ,F,E,d,E',S,hg,k⟩:=q;obtain⟨p,ea,hg⟩:=pA3 hg;refine{τ,F,E,p.1,p.2,S,ea,λv F1 H1 st1 S1 r1=>?_};split at hg
 .rename_i eb
  rw[eb] at r1;cases r1;exact{AG,rfl,Gk {τ,F1,p.2,d,E',S1,hg,λv F2 H2 st2 S2 r2=>k v F2 H2 (st1.trans st2) S2 r2}}
 .rename_i eb
  rw[eb] at r1;cases r1;cases hg;exact{AB,rfl,Gm (k _ F1 H1 st1 S1 (.bl AB))}
 .cases hg
theorem yKY{rest:List C5}(ha:VE X a ga)(hb:VE X (.BoolOp .Or (b::rest) pos) gb):VE X (.BoolOp .Or (a::b::rest) pos) (Yb ga gb):=(yHT ha hb).imp λσ H Q q=>by
 obtain⟨τ,F,E,d,E',S,hg,k⟩:=q;obtain⟨p,ea,hg⟩:=pA3 hg;refine{τ,F,E,p.1,p.2,S,ea,λv F1 H1 st1 S1 r1=>?_};split at hg
 .rename_i eb
  rw[eb] at r1;cases r1;cases hg;exact{AG,rfl,Gk (k _ F1 H1 st1 S1 (.bl AG))}
 .rename_i eb
  rw[eb] at r1;cases r1;exact{AB,rfl,Gm {τ,F1,p.2,d,E',S1,hg,λv F2 H2 st2 S2 r2=>k v F2 H2 (st1.trans st2) S2 r2}}
 .cases hg
theorem Xc(ha:VE X a ga):VE X (.UnaryOp .Not a pos) (Ar ga):=(yED ha).imp λσ H Q q=>by
 obtain⟨τ,F,E,d,E',S,hg,k⟩:=q;obtain⟨p,ea,hg⟩:=pA3 hg;refine{τ,F,E,p.1,p.2,S,ea,λv F1 H1 st1 S1 r1=>?_};split at hg
 .rename_i b' eb
  rw[eb] at r1;cases r1;cases hg;exact{_,rfl,k _ F1 H1 st1 S1 (.bl _)}
 .cases hg
def nY(t:Ev->Out (Bool×Ev))(ga gb:G):G:=λE=>(t E).bind λp=>if p.1=AG then ga p.2 else gb p.2
theorem uK{t:Ev->Out (Bool×Ev)}(hc:VT X c t)(ha:VE X a ga)(hb:VE X b gb):VE X (.IfExp c a b pos) (nY t ga gb):=(zWE hc ha hb).imp λσ H Q q=>by
 obtain⟨τ,F,E,d,E',S,hg,k⟩:=q;obtain⟨p,ea,hg⟩:=pA3 hg;refine{τ,F,E,p.1,p.2,S,ea,λF1 H1 st1 S1=>?_}
 by_cases hp:p.1=AG
 .rw[if_pos hp] at hg ⊢
  exact{τ,F1,p.2,d,E',S1,hg,λv F2 H2 st2 S2 r=>k v F2 H2 (st1.trans st2) S2 r}
 .rw[if_neg hp] at hg ⊢
  exact{τ,F1,p.2,d,E',S1,hg,λv F2 H2 st2 S2 r=>k v F2 H2 (st1.trans st2) S2 r}
end
def Yd(H₀ H H2:Hp):Prop:=∀a,H2 a=H a\/∃o u,H a=AA (.frz o u)/\H2 a=AA u/\sM u/\∀o' u',H₀ a≠AA (.frz o' u')
theorem Inv.thaw(I:Inv X pins σ H s)(t:Yd X.H₀ H H2):Inv X pins σ H2 s:=by
 have tn:∀a,H a=AH->H2 a=AH:=λa e=>by
  rcases t a with h|⟨o,u,h,_⟩
  .rw[h,e]
  .rw[e] at h;cases h
 have tk:∀a v,H a=AA v->(∀o u,v≠.frz o u)->H2 a=AA v:=λa v e n=>by
  rcases t a with h|⟨o,u,h,_⟩
  .rw[h,e]
  .rw[e] at h;cases h;exact absurd rfl (n o u)
 refine{I.ok,I.os,I.bare,{I.base.keep,I.base.slot,λb o e n hx=>tn b (I.base.free b o e n hx),I.base.there,λb xs e=>tk b _ (I.base.tups b xs e) (λ_ _ z=>HO.noConfusion z),λb o u e=>?_,λb t' ps e=>?_},I.loc,I.cell,tn _ I.free,λx c e=>tn c (I.freeC x c e),λp hp=>?_,λb u e=>?_,I.len}
 .rcases t b with h|⟨o',u',_,_,_,h⟩
  .rw[h];exact I.base.frzs b o u e
  .exact absurd e (h o u)
 .obtain⟨m,h⟩:=I.base.tbls b t' ps e
  exact{m,tk b _ h (λ_ _ z=>HO.noConfusion z)}
 .obtain⟨h1,h2,h3⟩:=I.pin p hp
  exact{h1,tn _ h2,h3}
 .have ok:ObjOk X.prog X.w H s.heap b u:=by
   rcases t b with h|⟨o',u',h1,h2,_⟩
   .exact I.hok b u (by rw[<-h];exact e)
   .rw[e] at h2;cases h2
    obtain⟨_,q⟩:=I.hok b _ h1;exact q
  exact ok.stay (λc v _ q=>q) (λc q=>tk c _ q (λ_ _ z=>HO.noConfusion z)) (λc ys q=>tk c _ q (λ_ _ z=>HO.noConfusion z)) λc o x q=>(t c).elim (λh=>h.trans q) (λq0=>by obtain⟨_,_,h,_,d,_⟩:=q0;exact by rw[q] at h;cases h;exact d.elim)
mutual
noncomputable def D.flat:D->Bool
 |.tup xs=>pA8 xs
 |.lst _=>AB
 |.dk _=>AB
 |.dt _=>AB
 |_=>AG
noncomputable def pA8:List D->Bool
 |[]=>AG
 |d::ds=>d.flat&&pA8 ds
end
mutual
noncomputable def D.nod:D->Bool
 |.tup xs=>pA9 xs
 |.lst xs=>pA9 xs
 |.dk _=>AB
 |.dt _=>AB
 |_=>AG
noncomputable def pA9:List D->Bool
 |[]=>AG
 |d::ds=>d.nod&&pA9 ds
end
section
variable{K:AC}
theorem pAA(ht:∀a vs,F a=AA (.tup vs)->F2 a=AA (.tup vs)):(∀{v d},Rep K F v d->d.flat=AG->Rep K F2 v d)/\(∀{vs ds},Reps K F vs ds->pA8 ds=AG->Reps K F2 vs ds) /\
  (∀{vs ds},RepK K F vs ds->pA8 (ds.map (·.2))=AG->RepK K F2 vs ds)/\∀{vs ds},RepT K F vs ds->pA8 (ds.map (·.2))=AG->RepT K F2 vs ds :=
 Rep.ind (P:=λv d=>d.flat=AG->Rep K F2 v d) (Q:=λv d=>pA8 d=AG->Reps K F2 v d) (R:=λv d=>pA8 (d.map (·.2))=AG->RepK K F2 v d) (T:=λv d=>pA8 (d.map (·.2))=AG->RepT K F2 v d)
  (λ_=>.non) (λb _=>.bl b) (λi _=>.int i) (λx _=>.str x) (λh _ ih e=>.tup (ht _ _ h) (ih (by rw[D.flat] at e;exact e))) (λh n _=>.tupK h n) (λ_ _ _ e=>by rw[D.flat] at e;cases e) (λ_ _ _ e=>by rw[D.flat] at e;cases e) (λ_ _ _ e=>by rw[D.flat] at e;cases e)
  (λ_=>.nil) (λ_ _ h r e=>by rw[pA8,BE] at e;exact .cons (h e.1) (r e.2)) (λ_=>.nil) (λ_ _ h r e=>by rw[A1,pA8,BE] at e;exact .cons (h e.1) (r e.2)) (λ_=>.nil) (λ_ _ h r e=>by rw[A1,pA8,BE] at e;exact .cons (h e.1) (r e.2))
theorem pAB(ht:∀a vs,F a=AA (.tup vs)->F2 a=AA (.tup vs)){v:V}{d:D}(r:Rep K F v d):d.flat=AG->Rep K F2 v d:=(pAA ht).1 r
theorem pAC(ht:∀a vs,F a=AA (.tup vs)->F2 a=AA (.tup vs))(hl:∀a vs,SqL K F a vs->SqL K F2 a vs):(∀{v d},Rep K F v d->d.nod=AG->Rep K F2 v d)/\(∀{vs ds},Reps K F vs ds->pA9 ds=AG->Reps K F2 vs ds) /\
  (∀{vs ds},RepK K F vs ds->True)/\∀{vs ds},RepT K F vs ds->True :=
 Rep.ind (P:=λv d=>d.nod=AG->Rep K F2 v d) (Q:=λv d=>pA9 d=AG->Reps K F2 v d) (R:=λ_ _=>True) (T:=λ_ _=>True)
  (λ_=>.non) (λb _=>.bl b) (λi _=>.int i) (λx _=>.str x) (λh _ ih e=>.tup (ht _ _ h) (ih (by rw[D.nod] at e;exact e))) (λh n _=>.tupK h n) (λh _ ih e=>.lst (hl _ _ h) (ih (by rw[D.nod] at e;exact e))) (λ_ _ _ e=>by rw[D.nod] at e;cases e) (λ_ _ _ e=>by rw[D.nod] at e;cases e)
  (λ_=>.nil) (λ_ _ h r e=>by rw[pA9,BE] at e;exact .cons (h e.1) (r e.2)) trivial (λ_ _ _ _=>trivial) trivial (λ_ _ _ _=>trivial)
theorem pAD(ht:∀a vs,F a=AA (.tup vs)->F2 a=AA (.tup vs))(hl:∀a vs,SqL K F a vs->SqL K F2 a vs){v:V}{d:D}(r:Rep K F v d):d.nod=AG->Rep K F2 v d:=(pAC ht hl).1 r
end
noncomputable def WX(is:List Nat)(j:Nat):Sl->Sl
 |.own _ d=>if is.contains j then .val d else .no
 |s=>s
def iB(is:List Nat):Nat->Ev->Ev
 |_,[]=>[]
 |j,s::E=>WX is j s::iB is (j+1) E
abbrev hide(is:List Nat)(E:Ev):Ev:=iB is 0 E
theorem Ry(is:List Nat):∀(E:Ev) (k j:Nat),(iB is k E)[j]?=(E[j]?).map (WX is (k+j))
 |[],_,_=>by simp[iB]
 |s::E,k,0=>by simp[iB]
 |s::E,k,j+1=>by
  show(iB is (k+1) E)[j]?=_;rw[Ry is E (k+1) j,WR,show k+1+j=k+(j+1) by lia]
theorem Qu(is:List Nat)(E:Ev)(j:Nat):(hide is E)[j]?=(E[j]?).map (WX is j):=by rw[Ry];simp
theorem Rx(is:List Nat):∀(E:Ev) (k:Nat),(iB is k E).length=E.length
 |[],_=>rfl
 |s::E,k=>by rw[iB,A0,A0,Rx is E (k+1)]
def Aq:Option Sl->Bool
 |some (.own _ (.lst _))=>AG
 |_=>AB
noncomputable def Wd:Option Sl->Bool
 |some (.own _ (.dk _))=>AG
 |some (.own _ (.dt _))=>AG
 |_=>AB
def sR(is:List Nat)(E:Ev)(d:D):Bool:=(!(is.any λi=>Aq E[i]?)||d.flat)&&(!(is.any λi=>Wd E[i]?)||d.nod)
def VL(is:List Nat)(g:G):G:=λE=>(g (hide is E)).bind λp=>if sR is E p.1=AG then .ok (p.1,E) else .bad
def XG(is:List Nat)(g:Ev->Out (Bool×Ev)):Ev->Out (Bool×Ev):=λE=>(g (hide is E)).bind λp=>.ok (p.1,E)
section
variable{K:AC}{E:Ev}
def Lent(σ:St)(E:Ev)(is:List Nat)(a:AQ):Prop:=∃(i:Nat) (t:Bool) (d:D),i∈is/\E[i]?=AA (Sl.own t d)/\σ[i]?=AA (AA (V.ref a))
theorem Lent.ow(h:Lent σ E is a):DU σ E a:=let ⟨i,t,d,_,e,q⟩:=h;{i,t,d,e,q}
theorem Sim.owned(S:Sim K H₀ τ F H σ E)(h:DU σ E a):F a=AH/\(∃o,H a=AA o/\jX o)/\∀o u,H₀ a≠AA (.frz o u):=by
 obtain⟨i,t,d,e,q⟩:=h;obtain⟨b,h1,h2,h3,h4,_⟩:=S.own i t d e;rw[q] at h1;cases h1;exact{h2,h3.ho,h4}
open Classical in
noncomputable def YI(σ:St)(E:Ev)(is:List Nat)(F H:Hp):Hp:=λa=>if Lent σ E is a then H a else F a
open Classical in
noncomputable def XC(σ:St)(E:Ev)(is:List Nat)(F':Hp):Hp:=λa=>if Lent σ E is a then AH else F' a
open Classical in
noncomputable def fH(σ:St)(E:Ev)(is:List Nat)(H H':Hp):Hp:=λa=>if Lent σ E is a then H a else H' a
theorem Sim.lend(S:Sim K H₀ τ F H σ E)(is:List Nat):Sim K H₀ τ (YI σ E is F H) H σ (hide is E)/\∀a,¬DU σ (hide is E) a:=by
 have l:Le F (YI σ E is F H):=λa u e=>by
  refine .inl ?_;unfold YI;split
  .exact S.sub a u e
  .exact e
 have no:∀(i:Nat) t d,(hide is E)[i]?≠AA (.own t d):=λi t d e=>by
  rw[Qu] at e
  cases q:E[i]? with
  |none=>rw[q] at e;cases e
  |some s =>
   rw[q] at e;have e:WX is i s=.own t d:=BV e
   cases s with
   |no=>cases e
   |val _=>cases e
   |own t' d' =>
    by_cases hc:is.contains i=AG
    .rw[show WX is i (.own t' d')=.val d' from if_pos hc] at e;cases e
    .rw[show WX is i (.own t' d')=.no from if_neg hc] at e;cases e
 refine{{λa u e=>?_,by rw[Rx];exact S.len,λi d e=>?_,λi t d e=>absurd e (no i t d),λi j t u d d' a e=>absurd e (no i t d)},(λa q0=>by obtain⟨i,t,d,e,_⟩:=q0;exact no i t d e)}
 .unfold YI at e
  split at e
  .exact e
  .exact S.sub a u e
 .rw[Qu] at e
  cases q:E[i]? with
  |none=>rw[q] at e;cases e
  |some s =>
   rw[q] at e;have e:WX is i s=.val d:=BV e
   cases s with
   |no=>cases e
   |val d' =>
    cases e;obtain⟨v,h1,h2⟩:=S.val i d q;exact{v,h1,h2.le l}
   |own t' d' =>
    by_cases hc:is.contains i=AG
    .rw[show WX is i (.own t' d')=.val d' from if_pos hc] at e
     cases e;obtain⟨a,h1,h2,h3,_⟩:=S.own i t' d q;obtain⟨o,ho,_⟩:=h3.ho;refine{.ref a,h1,(h3.rep h2 ho).le λb u e=>.inl ?_};have la:Lent σ E is a:={i,t',d,by simpa using hc,q,h1}
     by_cases hb:b=a
     .subst hb
      rw[JU] at e;unfold YI;rw[if_pos la,ho];exact e
     .rw[GP hb] at e
      unfold YI;split
      .exact S.sub b u e
      .exact e
    .rw[show WX is i (.own t' d')=.no from if_neg hc] at e;cases e
theorem Sim.back(S:Sim K H₀ τ F H σ E)(is:List Nat)(st:Stp (λ_=>False) (YI σ E is F H) H F' H' bM)(sb:Sub F' H') :
  Yd H₀ H' (fH σ E is H H')/\Stp (DU σ E) F H (XC σ E is F') (fH σ E is H H') (DU σ E)/\Sim K H₀ τ (XC σ E is F') (fH σ E is H H') σ E /\
  (∀a u,F' a=AA u->(∀o w,jX o->u≠o/\u≠.frz w o)->XC σ E is F' a=AA u) /\
  ((is.any λi=>Aq E[i]?)=AB->∀a vs,SqL K F' a vs->SqL K (XC σ E is F') a vs):=by
 have lh:∀a,Lent σ E is a->∃o,H a=AA o/\jX o/\(F' a=AA o\/(sM o/\∃w,F' a=AA (.frz w o))):=λa h=>by
  obtain⟨_,⟨o,ho,hw⟩,_⟩:=S.owned h.ow;refine{o,ho,hw,(st.le a o ?_).imp_right λz=>z.resolve_right (λq0=>by obtain⟨_,_,_,y,_⟩:=q0;exact by subst y;exact hw)};unfold YI;rw[if_pos h];exact ho
 have l2:Le F (XC σ E is F'):=λa u e=>by
  have hn:¬Lent σ E is a:=λh=>by rw[(S.owned h.ow).1] at e;cases e
  unfold XC;rw[if_neg hn];exact st.le a u (by unfold YI;rw[if_neg hn];exact e)
 have kp:∀a o,H a=AA o->jX o->F a=AH->fH σ E is H H' a=AA o:=λa o e hw n=>by
  unfold fH
  by_cases h:Lent σ E is a
  .rw[if_pos h];exact e
  .rw[if_neg h];exact st.keep a o e hw (by unfold YI;rw[if_neg h];exact n) id
 have nw:∀a o,XC σ E is F' a=AA o->F a≠AH\/Nw H a:=λa o e=>by
  unfold XC at e
  by_cases h:Lent σ E is a
  .rw[if_pos h] at e;cases e
  .rw[if_neg h] at e
   rcases st.new a o e with z|z|z
   .unfold YI at z;rw[if_neg h] at z;exact .inl z
   .exact .inr z
   .exact z.elim
 refine{λa=>?_,{λa o e hw n _=>kp a o e hw n,λa e=>?_,l2,λa o e=>(nw a o e).imp_right .inl,λ_ h=>.inl h},{λa u e=>?_,S.len,λi d e=>?_,λi t d e=>?_,S.inj},λa u e hn=>?_,λhl a vs h=>?_}
 .by_cases h:Lent σ E is a
  .obtain⟨o,ho,_,z|⟨id,w,z⟩⟩:=lh a h
   .exact .inl (by unfold fH;rw[if_pos h,sb a o z,ho])
   .exact .inr {w,o,sb a _ z,by unfold fH;rw[if_pos h,ho],id,(S.owned h.ow).2.2}
  .exact .inl (by unfold fH;rw[if_neg h])
 .unfold fH at e
  by_cases h:Lent σ E is a
  .rw[if_pos h] at e;exact e
  .rw[if_neg h] at e;exact st.dom a e
 .unfold XC at e
  by_cases h:Lent σ E is a
  .rw[if_pos h] at e;cases e
  .rw[if_neg h] at e
   unfold fH;rw[if_neg h];exact sb a u e
 .obtain⟨v,h1,h2⟩:=S.val i d e
  exact{v,h1,h2.le l2}
 .obtain⟨a,h1,h2,h3,h4⟩:=S.own i t d e
  obtain⟨o,ho,hw⟩:=h3.ho;refine{a,h1,?_,h3.mono l2 ((kp a o ho hw h2).trans ho.symm),h4}
  cases q:XC σ E is F' a with
  |none=>rfl
  |some u =>
   rcases nw a u q with z|z
   .exact absurd h2 z
   .exact absurd hw (z o ho)
 .unfold XC
  by_cases h:Lent σ E is a
  .obtain⟨o,ho,hw,z|⟨_,w,z⟩⟩:=lh a h
   .rw[e] at z;cases z;exact absurd rfl (hn u default hw).1
   .rw[e] at z;cases z;exact absurd rfl (hn o w hw).2
  .rw[if_neg h];exact e
 .rcases h with h|h
  case inr=>exact .inr h
  refine .inl ?_
  have hn:¬Lent σ E is a:=λhh=>by
   obtain⟨o,ho,hw,z⟩:=lh a hh;obtain⟨i,t,d,hi,e,q⟩:=id hh
   have Zt:Aq E[i]?=AB:=by
    have:=MX.mp hl i hi;simpa using this
   obtain⟨b,h1,h2,h3,_⟩:=S.own i t d e;rw[q] at h1;cases h1
   have od:sM o:=by
    cases d with
    |lst ds=>rw[e] at Zt;cases Zt
    |dk ds=>obtain⟨_,q,_⟩:=h3;rw[ho] at q;cases q;trivial
    |dt ds=>obtain⟨_,q,_⟩:=h3;rw[ho] at q;cases q;trivial
    |_=>exact h3.elim
   rcases h with h|⟨w,h⟩<;>rcases z with z|⟨_,w',z⟩<;>rw[h] at z<;>cases z<;>exact od
  unfold Rd XC;rw[if_neg hn];exact h
theorem zXA(S:Sim K H₀ τ F H σ E)(is:List Nat)(st:Stp (λ_=>False) (YI σ E is F H) H F' H' bM)(sb:Sub F' H'){v:V}{d:D}(hl:sR is E d=AG)(r:Rep K F' v d):Rep K (XC σ E is F') v d:=by
 obtain⟨_,_,_,h1,h2⟩:=S.back is st sb;have ht:∀a vs,F' a=AA (.tup vs)->XC σ E is F' a=AA (.tup vs):=λa vs e=>h1 a _ e λo w ho=>{λz=>by subst z;exact ho,λz=>HO.noConfusion z};unfold sR at hl;rw[BE,jP,jP] at hl;rcases hl.1 with z|z
 .rcases hl.2 with y|y
  ·-- nothing is lent at all
   have no:∀a,¬Lent σ E is a:=λa q0=>by
    obtain⟨i,t,d,hi,e,q⟩:=q0;have e1:Aq E[i]?=AB:=by have:=MX.mp (by simpa using z) i hi;simpa using this
    have e2:Wd E[i]?=AB:=by have:=MX.mp (by simpa using y) i hi;simpa using this
    obtain⟨b,_,_,h3,_⟩:=S.own i t d e;rw[e] at e1 e2
    cases d with
    |lst ds=>cases e1
    |dk ds=>cases e2
    |dt ds=>cases e2
    |_=>exact h3.elim
   exact r.le λa u e=>.inl (by unfold XC;rw[if_neg (no a)];exact e)
  .exact pAD ht (h2 (by simpa using z)) r y
 .exact pAB ht r z
theorem Stp.toF{ow:AQ->Prop}(h:∀a,¬ow a)(st:Stp ow F H F' H' bM):Stp (λ_=>False) F H F' H' bM :=
 {λa o e hw n _=>st.keep a o e hw n (h a),st.dom,st.le,λa o e=>(st.new a o e).imp_right λz=>z.imp_right (h a),λa z=>(st.own a z).elim (λz=>absurd z (h a)) .inr}
theorem j2{g:G}(is:List Nat)(h:VE X e g):VE X e (VL is g):=by
 rintro pins s σ H Q I ⟨τ,F,E,d,E',S,hg,k⟩;obtain⟨p,eg,hg⟩:=pA3 hg;split at hg
 .rename_i hl
  cases hg;obtain⟨S1,no⟩:=S.lend is;refine GY (h pins s σ H (λv H'=>∃F' bM,Stp (λ_=>False) (YI σ E is F H) H F' H' bM/\Sub F' H'/\Rep X.K F' v p.1) I {τ,_,_,p.1,p.2,S1,eg,λv F' H' st S' r=>{F',_,st.toF no,S'.sub,r}}) λu s' q0=>?_;obtain⟨v,H',I',rv,F',bM,st,sb,r⟩:=q0;obtain⟨t1,t2,t3,_⟩:=S.back is st sb;exact{v,_,I'.thaw t1,rv,k v _ _ t2 t3 (zXA S is st sb hl r)}
 .cases hg
theorem qB{g:Ev->Out (Bool×Ev)}(is:List Nat)(h:VT X e g):VT X e (XG is g):=by
 rintro pins s σ H Q I ⟨τ,F,E,d,E',S,hg,k⟩;obtain⟨p,eg,hg⟩:=pA3 hg;cases hg;obtain⟨S1,no⟩:=S.lend is;refine GY (h pins s σ H (λb H'=>b=p.1/\∃F' bM,Stp (λ_=>False) (YI σ E is F H) H F' H' bM/\Sub F' H') I {τ,_,_,p.1,p.2,S1,eg,λF' H' st S'=>{rfl,F',_,st.toF no,S'.sub}}) λu s' q0=>?_;obtain⟨H',I',eb,F',bM,st,sb⟩:=q0;obtain⟨t1,t2,t3,_⟩:=S.back is st sb;subst eb;exact{_,I'.thaw t1,k _ _ t2 t3}
end
inductive Fl where
 |nx (E:Ev)|rt (b:Bool) (d:D) (E:Ev)|bk (E:Ev)|ct (E:Ev)
abbrev GS:=Ev->Out Fl
def RetR(K:AC)(ow:AQ->Prop)(H:Hp)(F' H':Hp)(σ':St)(E':Ev):Bool->V->D->Prop
 |false,v,d=>Rep K F' v d
 |true,v,d=>∃a,v=.ref a/\F' a=AH/\OwnAt K F' H' a d/\(ow a\/H a=AH)/\∀(i:Nat) d',E'[i]?=AA (.own AG d')->σ'[i]?≠AA (AA (.ref a))
def FlOk(K:AC)(H₀:Hp)(τ:AQ)(ow:AQ->Prop)(F H:Hp)(D:Ends):Fl->Prop
 |.nx E'=>∀σ' F' H',Stp ow F H F' H' (DU σ' E')->Sim K H₀ τ F' H' σ' E'->D.nx σ' H'
 |.bk E'=>∀σ' F' H',Stp ow F H F' H' (DU σ' E')->Sim K H₀ τ F' H' σ' E'->D.bk σ' H'
 |.ct E'=>∀σ' F' H',Stp ow F H F' H' (DU σ' E')->Sim K H₀ τ F' H' σ' E'->D.ct σ' H'
 |.rt b d E'=>∀σ' v F' H',Stp ow F H F' H' (DU σ' E')->Sim K H₀ τ F' H' σ' E'->RetR K ow H F' H' σ' E' b v d->D.rt v H'
def tS(K:AC)(H₀:Hp)(g:GS):TS:=λD σ H=>∃τ F E r,Sim K H₀ τ F H σ E/\g E=.ok r/\FlOk K H₀ τ (DU σ E) F H D r
abbrev VS(X:Cx)(st:D5)(g:GS):Prop:=PS X st (tS X.K X.H₀ g)
abbrev fX(X:Cx)(st:List D5)(g:GS):Prop:=PSs X st (tS X.K X.H₀ g)
variable{g':GS}
section
variable{K:AC}{ow:AQ->Prop}{st:D5}{rest:List D5}{g:GS}{ge:G}
theorem RetR.pre{b:Bool}{v:V}{d:D}(s:Stp ow F H F1 H1 ZY)(h:RetR K ZY H1 F' H' σ' E' b v d):RetR K ow H F' H' σ' E' b v d:=by
 cases b with
 |false=>exact h
 |true =>
  obtain⟨a,h1,h2,h3,h4,h5⟩:=h;exact{a,h1,h2,h3,h4.elim (s.own a) λz=>.inr (s.dom a z),h5}
theorem FlOk.pre{r:Fl}(s:Stp ow F H F1 H1 ZY)(h:FlOk K H₀ τ ow F H D' r):FlOk K H₀ τ ZY F1 H1 D' r:=by
 cases r with
 |nx E'=>exact λσ' F' H' st S=>h σ' F' H' (s.trans st) S
 |bk E'=>exact λσ' F' H' st S=>h σ' F' H' (s.trans st) S
 |ct E'=>exact λσ' F' H' st S=>h σ' F' H' (s.trans st) S
 |rt b d E'=>exact λσ' v F' H' st S q=>h σ' v F' H' (s.trans st) S (q.pre s)
def MS:GS:=λE=>.ok (.nx E)
def E4(g g':GS):GS:=λE=>(g E).bind λr=>match r with|.nx E1=>g' E1|r=>.ok r
theorem OX:fX X [] MS:=UN.imp λD' σ H h=>by
 obtain⟨τ,F,E,r,S,hg,k⟩:=h;cases hg;exact k σ F H .refl S
theorem yFB(h:tS K H₀ (E4 g g') D' σ H):Ay (tS K H₀ g) (tS K H₀ g') D' σ H:=by
 obtain⟨τ,F,E,r,S,hg,k⟩:=h;obtain⟨r1,e1,hg⟩:=pA3 hg;refine{τ,F,E,r1,S,e1,?_}
 cases r1 with
 |nx E1=>exact λσ' F' H' st S'=>{τ,F',E1,r,S',hg,k.pre st}
 |bk E1=>cases hg;exact k
 |ct E1=>cases hg;exact k
 |rt b d E1=>cases hg;exact k
theorem GU(h1:VS X st g)(h2:fX X rest g'):fX X (st::rest) (E4 g g'):=(iI h1 h2).imp λ_ _ _ h=>yFB h
theorem H9(h:VS X st g):fX X [st] g:=Qa h
def rB:GS:=λ_=>.bad
theorem sX:VS X st rB:=cY.imp λD' σ H h=>by
 obtain⟨τ,F,E,r,S,hg,k⟩:=h;cases hg
def L7(t:Ev->Out (Bool×Ev))(g g':GS):GS:=λE=>(t E).bind λp=>if p.1=AG then g p.2 else g' p.2
theorem OV{a b:List D5}{t:Ev->Out (Bool×Ev)}(hc:VT X c t)(ha:fX X a g)(hb:fX X b g'):VS X (.If c a b pos) (L7 t g g'):=(Hl hc ha hb).imp λD' σ H h=>by
 obtain⟨τ,F,E,r,S,hg,k⟩:=h;obtain⟨p,e1,hg⟩:=pA3 hg;refine{τ,F,E,p.1,p.2,S,e1,λF1 H1 s1 S1=>?_}
 by_cases hp:p.1=AG
 .rw[if_pos hp] at hg ⊢
  exact{τ,F1,p.2,r,S1,hg,k.pre s1}
 .rw[if_neg hp] at hg ⊢
  exact{τ,F1,p.2,r,S1,hg,k.pre s1}
def IS(g:G):GS:=λE=>(g E).bind λp=>.ok (.rt AB p.1 p.2)
theorem K3(h:VE X e ge):VS X (.Return (AA e) pos) (IS ge):=(yT h).imp λD' σ H q=>by
 obtain⟨τ,F,E,r,S,hg,k⟩:=q;obtain⟨p,e1,hg⟩:=pA3 hg;cases hg;exact{τ,F,E,p.1,p.2,S,e1,λv F1 H1 s1 S1 r1=>k σ v F1 H1 s1 S1 r1}
def yE(g:G):GS:=λE=>(g E).bind λp=>.ok (.rt AG p.1 p.2)
theorem Px(h:FE X e ge):VS X (.Return (AA e) pos) (yE ge):=(yT h).imp λD' σ H q=>by
 obtain⟨τ,F,E,r,S,hg,k⟩:=q;obtain⟨p,e1,hg⟩:=pA3 hg;cases hg;exact{τ,F,E,p.1,p.2,S,e1,λa F1 H1 s1 S1 n1 n2 ow no=>k σ _ F1 H1 s1 S1 {a,rfl,n1,ow,.inr n2,λi d' z1 z2=>no {i,AG,d',z1,z2}}}
inductive Tg where
 |nm (i:Nat)|tp (ts:List Tg)
mutual
noncomputable def UA:Tg->D->Ev->Out Ev
 |.nm i,d,E=>.ok (E.set i (.val d))
 |.tp ts,d,E=>match d with
  |.tup ds=>cK ts ds E
  |_=>.bad
noncomputable def cK:List Tg->List D->Ev->Out Ev
 |[],[],E=>.ok E
 |[],_::_,_=>.bad
 |_::_,[],_=>.bad
 |t::ts,d::ds,E=>(UA t d E).bind λE1=>cK ts ds E1
end
mutual
noncomputable def Tg.ltn(n:Nat):Tg->Bool
 |.nm i=>decide (i<n)
 |.tp ts=>pAE n ts
noncomputable def pAE(n:Nat):List Tg->Bool
 |[]=>AG
 |t::ts=>t.ltn n&&pAE n ts
end
theorem Sim.put{E:Ev}{v:V}{d:D}(S:Sim K H₀ τ F H σ E)(r:Rep K F v d):Sim K H₀ τ F H (σ.set i (AA v)) (E.set i (.val d))/\∀a,DU (σ.set i (AA v)) (E.set i (.val d)) a->DU σ E a:=by
 have NN:∀(j:Nat) t d',(E.set i (.val d))[j]?=AA (.own t d')->i≠j/\E[j]?=AA (.own t d'):=λj t d' q=>by
  by_cases hj:i=j
  .subst hj
   by_cases hi:i<E.length
   .rw[BF hi] at q;cases q
   .rw[YB (by rw[CC];lia)] at q;cases q
  .rw[A7 hj] at q;exact{hj,q}
 refine{{S.sub,by rw[CC,CC];exact S.len,λj d' q=>?_,λj t d' q=>?_,λj k t1 t2 d1 d2 b q1 q2 z1 z2=>?_},λa ⟨j,t,d',q1,q2⟩=>?_}
 .by_cases hj:i=j
  .subst hj
   have hi:i<E.length:=by
    have:=(AX.mp q).1;rw[CC] at this;exact this
   rw[BF hi] at q;cases q;exact{v,by rw[BF (by rw[<-S.len];exact hi)],r}
  .rw[A7 hj] at q ⊢;exact S.val j d' q
 .obtain⟨hj,q⟩:=NN j t d' q
  rw[A7 hj];exact S.own j t d' q
 .obtain⟨hj,q1⟩:=NN j _ _ q1
  obtain⟨hk,q2⟩:=NN k _ _ q2;rw[A7 hj] at z1;rw[A7 hk] at z2;exact S.inj j k t1 t2 d1 d2 b q1 q2 z1 z2
 .obtain⟨hj,q1⟩:=NN j t d' q1
  rw[A7 hj] at q2;exact{j,t,d',q1,q2}
theorem Sim.putO{E:Ev}{d:D}(S:Sim K H₀ τ F H σ E)(h2:F a=AH)(h3:OwnAt K F H a d)(h4:∀o u,H₀ a≠AA (.frz o u))(no:¬DU σ E a) :
  Sim K H₀ τ F H (σ.set i (AA (.ref a))) (E.set i (.own AB d))/\∀b,DU (σ.set i (AA (.ref a))) (E.set i (.own AB d)) b->DU σ E b\/b=a:=by
 have NN:∀(j:Nat) t d',(E.set i (.own AB d))[j]?=AA (.own t d')->(i=j/\t=AB/\d'=d/\(σ.set i (AA (V.ref a)))[j]?=AA (AA (.ref a)))\/(i≠j/\E[j]?=AA (.own t d')/\(σ.set i (AA (V.ref a)))[j]?=σ[j]?):=λj t d' q=>by
  by_cases hj:i=j
  .subst hj
   have hi:i<E.length:=by
    have:=(AX.mp q).1;rw[CC] at this;exact this
   rw[BF hi] at q;cases q;exact .inl {rfl,rfl,rfl,by rw[BF (by rw[<-S.len];exact hi)]}
  .rw[A7 hj] at q;exact .inr {hj,q,by rw[A7 hj]}
 refine{{S.sub,by rw[CC,CC];exact S.len,λj d' q=>?_,λj t d' q=>?_,λj k t1 t2 d1 d2 b q1 q2 z1 z2=>?_},λb ⟨j,t,d',q1,q2⟩=>?_}
 .by_cases hj:i=j
  .subst hj
   have hi:i<E.length:=by
    have:=(AX.mp q).1;rw[CC] at this;exact this
   rw[BF hi] at q;cases q
  .rw[A7 hj] at q ⊢;exact S.val j d' q
 .rcases NN j t d' q with⟨rfl,rfl,rfl,z⟩|⟨hj,q,z⟩
  .exact{a,z,h2,h3,h4,nofun}
  .rw[z];exact S.own j t d' q
 .rcases NN j t1 d1 q1 with⟨e1,_,_,y1⟩|⟨hj,p1,y1⟩<;>rcases NN k t2 d2 q2 with⟨e2,_,_,y2⟩|⟨hk,p2,y2⟩
  .rw[<-e1,<-e2]
  .rw[y1] at z1;cases z1
   rw[y2] at z2;exact absurd {k,t2,d2,p2,z2} no
  .rw[y2] at z2;cases z2
   rw[y1] at z1;exact absurd {j,t1,d1,p1,z1} no
  .rw[y1] at z1;rw[y2] at z2
   exact S.inj j k t1 t2 d1 d2 b p1 p2 z1 z2
 .rcases NN j t d' q1 with⟨rfl,rfl,rfl,y1⟩|⟨hj,q1,y1⟩
  .rw[y1] at q2;cases q2;exact .inr rfl
  .rw[y1] at q2;exact .inl {j,t,d',q1,q2}
def tG(K:AC)(H₀:Hp)(t:Tg):TG:=λv σ H Q=>∃τ F E d E',Sim K H₀ τ F H σ E/\Rep K F v d/\UA t d E=.ok E'/\∀σ',Sim K H₀ τ F H σ' E'->(∀a,DU σ' E' a->DU σ E a)->(∀n,t.ltn n=AG->∀j:Nat,n<=j->σ'[j]?=σ[j]?)->Q σ' H
def tGs(K:AC)(H₀:Hp)(ts:List Tg):iT:=λvs σ H Q=>∃τ F E ds E',Sim K H₀ τ F H σ E/\Reps K F vs ds/\cK ts ds E=.ok E'/\∀σ',Sim K H₀ τ F H σ' E'->(∀a,DU σ' E' a->DU σ E a)->(∀n,pAE n ts=AG->∀j:Nat,n<=j->σ'[j]?=σ[j]?)->Q σ' H
theorem PG.imp{t t':TG}(h:PG X tg t)(hi:∀v σ H Q,t' v σ H Q->t v σ H Q):PG X tg t':=λpins s σ H x u Q I r q=>h pins s σ H x u Q I r (hi _ _ _ _ q)
theorem PGs.imp{tg:List C5}{t t':iT}(h:PGs X tg t)(hi:∀v σ H Q,t' v σ H Q->t v σ H Q):PGs X tg t':=λpins s σ H x u Q I r q=>h pins s σ H x u Q I r (hi _ _ _ _ q)
abbrev VG(X:Cx)(tg:C5)(t:Tg):Prop:=PG X tg (tG X.K X.H₀ t)
abbrev Bl(X:Cx)(tg:List C5)(t:List Tg):Prop:=PGs X tg (tGs X.K X.H₀ t)
theorem bD(hN:X.N.Nodup)(hi:X.N[i]?=AA x)(hx:Loc X.env.scope x)(hf:X.fn x=AG\/X.env.scope.names.lookup x=AA .local:=by first|exact .inl rfl|exact .inr rfl|assumption):VG X (.Name x pos) (.nm i):=(yAO hN hi hx hf).imp λv σ H Q h=>by
 obtain⟨τ,F,E,d,E',S,r,hg,k⟩:=h;rw[UA] at hg;cases hg;obtain⟨S1,h1⟩:=S.put (i:=i) r;refine k _ S1 h1 λn hn j hj=>?_;rw[Tg.ltn] at hn;have:i<n:=of_decide_eq_true hn;rw[A7 (CH (AM this hj))]
theorem Rep.sqT{ds:List D}(s:Sub F H)(r:Rep K F (.ref a) (.tup ds)):∃vs,SqT K H a vs/\Reps K F vs ds:=by
 cases r with
 |tup h r=>exact{_,.inl (.inl (s _ _ h)),r}
 |@tupK _ xs h n =>
  rcases h with h|h
  .rcases h with h|⟨o,h⟩<;>cases h
  .refine{_,.inr h,?_}
   induction xs with
   |nil=>exact .nil
   |cons x xs ih=>exact .cons (.str x) (by
     clear ih n h
     induction xs with
     |nil=>exact .nil
     |cons y ys ih=>exact .cons (.str y) ih)
theorem Rep.isRefT{v:V}{ds:List D}(r:Rep K F v (.tup ds)):∃a,v=.ref a:=by (cases r)<;>exact{_,rfl}
theorem Rep.isRefL{v:V}{ds:List D}(r:Rep K F v (.lst ds)):∃a vs,v=.ref a/\SqL K F a vs/\Reps K F vs ds:=by cases r with|lst h r=>exact{_,_,rfl,h,r}
theorem Qt:∀{ts:List Tg} {ds:List D} {E E':Ev},cK ts ds E=.ok E'->ts.length=ds.length
 |[],[],_,_,_=>rfl
 |[],_::_,_,_,h=>by rw[cK] at h;cases h
 |_::_,[],_,_,h=>by rw[cK] at h;cases h
 |t::ts,d::ds,E,E',h=>by
  rw[cK] at h;obtain⟨E1,_,h⟩:=pA3 h;rw[A0,A0,Qt h]
theorem mZ:Bl X [] []:=iO.imp λv σ H Q h=>by
 obtain⟨τ,F,E,d,E',S,r,hg,k⟩:=h
 cases r with
 |nil=>rw[cK] at hg;cases hg;exact{rfl,k σ S (λ_ h=>h) λ_ _ _ _=>rfl}
 |cons _ _=>rw[cK] at hg;cases hg
theorem YR{t:Tg}{ts:List Tg}(h1:VG X e t)(h2:Bl X es ts)
  (hs:(G7 (e::es) X.env).map (·.2)=LM e X.env::(G7 es X.env).map (·.2):=by rfl):Bl X (e::es) (t::ts):=(zWF h1 h2 hs).imp λv σ H Q h=>by
 obtain⟨τ,F,E,ds,E',S,r,hg,k⟩:=h
 cases r with
 |nil=>rw[cK] at hg;cases hg
 |@cons v d vs ds r rs =>
  rw[cK] at hg;obtain⟨E1,e1,hg⟩:=pA3 hg
  exact{v,vs,rfl,τ,F,E,d,E1,S,r,e1,λσ1 S1 h1 b1=>{τ,F,E1,ds,E',S1,rs,hg,λσ2 S2 h2 b2=>k σ2 S2 (λa z=>h1 a (h2 a z)) λn hn j hj=>by
   rw[pAE,BE] at hn
   rw[b2 n hn.2 j hj,b1 n hn.1 j hj]}}
theorem mI{ts:List Tg}(hc:X.calm=AG)(h:Bl X es ts)
  (hn:(G7 es X.env).length=ts.length:=by rfl) (Kd:(G7 es X.env).findIdx? (·.1)=AH:=by rfl):VG X (.Tuple es k pos) (.tp ts):=(yEE hc h hn Kd).imp λv σ H Q h=>by
 obtain⟨τ,F,E,d,E',S,r,hg,k⟩:=h
 cases d with
 |tup ds =>
  obtain⟨a,rfl⟩:=r.isRefT;obtain⟨vs,h1,h2⟩:=r.sqT S.sub;rw[UA] at hg;exact{a,vs,rfl,h1,by rw[h2.length,<-Qt hg],τ,F,E,ds,E',S,h2,hg,λσ' S' h' b'=>k σ' S' h' λn hn=>b' n (by rw[Tg.ltn] at hn;exact hn)}
 |_ =>
  have hg:(Out.bad:Out Ev)=.ok E':=hg;cases hg
def FS(t:Tg)(g:G):GS:=λE=>(g E).bind λp=>(UA t p.1 p.2).bind λE1=>.ok (.nx E1)
theorem yFC{t:Tg}(h:tS K H₀ (FS t ge) D' σ H):nO (tV K H₀ ge) (tG K H₀ t) D' σ H:=by
 obtain⟨τ,F,E,r,S,hg,k⟩:=h;obtain⟨p,e1,hg⟩:=pA3 hg;obtain⟨E1,e2,hg⟩:=pA3 hg;cases hg;exact{τ,F,E,p.1,p.2,S,e1,λv F1 H1 s1 S1 r1=>{τ,F1,p.2,p.1,E1,S1,r1,e2,λσ2 S2 h2 _=>k σ2 F1 H1 (s1.weak h2) S2}}
theorem Dc{t:Tg}(he:VE X e ge)(hg:VG X tg t)(hs:aD [tg] e pos.line X.env=pure AB:=by rfl)(hw:aE [tg] e X.env=pure AH:=by rfl)
  (h1:(G7 [tg] X.env).map (·.2)=[LM tg X.env]:=by rfl):VS X (.Assign [tg] e pos) (FS t ge):=(No he hg hs hw h1).imp λ_ _ _ h=>yFC h
theorem MA(hN:X.N.Nodup)(hi:X.N[i]?=AA x)(hx:Loc X.env.scope x)(he:VE X e ge)(hs:HG e (AA (.Name x NB)) pos.line X.env=pure AB:=by rfl)(hf:X.fn x=AG\/X.env.scope.names.lookup x=AA .local:=by first|exact .inl rfl|exact .inr rfl|assumption) :
  VS X (.Assign [.Name x NB] e pos) (FS (.nm i) ge):=(tB hN hi hx he hs hf).imp λD' σ H h=>by
 obtain⟨τ,F,E,r,S,hg,k⟩:=h;obtain⟨p,e1,hg⟩:=pA3 hg;obtain⟨E1,e2,hg⟩:=pA3 hg;cases hg;rw[UA] at e2;cases e2;refine{τ,F,E,p.1,p.2,S,e1,λv F1 H1 s1 S1 r1=>?_};obtain⟨S2,h2⟩:=S1.put (i:=i) r1;exact k _ F1 H1 (s1.weak h2) S2
def cP(i:Nat)(g:G):GS:=λE=>(g E).bind λp=>.ok (.nx (p.2.set i (.own AB p.1)))
theorem zXC(I:Inv X pins σ H s)(h:H a=AH):∀o u,X.H₀ a≠AA (.frz o u):=λo u e=>by
 rw[I.base.frzs a o u e] at h;cases h
theorem yFD(I:Inv X pins σ H s)(h:tS X.K X.H₀ (cP i ge) D' σ H):nO (tF X.K X.H₀ ge) (mF i) D' σ H:=by
 obtain⟨τ,F,E,r,S,hg,k⟩:=h;obtain⟨p,e1,hg⟩:=pA3 hg;cases hg;refine{τ,F,E,p.1,p.2,S,e1,λa F1 H1 s1 S1 n1 n0 ow no=>?_};obtain⟨S2,h2⟩:=S1.putO (i:=i) n1 ow (zXC I n0) no;refine k _ F1 H1 {s1.keep,s1.dom,s1.le,s1.new,λb z=>?_} S2;rcases h2 b z with z|rfl
 .exact s1.own b z
 .exact .inr n0
theorem tJ(hN:X.N.Nodup)(hi:X.N[i]?=AA x)(hx:Loc X.env.scope x)(he:FE X e ge)(hs:HG e (AA (.Name x NB)) pos.line X.env=pure AB:=by rfl)(hf:X.fn x=AG\/X.env.scope.names.lookup x=AA .local:=by first|exact .inl rfl|exact .inr rfl|assumption) :
  VS X (.Assign [.Name x NB] e pos) (cP i ge):=λpins s σ H D' I h=>tB hN hi hx he hs hf pins s σ H D' I (yFD I h)
def pS(g:G):GS:=λE=>(g E).bind λp=>.ok (.nx p.2)
theorem Pw(he:VE X e ge)(hs:HG e AH pos.line X.env=pure AB:=by rfl):VS X (.Expr e pos) (pS ge):=(yAM he hs).imp λD' σ H h=>by
 obtain⟨τ,F,E,r,S,hg,k⟩:=h;obtain⟨p,e1,hg⟩:=pA3 hg;cases hg;exact{τ,F,E,p.1,p.2,S,e1,λv F1 H1 s1 S1 r1=>k σ F1 H1 s1 S1}
def dC(t:Ev->Out (Bool×Ev))(g:GS):Nat->GS
 |0,_=>.bad
 |n+1,E=>(t E).bind λp=>if p.1=AG then(g p.2).bind λr=>match r with
   |.nx E1=>dC t g n E1
   |.ct E1=>dC t g n E1
   |.bk E1=>.ok (.nx E1)
   |.rt b d E1=>.ok (.rt b d E1)
  else .ok (.nx p.2)
theorem zXD{t:Ev->Out (Bool×Ev)}(n:Nat)(hp:cE (A3 X.prog X.w) X.A X.env X.xe)(hc:VT X c t)(hb:fX X N8 g):VS X (.While c N8 [] pos) (dC t g n):=(zWG hp hc hb).imp λD' σ H h=>by
 obtain⟨τ,F,E,r,S,hg,k⟩:=h;refine{λm σ1 H1=>∃F1 E1,Sim X.K X.H₀ τ F1 H1 σ1 E1/\Stp (DU σ E) F H F1 H1 (DU σ1 E1)/\dC t g m E1=.ok r,{n,F,E,S,.refl,hg},?_};rintro m σ1 H1 ⟨F1,E1,S1,s1,h1⟩
 cases m with
 |zero=>rw[dC] at h1;cases h1
 |succ m =>
  rw[dC] at h1;obtain⟨p,e1,h1⟩:=pA3 h1;refine{τ,F1,E1,p.1,p.2,S1,e1,λF2 H2 s2 S2=>?_};have rS:=s1.trans s2;dsimp only
  by_cases hp:p.1=AG
  .rw[if_pos hp] at h1 ⊢
   obtain⟨q,e2,h1⟩:=pA3 h1;refine{λσ3 H3=>∃F3 E3,Sim X.K X.H₀ τ F3 H3 σ3 E3/\Stp (DU σ E) F H F3 H3 (DU σ3 E3)/\dC t g m E3=.ok r,λσ3 H3 ⟨F3,E3,a1,a2,a3⟩=>{m,C9 m,F3,E3,a1,a2,a3},τ,F2,p.2,q,S2,e2,?_}
   cases q with
   |nx E3=>exact λσ3 F3 H3 s3 S3=>{F3,E3,S3,rS.trans s3,h1}
   |ct E3=>exact λσ3 F3 H3 s3 S3=>{F3,E3,S3,rS.trans s3,h1}
   |bk E3=>cases h1;exact λσ3 F3 H3 s3 S3=>k σ3 F3 H3 (rS.trans s3) S3
   |rt b d E3=>cases h1;exact λσ3 v F3 H3 s3 S3 q=>k σ3 v F3 H3 (rS.trans s3) S3 (q.pre rS)
  .rw[if_neg hp] at h1 ⊢
   cases h1;exact k σ1 F2 H2 rS S2
end
def Walks(K:AC)(J:It)(F:Hp)(ds:List D):Prop:=∀(i:Nat) F1 H1,Le F F1->Sub F1 H1->(i<ds.length->J.go i H1)/\(i=ds.length->J.stop i H1)/\∀x H' d,ds[i]?=AA d->J.yld i H1 x H'->∃F',New F1 H1 F' H'/\Rep K F' x d
abbrev GI:=Ev->Out (List D×Ev)
def tI(K:AC)(H₀:Hp)(g:GI):TI:=λσ H R=>∃τ F E ds E',Sim K H₀ τ F H σ E/\g E=.ok (ds,E') /\
 ∀J F' H',Stp (DU σ E) F H F' H' (DU σ E')->Sim K H₀ τ F' H' σ E'->Walks K J F' ds->R J H'
theorem PI.imp{t t':TI}(h:PI X tg e t)(hi:∀σ H Q,t' σ H Q->t σ H Q):PI X tg e t':=λpins s σ H Q I q=>h pins s σ H Q I (hi σ H Q q)
abbrev VI(X:Cx)(tg e:C5)(g:GI):Prop:=PI X tg e (tI X.K X.H₀ g)
variable{gi:GI}
section
variable{K:AC}{ow:AQ->Prop}{st:D5}{rest:List D5}{g:GS}{ge:G}
def Ya(g:G):GI:=λE=>(g E).bind λp=>match p.1 with|.lst ds=>.ok (ds,p.2)|_=>.bad
def Xz(g:G):GI:=λE=>(g E).bind λp=>match p.1 with|.tup ds=>.ok (ds,p.2)|_=>.bad
theorem zSB{vs:List V}{ds:List D}(h:SqL K F a vs)(r:Reps K F vs ds):Walks K (Ie K a) F ds:=λi F1 H1 l s=>by
 have sq:SqL K H1 a vs:=h.imp (λh=>s.rd (l.rd h)) id;refine{λhi=>?_,λhi=>{vs,sq,by rw[r.length,hi];exact AO _},λx H' d e ⟨e1,y⟩=>?_}
 .have hv:i<vs.length:=by rw[r.length];exact hi
  exact{vs,vs[i],sq,by simp[hv]}
 .subst e1
  obtain⟨v,h1,h2⟩:=r.get e;rw[y vs sq] at h1;cases h1;exact{F1,.refl s,h2.le l}
theorem Rep.tupSq{v:V}{ds:List D}(r:Rep K F v (.tup ds)):∃a vs,v=.ref a/\Reps K F vs ds/\∀F1 H1,Le F F1->Sub F1 H1->SqT K H1 a vs:=by
 cases r with
 |tup h r=>exact{_,_,rfl,r,λF1 H1 l s=>.inl (.inl (s _ _ (l.tup h)))}
 |@tupK a xs h n =>
  obtain⟨vs,h1,h2⟩:=Rep.sqT (F:=F) (H:=F) (λ_ _ e=>e) (.tupK h n);refine{a,vs,rfl,h2,λF1 H1 _ _=>?_};rcases h with h|h
  .rcases h with h|⟨o,h⟩<;>cases h
  .have:vs=xs.map V.str:=Reps.vstr h2
   subst this;exact .inr h
theorem zT8{vs:List V}{ds:List D}(sq:∀F1 H1,Le F F1->Sub F1 H1->SqT K H1 a vs)(r:Reps K F vs ds):Walks K (Ic K a) F ds:=λi F1 H1 l s=>by
 have sq:=sq F1 H1 l s;refine{λhi=>?_,λhi=>{vs,sq,by rw[r.length,hi];exact AO _},λx H' d e ⟨e1,y⟩=>?_}
 .have hv:i<vs.length:=by rw[r.length];exact hi
  exact{vs,vs[i],sq,by simp[hv]}
 .subst e1
  obtain⟨v,h1,h2⟩:=r.get e;rw[y vs sq] at h1;cases h1;exact{F1,.refl s,h2.le l}
theorem yBH(h:VE X e ge):VI X tg e (Ya ge):=(yAQ h).imp λσ H Q h=>by
 obtain⟨τ,F,E,ds,E',S,hg,k⟩:=h;obtain⟨p,e1,hg⟩:=pA3 hg;refine{τ,F,E,p.1,p.2,S,e1,λv F1 H1 s1 S1 r1=>?_};split at hg
 .rename_i Z9 ed
  cases hg;rw[ed] at r1;obtain⟨a,vs,rfl,h1,h2⟩:=r1.isRefL;exact{a,rfl,{vs,h1.imp S1.sub.rd id},k _ F1 H1 s1 S1 (zSB h1 h2)}
 .cases hg
theorem yFE(h:VE X e ge):VI X tg e (Xz ge):=(yEH h).imp λσ H Q h=>by
 obtain⟨τ,F,E,ds,E',S,hg,k⟩:=h;obtain⟨p,e1,hg⟩:=pA3 hg;refine{τ,F,E,p.1,p.2,S,e1,λv F1 H1 s1 S1 r1=>?_};split at hg
 .rename_i Z9 ed
  cases hg;rw[ed] at r1;obtain⟨a,vs,rfl,h1,h2⟩:=r1.tupSq;exact{a,rfl,{vs,h2 F1 H1 (.refl _) S1.sub},k _ F1 H1 s1 S1 (zT8 h2 h1)}
 .cases hg
def M6:List G->Ev->Out (List D×Ev)
 |[],E=>.ok ([],E)
 |g::gs,E=>(g E).bind λp=>(M6 gs p.2).bind λq=>.ok (p.1::q.1,q.2)
def iK(K:AC)(H₀:Hp)(gs:List G):TA:=λσ H Q=>∃τ F E ds E',Sim K H₀ τ F H σ E/\M6 gs E=.ok (ds,E') /\
 ∀vs F' H',Stp (DU σ E) F H F' H' (DU σ E')->Sim K H₀ τ F' H' σ E'->Reps K F' vs ds->Q vs H'
theorem PA.imp{t t':TA}(h:PA X es t)(hi:∀σ H Q,t' σ H Q->t σ H Q):PA X es t':=λp pins s σ H Q I q=>h p pins s σ H Q I (hi σ H Q q)
abbrev VA(X:Cx)(es:List C5)(gs:List G):Prop:=PA X es (iK X.K X.H₀ gs)
theorem DE:VA X [] []:=IP.imp λσ H Q h=>by
 obtain⟨τ,F,E,ds,E',S,hg,k⟩:=h;cases hg;exact k [] F H .refl S .nil
theorem yBI{gs:List G}{Q:List V->Hp->Prop}(h:iK K H₀ (ge::gs) σ H Q):Hj (tV K H₀ ge) (iK K H₀ gs) σ H Q:=by
 obtain⟨τ,F,E,ds,E',S,hg,k⟩:=h;rw[M6] at hg;obtain⟨p,e1,hg⟩:=pA3 hg;obtain⟨q,e2,hg⟩:=pA3 hg;cases hg;exact{τ,F,E,p.1,p.2,S,e1,λv F1 H1 s1 S1 r1=>{τ,F1,p.2,q.1,q.2,S1,e2,λvs F2 H2 s2 S2 r2=>k (v::vs) F2 H2 (s1.trans s2) S2 (.cons (r1.le s2.le) r2)}}
theorem CN{gs:List G}(ha:VE X e ge)(hr:VA X es gs)(hs:AF (e::es) X.env=(AB,eval e X.env)::AF es X.env:=by rfl):VA X (e::es) (ge::gs):=(R0 ha hr hs).imp λ_ _ _ h=>yBI h
theorem j9(h:n<10000):n<sizeLine:=AM h 'd'
def RS(n:Nat)(x:Out α):Out α:=if n<10000 then x else .bad
theorem XI{x:Out α}{a:α}(h:RS n x=.ok a):n<10000/\x=.ok a:=by
 unfold RS at h;split at h
 .exact{by assumption,h}
 .cases h
def SU(gs:List G):G:=λE=>(M6 gs E).bind λp=>RS p.1.length (.ok (.tup p.1,p.2))
def J8(gs:List G):G:=λE=>(M6 gs E).bind λp=>RS p.1.length (.ok (.lst p.1,p.2))
theorem a7{gs:List G}{x1}(h:VA X es gs):VE X (.Tuple es x1 pos) (SU gs):=(Nl h).imp λσ H Q h=>by
 obtain⟨τ,F,E,ds,E',S,hg,k⟩:=h;obtain⟨p,e1,hg⟩:=pA3 hg;obtain⟨hl,hg⟩:=XI hg;cases hg;refine{τ,F,E,p.1,p.2,S,e1,λvs F1 H1 s1 S1 r1=>{by rw[r1.length];exact CM (j9 hl),λq hq=>?_}};have n:=New.laid (o:=.tup vs) S1.sub hq;exact k _ _ _ (s1.trans n.stp) (S1.new n) (.tup JU (r1.le n.1.le))
theorem QY{gs:List G}(h:VA X es gs):FE X (.List es pos) (J8 gs):=(sY h).imp λσ H Q h=>by
 obtain⟨τ,F,E,ds,E',S,hg,k⟩:=h;obtain⟨p,e1,hg⟩:=pA3 hg;obtain⟨hl,hg⟩:=XI hg;cases hg;refine{τ,F,E,p.1,p.2,S,e1,λvs F1 H1 s1 S1 r1=>{by rw[r1.length];exact CM (j9 hl),λq hq=>?_}};have n:=pA5 (H':=EV H1 q (.lst vs)) S1.sub (Gr.new hq)
 have fq:F1 q=AH:=by
  cases z:F1 q with
  |none=>rfl
  |some o=>rw[S1.sub q o z] at hq;cases hq
 exact k q _ _ (s1.trans n.stp) (S1.new n) fq (s1.dom q hq) {vs,JU,r1} (S1.fresh hq)
def XF(t:Tg)(g:GS):List D->GS
 |[],E=>.ok (.nx E)
 |d::ds,E=>(UA t d E).bind λE1=>(g E1).bind λr=>match r with
  |.nx E2=>XF t g ds E2
  |.ct E2=>XF t g ds E2
  |.bk E2=>.ok (.nx E2)
  |.rt b d E2=>.ok (.rt b d E2)
def ZG(gi:GI)(t:Tg)(g:GS):GS:=λE=>(gi E).bind λp=>XF t g p.1 p.2
theorem sW{iter:C5}{t:Tg}(hp:cE (A3 X.prog X.w) X.A X.env X.xe)(hc:X.calm=AG)(hi:VI X tg iter gi)(hg:VG X tg t)(hb:fX X N8 g)
  (hs:∀x,CW iter X.env x=pure x:=by intro _;rfl):VS X (.For tg iter N8 [] pos) (ZG gi t g):=(yEI hp hc hi hg hb hs).imp λD' σ H h=>by
 obtain⟨τ,F,E,r,S,hg,k⟩:=h;obtain⟨p,e1,hg⟩:=pA3 hg;refine{τ,F,E,p.1,p.2,S,e1,λJ F1 H1 s1 S1 w1=>?_};refine{λi m σ2 H2=>m=p.1.length-i/\i<=p.1.length/\∃F2 E2,Sim X.K X.H₀ τ F2 H2 σ2 E2/\Stp (DU σ E) F H F2 H2 (DU σ2 E2)/\Le F1 F2/\XF t g (p.1.drop i) E2=.ok r,{_,rfl,B0 _,F1,p.2,S1,s1,.refl _,by rw[OY];exact hg},?_};rintro i m σ2 H2 ⟨rfl,hil,F2,E2,S2,s2,l2,h2⟩;obtain⟨w2,w3,w4⟩:=w1 i F2 H2 l2 S2.sub
 by_cases hi:i<p.1.length
 .obtain⟨d,hd⟩:∃d,p.1[i]?=AA d:={p.1[i],by simp[hi]}
  have Lj:p.1.drop i=d::p.1.drop (i+1):=by
   rw[IK hi];have:p.1[i]=d:=by rw[BU hi] at hd;exact BV hd
   rw[this]
  rw[Lj,XF] at h2;obtain⟨E3,e3,h2⟩:=pA3 h2;obtain⟨q,e4,h2⟩:=pA3 h2;refine .inr {w2 hi,λσ5 H5=>∃F5 E5,Sim X.K X.H₀ τ F5 H5 σ5 E5/\Stp (DU σ E) F H F5 H5 (DU σ5 E5)/\Le F1 F5/\XF t g (p.1.drop (i+1)) E5=.ok r,λσ5 H5 ⟨F5,E5,a1,a2,a3,a4⟩=>{_,by omega,rfl,hi,F5,E5,a1,a2,a3,a4},λx H' y=>?_};obtain⟨F3,n3,r3⟩:=w4 x H' d hd y;refine{τ,F3,E2,d,E3,S2.new n3,r3,e3,λσ4 S4 h4 _=>{τ,F3,E3,q,S4,e4,?_}};have s4:Stp (DU σ E) F H F3 H' (DU σ4 E3):=(s2.trans n3.stp).weak h4;have l3:Le F1 F3:=l2.trans n3.1.le
  cases q with
  |nx E5=>exact λσ5 F5 H5 s5 S5=>{F5,E5,S5,s4.trans s5,l3.trans s5.le,h2}
  |ct E5=>exact λσ5 F5 H5 s5 S5=>{F5,E5,S5,s4.trans s5,l3.trans s5.le,h2}
  |bk E5=>cases h2;exact λσ5 F5 H5 s5 S5=>k σ5 F5 H5 (s4.trans s5) S5
  |rt b d E5=>cases h2;exact λσ5 v F5 H5 s5 S5 q=>k σ5 v F5 H5 (s4.trans s5) S5 (q.pre s4)
 .have hi:i=p.1.length:=by omega
  rw[W6 'o',XF] at h2;cases h2;exact .inl {w3 hi,k σ2 F2 H2 s2 S2}
end
abbrev Mr:=List Sl->Out (Bool×D×D)
noncomputable def g9(sl:Ev)(d:D):Ev:=match sl with
 |.own t _::r=>.own t d::r
 |sl=>sl
noncomputable def fin(sl:Ev)(E':Ev)(b:Bool)(d:D):Out (Bool×D×D):=match sl with
 |.own _ _::_=>match E' with
  |.own AG d'::_=>.ok (b,d,d')
  |_=>.bad
 |_=>.ok (b,d,.non)
def NR(n:Nat)(gb:GS):Mr:=λsl=>(gb (sl++DA (n-sl.length) .no)).bind λr=>match r with
 |.rt b d E'=>fin sl E' b d
 |.nx E'=>fin sl E' AB .non
 |_=>.bad
def Ia(sl:Ev):Prop:=∀(i:Nat) t d,sl[i]?=AA (.own t d)->i=0/\t=AG
def yKZ(K:AC)(H F' H':Hp)(ow:AQ->Prop):Bool->V->D->Prop
 |false,v,d=>Rep K F' v d
 |true,v,d=>∃a,v=.ref a/\F' a=AH/\OwnAt K F' H' a d/\H a=AH/\¬ow a
def MM(K:AC)(np:Nat)(m:Mr):Sp:=λvs H Q _=>vs.length=np/\∃τ F sl b d d',Sim K H τ F H (vs.map AA) sl/\Ia sl/\m sl=.ok (b,d,d') /\
 ∀v F' H',Stp (DU (vs.map AA) sl) F H F' H' (DU (vs.map AA) (g9 sl d'))->Sim K H τ F' H' (vs.map AA) (g9 sl d')->yKZ K H F' H' (DU (vs.map AA) (g9 sl d')) b v d->Q v H'
theorem yFF{sl:Ev}{b b':Bool}{d d0 d':D}(h:fin sl E' b d=.ok (b',d0,d')):b'=b/\d0=d/\∀t x r,sl=.own t x::r->∃r',E'=.own AG d'::r':=by
 unfold fin at h;split at h
 .split at h
  .cases h
   exact{rfl,rfl,λ_ _ _ _=>{_,rfl}}
  .cases h
 .rename_i hn
  cases h;refine{rfl,rfl,λt x r e=>?_};exact absurd e (by intro z;exact hn t x r z)
section
variable{K:AC}
theorem Fun.okC{st:D5}(F:Fun K x qual st f fd)(S:FnScope N ps (JO st))(len:∀vs H Q E,sp vs H Q E->vs.length=ps.length)
  (MT:∀(GE:AI) (A:DI) (outer:List TD) (s:AN) (H:Hp) (vs:List V) (Q:VK) (E:XK),GE=fd.code->Room k (A.deeper (ET qual (JO st) s.heap.objs.size f GE))->sp vs H Q E ->
   ∃t,PSs (JJ LA P w K mg base N qual (JO st) f GE A outer s H E).nox (XM st) t/\t { nx:=λ_ H'=>Q .non H',rt:=Q } (Q9 N vs) H):FnOk P w K mg base LA (k+1) f fd ps sp:=by
 obtain⟨oc,od,kV,SZ,pm,an,GE,ct,bN,rfl,lk,QH⟩:=F.ex;refine Xa lk QH S len λA outer s H vs Q E hr fZ=>?_;obtain⟨t,h,q⟩:=MT GE A outer s H vs Q E rfl hr fZ;exact{t,h.nox,q}
theorem yII{st:D5}{gb:GS}(Fn:Fun K x qual st f fd)(S:FnScope N ps (JO st))
  (MT:∀(GE:AI) (A:DI) (outer:List TD) (s:AN) (H:Hp) (E:XK),GE=fd.code->Room k (A.deeper (ET qual (JO st) s.heap.objs.size f GE)) ->
   fX (JJ LA P w K mg base N qual (JO st) f GE A outer s H E).nox (XM st) gb):FnOk P w K mg base LA (k+1) f fd ps (MM K ps.length (NR N.length gb)):=by
 refine Fn.okC S (λvs H Q E h=>h.1) λGE A outer s H vs Q E Ca hr h=>{_,MT GE A outer s H E Ca hr,?_};obtain⟨hl,τ,F,sl,b,d,d',Sm,sh,hm,k⟩:=h;unfold NR at hm;obtain⟨r,e1,hm⟩:=pA3 hm;have lsl:sl.length=vs.length:=by rw[Sm.len,AK]
 have iY:∀(i:Nat) t d,(sl++DA (N.length-sl.length) Sl.no)[i]?=AA (.own t d)->sl[i]?=AA (.own t d):=λi t d q=>by
  by_cases hi:i<sl.length
  .rw[B9 hi] at q;exact q
  .rw[BY (EL hi),DZ] at q
   split at q<;>cases q
 have Iz:∀(i:Nat) d,(sl++DA (N.length-sl.length) Sl.no)[i]?=AA (.val d)->sl[i]?=AA (.val d):=λi d q=>by
  by_cases hi:i<sl.length
  .rw[B9 hi] at q;exact q
  .rw[BY (EL hi),DZ] at q
   split at q<;>cases q
 have rQ:∀(i:Nat),i<sl.length->(Q9 N vs)[i]?=(vs.map AA)[i]?:=λi hi=>by
  unfold Q9;rw[B9 (by rw[AK];omega)]
 have Sm0:Sim K H τ F H (Q9 N vs) (sl++DA (N.length-sl.length) .no):=by
  refine{Sm.sub,?_,λi d q=>?_,λi t d q=>?_,λi j t u d d2 a q1 q2 z1 z2=>?_}
  .unfold Q9
   rw[BI,BI,CV,CV,AK,lsl]
  .have q:=Iz i d q
   rw[rQ i (AX.mp q).1];exact Sm.val i d q
  .have q:=iY i t d q
   rw[rQ i (AX.mp q).1];exact Sm.own i t d q
  .have q1:=iY i _ _ q1
   have q2:=iY j _ _ q2;rw[rQ i (AX.mp q1).1] at z1;rw[rQ j (AX.mp q2).1] at z2;exact Sm.inj i j t u d d2 a q1 q2 z1 z2
 have Jl:∀a,DU (Q9 N vs) (sl++DA (N.length-sl.length) .no) a↔DU (vs.map AA) sl a:=λa=>by
  constructor
  .rintro⟨i,t,d,q1,q2⟩
   have q:=iY i t d q1;rw[rQ i (AX.mp q).1] at q2;exact{i,t,d,q,q2}
  .rintro⟨i,t,d,q1,q2⟩
   have hi:=(AX.mp q1).1;exact{i,t,d,by rw[B9 hi];exact q1,by rw[rQ i hi];exact q2}
 -- the end,from what the N8 ends with
 have dG:∀{E':Ev} {b0:Bool} {d0:D},fin sl E' b0 d0=.ok (b,d,d')->∀σ' v F' H',Stp (DU (Q9 N vs) (sl++DA (N.length-sl.length) .no)) F H F' H' (DU σ' E')->Sim K H τ F' H' σ' E' ->
   RetR K (DU (Q9 N vs) (sl++DA (N.length-sl.length) .no)) H F' H' σ' E' b0 v d0->Q v H':=by
  intro E' b0 d0 hf σ' v F' H' s1 S1 rr;obtain⟨rfl,rfl,h3⟩:=yFF hf
  have p0:∀(i:Nat) t x,(g9 sl d')[i]?=AA (.own t x)->i=0/\t=AG/\x=d'/\∃x0 r,sl=.own AG x0::r:=λi t x q=>by
   cases sl with
   |nil=>simp[g9] at q
   |cons y r =>
    have NM:(∀t0 x0,y≠.own t0 x0)->(y::r)[i]?=AA (.own t x)->False:=λhn q=>by
     obtain⟨h0,ht⟩:=sh i t x q;subst h0;simp at q;exact hn _ _ q
    cases y with
    |no=>exact(NM (λ_ _ z=>Sl.noConfusion z) q).elim
    |val _=>exact(NM (λ_ _ z=>Sl.noConfusion z) q).elim
    |own t0 x0 =>
     cases i with
     |zero =>
      obtain⟨_,ht⟩:=sh 0 t0 x0 rfl;subst ht;have q:AA (Sl.own AG d')=AA (.own t x):=q;cases q;exact{rfl,rfl,rfl,x0,r,rfl}
     |succ i =>
      have:=(sh (i+1) t x q).1;omega
  have pv:∀(i:Nat) x,(g9 sl d')[i]?=AA (.val x)->sl[i]?=AA (.val x):=λi x q=>by
   unfold g9 at q;split at q
   .cases i with
    |zero=>simp at q
    |succ i=>simpa using q
   .exact q
  have vQ:∀x0 r,sl=.own AG x0::r->∃a,(vs.map AA)[0]?=AA (AA (.ref a))/\τ=a/\σ'[0]?=AA (AA (.ref a))/\F' a=AH/\OwnAt K F' H' a d'/\(∀o u,H a≠AA (.frz o u))/\E'[0]?=AA (.own AG d'):=λx0 r e=>by
   obtain⟨r',e'⟩:=h3 AG x0 r e;have q0:E'[0]?=AA (.own AG d'):=by rw[e'];rfl
   obtain⟨a,a1,a2,a3,a4,a5⟩:=S1.own 0 AG d' q0;obtain⟨c,c1,c2,c3,c4,c5⟩:=Sm.own 0 AG x0 (by rw[e];rfl);have:a=c:=by rw[<-a5 rfl,<-c5 rfl]
   subst this;exact{a,c1,c5 rfl,a1,a2,a3,a4,q0}
  refine k v F' H' {λa o e hw n ho=>s1.keep a o e hw n λz=>ho ((Jl a).mp z),s1.dom,s1.le,λa o e=>(s1.new a o e).imp_right λz=>z.imp_right (Jl a).mp,λa ⟨i,t,x,q1,q2⟩=>?_}
   {S1.sub,?_,λi x q=>?_,λi t x q=>?_,λi j t u x y a q1 q2 _ _=>by rw[(p0 i t x q1).1,(p0 j u y q2).1]} ?_
  .obtain⟨rfl,rfl,rfl,x0,r,e⟩:=p0 i t x q1
   exact .inl {0,AG,x0,by rw[e];rfl,q2}
  .have:(g9 sl d').length=sl.length:=by
    unfold g9;split<;>rfl
   rw[this];exact Sm.len
  .obtain⟨v,h1,h2⟩:=Sm.val i x (pv i x q)
   exact{v,h1,h2.le s1.le}
  .obtain⟨rfl,rfl,rfl,x0,r,e⟩:=p0 i t x q
   obtain⟨a,a1,a2,a3,a4,a5,a6,_⟩:=vQ x0 r e;exact{a,a1,a4,a5,a6,λ_=>a2}
  .cases b with
   |false=>exact rr
   |true =>
    obtain⟨a,r1,r2,r3,r4,r5⟩:=rr
    have no:¬DU (vs.map AA) sl a:=by
     rintro⟨i,t,x,q1,q2⟩;obtain⟨rfl,rfl⟩:=sh i t x q1
     cases sl with
     |nil=>simp at q1
     |cons y r =>
      simp at q1;subst q1;obtain⟨c,c1,c2,c3,c4,c5,c6,c7⟩:=vQ x r rfl;rw[q2] at c1;cases c1;exact r5 0 d' c7 c3
    refine{a,r1,r2,r3,r4.elim (λz=>absurd ((Jl a).mp z) no) id,?_};rintro⟨i,t,x,q1,q2⟩;obtain⟨rfl,rfl,rfl,x0,r,e⟩:=p0 i t x q1;exact no {0,AG,x0,by rw[e];rfl,q2}
 refine{τ,F,_,r,Sm0,e1,?_}
 cases r with
 |rt b0 d0 E'=>exact dG hm
 |nx E'=>exact λσ' F' H' s1 S1=>dG hm σ' .non F' H' s1 S1 .non
 |bk E'=>cases hm
 |ct E'=>cases hm
theorem PD{st:D5}{gb:GS}(Fn:Fun K x qual st f fd)(S:FnScope N ps (JO st))
  (MT:∀(GE:AI) (A:DI) (outer:List TD) (s:AN) (H:Hp) (E:XK),Room k (A.deeper (ET qual (JO st) s.heap.objs.size f GE)) ->
   fX (JJ LA P w K mg base N qual (JO st) f GE A outer s H E).nox (XM st) gb):FnOk P w K mg base LA (k+1) f fd ps (MM K ps.length (NR N.length gb)) :=
 yII Fn S λGE A outer s H E _ hr=>MT GE A outer s H E hr
end
variable{m:Mr}
section
variable{K:AC}{ge:G}{gs:List G}
def JK(P:CF)(w:DJ)(K:AC)(mg:BL->Option AI)(base:D0)(x:BL)(k np:Nat)(m:Mr):Prop :=
 ∃(f:AQ) (fd:JT) (ps:List BL),FnOk P w K mg base LA k f fd ps (MM K np m)/\mg x=AA (.ref f)/\FH K (.ref f)=AG/\Binds K fd ps []
theorem Ww{ds:List D}(a:AQ):¬DU σ (ds.map Sl.val) a:=λq0=>by
 obtain⟨i,t,d,e,_⟩:=q0;rw[BA] at e
 cases q:ds[i]? with
 |none=>rw[q] at e;cases e
 |some d'=>rw[q] at e;cases e
theorem Sim.args{vs:List V}{ds:List D}(s:Sub F H)(r:Reps K F vs ds):Sim K H₀ τ F H (vs.map AA) (ds.map Sl.val):=by
 have no:∀(i:Nat) t d,(ds.map Sl.val)[i]?≠AA (.own t d):=λi t d e=>by
  rw[BA] at e
  cases q:ds[i]? with
  |none=>rw[q] at e;cases e
  |some d'=>rw[q] at e;cases e
 refine{s,by rw[AK,AK,r.length],λi d e=>?_,λi t d e=>absurd e (no i t d),λi j t u d d' a e=>absurd e (no i t d)};rw[BA] at e
 cases q:ds[i]? with
 |none=>rw[q] at e;cases e
 |some d' =>
  rw[q] at e;cases e;obtain⟨v,h1,h2⟩:=r.get q;exact{v,by rw[BA,h1];rfl,h2}
theorem Ei(ds:List D):Ia (ds.map Sl.val):=λi t d e=>by
 rw[BA] at e
 cases q:ds[i]? with
 |none=>rw[q] at e;cases e
 |some d'=>rw[q] at e;cases e
theorem New.share(n:New F1 H1 F2 H2)(h:H1 a=AH)(ho:H2 a=AA o)(hf:F2 a=AH):New F1 H1 (EV F2 a o) H2:=by
 refine{{n.1.keep,n.1.dom,n.1.le.trans (.of_gr (Gr.new hf)),λb u e=>?_,λ_ z=>z.elim},λb u e=>?_}
 .by_cases hb:b=a
  .subst hb;exact .inr (.inl (.none h))
  .rw[GP hb] at e;exact n.1.new b u e
 .by_cases hb:b=a
  .subst hb;rw[JU] at e;rw[ho];exact e
  .rw[GP hb] at e;exact n.2 b u e
def G9(m:Mr)(gs:List G):G:=λE=>(M6 gs E).bind λp=>(m (p.1.map Sl.val)).bind λq=>.ok (q.2.1,p.2)
def p9(m:Mr)(gs:List G):G:=λE=>(M6 gs E).bind λp=>(m (p.1.map Sl.val)).bind λq=>if q.1=AG then .ok (q.2.1,p.2) else .bad
theorem nB:∀{gs:List G} {E:Ev} {q:List D×Ev},M6 gs E=.ok q->q.1.length=gs.length
 |[],_,_,h=>by rw[M6] at h;cases h;rfl
 |g::gs,E,q,h=>by
  rw[M6] at h;obtain⟨p,_,h⟩:=pA3 h;obtain⟨r,e2,h⟩:=pA3 h;cases h;rw[A0,A0,nB e2]
theorem Pv(hn:gs.length=np){Q:VK}(h:tV K H₀ (G9 m gs) σ H Q):yJ (MM K np m) [] E0 (iK K H₀ gs) σ H Q:=by
 obtain⟨τ,F,E,d,E',S,hg,k⟩:=h;obtain⟨p,e1,hg⟩:=pA3 hg;obtain⟨q,e2,hg⟩:=pA3 hg;cases hg;refine{τ,F,E,p.1,p.2,S,e1,λvs F1 H1 s1 S1 r1=>?_};dsimp only;rw[EH];refine{by rw[r1.length,nB e1,hn],0,F1,_,q.1,q.2.1,q.2.2,Sim.args S1.sub r1,Ei _,e2,λv F2 H2 s2 S2 rr=>?_};have n:New F1 H1 F2 H2:={(s2.toF λa=>Ww a).weak λ_ z=>z.elim,S2.sub}
 cases hb:q.1 with
 |false =>
  rw[hb] at rr;exact k v F2 H2 (s1.trans n.stp) (S1.new n) rr
 |true =>
  rw[hb] at rr;obtain⟨a,rfl,h1,h2,h3,h4⟩:=rr;obtain⟨o,ho,_⟩:=h2.ho;have n':=n.share h3 ho h1;exact k _ _ H2 (s1.trans n'.stp) (S1.new n') (h2.rep h1 ho)
theorem zXF(hn:gs.length=np){Q:VK}(h:tF K H₀ (p9 m gs) σ H Q):yJ (MM K np m) [] E0 (iK K H₀ gs) σ H Q:=by
 obtain⟨τ,F,E,d,E',S,hg,k⟩:=h;obtain⟨p,e1,hg⟩:=pA3 hg;obtain⟨q,e2,hg⟩:=pA3 hg;split at hg
 .rename_i hb
  cases hg;refine{τ,F,E,p.1,p.2,S,e1,λvs F1 H1 s1 S1 r1=>?_};dsimp only;rw[EH];refine{by rw[r1.length,nB e1,hn],0,F1,_,q.1,q.2.1,q.2.2,Sim.args S1.sub r1,Ei _,e2,λv F2 H2 s2 S2 rr=>?_};have n:New F1 H1 F2 H2:={(s2.toF λa=>Ww a).weak λ_ z=>z.elim,S2.sub};rw[hb] at rr;obtain⟨a,rfl,h1,h2,h3,h4⟩:=rr;exact k a F2 H2 (s1.trans n.stp) (S1.new n) h1 (s1.dom a h3) h2 (S1.fresh h3)
 .cases hg
theorem NX(C:JK X.prog X.w X.K X.mg X.base x k np m)(hr:Room k X.A)(ha:VA X (e::es) gs)(hn:gs.length=np:=by rfl)(hg:Gl X x:=by rfl)(RD:(x==("__debug__":BL))=AB:=by decide)
  (he:AF (e::es) X.env=(AB,eval e X.env)::AF es X.env:=by rfl) (HZ:(CZ pos (AF es X.env)).any (·.1)=AB:=by rfl):VE X (.Call (.Name x p) (e::es) [] pos) (G9 m gs):=by
 obtain⟨f,fd,ps,Fn,hm,hk,hb⟩:=C;exact(zG Fn hr hg hm hk hb .nil yF ha RD he HZ).imp λ_ _ _ h=>Pv hn h
theorem yFH(C:JK X.prog X.w X.K X.mg X.base x k np m)(hr:Room k X.A)(ha:VA X (e::es) gs)(hn:gs.length=np:=by rfl)(hg:Gl X x:=by rfl)(RD:(x==("__debug__":BL))=AB:=by decide)
  (he:AF (e::es) X.env=(AB,eval e X.env)::AF es X.env:=by rfl) (HZ:(CZ pos (AF es X.env)).any (·.1)=AB:=by rfl):FE X (.Call (.Name x p) (e::es) [] pos) (p9 m gs):=by
 obtain⟨f,fd,ps,Fn,hm,hk,hb⟩:=C;exact(zG Fn hr hg hm hk hb .nil yF ha RD he HZ).imp λ_ _ _ h=>zXF hn h
def GT(m:Mr)(i:Nat)(gs:List G):G:=λE=>match E[i]? with
 |some (.own _ _)=>(M6 gs E).bind λp=>match p.2[i]? with
  |some (.own t d)=>(m (.own AG d::p.1.map Sl.val)).bind λq=>.ok (q.2.1,p.2.set i (.own t q.2.2))
  |_=>.bad
 |_=>.bad
theorem pAF{vs:List V}{ds:List D}{d:D}(s:Sub F H)(r:Reps K F vs ds)(h1:F a=AH)(h2:OwnAt K F H a d):Sim K H a F H ((V.ref a::vs).map AA) (.own AG d::ds.map Sl.val):=by
 have S:=Sim.args (K:=K) (H₀:=H) (τ:=a) s r
 have no:∀(i:Nat) t d',(Sl.own AG d::ds.map Sl.val)[i]?=AA (.own t d')->i=0/\t=AG/\d'=d:=λi t d' e=>by
  cases i with
  |zero=>cases e;exact{rfl,rfl,rfl}
  |succ i =>
   have e:(ds.map Sl.val)[i]?=AA (.own t d'):=by simpa using e
   rw[BA] at e
   cases q:ds[i]? with
   |none=>rw[q] at e;cases e
   |some d'=>rw[q] at e;cases e
 refine{s,by rw[AK,A0,A0,AK,r.length],λi d' e=>?_,λi t d' e=>?_,λi j t u d1 d2 b e1 e2 _ _=>by rw[(no i _ _ e1).1,(no j _ _ e2).1]}
 .cases i with
  |zero=>cases e
  |succ i=>simpa using S.val i d' (by simpa using e)
 .obtain⟨rfl,rfl,rfl⟩:=no i t d' e
  obtain⟨o,ho,hw⟩:=h2.ho;exact{a,rfl,h1,h2,λob u z=>by rw[ho] at z;cases z;exact hw,λ_=>rfl}
theorem Wc{ds:List D}{d:D}:Ia (.own AG d::ds.map Sl.val):=λi t d' e=>by
 cases i with
 |zero=>cases e;exact{rfl,rfl}
 |succ i =>
  have e:(ds.map Sl.val)[i]?=AA (.own t d'):=by simpa using e
  exact absurd (Ei ds i t d' e) (by
   rw[BA] at e
   cases q:ds[i]? with
   |none=>rw[q] at e;cases e
   |some d'=>rw[q] at e;cases e)
theorem Bd{vs:List V}{ds:List D}{b:AQ}{d:D}(h:DU ((V.ref a::vs).map AA) (.own AG d::ds.map Sl.val) b):b=a:=by
 obtain⟨i,t,d',e1,e2⟩:=h;obtain⟨rfl,_⟩:=Wc i t d' e1;cases e2
 rfl
theorem zXG(hn:gs.length+1=np){Q:VK}(h:tV K H₀ (GT m i gs) σ H Q):yJ (MM K np m) [] E0 (Hj (uO i) (iK K H₀ gs)) σ H Q:=by
 obtain⟨τ,F,E,d,E',S,hg,k⟩:=h;unfold GT at hg;split at hg
 .rename_i t0 d0 e0
  obtain⟨p,e1,hg⟩:=pA3 hg;split at hg
  .rename_i t d1 e3
   obtain⟨q,e2,hg⟩:=pA3 hg;cases hg;obtain⟨a,a1,_⟩:=S.own i _ _ e0;refine{_,a1,τ,F,E,p.1,p.2,S,e1,λvs F1 H1 s1 S1 r1=>?_};dsimp only;rw[EH];obtain⟨a',b1,b2,b3,b4,b5⟩:=S1.own i _ _ e3;rw[a1] at b1;cases b1;refine{by rw[A0,r1.length,nB e1,hn],a,F1,_,q.1,q.2.1,q.2.2,pAF S1.sub r1 b2 b3,Wc,e2,λv F2 H2 s2 S2 rr=>?_};have s2:Stp (DU ((V.ref a::vs).map AA) (.own AG d1::p.1.map Sl.val)) F1 H1 F2 H2 (DU ((V.ref a::vs).map AA) (.own AG q.2.2::p.1.map Sl.val)):=s2;have S2:Sim K H1 a F2 H2 ((V.ref a::vs).map AA) (.own AG q.2.2::p.1.map Sl.val):=S2;have hi:i<p.2.length:=(AX.mp e3).1
   have NN:∀(j:Nat) t' d',(p.2.set i (.own t q.2.2))[j]?=AA (.own t' d')->(j=i/\t'=t/\d'=q.2.2)\/(j≠i/\p.2[j]?=AA (.own t' d')):=λj t' d' z=>by
    by_cases hj:i=j
    .subst hj;rw[BF hi] at z;cases z;exact .inl {rfl,rfl,rfl}
    .rw[A7 hj] at z;exact .inr {JG hj,z}
   have Yw:∀b,DU σ (p.2.set i (.own t q.2.2)) b->DU σ p.2 b:=λb q0=>by
    obtain⟨j,t',d',z1,z2⟩:=q0;rcases NN j t' d' z1 with⟨rfl,_,_⟩|⟨_,z1⟩
    .exact{_,_,_,e3,z2}
    .exact{j,t',d',z1,z2}
   have Ze:DU σ p.2 a:={i,t,d1,e3,a1};have LJ:Stp (DU σ p.2) F1 H1 F2 H2 (DU σ (p.2.set i (.own t q.2.2))):={λb o z hw n ho=>s2.keep b o z hw n λy=>ho (by rw[Bd y];exact Ze),s2.dom,s2.le,λb o z=>(s2.new b o z).imp_right λy=>y.imp_right λy=>by rw[Bd y];exact Ze,λb z=>.inl (Yw b z)}
   have Sm:Sim K H₀ τ F2 H2 σ (p.2.set i (.own t q.2.2)):=by
    refine{S2.sub,by rw[CC];exact S1.len,λj d' z=>?_,λj t' d' z=>?_,λj l t1 t2 x y b z1 z2 y1 y2=>?_}
    .by_cases hj:i=j
     .subst hj;rw[BF hi] at z;cases z
     .rw[A7 hj] at z
      obtain⟨v,h1,h2⟩:=S1.val j d' z;exact{v,h1,h2.le s2.le}
    .rcases NN j t' d' z with⟨rfl,rfl,rfl⟩|⟨hj,z⟩
     .obtain⟨c,c1,c2,c3,_⟩:=S2.own 0 AG q.2.2 rfl
      cases c1;exact{a,a1,c2,c3,b4,b5}
     .obtain⟨c,c1,c2,c3,c4⟩:=S1.own j t' d' z
      obtain⟨o,ho,hw⟩:=c3.ho;have hca:c≠a:=λy=>hj (S1.inj j i t' t d' d1 a z e3 (by rw[c1,y]) a1);refine{c,c1,?_,c3.mono s2.le ((s2.keep c o ho hw c2 λy=>hca (Bd y)).trans ho.symm),c4}
      cases y:F2 c with
      |none=>rfl
      |some u =>
       rcases s2.new c u y with y|y|y
       .exact absurd c2 y
       .exact absurd hw (y o ho)
       .exact absurd (Bd y) hca
    .have f:∀(j:Nat) t' d',(p.2.set i (.own t q.2.2))[j]?=AA (.own t' d')->∃oF Mk,p.2[j]?=AA (.own oF Mk):=λj t' d' z=>by
      rcases NN j t' d' z with⟨rfl,_,_⟩|⟨_,z⟩
      .exact{_,_,e3}
      .exact{_,_,z}
     obtain⟨_,_,w1⟩:=f j _ _ z1;obtain⟨_,_,w2⟩:=f l _ _ z2;exact S1.inj j l _ _ _ _ b w1 w2 y1 y2
   cases hb:q.1 with
   |false =>
    rw[hb] at rr;exact k v F2 H2 (s1.trans LJ) Sm rr
   |true =>
    rw[hb] at rr;obtain⟨c,rfl,h1,h2,h3,h4⟩:=rr;obtain⟨o,ho,_⟩:=h2.ho
    have nc:∀b,DU σ (p.2.set i (.own t q.2.2)) b->b≠c:=λb z y=>by
     subst y;exact S1.fresh h3 (Yw b z)
    refine k _ (EV F2 c o) H2 (s1.trans {LJ.keep,LJ.dom,LJ.le.trans (.of_gr (Gr.new h1)),λb u z=>?_,LJ.own}) {λb u z=>?_,Sm.len,λj d' z=>?_,λj t' d' z=>?_,Sm.inj} (h2.rep h1 ho)
    .by_cases hb:b=c
     .subst hb;exact .inr (.inl (.none h3))
     .rw[GP hb] at z;exact LJ.new b u z
    .by_cases hb:b=c
     .subst hb;rw[JU] at z;rw[ho];exact z
     .rw[GP hb] at z;exact Sm.sub b u z
    .obtain⟨v,y1,y2⟩:=Sm.val j d' z
     exact{v,y1,y2.le (.of_gr (Gr.new h1))}
    .obtain⟨b,y1,y2,y3,y4⟩:=Sm.own j t' d' z
     exact{b,y1,by rw[GP (nc b {j,t',d',z,y1})];exact y2,y3.mono (.of_gr (Gr.new h1)) rfl,y4}
  .cases hg
 .cases hg
theorem NL{q:Y4}(i:Nat)(C:JK X.prog X.w X.K X.mg X.base x k np m)(hr:Room k X.A)(ha:VA X es gs)(hn:gs.length+1=np:=by rfl)(hg:Gl X x:=by rfl)(RD:(x==("__debug__":BL))=AB:=by decide)
  (he:AF (.Name xn q::es) X.env=(AB,eval (.Name xn q) X.env)::AF es X.env:=by rfl) (HZ:(CZ pos (AF es X.env)).any (·.1)=AB:=by rfl)
  (hN:X.N[i]?=AA xn:=by rfl) (hv:dE X.env.scope xn:=by first|exact BO rfl|exact EG (BO rfl)|exact EG (EG rfl)) (hd:(xn==("__debug__":BL))=AB:=by decide)
  (QH:(xn==("__classdict__":BL))=AB:=by decide):VE X (.Call (.Name x p) (.Name xn q::es) [] pos) (GT m i gs):=by
 obtain⟨f,fd,ps,Fn,hm,hk,hb⟩:=C;exact(zG Fn hr hg hm hk hb .nil yF (R0 (kD hN hv hd QH) ha he) RD he HZ).imp λ_ _ _ h=>zXG hn h
end
theorem PTs.imp{t t':TT}(h:PTs X es t)(hi:∀σ H Q,t' σ H Q->t σ H Q):PTs X es t':=λpins s σ H Q I q=>h pins s σ H Q I (hi σ H Q q)
abbrev uS(X:Cx)(es:List C5)(g:Ev->Out (Bool×Ev)):Prop:=PTs X es (tT X.K X.H₀ g)
def JN:Ev->Out (Bool×Ev):=λE=>.ok (AG,E)
theorem VR:uS X [] JN:=iM.imp λσ H Q h=>by
 obtain⟨τ,F,E,d,E',S,hg,k⟩:=h;cases hg;exact k F H .refl S
theorem Pe{t:Ev->Out (Bool×Ev)}(h:VT X c t):uS X [c] t:=yA6 h
theorem zUB{l:List Nat}(h:l.Nodup){x:Nat}(hi:l[i]?=AA x)(hj:l[j]?=AA x):i=j:=by
 obtain⟨a1,a2⟩:=AX.mp hi;obtain⟨b1,b2⟩:=AX.mp hj;have p:=GF.mp h;rcases gO i j with z|z|z
 .exact absurd (a2.trans b2.symm) (p i j a1 b1 z)
 .exact z
 .exact absurd (b2.trans a2.symm) (p j i b1 a1 z)
noncomputable def UL(k:Nat)(js:List Nat)(E:Ev):Ev:=DA k .no++js.map λj=>(E[j]?).getD .no
noncomputable def mB(j:Nat):List Nat->Nat->Option Nat
 |[],_=>AH
 |x::xs,n=>if x=j then AA n else mB j xs (n+1)
theorem Tf{j:Nat}:∀{js:List Nat} {n0 n:Nat},mB j js n0=AA n->∃m,n=n0+m/\js[m]?=AA j
 |[],_,_,h=>by cases h
 |x::xs,n0,n,h=>by
  rw[mB] at h;split at h
  .rename_i hx;cases h;exact{0,rfl,by simp[hx]}
  .obtain⟨m,h1,h2⟩:=Tf h;exact{m+1,by lia,by simpa using h2}
theorem Te{j:Nat}:∀{js:List Nat} {n0:Nat},mB j js n0=AH->j∉js
 |[],_,_=>by simp
 |x::xs,n0,h=>by
  rw[mB] at h;split at h
  .cases h
  .rename_i hx
   have:=Te h;simp only[A9,not_or];exact{λz=>hx z.symm,this}
def jR(Ec:Ev)(k:Nat)(js:List Nat)(j:Nat):Sl->Sl
 |.own t d=>match mB j js 0 with
  |some n=>(Ec[k+n]?).getD .no
  |none=>.own t d
 |s=>s
def cJ(Ec:Ev)(k:Nat)(js:List Nat):Nat->Ev->Ev
 |_,[]=>[]
 |j,s::E=>jR Ec k js j s::cJ Ec k js (j+1) E
abbrev dD(E Ec:Ev)(k:Nat)(js:List Nat):Ev:=cJ Ec k js 0 E
theorem Qs(Ec:Ev)(k:Nat)(js:List Nat):∀(E:Ev) (j0 j:Nat),(cJ Ec k js j0 E)[j]?=(E[j]?).map (jR Ec k js (j0+j))
 |[],_,_=>by simp[cJ]
 |s::E,j0,0=>by simp[cJ]
 |s::E,j0,j+1=>by
  show(cJ Ec k js (j0+1) E)[j]?=_;rw[Qs Ec k js E (j0+1) j,WR,show j0+1+j=j0+(j+1) by lia]
theorem Qr(Ec:Ev)(k:Nat)(js:List Nat):∀(E:Ev) (j0:Nat),(cJ Ec k js j0 E).length=E.length
 |[],_=>rfl
 |s::E,j0=>by rw[cJ,A0,A0,Qr Ec k js E (j0+1)]
theorem zE{E Ec:Ev}{s:Sl}(h:(dD E Ec k js)[j]?=AA s):(E[j]?=AA s/\((∃t d,s=.own t d)->j∉js))\/∃t d n,E[j]?=AA (.own t d)/\js[n]?=AA j/\s=(Ec[k+n]?).getD .no:=by
 rw[Qs,IJ] at h
 cases q:E[j]? with
 |none=>rw[q] at h;cases h
 |some s0 =>
  rw[q] at h;have h:jR Ec k js j s0=s:=BV h
  cases s0 with
  |no=>cases h;exact .inl {rfl,(λq0=>by obtain⟨_,_,z⟩:=q0;exact by cases z)}
  |val d=>cases h;exact .inl {rfl,(λq0=>by obtain⟨_,_,z⟩:=q0;exact by cases z)}
  |own t d =>
   cases f:mB j js 0 with
   |none =>
    have:jR Ec k js j (.own t d)=.own t d:=by unfold jR;rw[f]
    rw[this] at h;exact .inl {by rw[h],λ_=>Te f}
   |some n =>
    obtain⟨m,h1,h2⟩:=Tf f;have:jR Ec k js j (.own t d)=(Ec[k+n]?).getD .no:=by unfold jR;rw[f]
    rw[this] at h;exact .inr {t,d,m,rfl,h2,by rw[<-h];congr 2;lia}
theorem tH{E:Ev}{s:Sl}(h:(UL k js E)[i]?=AA s)(hs:s≠.no):∃n j,i=k+n/\js[n]?=AA j/\E[j]?=AA s:=by
 unfold UL at h
 by_cases hi:i<k
 .rw[B9 (by rw[CV];exact hi),DZ,if_pos hi] at h
  exact absurd (BV h).symm hs
 .rw[BY (by rw[CV];lia),CV,BA] at h
  cases q:js[i-k]? with
  |none=>rw[q] at h;cases h
  |some j =>
   rw[q] at h;have h:(E[j]?).getD .no=s:=BV h;refine{i-k,j,by lia,q,?_}
   cases z:E[j]? with
   |none=>rw[z] at h;exact absurd h.symm hs
   |some s'=>rw[z] at h;rw[<-h];rfl
theorem qU(h:js[n]?=AA j):(TJ k js σ)[k+n]?=AA ((σ[j]?).getD AH):=by
 unfold TJ;rw[BY (by rw[CV];lia),CV,BA,show k+n-k=n from NV _ _,h]
 rfl
variable{E1 E2:Ev}
section
variable{K:AC}{σ2:St}{E:Ev}
theorem Sim.off(S:Sim K H₀ τ F H σ E)(hf:F BS=AH)(no:¬DU σ E BS):Sim K H₀ τ F (EV H BS o) σ E:=by
 refine{λa u e=>?_,S.len,S.val,λi t d e=>?_,S.inj}
 .have:a≠BS:=λz=>by rw[z,hf] at e;cases e
  rw[GP this];exact S.sub a u e
 .obtain⟨a,h1,h2,h3,h4⟩:=S.own i t d e
  have:a≠BS:=λz=>no {i,t,d,e,by rw[<-z];exact h1};exact{a,h1,h2,h3.mono (.refl _) (GP this),h4}
theorem pAG(S:Sub F H)(h:H BS=AH):F BS=AH:=by
 cases e:F BS with
 |none=>rfl
 |some u=>rw[S BS u e] at h;cases h
theorem sV(h:DU (TJ k js σ) (UL k js E) a):∃(n j:Nat) (t:Bool) (d:D),js[n]?=AA j/\E[j]?=AA (.own t d)/\σ[j]?=AA (AA (.ref a)):=by
 obtain⟨i,t,d,e1,e2⟩:=h;obtain⟨n,j,rfl,h1,h2⟩:=tH e1 (by intro z;cases z);rw[qU h1] at e2;refine{n,j,t,d,h1,h2,?_}
 cases q:σ[j]? with
 |none=>rw[q] at e2;cases e2
 |some z=>rw[q] at e2;cases e2;rfl
theorem Sim.enter(S:Sim K H₀ τ F H σ E)(k:Nat)(hj:js.Nodup)(ha:H BS=AH):Sim K (EV H BS o) τ F (EV H BS o) (TJ k js σ) (UL k js E):=by
 have hf:=pAG S.sub ha;refine{λa u e=>?_,by unfold UL TJ;simp,λi d e=>?_,λi t d e=>?_,λi j t u d d' a e1 e2 z1 z2=>?_}
 .have:a≠BS:=λz=>by rw[z,hf] at e;cases e
  rw[GP this];exact S.sub a u e
 .obtain⟨n,j,rfl,h1,h2⟩:=tH e (by intro z;cases z)
  obtain⟨v,h3,h4⟩:=S.val j d h2;exact{v,by rw[qU h1,h3];rfl,h4}
 .obtain⟨n,j,rfl,h1,h2⟩:=tH e (by intro z;cases z)
  obtain⟨a,h3,h4,h5,h6,h7⟩:=S.own j t d h2;obtain⟨ob,ho,hw⟩:=h5.ho;have:a≠BS:=λz=>by rw[z,ha] at ho;cases ho
  exact{a,by rw[qU h1,h3];rfl,h4,h5.mono (.refl _) (GP this),λw u z=>by rw[GP this,ho] at z;cases z;exact hw,h7}
 .obtain⟨n,l,rfl,h1,h2⟩:=tH e1 (by intro z;cases z)
  obtain⟨n',l',rfl,WG,U4⟩:=tH e2 (by intro z;cases z);rw[qU h1] at z1;rw[qU WG] at z2
  have w1:σ[l]?=AA (AA (.ref a)):=by
   cases q:σ[l]? with
   |none=>rw[q] at z1;cases z1
   |some z=>rw[q] at z1;cases z1;rfl
  have w2:σ[l']?=AA (AA (.ref a)):=by
   cases q:σ[l']? with
   |none=>rw[q] at z2;cases z2
   |some z=>rw[q] at z2;cases z2;rfl
  have:=S.inj l l' t u d d' a h2 U4 w1 w2;subst this;rw[zUB hj h1 WG]
theorem Sim.leave(S:Sim K H₀ τ F1 H1 σ E1)(ha:H1 BS=AH)(s:Stp (λa=>DU (TJ k js σ) (UL k js E1) a\/a=BS) F1 (EV H1 BS o) F2 H2 (DU σ2 E2))
  (S2:Sim K (EV H1 BS o) τ F2 H2 σ2 E2) (hs:∀j:Nat,k<=j->σ2[j]?=(TJ k js σ)[j]?) :
  Sim K H₀ τ F2 H2 σ (dD E1 E2 k js)/\Stp (DU σ E1) F1 H1 F2 H2 (DU σ (dD E1 E2 k js)):=by
 have xN:∀a,DU (TJ k js σ) (UL k js E1) a->DU σ E1 a:=λa h=>let ⟨n,j,t,d,_,h2,h3⟩:=sV h;{j,t,d,h2,h3};have ne:∀a u,H1 a=AA u->a≠BS:=λa u e z=>by rw[z,ha] at e;cases e
 have slot:∀(n j:Nat),js[n]?=AA j->σ2[k+n]?=AA ((σ[j]?).getD AH):=λn j h=>by rw[hs (k+n) (AY _ _),qU h]
 have dO:∀(j:Nat) t d,(dD E1 E2 k js)[j]?=AA (.own t d)->∃t' d',E1[j]?=AA (.own t' d'):=λj t d e=>by
  rcases zE e with⟨h,_⟩|⟨t',d',n,h,_⟩
  .exact{t,d,h}
  .exact{t',d',h}
 have st:Stp (DU σ E1) F1 H1 F2 H2 (DU σ (dD E1 E2 k js)):=by
  refine{λa u e hw n ho=>s.keep a u (by rw[GP (ne a u e)];exact e) hw n λz=>z.elim (λz=>ho (xN a z)) (ne a u e),λa e=>?_,s.le,λa u e=>?_,λa ⟨j,t,d,e1,e2⟩=>?_}
  .have:=s.dom a e
   by_cases h:a=BS
   .rw[h];exact ha
   .rw[GP h] at this;exact this
  .rcases s.new a u e with z|z|z|z
   .exact .inl z
   .by_cases h:a=BS
    .rw[h];exact .inr (.inl (.none ha))
    .exact .inr (.inl λo' e'=>z o' (by rw[GP h];exact e'))
   .exact .inr (.inr (xN a z))
   .rw[z];exact .inr (.inl (.none ha))
  .obtain⟨t',d',h⟩:=dO j t d e1
   exact .inl {j,t',d',h,e2}
 refine{{S2.sub,by rw[Qr];exact S.len,λj d e=>?_,λj t d e=>?_,λi j t u d d' a e1 e2 z1 z2=>?_},st}
 .rcases zE e with⟨h,_⟩|⟨t',d',n,h,h1,h2⟩
  .obtain⟨v,h1,h2⟩:=S.val j d h
   exact{v,h1,h2.le s.le}
  .have e2:E2[k+n]?=AA (.val d):=by
    cases q:E2[k+n]? with
    |none=>rw[q] at h2;cases h2
    |some z=>rw[q] at h2;rw[h2];rfl
   obtain⟨v,h3,h4⟩:=S2.val _ d e2;rw[slot n j h1] at h3;refine{v,?_,h4}
   cases q:σ[j]? with
   |none=>rw[q] at h3;cases h3
   |some z=>rw[q] at h3;cases h3;rfl
 .rcases zE e with⟨h,h'⟩|⟨t',d',n,h,h1,h2⟩
  .have hj:=h' {t,d,rfl}
   obtain⟨a,c1,c2,c3,c4⟩:=S.own j t d h;obtain⟨ob,ho,hw⟩:=c3.ho
   have nc:¬(DU (TJ k js σ) (UL k js E1) a\/a=BS):=λz=>by
    rcases z with z|z
    .obtain⟨n,l,t2,d2,y1,y2,y3⟩:=sV z
     have:=S.inj j l t t2 d d2 a h y2 c1 y3;subst this;exact hj (K5 y1)
    .exact ne a ob ho z
   refine{a,c1,?_,c3.mono s.le ((s.keep a ob (by rw[GP (ne a ob ho)];exact ho) hw c2 nc).trans ho.symm),c4}
   cases y:F2 a with
   |none=>rfl
   |some u =>
    rcases s.new a u y with y|y|y
    .exact absurd c2 y
    .exact absurd hw (y ob (by rw[GP (ne a ob ho)];exact ho))
    .exact absurd y nc
  .have e2:E2[k+n]?=AA (.own t d):=by
    cases q:E2[k+n]? with
    |none=>rw[q] at h2;cases h2
    |some z=>rw[q] at h2;rw[h2];rfl
   obtain⟨a,h3,h4,h5,h6,h7⟩:=S2.own _ t d e2;rw[slot n j h1] at h3;obtain⟨a',c1,c2,c3,c4,c5⟩:=S.own j t' d' h;rw[c1] at h3;cases h3;exact{a,c1,h4,h5,c4,h7}
 .obtain⟨_,_,h1⟩:=dO i t d e1
  obtain⟨_,_,h2⟩:=dO j u d' e2;exact S.inj i j _ _ _ _ a h1 h2 z1 z2
end
section
variable{K:AC}
end
abbrev GM:=D->Ev->Out (D×Ev)
theorem Stp.more{ow:AQ->Prop}(x:Stp ow F H F1 H1 ZY):Stp (λa=>ow a\/a=BS) F H F1 H1 (λa=>ZY a\/a=BS) :=
 {λa o e w f n=>x.keep a o e w f λz=>n (.inl z),x.dom,x.le,λa o e=>(x.new a o e).imp id λz=>z.imp id .inl,λa q=>q.elim (λz=>(x.own a z).imp .inl id) λz=>.inl (.inr z)}
def Hq(K:AC)(H₀:Hp)(BS:AQ)(k:Nat)(g:GM):TM:=λσ H N=>∃τ F E d d' E',Sim K H₀ τ F H σ E/\F BS=AH/\¬DU σ E BS/\OwnAt K F H BS d/\g d E=.ok (d',E') /\
 ∀σ' F' H',Stp (λa=>DU σ E a\/a=BS) F H F' H' (λa=>DU σ' E' a\/a=BS)->Sim K H₀ τ F' H' σ' E'->F' BS=AH->¬DU σ' E' BS->OwnAt K F' H' BS d'->(∀j:Nat,k<=j->σ'[j]?=σ[j]?)->N σ' H'
def QX(t:Tg)(tt:Ev->Out (Bool×Ev))(gm:GM):List D->GM
 |[],d,E=>.ok (d,E)
 |x::xs,d,E=>(UA t x E).bind λE1=>(tt E1).bind λb=>if b.1=AG then(gm d b.2).bind λq=>QX t tt gm xs q.1 q.2 else QX t tt gm xs d b.2
variable{tt:Ev->Out (Bool×Ev)}{gm:GM}
section
variable{K:AC}{E:Ev}
theorem Hi{Ea Eb:Ev}{Fa Ha Fb Hb:Hp}{d:D}(st:Stp (DU σ' Ea) Fa Ha Fb Hb (DU σ' Eb))(a1:Fa BS=AH)(a2:¬DU σ' Ea BS)(a3:OwnAt K Fa Ha BS d):Fb BS=AH/\¬DU σ' Eb BS/\OwnAt K Fb Hb BS d:=by
 obtain⟨o,ho,hw⟩:=a3.ho;have hb:=st.keep BS o ho hw a1 a2;refine{?_,λz=>(st.own BS z).elim a2 λz=>by (rw[ho] at z;cases z),a3.mono st.le (hb.trans ho.symm)}
 cases z:Fb BS with
 |none=>rfl
 |some u =>
  rcases st.new BS u z with z|z|z
  .exact absurd a1 z
  .exact absurd hw (z _ ho)
  .exact absurd z a2
theorem Wv{t:Tg}{ds:List D}(NY:t.ltn k=AG){N:St->Hp->Prop}{d d':D}(S:Sim K H₀ τ F H σ E)(hf:F BS=AH)(no:¬DU σ E BS)(ho:OwnAt K F H BS d)(hw:Walks K J F ds)
  (hg:QX t tt gm ds d E=.ok (d',E'))
  (htm:∀σ5 F5 H5 E5 N',Stp (λa=>DU σ E a\/a=BS) F H F5 H5 (λa=>DU σ5 E5 a\/a=BS)->(∃d5 d6 E6,Sim K H₀ τ F5 H5 σ5 E5/\F5 BS=AH/\¬DU σ5 E5 BS/\OwnAt K F5 H5 BS d5/\gm d5 E5=.ok (d6,E6) /\
   ∀σ' F' H',Stp (λa=>DU σ5 E5 a\/a=BS) F5 H5 F' H' (λa=>DU σ' E6 a\/a=BS)->Sim K H₀ τ F' H' σ' E6->F' BS=AH->¬DU σ' E6 BS->OwnAt K F' H' BS d6->(∀j:Nat,k<=j->σ'[j]?=σ5[j]?)->N' σ' H')->tm σ5 H5 N')
  (hN:∀σ' F' H',Stp (λa=>DU σ E a\/a=BS) F H F' H' (λa=>DU σ' E' a\/a=BS)->Sim K H₀ τ F' H' σ' E'->F' BS=AH->¬DU σ' E' BS->OwnAt K F' H' BS d'->(∀j:Nat,k<=j->σ'[j]?=σ[j]?)->N σ' H') :
  tWalkC J (tG K H₀ t) (tT K H₀ tt) tm σ H N:=by
 refine{λi m σ2 H2=>m=ds.length-i/\i<=ds.length/\∃F2 E2 d2,Sim K H₀ τ F2 H2 σ2 E2/\Stp (λa=>DU σ E a\/a=BS) F H F2 H2 (λa=>DU σ2 E2 a\/a=BS) /\
   F2 BS=AH/\¬DU σ2 E2 BS/\OwnAt K F2 H2 BS d2/\(∀j:Nat,k<=j->σ2[j]?=σ[j]?)/\QX t tt gm (ds.drop i) d2 E2=.ok (d',E'),
  {_,rfl,B0 _,F,E,d,S,Stp.refl,hf,no,ho,λ_ _=>rfl,by rw[OY];exact hg},?_}
 rintro i m σ2 H2 ⟨rfl,hil,F2,E2,d2,S2,s2,f2,n2,o2,N6,g2⟩;obtain⟨w2,w3,w4⟩:=hw i F2 H2 s2.le S2.sub
 by_cases hi:i<ds.length
 .obtain⟨x,hd⟩:∃d,ds[i]?=AA d:={ds[i],by simp[hi]}
  have Lj:ds.drop i=x::ds.drop (i+1):=by
   rw[IK hi];have:ds[i]=x:=by rw[BU hi] at hd;exact BV hd
   rw[this]
  rw[Lj,QX] at g2;obtain⟨E3,e3,g2⟩:=pA3 g2;obtain⟨b,e4,g2⟩:=pA3 g2;refine .inr {w2 hi,λy H' yl=>?_};obtain⟨F3,n3,r3⟩:=w4 y H' x hd yl;obtain⟨f3,m3,o3⟩:=Hi (n3.stp (ow:=DU σ2 E2)) f2 n2 o2;refine{τ,F3,E2,x,E3,S2.new n3,r3,e3,λσ4 S4 o4 b4=>?_};have m4:¬DU σ4 E3 BS:=λz=>n2 (o4 BS z);have Zk:∀j:Nat,k<=j->σ4[j]?=σ[j]?:=λj hj=>by rw[b4 k NY j hj,N6 j hj]
  have s4:Stp (λa=>DU σ E a\/a=BS) F H F3 H' (λa=>DU σ4 E3 a\/a=BS):=(s2.trans n3.stp).weak λa z=>z.imp (o4 a) id;refine{τ,F3,E3,b.1,b.2,S4,e4,λF5 H5 s5 S5=>?_};obtain⟨f5,m5,o5⟩:=Hi s5 f3 m4 o3;have Ji:=s4.trans (s5.more (BS:=BS));dsimp only
  by_cases hb:b.1=AG
  .rw[if_pos hb] at g2 ⊢
   obtain⟨z,e6,g2⟩:=pA3 g2;refine htm σ4 F5 H5 b.2 _ Ji {d2,z.1,z.2,S5,f5,m5,o5,e6,λσ6 F6 H6 s6 S6 f6 m6 o6 hs6=>?_};exact{_,by lia,rfl,hi,F6,z.2,z.1,S6,Ji.trans s6,f6,m6,o6,λj hj=>by rw[hs6 j hj,Zk j hj],g2}
  .rw[if_neg hb] at g2 ⊢
   exact{_,by lia,rfl,hi,F5,b.2,d2,S5,Ji,f5,m5,o5,Zk,g2}
 .have hi:i=ds.length:=by lia
  rw[W6 'l',QX] at g2;cases g2;exact .inl {w3 hi,hN σ2 F2 H2 s2 S2 f2 n2 o2 N6}
theorem yIJ{t:Tg}{ds:List D}(NY:t.ltn k=AG){N:St->Hp->Prop}{d d':D}(S:Sim K H₀ τ F H σ E)(hf:F BS=AH)(no:¬DU σ E BS)(ho:OwnAt K F H BS d)(hw:Walks K J F ds)
  (hg:QX t tt gm ds d E=.ok (d',E'))
  (hN:∀σ' F' H',Stp (λa=>DU σ E a\/a=BS) F H F' H' (λa=>DU σ' E' a\/a=BS)->Sim K H₀ τ F' H' σ' E'->F' BS=AH->¬DU σ' E' BS->OwnAt K F' H' BS d'->(∀j:Nat,k<=j->σ'[j]?=σ[j]?)->N σ' H') :
  tWalkC J (tG K H₀ t) (tT K H₀ tt) (Hq K H₀ BS k gm) σ H N :=
 Wv NY S hf no ho hw hg (λσ5 F5 H5 E5 N' _ ⟨d5,d6,E6,h⟩=>{τ,F5,E5,d5,d6,E6,h}) hN
theorem yIK{F6 H6:Hp}(s6:Stp (DU σ E) F H F6 H6 (DU σ' E')):Stp (λa=>DU σ E a\/a=BS) F H F6 (EV H6 BS o) (λa=>DU σ' E' a\/a=BS):=by
 have st:=s6.more (BS:=BS);refine{λa u e hw n ho=>by rw[GP (λy=>ho (.inr y))];exact st.keep a u e hw n ho,λa e=>?_,st.le,st.new,st.own}
 by_cases hac:a=BS
 .rw[hac,JU] at e;cases e
 .rw[GP hac] at e;exact st.dom a e
def VN(ge:G):GM:=λd E=>(ge E).bind λp=>match d with|.lst ds=>RS ds.length (.ok (.lst (ds++[p.1]),p.2))|_=>.bad
theorem Qq{ge:G}{N:St->Hp->Prop}(h:Hq K H₀ BS k (VN ge) σ H N):iC BS (tV K H₀ ge) σ H N:=by
 obtain⟨τ,F,E,d,d',E',S,f,n,o,hg,k⟩:=h;obtain⟨p,e1,hg⟩:=pA3 hg;split at hg
 .rename_i ds
  obtain⟨hz,hg⟩:=XI hg;cases hg;refine{τ,F,E,p.1,p.2,S,e1,λy F6 H6 s6 S6 r6=>?_};obtain⟨f6,m6,ys,h6,r2⟩:=Hi s6 f n o;exact{ys,h6,by rw[r2.length];exact j9 hz,k σ F6 _ (yIK s6) (S6.off f6 m6) f6 m6 {_,JU,r2.append (.cons r6 .nil)} λ_ _=>rfl}
 .cases hg
def sU(gi:GI)(k:Nat)(js:List Nat)(d0:D)(t:Tg)(tt:Ev->Out (Bool×Ev))(gm:GM):G:=λE=>(gi E).bind λp=>(QX t tt gm p.1 d0 (UL k js p.2)).bind λq=>.ok (q.1,dD p.2 q.2 k js)
theorem zXH{d0:D}{t:Tg}(hd0:∀(F H:Hp) (a:AQ),OwnAt K F (EV H a o) a d0)(NY:t.ltn k=AG)(hj:js.Nodup){Q:VK}(h:tF K H₀ (sU gi k js d0 t tt gm) σ H Q) :
  mJ (tI K H₀ gi) k js o (λH=>tG K H t) (λH=>tT K H tt) (λH BS=>Hq K H BS k gm) σ H Q:=by
 obtain⟨τ,F,E,d,E',S,hg,kq⟩:=h;obtain⟨p,e1,hg⟩:=pA3 hg;obtain⟨q,e2,hg⟩:=pA3 hg;cases hg;refine{τ,F,E,p.1,p.2,S,e1,λJ F1 H1 s1 S1 w1 BS ha=>?_};have hf:=pAG S1.sub ha;have S0:=S1.enter (o:=o) k hj ha
 have no:¬DU (TJ k js σ) (UL k js p.2) BS:=λz=>by
  obtain⟨n,j,t',d',_,z2,z3⟩:=sV z;exact S1.fresh ha {j,t',d',z2,z3}
 refine yIJ NY S0 hf no (hd0 _ _ _) w1 e2 λσ2 F2 H2 s2 S2 f2 n2 o2 N6=>?_;have s2':Stp (λa=>DU (TJ k js σ) (UL k js p.2) a\/a=BS) F1 (EV H1 BS o) F2 H2 (DU σ2 q.2):=s2.weak λa z=>.inl z;obtain⟨S9,s9⟩:=S1.leave ha s2' S2 N6;refine kq BS F2 H2 (s1.trans s9) S9 f2 (s1.dom BS ha) o2 λz=>?_
 exact(s9.own BS z).elim (λy=>S1.fresh ha y) λy=>S1.fresh ha (by
   obtain⟨j,t',d',z1,z2⟩:=z;rcases zE z1 with⟨h,_⟩|⟨oF,Mk,n,h,_⟩
   .exact{j,t',d',h,z2}
   .exact{j,oF,Mk,h,z2})
theorem tWalkC.imp{J:It}{g:TG}{tt:TT}{tm Yn:TM}(hi:∀σ H N,tm σ H N->Yn σ H N){N:St->Hp->Prop}(mt:∀(σ:St) (H:Hp) (P P':Bool->Hp->Prop),(∀b H2,P b H2->P' b H2)->tt σ H P->tt σ H P')(mg:∀(x:V) (σ:St) (H:Hp) (P P':St->Hp->Prop),(∀σ2 H2,P σ2 H2->P' σ2 H2)->g x σ H P->g x σ H P')(h:tWalkC J g tt tm σ H N):tWalkC J g tt Yn σ H N:=by
 obtain⟨W,w0,turn⟩:=h;refine{W,w0,λi m σ H w=>(turn i m σ H w).imp id λ⟨go,st⟩=>{go,λx H' y=>mg _ _ _ _ _ (λσ2 H2 q=>mt _ _ _ _ (λb H3 q=>?_) q) (st x H' y)}}
 cases b with
 |true=>rw[if_pos rfl] at q ⊢;exact hi _ _ _ q
 |false=>rw[if_neg BJ] at q ⊢;exact q
theorem yBK(σ:St)(H:Hp)(P P':Bool->Hp->Prop)(hp:∀b H2,P b H2->P' b H2)(h:tT K H₀ tt σ H P):tT K H₀ tt σ H P' :=
 let ⟨τ,F,E,b,E',S,hg,k⟩:=h;{τ,F,E,b,E',S,hg,λF' H' s S'=>hp _ _ (k F' H' s S')}
theorem yBL{t:Tg}(x:V)(σ:St)(H:Hp)(P P':St->Hp->Prop)(hp:∀b H2,P b H2->P' b H2)(h:tG K H₀ t x σ H P):tG K H₀ t x σ H P' :=
 let ⟨τ,F,E,d,E',S,r,hg,k⟩:=h;{τ,F,E,d,E',S,r,hg,λσ' a b c=>hp _ _ (k σ' a b c)}
theorem yBM{R R':It->Hp->Prop}(hp:∀J H2,R J H2->R' J H2)(h:tI K H₀ gi σ H R):tI K H₀ gi σ H R' :=
 let ⟨τ,F,E,ds,E',S,hg,k⟩:=h;{τ,F,E,ds,E',S,hg,λJ F' H' a b c=>hp _ _ (k J F' H' a b c)}
def K8(gi:GI)(k:Nat)(js:List Nat)(t:Tg)(tt:Ev->Out (Bool×Ev))(ge:G):G:=sU gi k js (.lst []) t tt (VN ge)
theorem Pd{t:Tg}{ge:G}(NY:t.ltn k=AG)(hj:js.Nodup){Q:VK}(h:tF K H₀ (K8 gi k js t tt ge) σ H Q) :
  mJ (tI K H₀ gi) k js (.lst []) (λH=>tG K H t) (λH=>tT K H tt) (λH BS=>iC BS (tV K H ge)) σ H Q :=
 yBM (λJ H2 q BS ha=>tWalkC.imp (λ_ _ _ z=>Qq z) (λσ H=>yBK σ H) (λx σ H=>yBL x σ H) (q BS ha)) (zXH (o:=.lst []) (d0:=.lst []) (λF H a=>{[],JU,.nil}) NY hj h)
theorem YO{iter:C5}{t:Tg}{ge:G}(n:CompNm X scope xo cl own C8 js)(hc:X.calm=AG)(hi:VI X tg iter gi)
  (hg:∀C s H fp,VG (OL X scope xo cl (own++C8) C s H fp) tg t) (ht:∀C s H fp,uS (OL X scope xo cl (own++C8) C s H fp) ifs tt) (he:∀C s H fp,VE (OL X scope xo cl (own++C8) C s H fp) OR ge)
  (NY:t.ltn own.length=AG:=by rfl) (hj:js.Nodup:=by decide) (hs:∀x,CW iter X.env x=pure x:=by intro _;rfl):FE X (.ListComp OR [{tg,iter,ifs,0}] scope pos) (K8 gi own.length js t tt ge) :=
 (yA9 (g:=λH=>tG X.K H t) (tt:=λH=>tT X.K H tt) (te:=λH=>tV X.K H ge) n hc hi hg ht he hs).imp λ_ _ _ h=>Pd NY hj h
end
mutual
noncomputable def D.py:D->Option GB
 |.non=>AA .none
 |.bl b=>AA (.bool b)
 |.int i=>AA (.int i)
 |.str x=>if HS (.str x)=AG then AA (.str x) else AH
 |.tup xs=>(pAH xs).map .tuple
 |.lst xs=>(pAH xs).map .list
 |.dk _=>AH
 |.dt _=>AH
noncomputable def pAH:List D->Option (List GB)
 |[]=>AA []
 |d::ds=>match d.py,pAH ds with
  |some p,AA ps=>AA (p::ps)
  |_,_=>AH
end
section
variable{K:AC}
mutual
theorem Rep.dv(s:Sub F H):∀(d:D) {v:V} {p:GB},Rep K F v d->d.py=AA p->DV K H v p
 |.non,_,_,.non,e=>by rw[D.py] at e;cases e;exact .non
 |.bl b,_,_,.bl _,e=>by rw[D.py] at e;cases e;exact .bl b
 |.int i,_,_,.int _,e=>by rw[D.py] at e;cases e;exact .int i
 |.str x,_,_,.str _,e=>by
  rw[D.py] at e;split at e
  .rename_i h;cases e;exact .str x h
  .cases e
 |.tup xs,_,_,r,e=>by
  rw[D.py] at e;obtain⟨ps,h1,h2⟩:=DF.mp e;subst h2;obtain⟨a,vs,rfl,r,sq⟩:=r.tupSq;exact .tup (sq F H (.refl _) s) (Reps.dv s xs r h1)
 |.lst xs,_,_,.lst h r,e=>by
  rw[D.py] at e;obtain⟨ps,h1,h2⟩:=DF.mp e;subst h2;exact .lst (h.imp s.rd id) (Reps.dv s xs r h1)
 |.dk _,_,_,_,e=>by rw[D.py] at e;cases e
 |.dt _,_,_,_,e=>by rw[D.py] at e;cases e
theorem Reps.dv(s:Sub F H):∀(d:List D) {v:List V} {p:List GB},Reps K F v d->pAH d=AA p->DVs K H v p
 |[],_,_,.nil,e=>by rw[pAH] at e;cases e;exact .nil
 |d::ds,_,_,.cons h r,e=>by
  rw[pAH] at e;split at e
  .rename_i p ps e1 e2
   cases e;exact .cons (Rep.dv s d h e1) (Reps.dv s ds r e2)
  .cases e
end
end
noncomputable def MJ(x y:D):Out D:=match x.py,y.py with
 |some p,AA q=>if min p.depth q.depth<=60 then .ok (.bl (DO p q)) else .bad
 |_,_=>.bad
noncomputable def IU(x y:D):Out D:=match x.py,y.py with
 |some p,AA q=>if min p.depth q.depth<=60 then .ok (.bl (!DO p q)) else .bad
 |_,_=>.bad
section
variable{K:AC}{a b:C5}{ga gb ge:G}
theorem Mx:P5 K (Av K AB) MJ:=λv u x y F H d Q s r1 r2 hf k=>by
 unfold MJ at hf;split at hf
 .rename_i p q e1 e2
  split at hf
  .rename_i hm
   cases hf;exact{p,q,r1.dv s _ e1,r2.dv s _ e2,hm,k _ F H (.refl s) (.bl _)}
  .cases hf
 .cases hf
theorem Mw:P5 K (Av K AG) IU:=λv u x y F H d Q s r1 r2 hf k=>by
 unfold IU at hf;split at hf
 .rename_i p q e1 e2
  split at hf
  .rename_i hm
   cases hf;exact{p,q,r1.dv s _ e1,r2.dv s _ e2,hm,k _ F H (.refl s) (.bl _)}
  .cases hf
 .cases hf
theorem XE(hu:X.A.units+64<G3)(ha:VE X a ga)(hb:VE X b gb)(hm:CY .Eq b=AB:=by with_unfolding_all rfl):VT X (.Compare a [.Eq] [b] pos) (gB (g2 MJ ga gb)):=fR (Nb hu) Mx ha hb hm
theorem VM(hu:X.A.units+64<G3)(ha:VE X a ga)(hb:VE X b gb)(hm:CY .NotEq b=AB:=by with_unfolding_all rfl):VT X (.Compare a [.NotEq] [b] pos) (gB (g2 IU ga gb)):=fR (Na hu) Mw ha hb hm
theorem Gj(hu:X.A.units+64<G3)(ha:VE X a ga)(hb:VE X b gb)(hm:CY .Eq b=AB:=by with_unfolding_all rfl):VE X (.Compare a [.Eq] [b] pos) (g2 MJ ga gb):=yK (Nb hu) Mx ha hb hm
theorem yK0(hu:X.A.units+64<G3)(ha:VE X a ga)(hb:VE X b gb)(hm:CY .NotEq b=AB:=by with_unfolding_all rfl):VE X (.Compare a [.NotEq] [b] pos) (g2 IU ga gb):=yK (Na hu) Mw ha hb hm
end
section
variable[DecidableEq κ]
noncomputable def VJ(kvs:List (κ×D))(k:κ):Option D:=(kvs.find? λkv=>decide (kv.1=k)).map (·.2)
noncomputable def YH(kvs:List (κ×D))(k:κ)(v:D):List (κ×D) :=
 if(kvs.any λkv=>decide (kv.1=k))=AG then kvs.map (λkv=>if kv.1=k then(kv.1,v) else kv) else kvs++[(k,v)]
end
noncomputable def yD:D->Option Key
 |.int i=>AA (.inl i)
 |.str x=>AA (.inr x)
 |_=>AH
noncomputable def QZ:List D->Option (List Int)
 |[]=>AA []
 |.int i::ds=>(QZ ds).map (i::·)
 |_::_=>AH
theorem uB:∀{ds:List D} {ns:List Int},QZ ds=AA ns->ds=ns.map D.int
 |[],_,h=>by rw[QZ] at h;cases h;rfl
 |.int i::ds,_,h=>by
  rw[QZ] at h;obtain⟨r,h1,h2⟩:=DF.mp h;subst h2;rw[uB h1];rfl
 |.non::_,_,h=>by simp[QZ] at h
 |.bl _::_,_,h=>by simp[QZ] at h
 |.str _::_,_,h=>by simp[QZ] at h
 |.tup _::_,_,h=>by simp[QZ] at h
 |.lst _::_,_,h=>by simp[QZ] at h
 |.dk _::_,_,h=>by simp[QZ] at h
 |.dt _::_,_,h=>by simp[QZ] at h
theorem zD:∀{a b:List Int},a.map (DK:Int->Key)=b.map DK->a=b
 |[],[],_=>rfl
 |[],_::_,h=>by simp at h
 |_::_,[],h=>by simp at h
 |x::a,y::b,h=>by
  rw[A1,A1] at h;injection h with h1 h2;injection h1 with h1;rw[h1,zD h2]
section
variable{K:AC}
theorem RepK.length{vs:List (Key×V)}{ds:List (Key×D)}(r:RepK K F vs ds):vs.length=ds.length:=r.rec1 (R:=λvs ds=>vs.length=ds.length) rfl λ_ _ ih=>congrArg (·+1) ih
theorem RepT.length{vs:List (List Key×V)}{ds:List (List Int×D)}(r:RepT K F vs ds):vs.length=ds.length:=r.rec1 (T:=λvs ds=>vs.length=ds.length) rfl λ_ _ ih=>congrArg (·+1) ih
def OpR1(K:AC)(F:Hp):Option V->Option D->Prop
 |some v,AA d=>Rep K F v d
 |none,AH=>True
 |_,_=>False
theorem RepK.get(k:Key){vs:List (Key×V)}{ds:List (Key×D)}(r:RepK K F vs ds):OpR1 K F (RN vs k) (VJ ds k):=by
 refine r.rec1 (R:=λvs ds=>OpR1 K F (RN vs k) (VJ ds k)) trivial ?_
 .intro k' v d vs ds h _ ih
  by_cases e:k'=k
  .have e1:RN ((k',v)::vs) k=AA v:=by simp[RN,e]
   have e2:VJ ((k',d)::ds) k=AA d:=by simp[VJ,e]
   rw[e1,e2];exact h
  .have e1:RN ((k',v)::vs) k=RN vs k:=by simp[RN,e]
   have e2:VJ ((k',d)::ds) k=VJ ds k:=by simp[VJ,e]
   rw[e1,e2];exact ih
theorem RepT.get(k:List Int){vs:List (List Key×V)}{ds:List (List Int×D)}(r:RepT K F vs ds):OpR1 K F (RN vs (k.map DK)) (VJ ds k):=by
 refine r.rec1 (T:=λvs ds=>OpR1 K F (RN vs (k.map DK)) (VJ ds k)) trivial ?_
 .intro k' v d vs ds h _ ih
  by_cases e:k'=k
  .have e1:RN ((k'.map DK,v)::vs) (k.map DK)=AA v:=by simp[RN,e]
   have e2:VJ ((k',d)::ds) k=AA d:=by simp[VJ,e]
   rw[e1,e2];exact h
  .have e':¬k'.map (DK:Int->Key)=k.map DK:=λz=>e (zD z)
   have e1:RN ((k'.map DK,v)::vs) (k.map DK)=RN vs (k.map DK):=by simp[RN,e']
   have e2:VJ ((k',d)::ds) k=VJ ds k:=by simp[VJ,e]
   rw[e1,e2];exact ih
theorem OpR1.isSome{o:Option V}{p:Option D}(h:OpR1 K F o p):o.isSome=p.isSome:=by
 cases o<;>cases p<;>first|rfl|exact h.elim
theorem OpR1.some_of{o:Option V}{d:D}(h:OpR1 K F o (AA d)):∃v,o=AA v/\Rep K F v d:=by
 cases o with
 |none=>exact h.elim
 |some v=>exact{v,rfl,h}
def sJ:D->D->Option (Option D)
 |.dk kvs,k=>(yD k).map (VJ kvs)
 |.dt kvs,.tup ks=>(QZ ks).map (VJ kvs)
 |_,_=>AH
theorem pAI{v u:V}{x y:D}{o:Option D}(s:Sub F H)(r1:Rep K F v x)(r2:Rep K F u y)(h:sJ x y=AA o):∃a ov,v=.ref a/\rH H a u ov/\OpR1 K F ov o:=by
 cases x with
 |dk kvs =>
  obtain⟨k,h1,h2⟩:=DF.mp (show(yD y).map (VJ kvs)=AA o from h);subst h2
  cases r1 with
  |dk hr r =>
   refine{_,_,rfl,.inl {_,k,s.rd hr,?_,rfl},r.get k};cases y<;>first|cases h1|skip
   .obtain rfl:=r2.vI;rfl
   .obtain rfl:=r2.vS;rfl
 |dt kvs =>
  cases y with
  |tup ks =>
   obtain⟨ns,h1,h2⟩:=DF.mp (show(QZ ks).map (VJ kvs)=AA o from h);subst h2;have:=uB h1;subst this
   cases r1 with
   |dt hr r =>
    generalize hk:ns.map D.int=kk at r2
    cases r2 with
    |tup hb rb =>
     subst hk;have:=rb.vint;subst this;refine{_,_,rfl,.inr {_,ns.map DK,_,s.rd hr,rfl,?_,rfl},r.get ns};rw[CT];exact s _ _ hb
    |@tupK a xs hb nb =>
     cases xs with
     |nil=>exact absurd rfl nb
     |cons x xs =>
      cases ns with
      |nil=>cases hk
      |cons n ns=>cases hk
  |_=>cases h
 |_=>cases h
end
def VU(x y:D):Out D:=match y with
 |.lst ds=>match pAH ds,x.py with
  |some ps,AA p=>if p.depth<=60 then .ok (.bl (ps.any λd=>DO d p)) else .bad
  |_,_=>.bad
 |.tup ds=>match pAH ds,x.py with
  |some ps,AA p=>if p.depth<=60 then .ok (.bl (ps.any λd=>DO d p)) else .bad
  |_,_=>.bad
 |y=>match sJ y x with
  |some o=>.ok (.bl o.isSome)
  |none=>.bad
def yJ3(x y:D):Out D:=(VU x y).bind λd=>match d with|.bl b=>.ok (.bl (!b))|_=>.bad
section
variable{K:AC}{a b:C5}{ga gb ge:G}
def Ap(dJ:Bool):R2:=λx y H Q=>∃a o,y=.ref a/\rH H a x o/\Q (.bl (if dJ then !o.isSome else o.isSome)) H
theorem zUF(hu:X.A.units+64<G3):OpR X (CO .In) (Ap AB):=λpins s σ H x y v u Q I rx ry h=>by
 obtain⟨a,o,rfl,g,q⟩:=h;cases ry;exact yKS 'l' I g rx λs3 I3=>{.bl _,H,I3,rfl,q}
theorem yBN(dJ:Bool){f:D->D->Out D}(hf:∀x y d,f x y=.ok d->∃b,VU x y=.ok (.bl b)/\d=.bl (if dJ then !b else b)):P5 K (λx y H Q=>Au K dJ x y H Q\/Ap dJ x y H Q) f:=λv u x y F H d Q s r1 r2 h k=>by
 obtain⟨b,hi,rfl⟩:=hf x y d h
 have vK:∀ds p (sq:SqL K H p ds\/SqT K H p ds) (xs:List D),Reps K F ds xs->u=.ref p->(match pAH xs,x.py with
   |some ps,AA p=>if p.depth<=60 then Out.ok (D.bl (ps.any λd=>DO d p)) else .bad
   |_,_=>.bad)=.ok (.bl b)->Au K dJ v u H Q:=λds p sq xs rr eu hh=>by
  split at hh
  .rename_i ps q e1 e2
   split at hh
   .rename_i hd
    cases hh;exact{p,ds,ps,q,eu,sq,rr.dv s _ e1,r1.dv s _ e2,hd,k _ F H (.refl s) (.bl _)}
   .cases hh
  .cases hh
 have Mi:(match sJ y x with|some o=>Out.ok (D.bl o.isSome)|none=>.bad)=.ok (.bl b)->Ap dJ v u H Q:=λhh=>by
  split at hh
  .rename_i o eo
   cases hh;obtain⟨a,ov,rfl,g,ro⟩:=pAI s r2 r1 eo;refine{a,ov,rfl,g,?_};rw[ro.isSome];exact k _ F H (.refl s) (.bl _)
  .cases hh
 cases y with
 |lst ds =>
  obtain⟨p,vs,rfl,hr,rr⟩:=r2.isRefL;exact .inl (vK vs p (.inl (hr.imp s.rd id)) ds rr rfl hi)
 |tup ds =>
  obtain⟨p,vs,rfl,rr,sq⟩:=r2.tupSq;exact .inl (vK vs p (.inr (sq F H (.refl _) s)) ds rr rfl hi)
 |_=>exact .inr (Mi hi)
theorem yFJ{x y d:D}(h:VU x y=.ok d):∃b,d=.bl b:=by
 unfold VU at h;split at h
 .split at h
  .split at h
   .cases h;exact{_,rfl}
   .cases h
  .cases h
 .split at h
  .split at h
   .cases h;exact{_,rfl}
   .cases h
  .cases h
 .split at h
  .cases h;exact{_,rfl}
  .cases h
theorem yFK:P5 K (λx y H Q=>Au K AB x y H Q\/Ap AB x y H Q) VU:=yBN AB λx y d h=>by
 obtain⟨b,rfl⟩:=yFJ h;exact{b,h,rfl}
theorem Hh(hu:X.A.units+64<G3)(ha:VE X a ga)(hb:VE X b gb)(hm:CY .In b=AB:=by with_unfolding_all rfl):VT X (.Compare a [.In] [b] pos) (gB (g2 VU ga gb)):=fR ((yE5 hu).or (zUF hu)) yFK ha hb hm
noncomputable def ZF(x y:D):Out D:=match y with
 |.non=>match x with
  |.non=>.ok (.bl AG)
  |_=>.ok (.bl AB)
 |_=>.bad
noncomputable def sI(x y:D):Out D:=match y with
 |.non=>match x with
  |.non=>.ok (.bl AB)
  |_=>.ok (.bl AG)
 |_=>.bad
theorem Rep.nonV{v:V}{x:D}(r:Rep K F v x):v=.non↔x=.non:=by
 constructor
 .intro e;subst e;cases r;rfl
 .intro e;subst e;cases r;rfl
theorem yFL{x y d:D}(h:ZF x y=.ok d):y=.non/\d=.bl (open Classical in decide (x=.non)):=by
 cases y with
 |non=>cases x<;>(injection h with h;exact{rfl,by rw[<-h];simp})
 |_=>cases h
theorem yBP{x y d:D}(h:sI x y=.ok d):y=.non/\d=.bl (!(open Classical in decide (x=.non))):=by
 cases y with
 |non=>cases x<;>(injection h with h;exact{rfl,by rw[<-h];simp})
 |_=>cases h
theorem yBQ:P5 K (λx y H Q=>y=.non/\Q (.bl (decide (x=.non))) H) ZF:=λv u x y F H d Q s r1 r2 hf k=>by
 have h:=yFL hf;refine{r2.nonV.mpr h.1,k _ F H (.refl s) ?_};rw[h.2,decide_eq_decide.mpr r1.nonV];exact .bl _
theorem zXJ:P5 K (λx y H Q=>y=.non/\Q (.bl (!decide (x=.non))) H) sI:=λv u x y F H d Q s r1 r2 hf k=>by
 have h:=yBP hf;refine{r2.nonV.mpr h.1,k _ F H (.refl s) ?_};rw[h.2,decide_eq_decide.mpr r1.nonV];exact .bl _
theorem Mv(ha:VE X a ga)(hb:VE X b gb)(hm:CY .Is b=AB:=by with_unfolding_all rfl):VT X (.Compare a [.Is] [b] pos) (gB (g2 ZF ga gb)):=fR yEO yBQ ha hb hm
theorem yBR(ha:VE X a ga)(hb:VE X b gb)(hm:CY .IsNot b=AB:=by with_unfolding_all rfl):VT X (.Compare a [.IsNot] [b] pos) (gB (g2 sI ga gb)):=fR yAS zXJ ha hb hm
def T9(x y:D):Out D:=match x,y with
 |.int i,.int j=>.ok (.bl (decide (i<j)))
 |.tup xs,.tup ys=>match QZ xs,QZ ys with
  |some ns,AA ms=>.ok (.bl (HT.lexLt ns ms))
  |_,_=>.bad
 |_,_=>.bad
theorem Rep.intsT{v:V}{ds:List D}(s:Sub F H)(r:Rep K F v (.tup ds))(h:QZ ds=AA ns):∃a,v=.ref a/\SqT K H a (ns.map V.int):=by
 have:=uB h;subst this;obtain⟨a,vs,rfl,rr,sq⟩:=r.tupSq;have:=rr.vint;subst this;exact{a,rfl,sq F H (.refl _) s}
theorem Ct:P5 K (λx y H Q=>ZR (λi j=>.bl (decide (i<j))) x y H Q\/Gs K x y H Q) T9:=λv u x y F H d Q s r1 r2 hf k=>by
 unfold T9 at hf;split at hf
 .cases hf;obtain rfl:=r1.vI;obtain rfl:=r2.vI
  exact .inl {_,_,rfl,rfl,k _ F H (.refl s) (.bl _)}
 .split at hf
  .rename_i e1 e2
   cases hf;obtain⟨a,rfl,h1⟩:=r1.intsT s e1;obtain⟨b,rfl,h2⟩:=r2.intsT s e2;exact .inr {a,b,_,_,rfl,rfl,h1,h2,k _ F H (.refl s) (.bl _)}
  .cases hf
 .cases hf
noncomputable def uJ(p:Int->Int->Bool)(x y:D):Out D:=match x,y with
 |.int i,.int j=>.ok (.bl (p i j))
 |_,_=>.bad
theorem ZO(p:Int->Int->Bool):P5 K (ZR λi j=>.bl (p i j)) (uJ p):=λv u x y F H d Q s r1 r2 hf k=>by
 unfold uJ at hf;split at hf
 .cases hf;obtain rfl:=r1.vI;obtain rfl:=r2.vI
  exact{_,_,rfl,rfl,k _ F H (.refl s) (.bl _)}
 .cases hf
abbrev OM:=uJ λi j=>decide (i<=j)
abbrev YU:=uJ λi j=>decide (j<i)
abbrev kQ:=uJ λi j=>decide (j<=i)
theorem yC(hu:X.A.units+64<G3)(ha:VE X a ga)(hb:VE X b gb)(hm:CY .Lt b=AB:=by with_unfolding_all rfl):VT X (.Compare a [.Lt] [b] pos) (gB (g2 T9 ga gb)):=fR (dA.or (Db (AL (AY _ _) hu))) Ct ha hb hm
theorem yK1(hu:X.A.units+64<G3)(ha:VE X a ga)(hb:VE X b gb)(hm:CY .Lt b=AB:=by with_unfolding_all rfl):VE X (.Compare a [.Lt] [b] pos) (g2 T9 ga gb):=yK (dA.or (Db (AL (AY _ _) hu))) Ct ha hb hm
theorem Hg(ha:VE X a ga)(hb:VE X b gb)(hm:CY .Gt b=AB:=by with_unfolding_all rfl):VT X (.Compare a [.Gt] [b] pos) (gB (g2 YU ga gb)):=fR yH3 (ZO _) ha hb hm
theorem Wu(ha:VE X a ga)(hb:VE X b gb)(hm:CY .GtE b=AB:=by with_unfolding_all rfl):VT X (.Compare a [.GtE] [b] pos) (gB (g2 kQ ga gb)):=fR yH4 (ZO _) ha hb hm
def SV(f f':D->D->Out D)(ga gb gc:G):G:=λE=>(ga E).bind λp=>(gb p.2).bind λq=>(f p.1 q.1).bind λd=>match d with
 |.bl AG=>(gc q.2).bind λr=>(f' q.1 r.1).bind λd'=>.ok (d',r.2)
 |.bl AB=>.ok (.bl AB,q.2)
 |_=>.bad
end
section
variable{K:AC}{a b:C5}{ga gb gc ge:G}{gs:List G}{id T:String}
theorem Qp{r:R2}{f f':D->D->Out D}(h1:P5 K r f)(h2:P5 K r' f'){Q:VK}(h:tV K H₀ (SV f f' ga gb gc) σ H Q):Dd r r' (tV K H₀ ga) (tV K H₀ gb) (tV K H₀ gc) σ H Q:=by
 obtain⟨τ,F,E,d,E',S,hg,k⟩:=h;obtain⟨p,ea,hg⟩:=pA3 hg;obtain⟨q,eb,hg⟩:=pA3 hg;obtain⟨z,ef,hg⟩:=pA3 hg;refine{τ,F,E,p.1,p.2,S,ea,λv F1 H1 st1 S1 r1=>{τ,F1,p.2,q.1,q.2,S1,eb,λu F2 H2 st2 S2 r2=>?_}};refine h1 v u p.1 q.1 F2 H2 z _ S2.sub (r1.le st2.le) r2 ef λy F3 H3 n r3=>?_;have S3:=S2.new n;have LJ:=(st1.trans st2).trans (n.stp (ow:=DU _ q.2));split at hg
 .obtain rfl:=r3.vB
  obtain⟨w,ec,hg⟩:=pA3 hg;obtain⟨d',ef',hg⟩:=pA3 hg;cases hg;refine{AG,rfl,Gk {τ,F3,q.2,w.1,w.2,S3,ec,λw' F4 H4 bK S4 r4=>?_}};exact h2 u w' q.1 w.1 F4 H4 d Q S4.sub ((r2.le n.1.le).le bK.le) r4 ef' λy F5 H5 n5 r5=>k y F5 H5 ((LJ.trans bK).trans n5.stp) (S4.new n5) r5
 .obtain rfl:=r3.vB
  cases hg;exact{AB,rfl,Gm (k _ F3 H3 LJ S3 (.bl AB))}
 .cases hg
theorem yBT{r:R2}{f f':D->D->Out D}(ho:OpR X (CO op) r)(h1:P5 X.K r f)(XU:OpR X (CO bO) r')(h2:P5 X.K r' f')(ha:VE X a ga)(hb:VE X b gb)(hc:VE X c gc)
  (hm:bY [op,bO] [b,c]=AB:=by with_unfolding_all rfl):VE X (.Compare a [op,bO] [b,c] pos) (SV f f' ga gb gc):=(zWH ho XU ha hb hc hm).imp λ_ _ _ h=>Qp h1 h2 h
theorem tW{r:R2}{f f':D->D->Out D}(ho:OpR X (CO op) r)(h1:P5 X.K r f)(XU:OpR X (CO bO) r')(h2:P5 X.K r' f')(ha:VE X a ga)(hb:VE X b gb)(hc:VE X c gc)
  (hm:bY [op,bO] [b,c]=AB:=by with_unfolding_all rfl):VT X (.Compare a [op,bO] [b,c] pos) (gB (SV f f' ga gb gc)):=(zWI ho XU ha hb hc hm).imp λσ H Q h=>by
 obtain⟨τ,F,E,b',E',S,hg,k⟩:=h;obtain⟨p,ea,hg⟩:=pA3 hg;refine Qp h1 h2 {τ,F,E,p.1,p.2,S,ea,λv F1 H1 st1 S1 r1=>?_};split at hg
 .rename_i b' eb
  cases hg;rw[eb] at r1;obtain rfl:=r1.vB;exact{_,rfl,k F1 H1 st1 S1}
 .cases hg
def Wt(K:AC):R2:=λx y H Q=>∃l b xs zs,x=.ref l/\y=.ref b/\SqL K H l xs/\SqL K H b zs/\xs.length+zs.length<=sizeLine/\∀p,H p=AH->Q (.ref p) (EV H p (.lst (xs++zs)))
theorem iQ:OpR X (HH .Add) (Wt X.K):=by
 intro pins s σ H x y v u Q I rx ry h;obtain⟨l,b,xs,zs,rfl,rfl,hH,hB,hz,q⟩:=h;cases rx;cases ry;obtain⟨CP,r,pl,z⟩:=I.list hH;obtain⟨L8,r2,pl2,z2⟩:=I.list hB;obtain⟨⟨oc,od,oda,bN⟩,n,e,e1,e2,e3⟩:=pl;obtain⟨⟨Yy,Yx,oda',Jm⟩,n',e',Mg,Mf,e3'⟩:=pl2;dsimp only at e1 e2 e3 Mg Mf e3';subst e1 e2 e3 Mg Mf e3';have hl:=r.length;have bT:=r2.length;refine TZ {_,e,rfl} {_,e',rfl} noFill_list_add seq_list_add F.slot_list_add F.entry_list_add (F.args_list_add_2 _ _) (list_addW l b CP.toArray L8.toArray n n' AH AH bN Jm (by rw[A5,A5];lia)) {e,e',?_};have ea:CP.toArray++L8.toArray=(CP++L8).toArray:=by simp
 rw[ea];exact{.ref _,_,I.lnew (t':=s.toks) (r.append r2) (by rw[BI];lia),rfl,q _ I.fresh}
def Ws(K:AC):R2:=λx y H Q=>∃a b xs ys,x=.ref a/\y=.ref b/\SqT K H a xs/\SqT K H b ys/\xs.length+ys.length<=sizeLine/\(xs=[]->Q (.ref b) H)/\(ys=[]->Q (.ref a) H)/\∀p,H p=AH->Q (.ref p) (EV H p (.tup (xs++ys)))
theorem iP:OpR X (HH .Add) (Ws X.K):=by
 intro pins s σ H x y v u Q I rx ry h;obtain⟨a,b,xs,ys,rfl,rfl,ha,hb,hz,q1,q2,q3⟩:=h;cases rx;cases ry;obtain⟨CP,r1,p1,_⟩:=I.tuple ha;obtain⟨L8,r2,p2,_⟩:=I.tuple hb;refine yBC p1 p2 (λz=>{.ref b,H,I,rfl,q1 (r1.nil_iff.mp z)}) (λ_ z=>{.ref a,H,I,rfl,q2 (r2.nil_iff.mp z)}) (λ_ z=>?_) (by rw[<-r1.length,<-r2.length];exact hz);exact{.ref s.heap.objs.size,_,I.laid (t':=s.toks) (o:=.tup (xs++ys)) (λb ob q=>AJ _ q) (AO _) {by rw[BI];exact hz,_,r1.append r2,IsTupP.new _ _},rfl,q3 _ I.fresh}
theorem bI(h:n<10000):n<=sizeLine:=CM (j9 h)
def IH(x y:D):Out D:=match x,y with
 |.int i,.int j=>.ok (.int (i+j))
 |.lst xs,.lst ys=>RS (xs.length+ys.length) (.ok (.lst (xs++ys)))
 |.tup xs,.tup ys=>RS (xs.length+ys.length) (.ok (.tup (xs++ys)))
 |.str s,.str t=>RS (s.length+t.length) (.ok (.str (s++t)))
 |_,_=>.bad
abbrev Wr(K:AC):R2:=λx y H Q=>ZR (λi j=>.int (i+j)) x y H Q\/Wt K x y H Q\/Ws K x y H Q\/(∃i j,x=.str i/\y=.str j/\i.length+j.length<=sizeLine/\Q (.str (i++j)) H)
theorem yBU:OpR X (HH .Add) (Wr X.K):=nU.or (iQ.or (iP.or zRZ))
theorem yBV:P5 K (Wr K) IH:=λv u x y F H d Q s r1 r2 hf k=>by
 unfold IH at hf;split at hf
 .cases hf;obtain rfl:=r1.vI;obtain rfl:=r2.vI
  exact .inl {_,_,rfl,rfl,k _ F H (.refl s) (.int _)}
 .obtain⟨hl,hf⟩:=XI hf
  cases hf;obtain⟨a,vs,rfl,h1,h2⟩:=r1.isRefL;obtain⟨b,ws,rfl,h3,h4⟩:=r2.isRefL;refine .inr (.inl {a,b,vs,ws,rfl,rfl,h1.imp s.rd id,h3.imp s.rd id,by rw[h2.length,h4.length];exact bI hl,λq hq=>?_});have n:=New.laid (o:=.lst (vs++ws)) s hq;exact k _ _ _ n (.lst (.inl (.inl JU)) ((h2.append h4).le n.1.le))
 .obtain⟨hl,hf⟩:=XI hf
  cases hf;obtain⟨a,vs,rfl,h2,h1⟩:=r1.tupSq;obtain⟨b,ws,rfl,h4,h3⟩:=r2.tupSq;refine .inr (.inr (.inl {a,b,vs,ws,rfl,rfl,h1 F H (.refl _) s,h3 F H (.refl _) s,by rw[h2.length,h4.length];exact bI hl,λz=>?_,λz=>?_,λq hq=>?_}))
  .have:=h2.nil_iff.mp z
   subst this;exact k _ F H (.refl s) r2
  .have:=h4.nil_iff.mp z
   subst this;rw[EH] at k;exact k _ F H (.refl s) r1
  .have n:=New.laid (o:=.tup (vs++ws)) s hq
   exact k _ _ _ n (.tup JU ((h2.append h4).le n.1.le))
 .obtain⟨hl,hf⟩:=XI hf
  cases hf;obtain rfl:=r1.vS;obtain rfl:=r2.vS;exact .inr (.inr (.inr {_,_,rfl,rfl,bI hl,k _ F H (.refl s) (.str _)}))
 .cases hf
theorem NT(ha:VE X a ga)(hb:VE X b gb):VE X (.BinOp a .Add b pos) (g2 IH ga gb):=rD yBU yBV ha hb
noncomputable def g8(x y:D):Out D:=match x,y with
 |.int i,.int j=>.ok (.int (i-j))
 |_,_=>.bad
theorem yBW:P5 K (ZR λi j=>.int (i-j)) g8:=λv u x y F H d Q s r1 r2 hf k=>by
 unfold g8 at hf;split at hf
 .cases hf;obtain rfl:=r1.vI;obtain rfl:=r2.vI
  exact{_,_,rfl,rfl,k _ F H (.refl s) (.int _)}
 .cases hf
theorem yB(ha:VE X a ga)(hb:VE X b gb):VE X (.BinOp a .Sub b pos) (g2 g8 ga gb):=rD yEJ yBW ha hb
def guard(c:Prop)[Decidable c](y:Out α):Out α:=if c then y else .bad
theorem iH{c:Prop}[Decidable c]{y:Out α}{z:α}(h:guard c y=.ok z):c/\y=.ok z:=by
 unfold guard at h;split at h
 .exact{by assumption,h}
 .cases h
def qN(i:Int):Prop:=-(2 ^ 64)<i/\i<2 ^ 64
instance (i:Int):Decidable (qN i):=inferInstanceAs (Decidable (_/\_))
def XB(x y:D):Out D:=match x,y with
 |.int i,.int j=>guard (qN i\/qN j) (.ok (.int (i * j)))
 |_,_=>.bad
theorem yBX:P5 K (rI CMul λi j=>.int (i * j)) XB:=λv u x y F H d Q s r1 r2 hf k=>by
 unfold XB at hf;split at hf
 .obtain⟨hc,hf⟩:=iH hf
  cases hf;obtain rfl:=r1.vI;obtain rfl:=r2.vI;exact{_,_,rfl,rfl,hc,k _ F H (.refl s) (.int _)}
 .cases hf
theorem yA(ha:VE X a ga)(hb:VE X b gb):VE X (.BinOp a .Mult b pos) (g2 XB ga gb):=rD yEK yBX ha hb
def l9(x y:D):Out D:=match x,y with
 |.int i,.int j=>guard (0<j/\j<2 ^ 200) (.ok (.int (i / j)))
 |_,_=>.bad
def Wq(_ j:Int):Prop:=0<j/\j<2 ^ 200
theorem zXO:OpR X (HH .FloorDiv) (rI Wq λi j=>.int (i / j)):=Be λi j _ _ _ _ _ hc q=>by
 refine floordiv_int (by have:=hc.1;lia) (by rw[Int.fdiv_eq_ediv_of_nonneg _ (YD hc.1)];exact q) (.inl (PyProof.noPylong_of_log2 ?_));have h1:=hc.1;have h2:=hc.2;refine AM ((Nat.log2_lt 'l').mpr (show j.natAbs<2 ^ 200 by lia)) 'd'
theorem zXP:P5 K (rI Wq λi j=>.int (i / j)) l9:=λv u x y F H d Q s r1 r2 hf k=>by
 unfold l9 at hf;split at hf
 .obtain⟨hc,hf⟩:=iH hf
  cases hf;obtain rfl:=r1.vI;obtain rfl:=r2.vI;exact{_,_,rfl,rfl,hc,k _ F H (.refl s) (.int _)}
 .cases hf
theorem Mu(ha:VE X a ga)(hb:VE X b gb):VE X (.BinOp a .FloorDiv b pos) (g2 l9 ga gb):=rD zXO zXP ha hb
def T7(x y:D):Out D:=match x,y with
 |.int i,.int j=>guard (0<j) (.ok (.int (i % j)))
 |_,_=>.bad
theorem yBY:P5 K (rI (λ_ j=>0<j) λi j=>.int (i % j)) T7:=λv u x y F H d Q s r1 r2 hf k=>by
 unfold T7 at hf;split at hf
 .obtain⟨hc,hf⟩:=iH hf
  cases hf;obtain rfl:=r1.vI;obtain rfl:=r2.vI;exact{_,_,rfl,rfl,hc,k _ F H (.refl s) (.int _)}
 .cases hf
theorem jZ(ha:VE X a ga)(hb:VE X b gb):VE X (.BinOp a .Mod b pos) (g2 T7 ga gb):=rD yEL yBY ha hb
def aY(x y:D):Out D:=match x,y with
 |.int i,.int j=>guard (0<=j/\j<=1000000/\i.natAbs<2 ^ 64) (.ok (.int (i ^ j.toNat)))
 |_,_=>.bad
theorem yBZ:P5 K (rI Vr λi j=>.int (i ^ j.toNat)) aY:=λv u x y F H d Q s r1 r2 hf k=>by
 unfold aY at hf;split at hf
 .obtain⟨hc,hf⟩:=iH hf
  cases hf;obtain rfl:=r1.vI;obtain rfl:=r2.vI;exact{_,_,rfl,rfl,hc,k _ F H (.refl s) (.int _)}
 .cases hf
theorem xZ(ha:VE X a ga)(hb:VE X b gb):VE X (.BinOp a .Pow b pos) (g2 aY ga gb):=rD yEM yBZ ha hb
noncomputable def g7(x:D):Out D:=match x with
 |.int i=>.ok (.int (-i))
 |_=>.bad
theorem yB0:Hz K (rU λi=>.int (-i)) g7:=λv x F H d Q s r hf k=>by
 unfold g7 at hf;split at hf
 .cases hf;obtain rfl:=r.vI
  exact{_,rfl,k _ F H (.refl s) (.int _)}
 .cases hf
theorem Wp(ha:VE X a ga):VE X (.UnaryOp .USub a pos) (g1 g7 ga):=yKX yEN yB0 ha
theorem Reps.atI{vs:List V}{ds:List D}{i:Int}{d:D}(r:Reps K F vs ds)(h:L2.atI ds i=AA d):∃v,L2.atI vs i=AA v/\Rep K F v d:=by
 unfold L2.atI at h ⊢;rw[r.length]
 cases q:bJ ds.length i with
 |none=>rw[q] at h;cases h
 |some j =>
  rw[q] at h;obtain⟨v,h1,h2⟩:=r.get (show ds[j]?=AA d from h);exact{v,h1,h2}
def FG(x y:D):Out D:=match x,y with
 |.lst ds,.int i=>match L2.atI ds i with
  |some d=>.ok d
  |none=>.bad
 |.tup ds,.int i=>match L2.atI ds i with
  |some d=>.ok d
  |none=>.bad
 |.str z,.int i=>RS z.length (match L2.atI z.cps.toList i with
  |some c=>.ok (.str {#[c]})
  |none=>.bad)
 |x,y=>match sJ x y with
  |some (AA d)=>.ok d
  |_=>.bad
def Ds:R2:=λx y H Q=>∃a v,x=.ref a/\rH H a y (AA v)/\Q v H
theorem yB1(hu:X.A.units+64<G3):IxR X Ds:=by
 intro JV PJ pins s σ H x y v u Q I rx ry h hs;obtain⟨a,w,rfl,g,q⟩:=h;cases rx;refine jF (zO4 I g) PySem.F.slot_dict_getitem.lookup (zTG (A:=X.A) 'l' I g ry λw' s3 I3 NA=>{w,H,I3,NA,q}) hs
theorem yFT:P5 K (λx y H Q=>Xp K x y H Q\/Ds x y H Q) FG:=λv u x y F H d Q s r1 r2 hf k=>by
 have Mi:(match sJ x y with|some (AA d)=>Out.ok d|_=>.bad)=.ok d->Ds v u H Q:=λhh=>by
  split at hh
  .rename_i d' eo
   cases hh;obtain⟨a,ov,rfl,g,ro⟩:=pAI s r1 r2 eo;obtain⟨w,rfl,NA⟩:=ro.some_of;exact{a,w,rfl,g,k _ F H (.refl s) NA}
  .cases hh
 unfold FG at hf;split at hf
 .split at hf
  .rename_i d' e
   cases hf;obtain⟨a,vs,rfl,h1,h2⟩:=r1.isRefL;obtain⟨w,h3,h4⟩:=h2.atI e;obtain rfl:=r2.vI;exact .inl (.inl {a,vs,_,w,rfl,rfl,h1.imp s.rd id,h3,k _ F H (.refl s) h4})
  .cases hf
 .split at hf
  .rename_i d' e
   cases hf;obtain⟨a,vs,rfl,h2,h1⟩:=r1.tupSq;obtain⟨w,h3,h4⟩:=h2.atI e;obtain rfl:=r2.vI;exact .inl (.inr (.inl {a,vs,_,w,rfl,rfl,h1 F H (.refl _) s,h3,k _ F H (.refl s) h4}))
  .cases hf
 .obtain⟨hl,hf⟩:=XI hf
  split at hf
  .rename_i c e
   cases hf;obtain rfl:=r1.vS;obtain rfl:=r2.vI;exact .inl (.inr (.inr {_,_,c,rfl,rfl,bI hl,e,k _ F H (.refl s) (.str _)}))
  .cases hf
 .exact .inr (Mi hf)
theorem KC(hu:X.A.units+64<G3)(ha:VE X a ga)(hb:VE X b gb)(hs:tN b:=by intro _ _;rfl):VE X (.Subscript a b pos) (g2 FG ga gb):=(Wz (nX.or (yB1 hu)) ha hb hs).imp λ_ _ _ h=>yL yFT h
noncomputable def PF(xs:List α)(lo hi:Option Int):List α:=(xs.drop (HT.sIx xs.length 0 lo)).take (HT.sIx xs.length xs.length hi-HT.sIx xs.length 0 lo)
theorem Reps.cut{vs:List V}{ds:List D}(r:Reps K F vs ds)(lo hi:Option Int):Reps K F (YJ vs lo hi) (PF ds lo hi):=by
 unfold YJ PF;rw[r.length];exact(r.drop _).take _
def yK2(K:AC):V->Option Int->Option Int->Hp->VK->Prop:=λx lo hi H Q=>∃a xs,x=.ref a/\SqT K H a xs/\(YJ xs lo hi=xs->Q (.ref a) H)/\∀p,H p=AH->Q (.ref p) (EV H p (.tup (YJ xs lo hi)))
theorem iL:SlR X (yK2 X.K):=by
 intro pins s σ H x v vl vu lo hi sl Q I rx hs pl pu h;obtain⟨a,xs,rfl,hx,q1,q2⟩:=h
 by_cases hw:HT.sIx xs.length 0 lo=0/\HT.sIx xs.length xs.length hi=xs.length
 .cases rx
  obtain⟨CP,r,ht,hz⟩:=I.tuple hx;have FP:CP.toArray.size=xs.length:=by rw[A5];exact r.length.symm
  refine{"tuple",_,DT.lookup,ht.typeIs,?_};exact zF6 ht hs pl pu (by rw[FP];exact hw) {.ref a,H,I,rfl,q1 (zTU hw)}
 .exact yET pins s σ H (.ref a) v vl vu lo hi sl Q I rx hs pl pu {a,xs,rfl,hx,hw,q2}
def ZK:Option G->Ev->Out (Option Int×Ev)
 |none,E=>.ok (AH,E)
 |some g,E=>(g E).bind λp=>match p.1 with|.int i=>.ok (AA i,p.2)|_=>.bad
def tPt(K:AC)(H₀:Hp)(g:Option G):TO:=λσ H Q=>∃τ F E o E',Sim K H₀ τ F H σ E/\ZK g E=.ok (o,E')/\∀F' H',Stp (DU σ E) F H F' H' (DU σ E')->Sim K H₀ τ F' H' σ E'->Q o H'
theorem PO.imp{oe:Option C5}{t t':TO}(h:PO X oe t)(hi:∀σ H Q,t' σ H Q->t σ H Q):PO X oe t':=λpins s σ H Q I q=>h pins s σ H Q I (hi σ H Q q)
abbrev VO(X:Cx)(oe:Option C5)(g:Option G):Prop:=PO X oe (tPt X.K X.H₀ g)
theorem T8:VO X AH AH:=iN.imp λσ H Q h=>by
 obtain⟨τ,F,E,o,E',S,hg,k⟩:=h;cases hg;exact k F H .refl S
theorem Q0(h:VE X e ge):VO X (AA e) (AA ge):=(yAY h).imp λσ H Q h=>by
 obtain⟨τ,F,E,o,E',S,hg,k⟩:=h;obtain⟨p,ea,hg⟩:=pA3 hg;refine{τ,F,E,p.1,p.2,S,ea,λv F1 H1 s1 S1 r1=>?_};split at hg
 .rename_i i ei
  cases hg;rw[ei] at r1;obtain rfl:=r1.vI;exact{i,rfl,k F1 H1 s1 S1}
 .cases hg
def Wb(x:D)(lo hi:Option Int):Out D:=match x with
 |.tup ds=>.ok (.tup (PF ds lo hi))
 |.lst ds=>.ok (.lst (PF ds lo hi))
 |_=>.bad
def OI(g:G)(lo hi:Option G):G:=λE=>(g E).bind λp=>(ZK lo p.2).bind λq=>(ZK hi q.2).bind λr=>(Wb p.1 q.1 r.1).bind λd=>.ok (d,r.2)
theorem UM{lo hi:Option C5}{gl gh:Option G}(he:VE X e ge)(hl:VO X lo gl)(hh:VO X hi gh):VE X (.Subscript e (.Slice lo hi AH p2) pos) (OI ge gl gh):=(Rb (iL.or yA0) he hl hh).imp λσ H Q h=>by
 obtain⟨τ,F,E,d,E',S,hg,k⟩:=h;obtain⟨p,e1,hg⟩:=pA3 hg;obtain⟨q,e2,hg⟩:=pA3 hg;obtain⟨r,e3,hg⟩:=pA3 hg;obtain⟨z,e4,hg⟩:=pA3 hg;cases hg;refine{τ,F,E,p.1,p.2,S,e1,λv F1 H1 s1 S1 r1=>{τ,F1,p.2,q.1,q.2,S1,e2,λF2 H2 s2 S2=>{τ,F2,q.2,r.1,r.2,S2,e3,λF3 H3 s3 S3=>?_}}};have vL:=(r1.le s2.le).le s3.le;have st:=(s1.trans s2).trans s3;unfold Wb at e4;split at e4
 .rename_i ds ed
  cases e4;rw[ed] at vL;obtain⟨a,vs,rfl,h2,h1⟩:=vL.tupSq;refine .inl {a,vs,rfl,h1 F3 H3 (.refl _) S3.sub,λz=>k _ F3 H3 st S3 ?_,λq' hq=>?_}
  .have:PF ds q.1 r.1=ds:=by
    have h5:=h2.cut q.1 r.1;rw[z] at h5;have h6:=h5.length;have h7:=h2.length;have h8:(PF ds q.1 r.1).Sublist ds:=(fB _ _).trans (List.drop_sublist _ _);exact h8.eq_of_length 'l'
   rw[this];exact vL
  .have n:=New.laid (o:=.tup (YJ vs q.1 r.1)) S3.sub hq
   exact k _ _ _ (st.trans n.stp) (S3.new n) (.tup JU ((h2.cut q.1 r.1).le n.1.le))
 .rename_i ds ed
  cases e4;rw[ed] at vL;obtain⟨a,vs,rfl,h1,h2⟩:=vL.isRefL;refine .inr {a,vs,rfl,h1.imp S3.sub.rd id,λq' hq=>?_};have n:=New.laid (o:=.lst (YJ vs q.1 r.1)) S3.sub hq;exact k _ _ _ (st.trans n.stp) (S3.new n) (.lst (.inl (.inl JU)) ((h2.cut q.1 r.1).le n.1.le))
 .cases e4
def gN(f:List D->Out D)(gs:List G):G:=λE=>(M6 gs E).bind λp=>(f p.1).bind λd=>.ok (d,p.2)
def fN(K:AC)(r:List V->Hp->VK->Prop)(f:List D->Out D):Prop:=∀vs xs F H d Q,Sub F H->Reps K F vs xs->f xs=.ok d->(∀z F' H',New F H F' H'->Rep K F' z d->Q z H')->r vs H Q
def sH(K:AC)(r:List V->Hp->VK->Prop)(f:List D->Out D):Prop:=∀vs xs F H d Q,Sub F H->Reps K F vs xs->f xs=.ok d->(∀a F' H',New F H F' H'->F' a=AH->H a=AH->OwnAt K F' H' a d->Q (.ref a) H')->r vs H Q
theorem Wo{r:List V->Hp->VK->Prop}{f:List D->Out D}(hs:fN K r f){Q:VK}(h:tV K H₀ (gN f gs) σ H Q):Bb r (iK K H₀ gs) σ H Q:=by
 obtain⟨τ,F,E,d,E',S,hg,k⟩:=h;obtain⟨p,e1,hg⟩:=pA3 hg;obtain⟨z,e2,hg⟩:=pA3 hg;cases hg;exact{τ,F,E,p.1,p.2,S,e1,λvs F1 H1 s1 S1 r1=>hs vs p.1 F1 H1 d Q S1.sub r1 e2 λz F2 H2 n r2=>k z F2 H2 (s1.trans n.stp) (S1.new n) r2}
theorem Wn{r:List V->Hp->VK->Prop}{f:List D->Out D}(hs:sH K r f){Q:VK}(h:tF K H₀ (gN f gs) σ H Q):Bb r (iK K H₀ gs) σ H Q:=by
 obtain⟨τ,F,E,d,E',S,hg,k⟩:=h;obtain⟨p,e1,hg⟩:=pA3 hg;obtain⟨z,e2,hg⟩:=pA3 hg;cases hg;exact{τ,F,E,p.1,p.2,S,e1,λvs F1 H1 s1 S1 r1=>hs vs p.1 F1 H1 d Q S1.sub r1 e2 λa F2 H2 n h1 h2 h3=>k a F2 H2 (s1.trans n.stp) (S1.new n) h1 (s1.dom a h2) h3 (S1.fresh h2)}
theorem xY{r:List V->Hp->VK->Prop}{f:List D->Out D}(hc:CallR X (.builtin id) r)(hs:fN X.K r f)(hm:X.mg x=AH)(hv:GA x=AA (.builtin id))(ha:VA X (e::es) gs)(hg:Gl X x:=by rfl)(hn:x≠"__name__":=by decide)(RD:(x==("__debug__":BL))=AB:=by decide)
  (he:AF (e::es) X.env=(AB,eval e X.env)::AF es X.env:=by rfl) (HZ:(CZ pos (AF es X.env)).any (·.1)=AB:=by rfl):VE X (.Call (.Name x p) (e::es) [] pos) (gN f gs):=(zQ hc hg hm hv ha hn RD he HZ).imp λ_ _ _ h=>Wo hs h
theorem yIM{r:List V->Hp->VK->Prop}{f:List D->Out D}(hc:CallR X (.builtin id) r)(hs:sH X.K r f)(hm:X.mg x=AH)(hv:GA x=AA (.builtin id))(ha:VA X (e::es) gs)(hg:Gl X x:=by rfl)(hn:x≠"__name__":=by decide)(RD:(x==("__debug__":BL))=AB:=by decide)
  (he:AF (e::es) X.env=(AB,eval e X.env)::AF es X.env:=by rfl) (HZ:(CZ pos (AF es X.env)).any (·.1)=AB:=by rfl):FE X (.Call (.Name x p) (e::es) [] pos) (gN f gs):=(zQ hc hg hm hv ha hn RD he HZ).imp λ_ _ _ h=>Wn hs h
theorem Gi{r:List V->Hp->VK->Prop}{f:List D->Out D}(hc:CallR X (.type T) r)(hs:fN X.K r f)(hm:X.mg x=AH)(hv:GA x=AA (.type T))(ha:VA X (e::es) gs)(hg:Gl X x:=by rfl)(hn:x≠"__name__":=by decide)(RD:(x==("__debug__":BL))=AB:=by decide)
  (he:AF (e::es) X.env=(AB,eval e X.env)::AF es X.env:=by rfl) (HZ:(CZ pos (AF es X.env)).any (·.1)=AB:=by rfl):VE X (.Call (.Name x p) (e::es) [] pos) (gN f gs):=(uC hc hg hm hv ha hn RD he HZ).imp λ_ _ _ h=>Wo hs h
theorem yK3{r:List V->Hp->VK->Prop}{f:List D->Out D}(hc:CallR X (.type T) r)(hs:sH X.K r f)(hm:X.mg x=AH)(hv:GA x=AA (.type T))(ha:VA X (e::es) gs)(hg:Gl X x:=by rfl)(hn:x≠"__name__":=by decide)(RD:(x==("__debug__":BL))=AB:=by decide)
  (he:AF (e::es) X.env=(AB,eval e X.env)::AF es X.env:=by rfl) (HZ:(CZ pos (AF es X.env)).any (·.1)=AB:=by rfl):FE X (.Call (.Name x p) (e::es) [] pos) (gN f gs):=(uC hc hg hm hv ha hn RD he HZ).imp λ_ _ _ h=>Wn hs h
end
def Hu(a b:Int):Bool:=decide (a<=b)
def pR(ns:List Int):List Int:=ns.mergeSort Hu
theorem zSF(ns:List Int):(pR ns).Perm ns:=aS _ _
theorem zXT(ns:List Int):(pR ns).Pairwise (·<=·):=by
 have:=WQ (le:=Hu) (λa b c h1 h2=>decide_eq_true (OG (of_decide_eq_true h1) (of_decide_eq_true h2)))
  (λa b=>by unfold Hu;rcases YC a b with h|h<;>simp[h]) ns
 exact this.imp λh=>of_decide_eq_true h
theorem zXU(p:ms.Perm ns)(h:ms.Pairwise (·<=·)):ms=pR ns :=
 SQ (le:=λa b:Int=>decide (a<=b)=AG) (λa b _ _ h1 h2=>lX (of_decide_eq_true h1) (of_decide_eq_true h2)) (h.imp λh=>decide_eq_true h) ((zXT ns).imp λh=>decide_eq_true h) (p.trans (zSF ns).symm)
def leP(a b:Int×Int):Bool:=!UO b a
def ZJ(ps:List (Int×Int)):List (Int×Int):=ps.mergeSort leP
theorem zC{a b:Int×Int}:leP a b=AG↔a.1<b.1\/(a.1=b.1/\a.2<=b.2):=by
 unfold leP UO;simp only[M0,decide_eq_false_iff_not];lia
theorem Ez(ps:List (Int×Int)):(ZJ ps).Perm ps:=aS _ _
theorem Ro(ps:List (Int×Int)):(ZJ ps).Pairwise (λa b=>leP a b=AG) :=
 WQ (λa b c h1 h2=>by rw[zC] at *;lia) (λa b=>by
  have:leP a b=AG\/leP b a=AG:=by rw[zC,zC];lia
  simpa using this) ps
theorem zXV{ms ns:List (Int×Int)}(p:ms.Perm ns)(h:ms.Pairwise (λa b=>leP a b=AG)):ms=ZJ ns :=
 SQ (le:=λa b=>leP a b=AG) (λa b _ _ h1 h2=>by
  rw[zC] at h1 h2
  exact lU 'l' 'l') h (Ro ns) (p.trans (Ez ns).symm)
def HB(p:Int×Int):D:=.tup [.int p.1,.int p.2]
noncomputable def mY:List D->Option (List (Int×Int))
 |[]=>AA []
 |.tup [.int a,.int b]::ds=>(mY ds).map ((a,b)::·)
 |_::_=>AH
theorem zSG:∀{ds:List D} {ps:List (Int×Int)},mY ds=AA ps->ds=ps.map HB:=by
 intro ds
 induction ds with
 |nil=>intro ps h;rw[mY] at h;cases h;rfl
 |cons d ds ih =>
  intro ps h;unfold mY at h;split at h
  .rename_i e;cases e
  .rename_i a b r e
   cases e;obtain⟨q,h1,h2⟩:=DF.mp h;subst h2;rw[ih h1];rfl
  .cases h
theorem Tx:∀ps:List (Int×Int),mY (ps.map HB)=AA ps
 |[]=>rfl
 |p::ps=>by
  show(mY (ps.map HB)).map (λr=>(p.1,p.2)::r)=_;rw[Tx ps];rfl
section
variable{K:AC}{a b:C5}{ga gb gc ge:G}{gs:List G}
theorem Reps.perm{zs ys:List V}(pm:zs.Perm ys):∀{ds:List D},Reps K F ys ds->∃es,es.Perm ds/\Reps K F zs es:=by
 induction pm with
 |nil=>intro ds r;cases r;exact{[],HL _,.nil}
 |cons a _ ih =>
  intro ds r
  cases r with
  |cons h t =>
   obtain⟨qs,q,r'⟩:=ih t;exact{_::qs,q.cons _,.cons h r'}
 |swap a b l =>
  intro ds r
  cases r with
  |cons h t =>
   cases t with
   |cons h' t'=>exact{_::_::_,I0 _ _ _,.cons h' (.cons h t')}
 |trans _ _ ih1 ih2 =>
  intro ds r;obtain⟨qs,q,r'⟩:=ih2 r;obtain⟨us,q',vM⟩:=ih1 r';exact{us,q'.trans q,vM}
theorem zXW{f:α->β}:∀{l1 l2:List β} (p:l1.Perm l2) (ns:List α),l2=ns.map f->∃ms:List α,l1=ms.map f/\ms.Perm ns:=by
 intro l1 l2 p
 induction p with
 |nil=>intro ns e;cases ns with|nil=>exact{[],rfl,HL _}|cons _ _=>cases e
 |cons a _ ih =>
  intro ns e
  cases ns with
  |nil=>cases e
  |cons n ns =>
   injection e with e1 e2;obtain⟨ms,h1,h2⟩:=ih ns e2;exact{n::ms,by rw[A1,e1,h1],h2.cons n}
 |swap a b l =>
  intro ns e
  match ns,e with
  |c::d::ns,e =>
   injection e with e1 e2;injection e2 with e2 e3;exact{d::c::ns,by rw[A1,A1,e1,e2,e3],I0 _ _ _}
 |trans _ _ ih1 ih2 =>
  intro ns e;obtain⟨ms,h1,h2⟩:=ih2 ns e;obtain⟨ks,h3,h4⟩:=ih1 ms h1;exact{ks,h3,h4.trans h2}
theorem Reps.prs(s:Sub F H):∀{ps:List (Int×Int)} {ys:List V},Reps K F ys (ps.map HB)->Prs H ys ps:=by
 intro ps
 induction ps with
 |nil=>intro ys r;cases r;exact .nil
 |cons p ps ih =>
  intro ys r
  cases r with
  |cons h r =>
  refine .cons ?_ (ih r);have h:Rep K F _ (.tup [.int p.1,.int p.2]):=h;generalize hk:[D.int p.1,.int p.2]=kk at h
  cases h with
  |tup hb rb =>
   subst hk
   cases rb with
   |cons h1 rb =>
    cases rb with
    |cons h2 rb =>
     cases rb;cases h1;cases h2;exact{_,rfl,s _ _ hb}
  |@tupK a xs hb nb =>
   cases xs with
   |nil=>cases hk
   |cons x xs=>cases hk
theorem yB2(s:Sub F H){ps qs:List (Int×Int)}{ys:List V}(hp:Prs H ys ps):Prs H ys qs->ps=qs:=by
 induction hp generalizing qs with
 |nil=>intro h;cases h;rfl
 |cons r t1 ih =>
  intro h
  cases h with
  |cons r2 t2 =>
   obtain⟨a,e1,h1⟩:=r;obtain⟨b,e2,h2⟩:=r2;rw[e1] at e2;cases e2;rw[h1] at h2;simp only[Option.some.injEq,HO.tup.injEq,List.cons.injEq,V.int.injEq,and_true] at h2;rw[ih t2,lU h2.1 h2.2]
def l8:List D->Out D
 |[.lst ds]=>match QZ ds with
  |some ns=>.ok (.lst ((pR ns).map D.int))
  |none=>match mY ds with
   |some ps=>.ok (.lst ((ZJ ps).map HB))
   |none=>.bad
 |_=>.bad
abbrev yB3(K:AC):List V->Hp->VK->Prop:=λxs H Q=>(∃(l:AQ) (ns:List Int),xs=[.ref l]/\SqL K H l (ns.map V.int)/\∀(ms:List Int) (q:AQ),ms.Perm ns->ms.Pairwise (·<=·)->H q=AH->Q (.ref q) (EV H q (.lst (ms.map V.int)))) \/
 (∃(l:AQ) (ys:List V) (ps:List (Int×Int)),xs=[.ref l]/\SqL K H l ys/\Prs H ys ps/\∀(zs:List V) (qs:List (Int×Int)) (q:AQ),zs.Perm ys->Prs H zs qs->qs.Perm ps->(qs.Pairwise λa b=>UO b a=AB)->H q=AH->Q (.ref q) (EV H q (.lst zs)))
theorem zUJ:sH K (yB3 K) l8:=λvs xs F H d Q s r hf k=>by
 unfold l8 at hf;split at hf
 .rename_i ds
  cases r with
  |cons r rr =>
   cases rr;obtain⟨l,ys,rfl,h1,h2⟩:=r.isRefL;split at hf
   .rename_i ns en
    cases hf;have:=uB en;subst this;have:=h2.vint;subst this;refine .inl {l,ns,rfl,h1.imp s.rd id,λms q pm pw hq=>?_};rw[zXU pm pw];have n:=pA5 (H':=EV H q (.lst ((pR ns).map V.int))) s (Gr.new hq);exact k q F _ n (pAG s hq) hq {_,JU,Reps.ints _}
   .split at hf
    .rename_i ps ep
     cases hf;have:=zSG ep;subst this;refine .inr {l,ys,ps,rfl,h1.imp s.rd id,h2.prs s,λzs qs q pz i5 pq pw hq=>?_};obtain⟨es,pe,re⟩:=Reps.perm pz h2;obtain⟨qs',rfl,pq'⟩:=zXW pe ps rfl;have:=yB2 s (re.prs s) i5;subst this;have:qs'=ZJ ps:=zXV pq (pw.imp λh=>by unfold leP;rw[h];rfl);subst this;have n:=pA5 (H':=EV H q (.lst zs)) s (Gr.new hq);exact k q F _ n (pAG s hq) hq {_,JU,re}
    .cases hf
 .cases hf
theorem zXX(hm:X.mg "sorted"=AH)(ha:VA X (e::es) gs)(hg:Gl X "sorted":=by rfl)(he:AF (e::es) X.env=(AB,eval e X.env)::AF es X.env:=by rfl)(HZ:(CZ pos (AF es X.env)).any (·.1)=AB:=by rfl) :
  FE X (.Call (.Name "sorted" p) (e::es) [] pos) (gN l8 gs):=yIM (TK.or zL8) zUJ hm (by decide +kernel) ha hg 'd' 'd' he HZ
theorem zSH:CallR X (.builtin "len") (λxs H Q=>∃a kvs,xs=[V.ref a]/\Rd H a (.dT kvs)/\Q (.int kvs.length) H):=by
 intro pins s σ H xs us Q I r h;obtain⟨a,kvs,rfl,ha,q⟩:=h;obtain⟨u,rfl,ru⟩:=VQ r;cases ru;obtain⟨es,ep,NA,e1,e2,_⟩:=qF (ha.ok I.hok);have:=kC;refine yBA NA (by rw[QO] at e2;lia) λt tk=>{.int kvs.length,H,I.tok tk,{t,by rw[e1]},q}
theorem XN:CallR X (.builtin "len") (λxs H Q=>∃a kvs,xs=[V.ref a]/\Rd H a (.dK kvs)/\Q (.int kvs.length) H):=by
 intro pins s σ H xs us Q I r h;obtain⟨a,kvs,rfl,ha,q⟩:=h;obtain⟨u,rfl,ru⟩:=VQ r;cases ru;exact yIC I ha λt s' I'=>{.int kvs.length,H,I',{t,rfl},q}
def IG:List D->Out D
 |[.lst ds]=>.ok (.int ds.length)
 |[.tup ds]=>.ok (.int ds.length)
 |[.str z]=>RS z.length (.ok (.int z.length))
 |[.dk kvs]=>.ok (.int kvs.length)
 |[.dt kvs]=>.ok (.int kvs.length)
 |_=>.bad
abbrev yIO(K:AC):List V->Hp->VK->Prop:=λxs H Q=>(∃p ys,xs=[.ref p]/\(SqL K H p ys\/SqT K H p ys)/\Q (.int ys.length) H)\/(∃z,xs=[.str z]/\z.length<=sizeLine/\Q (.int z.length) H) \/
 (∃a kvs,xs=[V.ref a]/\Rd H a (.dK kvs)/\Q (.int kvs.length) H)\/(∃a kvs,xs=[V.ref a]/\Rd H a (.dT kvs)/\Q (.int kvs.length) H)
theorem yFW:fN K (yIO K) IG:=λvs xs F H d Q s r hf k=>by
 unfold IG at hf;split at hf
 .cases hf
  cases r with
  |cons r rr =>
   cases rr;obtain⟨l,ys,rfl,h1,h2⟩:=r.isRefL;exact .inl {l,ys,rfl,.inl (h1.imp s.rd id),by rw[h2.length];exact k _ F H (.refl s) (.int _)}
 .cases hf
  cases r with
  |cons r rr =>
   cases rr;obtain⟨l,ys,rfl,h2,h1⟩:=r.tupSq;exact .inl {l,ys,rfl,.inr (h1 F H (.refl _) s),by rw[h2.length];exact k _ F H (.refl s) (.int _)}
 .obtain⟨hl,hf⟩:=XI hf
  cases hf
  cases r with
  |cons r rr =>
   cases rr;obtain rfl:=r.vS;exact .inr (.inl {_,rfl,bI hl,k _ F H (.refl s) (.int _)})
 .cases hf
  cases r with
  |cons r rr =>
   cases rr
   cases r with
   |dk h1 h2=>exact .inr (.inr (.inl {_,_,rfl,s.rd h1,by rw[h2.length];exact k _ F H (.refl s) (.int _)}))
 .cases hf
  cases r with
  |cons r rr =>
   cases rr
   cases r with
   |dt h1 h2=>exact .inr (.inr (.inr {_,_,rfl,s.rd h1,by rw[h2.length];exact k _ F H (.refl s) (.int _)}))
 .cases hf
theorem SS(hm:X.mg "len"=AH)(ha:VA X (e::es) gs)(hg:Gl X "len":=by rfl)(he:AF (e::es) X.env=(AB,eval e X.env)::AF es X.env:=by rfl)(HZ:(CZ pos (AF es X.env)).any (·.1)=AB:=by rfl) :
  VE X (.Call (.Name "len" p) (e::es) [] pos) (gN IG gs):=xY (UR.or (UQ.or (XN.or zSH))) yFW hm (by decide +kernel) ha hg 'd' 'd' he HZ
def Mt:List V->Hp->VK->Prop:=λxs H Q=>∃(d:AQ) (kvs:List (Key×V)),xs=[.ref d]/\Rd H d (.dK kvs)/\∀q,H q=AH->Q (.ref q) (EV H q (.lst (kvs.map λkv=>kV kv.1)))
theorem Ss:∀(ks:List Key) (us:List AI),us.length=ks.length->(∀(i:Nat) v,us[i]?=AA v->∃k,ks[i]?=AA k/\RelV (kV k) v)->Vals (ks.map kV) us
 |[],[],_,_=>.nil
 |k::ks,u::us,hl,h=>by
  obtain⟨n,e1,e2⟩:=h 0 u rfl;have e3:k=n:=by simpa using e1
  subst e3;exact .cons e2 (Ss ks us (by simpa using hl) λi v hv=>h (i+1) v (by simpa using hv))
 |[],_::_,hl,_=>by simp at hl
 |_::_,[],hl,_=>by simp at hl
theorem zSI(hc:X.calm=AG):CallR X (.type "list") Mt:=by
 intro pins s σ H xs us Q I r h;obtain⟨d,kvs,rfl,hd,q⟩:=h;obtain⟨u,rfl,ru⟩:=VQ r;cases ru;obtain⟨z,lo,vs,TR,dd⟩:=pW I.hok hd;obtain⟨ep,da⟩:=dd.dictAt;have Zu:kvs.length=vs.length:=TR.length;refine PySem.W.kdl_call (PySem.W.kdl_dict (knd:=V7 X.prog X.w) (kvs:=vs) (ep:=ep) lo) (I.ok.hd hc) da 'l' λh' tk BS c' hk hS hI=>?_;obtain⟨hz,hi⟩:=hI
 have rv:Vals (kvs.map λkv=>kV kv.1) BS.toList:=by
  have:=Ss (kvs.map (·.1)) BS.toList (by simp;lia) λi v hv=>by
   obtain⟨k,xx,e1,e2⟩:=hi i v (by rw[<-DD];exact hv);refine{k,by rw[TR.keys,BA,e1];rfl,?_};rw[Th] at e2;rcases cV e2 with⟨j,t,z1,z2⟩|⟨y,t,z1,z2⟩
   .rw[z1,z2];exact{t,rfl}
   .rw[z1,z2];exact{t,rfl}
  rw[CT] at this;exact this
 refine{.ref s.heap.objs.size,_,I.laid (o:=.lst (kvs.map λkv=>kV kv.1)) hk (AO _) {?_,BS.toList,c',rv,by simpa using hS},rfl,q _ I.fresh};rw[AK];exact z
def rA:Key->D
 |.inl i=>.int i
 |.inr x=>.str x
theorem Pc(k:Key):Rep K F (kV k) (rA k):=by
 cases k with
 |inl i=>exact .int i
 |inr x=>exact .str x
theorem RepK.keys:∀{vs:List (Key×V)} {ds:List (Key×D)},RepK K F vs ds->Reps K F (vs.map λkv=>kV kv.1) (ds.map λkv=>rA kv.1)
 |_,_,.nil=>.nil
 |_,_,.cons (k:=k) _ r=>.cons (Pc k) (RepK.keys r)
def xX:List D->Out D
 |[.lst ds]=>.ok (.lst ds)
 |[.tup ds]=>.ok (.lst ds)
 |[.dk kvs]=>.ok (.lst (kvs.map λkv=>rA kv.1))
 |_=>.bad
abbrev yFX(K:AC):List V->Hp->VK->Prop:=λxs H Q=>(∃p ys,xs=[.ref p]/\(SqL K H p ys\/SqT K H p ys)/\∀l,H l=AH->Q (.ref l) (EV H l (.lst ys)))\/Mt xs H Q
theorem yB4:sH K (yFX K) xX:=λvs xs F H d Q s r hf k=>by
 unfold xX at hf;split at hf
 .cases hf
  cases r with
  |cons r rr =>
   cases rr;obtain⟨l,ys,rfl,h1,h2⟩:=r.isRefL;exact .inl {l,ys,rfl,.inl (h1.imp s.rd id),λq hq=>k q F _ (pA5 s (Gr.new hq)) (pAG s hq) hq {_,JU,h2}}
 .cases hf
  cases r with
  |cons r rr =>
   cases rr;obtain⟨l,ys,rfl,h2,h1⟩:=r.tupSq;exact .inl {l,ys,rfl,.inr (h1 F H (.refl _) s),λq hq=>k q F _ (pA5 s (Gr.new hq)) (pAG s hq) hq {_,JU,h2}}
 .cases hf
  cases r with
  |cons r rr =>
   cases rr
   cases r with
   |dk h1 h2=>exact .inr {_,_,rfl,s.rd h1,λq hq=>k q F _ (pA5 s (Gr.new hq)) (pAG s hq) hq {_,JU,h2.keys}}
 .cases hf
theorem yFY(hc:X.calm=AG)(hm:X.mg "list"=AH)(ha:VA X (e::es) gs)(hg:Gl X "list":=by rfl)(he:AF (e::es) X.env=(AB,eval e X.env)::AF es X.env:=by rfl)(HZ:(CZ pos (AF es X.env)).any (·.1)=AB:=by rfl) :
  FE X (.Call (.Name "list" p) (e::es) [] pos) (gN xX gs):=yK3 (UP.or (zSI hc)) yB4 hm (by decide +kernel) ha hg 'd' 'd' he HZ
noncomputable def TH:List D->Out D
 |[.lst ds]=>.ok (.tup ds)
 |[.tup ds]=>.ok (.tup ds)
 |_=>.bad
theorem yFZ:fN K (λxs H Q=>∃p ys,xs=[.ref p]/\((SqL K H p ys/\∀l,H l=AH->Q (.ref l) (EV H l (.tup ys)))\/(SqT K H p ys/\Q (.ref p) H))) TH:=λvs xs F H d Q s r hf k=>by
 unfold TH at hf;split at hf
 .cases hf
  cases r with
  |cons r rr =>
   cases rr;obtain⟨l,ys,rfl,h1,h2⟩:=r.isRefL;refine{l,ys,rfl,.inl {h1.imp s.rd id,λq hq=>?_}};have n:=New.laid (o:=.tup ys) s hq;exact k _ _ _ n (.tup JU (h2.le n.1.le))
 .cases hf
  cases r with
  |cons r rr =>
   cases rr;obtain⟨l,ys,rfl,h2,h1⟩:=r.tupSq;exact{l,ys,rfl,.inr {h1 F H (.refl _) s,k _ F H (.refl s) r}}
 .cases hf
theorem fT(hm:X.mg "tuple"=AH)(ha:VA X (e::es) gs)(hg:Gl X "tuple":=by rfl)(he:AF (e::es) X.env=(AB,eval e X.env)::AF es X.env:=by rfl)(HZ:(CZ pos (AF es X.env)).any (·.1)=AB:=by rfl) :
  VE X (.Call (.Name "tuple" p) (e::es) [] pos) (gN TH gs):=Gi zLX yFZ hm (by decide +kernel) ha hg 'd' 'd' he HZ
noncomputable def YN:List D->Option (List Bool)
 |[]=>AA []
 |.bl b::ds=>(YN ds).map (b::·)
 |_::_=>AH
theorem zXZ:∀{ds:List D} {bs:List Bool},YN ds=AA bs->ds=bs.map D.bl:=by
 intro ds
 induction ds with
 |nil=>intro bs h;rw[YN] at h;cases h;rfl
 |cons d ds ih =>
  intro bs h
  cases d with
  |bl b =>
   rw[YN] at h;obtain⟨r,h1,h2⟩:=DF.mp h;subst h2;rw[ih h1];rfl
  |_=>simp[YN] at h
theorem toBls_map:∀bs:List Bool,YN (bs.map D.bl)=AA bs
 |[]=>rfl
 |b::bs=>by rw[A1,YN,toBls_map bs];rfl
def XA:List D->Out D
 |[.lst ds]=>match YN ds with
  |some bs=>.ok (.bl (bs.all id))
  |none=>.bad
 |_=>.bad
theorem yF0:fN K (Vm K) XA:=λvs xs F H d Q s r hf k=>by
 unfold XA at hf;split at hf
 .split at hf
  .rename_i bs eb
   cases hf;have:=zXZ eb;subst this
   cases r with
   |cons r rr =>
    cases rr;obtain⟨l,ys,rfl,h1,h2⟩:=r.isRefL;have:=h2.vbl;subst this;exact{l,bs,rfl,h1.imp s.rd id,k _ F H (.refl s) (.bl _)}
  .cases hf
 .cases hf
theorem sG(hc:X.calm=AG)(hm:X.mg "all"=AH)(ha:VA X (e::es) gs)(hg:Gl X "all":=by rfl)(he:AF (e::es) X.env=(AB,eval e X.env)::AF es X.env:=by rfl)(HZ:(CZ pos (AF es X.env)).any (·.1)=AB:=by rfl) :
  VE X (.Call (.Name "all" p) (e::es) [] pos) (gN XA gs):=xY (zW4 hc) yF0 hm (by decide +kernel) ha hg 'd' 'd' he HZ
noncomputable def iA:List D->Out D
 |[.int i,.int j]=>.ok (.int (if j<i then j else i))
 |_=>.bad
theorem yB5:fN K (λxs H Q=>∃i j,xs=[.int i,.int j]/\Q (.int (if j<i then j else i)) H) iA:=λvs xs F H d Q s r hf k=>by
 unfold iA at hf;split at hf
 .cases hf
  cases r with
  |cons r rr=>cases rr with
   |cons r' rr=>cases rr;obtain rfl:=r.vI;(first|obtain rfl:=r'.vI|obtain rfl:=r'.vB|obtain rfl:=r'.vS|obtain rfl:=r'.vN|cases r');exact{_,_,rfl,k _ F H (.refl s) (.int _)}
 .cases hf
theorem Ms(hc:X.calm=AG)(hm:X.mg "min"=AH)(ha:VA X (e::es) gs)(hg:Gl X "min":=by rfl)(he:AF (e::es) X.env=(AB,eval e X.env)::AF es X.env:=by rfl)(HZ:(CZ pos (AF es X.env)).any (·.1)=AB:=by rfl) :
  VE X (.Call (.Name "min" p) (e::es) [] pos) (gN iA gs):=xY (zTA hc) yB5 hm (by decide +kernel) ha hg 'd' 'd' he HZ
end
section
variable{K:AC}{E:Ev}{a b:C5}{ga gb gc ge:G}{gs:List G}
theorem Sim.setO{t:Bool}{d d':D}{ad:AQ}(S:Sim K H₀ τ F H σ E)(e:E[i]?=AA (.own t d))(ea:σ[i]?=AA (AA (.ref ad)))(h:OwnAt K F (EV H ad o) ad d') :
  Sim K H₀ τ F (EV H ad o) σ (E.set i (.own t d'))/\Stp (DU σ E) F H F (EV H ad o) (DU σ (E.set i (.own t d'))):=by
 obtain⟨a',a1,a2,a3,a4,a5⟩:=S.own i t d e;rw[ea] at a1;cases a1;have hi:i<E.length:=(AX.mp e).1;have ow:DU σ E ad:={i,t,d,e,ea}
 have NN:∀(j:Nat) t' x,(E.set i (.own t d'))[j]?=AA (.own t' x)->(j=i/\t'=t/\x=d')\/(j≠i/\E[j]?=AA (.own t' x)):=λj t' x z=>by
  by_cases hj:i=j
  .subst hj;rw[BF hi] at z;cases z;exact .inl {rfl,rfl,rfl}
  .rw[A7 hj] at z;exact .inr {JG hj,z}
 have Jw:∀(j:Nat) t' x,(E.set i (.own t d'))[j]?=AA (.own t' x)->∃oF x',E[j]?=AA (.own oF x'):=λj t' x z=>by
  rcases NN j t' x z with⟨rfl,_,_⟩|⟨_,z⟩
  .exact{_,_,e}
  .exact{_,_,z}
 refine{{λb u z=>?_,by rw[CC];exact S.len,λj x z=>?_,λj t' x z=>?_,λj l t1 t2 x y b z1 z2=>?_},{λb u z _ n ho=>?_,λb z=>?_,.refl _,λb u z=>.inl (by rw[z];exact nofun),λb ⟨j,t',x,z1,z2⟩=>?_}}
 .have:b≠ad:=λy=>by rw[y,a2] at z;cases z
  rw[GP this];exact S.sub b u z
 .by_cases hj:i=j
  .subst hj;rw[BF hi] at z;cases z
  .rw[A7 hj] at z;exact S.val j x z
 .rcases NN j t' x z with⟨rfl,rfl,rfl⟩|⟨hj,z⟩
  .exact{ad,ea,a2,h,a4,a5}
  .obtain⟨c,c1,c2,c3,c4⟩:=S.own j t' x z
   have hc:c≠ad:=λy=>hj (S.inj j i t' t x d ad z e (by rw[c1,y]) ea);exact{c,c1,c2,c3.mono (.refl _) (GP hc),c4}
 .obtain⟨_,_,w1⟩:=Jw j _ _ z1
  obtain⟨_,_,w2⟩:=Jw l _ _ z2;exact S.inj j l _ _ _ _ b w1 w2
 .rw[GP (λy=>ho (by rw[y];exact ow))];exact z
 .by_cases hb:b=ad
  .rw[hb,JU] at z;cases z
  .rw[GP hb] at z;exact z
 .obtain⟨oF,x',w⟩:=Jw j t' x z1
  exact .inl {j,oF,x',w,z2}
def Gh(K:AC)(r:V->List V->Hp->VK->Prop)(f:List D->List D->Out (D×List D)):Prop:=∀(F H:Hp) (l:AQ) vs ds args xs d Z9 Q,Sub F H->H l=AA (.lst vs)->Reps K F vs ds->Reps K F args xs->f ds xs=.ok (d,Z9) ->
 (∀y oD,Rep K F y d->Reps K F oD Z9->Q y (EV H l (.lst oD)))->r (.ref l) args H Q
def ZI(i:Nat)(f:List D->List D->Out (D×List D))(gs:List G):G:=λE=>match E[i]? with
 |some (.own _ (.lst _))=>(M6 gs E).bind λp=>match p.2[i]? with
  |some (.own t (.lst ds))=>(f ds p.1).bind λq=>.ok (q.1,p.2.set i (.own t (.lst q.2)))
  |_=>.bad
 |_=>.bad
theorem Wx{r:V->List V->Hp->VK->Prop}{f:List D->List D->Out (D×List D)}(hs:Gh K r f){Q:VK}(h:tV K H₀ (ZI i f gs) σ H Q) :
  ∃v,σ[i]?=AA (AA v)/\Hn K "list" v H/\iK K H₀ gs σ H λxs H2=>r v xs H2 Q:=by
 obtain⟨τ,F,E,d,E',S,hg,k⟩:=h;unfold ZI at hg;split at hg
 .rename_i t0 Mh e0
  obtain⟨p,e1,hg⟩:=pA3 hg;split at hg
  .rename_i t ds e2
   obtain⟨q,e3,hg⟩:=pA3 hg;cases hg;obtain⟨ad,a1,a2,⟨vs0,a3,_⟩,_⟩:=S.own i _ _ e0;refine{_,a1,.inl {rfl,vs0,SqL.of a3},τ,F,E,p.1,p.2,S,e1,λargs F1 H1 s1 S1 r1=>?_};obtain⟨ad',b1,b2,⟨vs,b3,b4⟩,_⟩:=S1.own i _ _ e2;rw[a1] at b1;cases b1;refine hs F1 H1 ad vs ds args p.1 q.1 q.2 Q S1.sub b3 b4 r1 e3 λy oD ry rvs=>?_;obtain⟨S2,s2⟩:=S1.setO (o:=.lst oD) (d':=.lst q.2) e2 a1 {oD,JU,rvs};exact k y F1 _ (s1.trans s2) S2 ry
  .cases hg
 .cases hg
variable{q:Y4}
def fG(ds xs:List D):Out (D×List D):=match xs with
 |[d]=>RS ds.length (.ok (.non,ds++[d]))
 |_=>.bad
theorem zUM:Gh K Ps fG:=λF H l vs ds args xs d Z9 Q s h r ra hf k=>by
 unfold fG at hf;split at hf
 .obtain⟨hl,hf⟩:=XI hf
  cases hf
  cases ra with
  |cons r1 rr =>
   cases rr;exact{l,vs,_,rfl,rfl,h,by rw[r.length];exact j9 hl,k _ _ .non (r.append (.cons r1 .nil))}
 .cases hf
noncomputable def yLB(ds xs:List D):Out (D×List D):=match xs with
 |[]=>match ds[ds.length-1]? with
  |some d=>.ok (d,ds.dropLast)
  |none=>.bad
 |_=>.bad
def j8(ds xs:List D):Out (D×List D):=match xs with
 |[.int i]=>guard (0<=i/\i<ds.length/\ds.length<10000) (match ds[i.toNat]? with
  |some d=>.ok (d,ds.eraseIdx i.toNat)
  |none=>.bad)
 |_=>.bad
theorem zX0:Gh K Nj j8:=λF H l vs ds args xs d Z9 Q s h r ra hf k=>by
 unfold j8 at hf;split at hf
 .rename_i i
  obtain⟨⟨g1,g2,g3⟩,hf⟩:=iH hf;split at hf
  .rename_i d' e
   cases hf
   cases ra with
   |cons r1 rr =>
    cases rr;obtain rfl:=r1.vI;obtain⟨v,h1,h2⟩:=r.get e;exact{l,vs,i,i.toNat,v,rfl,rfl,h,by omega,by omega,by rw[r.length];exact V0 g1 g2,h1,k _ _ h2 (r.eraseIdx _)}
  .cases hf
 .cases hf
theorem Rn(i:Nat)(ha:VA X [e] gs)(hN:X.N[i]?=AA xn:=by rfl)(hv:dE X.env.scope xn:=by first|exact BO rfl|exact EG (BO rfl)|exact EG (EG rfl))(hd:(xn==("__debug__":BL))=AB:=by decide)(QH:(xn==("__classdict__":BL))=AB:=by decide)
  (PQ:OB (.Name xn q) "append" X.env (eval (.Name xn q) X.env)=eval (.Name xn q) X.env:=by rfl)
  (U0:((CZ GJ (AF [e] X.env)).all (λx=>!x.1)&&(NG GJ (IR [] X.env)).all (λx=>x.1.isSome)
   && decide ([e].length+([]:List MZ).length+(if([]:List MZ).isEmpty then 0 else 1)<30))=AG:=by rfl)
  (PL:(RG.endLine==GJ.line)=AG:=by rfl) (hs:AF [e] X.env=(AB,eval e X.env)::AF [] X.env:=by rfl) (NC:(CZ GJ (AF [] X.env)).any (·.1)=AB:=by rfl) :
  VE X (.Call (.Attribute (.Name xn q) "append" RG) [e] [] GJ) (ZI i fG gs) :=
 (yI UE PySem.F.slot_list_append PySem.F.type_list_append Sg (kD hN hv hd QH) ha PQ U0 PL hs NC).imp λσ H Q h=>Wx zUM h
theorem yB6(i:Nat)(ha:VA X [e] gs)(hN:X.N[i]?=AA xn:=by rfl)(hv:dE X.env.scope xn:=by first|exact BO rfl|exact EG (BO rfl)|exact EG (EG rfl))(hd:(xn==("__debug__":BL))=AB:=by decide)(QH:(xn==("__classdict__":BL))=AB:=by decide)
  (PQ:OB (.Name xn q) "pop" X.env (eval (.Name xn q) X.env)=eval (.Name xn q) X.env:=by rfl)
  (U0:((CZ GJ (AF [e] X.env)).all (λx=>!x.1)&&(NG GJ (IR [] X.env)).all (λx=>x.1.isSome)
   && decide ([e].length+([]:List MZ).length+(if([]:List MZ).isEmpty then 0 else 1)<30))=AG:=by rfl)
  (PL:(RG.endLine==GJ.line)=AG:=by rfl) (hs:AF [e] X.env=(AB,eval e X.env)::AF [] X.env:=by rfl) (NC:(CZ GJ (AF [] X.env)).any (·.1)=AB:=by rfl) :
  VE X (.Call (.Attribute (.Name xn q) "pop" RG) [e] [] GJ) (ZI i j8 gs) :=
 (yI UE PySem.F.slot_list_pop PySem.F.type_list_pop zWQ (kD hN hv hd QH) ha PQ U0 PL hs NC).imp λσ H Q h=>Wx zX0 h
theorem RepK.put(k:Key){v:V}{d:D}{vs:List (Key×V)}{ds:List (Key×D)}(r:RepK K F vs ds)(h:Rep K F v d):RepK K F (WV vs k v) (YH ds k d):=by
 have any:∀{vs:List (Key×V)} {ds:List (Key×D)},RepK K F vs ds->(vs.any λkv=>decide (kv.1=k))=(ds.any λkv=>decide (kv.1=k)):=by
  intro vs ds r
  induction vs generalizing ds with
  |nil=>cases r;rfl
  |cons x xs ih=>cases r with|cons h r=>rw[FZ,FZ,ih r]
 have mp:∀{vs:List (Key×V)} {ds:List (Key×D)},RepK K F vs ds->RepK K F (vs.map λkv=>if kv.1=k then(kv.1,v) else kv) (ds.map λkv=>if kv.1=k then(kv.1,d) else kv):=by
  intro vs ds r
  induction vs generalizing ds with
  |nil=>cases r;exact .nil
  |cons x xs ih =>
   cases r with
   |@cons k' v' d' _ _ h' r =>
    rw[A1,A1]
    by_cases e:k'=k
    .simp only[e,if_true];exact .cons h (ih r)
    .simp only[e,if_false];exact .cons h' (ih r)
 have ap:∀{vs:List (Key×V)} {ds:List (Key×D)},RepK K F vs ds->RepK K F (vs++[(k,v)]) (ds++[(k,d)]):=by
  intro vs ds r
  induction vs generalizing ds with
  |nil=>cases r;exact .cons h .nil
  |cons x xs ih=>cases r with|cons h' r=>exact .cons h' (ih r)
 unfold WV YH;rw[any r];split
 .exact mp r
 .exact ap r
theorem RepT.put(k:List Int){v:V}{d:D}{vs:List (List Key×V)}{ds:List (List Int×D)}(r:RepT K F vs ds)(h:Rep K F v d):RepT K F (WV vs (k.map DK) v) (YH ds k d):=by
 have dec:∀k':List Int,decide (k'.map (DK:Int->Key)=k.map DK)=decide (k'=k):=λk'=>by
  by_cases e:k'=k
  .simp[e]
  .have e':¬k'.map (DK:Int->Key)=k.map DK:=λz=>e (zD z)
   simp[e,e']
 have any:∀{vs:List (List Key×V)} {ds:List (List Int×D)},RepT K F vs ds->(vs.any λkv=>decide (kv.1=k.map DK))=(ds.any λkv=>decide (kv.1=k)):=by
  intro vs ds r
  induction vs generalizing ds with
  |nil=>cases r;rfl
  |cons x xs ih=>cases r with|@cons k' _ _ _ _ h r=>rw[FZ,FZ,ih r];show(decide _||_)=(decide _||_);rw[dec k']
 have mp:∀{vs:List (List Key×V)} {ds:List (List Int×D)},RepT K F vs ds->RepT K F (vs.map λkv=>if kv.1=k.map DK then(kv.1,v) else kv) (ds.map λkv=>if kv.1=k then(kv.1,d) else kv):=by
  intro vs ds r
  induction vs generalizing ds with
  |nil=>cases r;exact .nil
  |cons x xs ih =>
   cases r with
   |@cons k' v' d' _ _ h' r =>
    rw[A1,A1]
    by_cases e:k'=k
    .simp only[e,if_true];exact .cons h (ih r)
    .have e':¬k'.map (DK:Int->Key)=k.map DK:=λz=>e (zD z)
     simp only[e,e',if_false];exact .cons h' (ih r)
 have ap:∀{vs:List (List Key×V)} {ds:List (List Int×D)},RepT K F vs ds->RepT K F (vs++[(k.map DK,v)]) (ds++[(k,d)]):=by
  intro vs ds r
  induction vs generalizing ds with
  |nil=>cases r;exact .cons h .nil
  |cons x xs ih=>cases r with|cons h' r=>exact .cons h' (ih r)
 unfold WV YH;rw[any r];split
 .exact mp r
 .exact ap r
def Gg(x k v:D):Out D:=match x,k with
 |.lst ds,.int i=>match bJ ds.length i with
  |some j=>.ok (.lst (ds.set j v))
  |none=>.bad
 |.dk kvs,k=>match yD k with
  |some k=>RS kvs.length (.ok (.dk (YH kvs k v)))
  |none=>.bad
 |.dt kvs,.tup ks=>match QZ ks with
  |some ns=>RS kvs.length (.ok (.dt (YH kvs ns v)))
  |none=>.bad
 |_,_=>.bad
def cT(i:Nat)(gk gv:G):GS:=λE=>match E[i]? with
 |some (.own _ _)=>(gv E).bind λv=>(gk v.2).bind λk=>match k.2[i]? with
  |some (.own t d)=>(Gg d k.1 v.1).bind λd'=>.ok (.nx (k.2.set i (.own t d')))
  |_=>.bad
 |_=>.bad
theorem Aa{gk gv:G}{kx:C5}(i:Nat)(hu:X.A.units+64<G3)(hk:VE X kx gk)(Kb:VE X JV gv)
  (hN:X.N[i]?=AA xn:=by rfl) (hv:dE X.env.scope xn:=by first|exact BO rfl|exact EG (BO rfl)|exact EG (EG rfl)) (hd:(xn==("__debug__":BL))=AB:=by decide) (QH:(xn==("__classdict__":BL))=AB:=by decide)
  (hs:HG JV (AA (.Subscript (.Name xn q) kx V9)) XO.line X.env=pure AB:=by rfl)
  (oU:aD [.Subscript (.Name xn q) kx V9] JV XO.line X.env=pure AB:=by rfl) (hw:aE [.Subscript (.Name xn q) kx V9] JV X.env=pure AH:=by rfl)
  (h1:(G7 [.Subscript (.Name xn q) kx V9] X.env).map (·.2)=[LM (.Subscript (.Name xn q) kx V9) X.env]:=by rfl)
  (ha:∀v,LM (.Subscript (.Name xn q) kx V9) X.env v=(do
   let ov <-MU [v] (eval (.Name xn q) X.env)
   let iv <-MU [v,ov] (eval kx X.env)
   LX V9
   MU [v,ov,iv] (setItem ov iv v)
   release [v,ov,iv] []):=by intro _;rfl):VS X (.Assign [.Subscript (.Name xn q) kx V9] JV XO) (cT i gk gv):=λpins s σ H D' I h=>by
 obtain⟨τ,F,E,r,S,hg,k⟩:=h;unfold cT at hg;split at hg
 .rename_i t0 d0 e0
  obtain⟨v,e1,hg⟩:=pA3 hg;obtain⟨ky,e2,hg⟩:=pA3 hg;split at hg
  .rename_i t d e3
   obtain⟨d',e4,hg⟩:=pA3 hg;cases hg;obtain⟨ad,a1,_⟩:=S.own i _ _ e0;have pn:=kD (pos:=q) hN hv hd QH
   have fin:∀{F2 H2:Hp} {o:HO},Stp (DU σ E) F H F2 H2 (DU σ ky.2)->Sim X.K X.H₀ τ F2 H2 σ ky.2->OwnAt X.K F2 (EV H2 ad o) ad d'->D'.nx σ (EV H2 ad o):=λ{F2 H2 o} s2 S2 ow=>by
    obtain⟨S3,s3⟩:=S2.setO (o:=o) (d':=d') e3 a1 ow;exact k σ F2 _ (s2.trans s3) S3
   have own:∀{F2 H2:Hp},Sim X.K X.H₀ τ F2 H2 σ ky.2->OwnAt X.K F2 H2 ad d:=λ{F2 H2} S2=>by
    obtain⟨ad',b1,_,b3,_⟩:=S2.own i t d e3;rw[a1] at b1;cases b1;exact b3
   cases d with
   |lst ds =>
    refine No Kb (yEF pn hk zWN ha) oU hw h1 pins s σ H D' I ?_;refine{τ,F,E,v.1,v.2,S,e1,λvv F1 H1 s1 S1 r1=>{_,a1,τ,F1,v.2,ky.1,ky.2,S1,e2,λkk F2 H2 s2 S2 r2=>?_}};obtain⟨vs,o1,o2⟩:=own S2;generalize hy:ky.1=y at e4 r2
    cases y with
    |int ii =>
     have e4:(match bJ ds.length ii with|some j=>Out.ok (D.lst (ds.set j v.1))|none=>.bad)=.ok d':=e4;obtain rfl:=r2.vI;split at e4
     .rename_i j ej
      cases e4;exact{ad,vs,ii,j,rfl,rfl,o1,by rw[o2.length];exact ej,fin (s1.trans s2) S2 {_,JU,o2.set j (r1.le s2.le)}}
     .cases e4
    |_=>cases e4
   |dk kvs =>
    refine Pp 'o' pn hk Kb hs pins s σ H D' I ?_;refine{τ,F,E,v.1,v.2,S,e1,λvv F1 H1 s1 S1 r1=>{_,a1,τ,F1,v.2,ky.1,ky.2,S1,e2,λkk F2 H2 s2 S2 r2=>?_}};obtain⟨vs,o1,o2⟩:=own S2;have e4:(match yD ky.1 with|some k=>RS kvs.length (Out.ok (D.dk (YH kvs k v.1)))|none=>.bad)=.ok d':=e4;split at e4
    .rename_i k' ek
     obtain⟨hl,e4⟩:=XI e4;cases e4
     have ek':kk=kV k':=by
      generalize hy:ky.1=y at ek r2;cases y<;>first|cases ek|skip
      .obtain rfl:=r2.vI;rfl
      .obtain rfl:=r2.vS;rfl
     subst ek';exact{ad,_,rfl,DPut.kk o1 (by rw[o2.length];exact j9 hl),fin (s1.trans s2) S2 {_,JU,o2.put k' (r1.le s2.le)}}
    .cases e4
   |dt kvs =>
    refine Pp 'o' pn hk Kb hs pins s σ H D' I ?_;refine{τ,F,E,v.1,v.2,S,e1,λvv F1 H1 s1 S1 r1=>{_,a1,τ,F1,v.2,ky.1,ky.2,S1,e2,λkk F2 H2 s2 S2 r2=>?_}};obtain⟨vs,o1,o2⟩:=own S2;generalize hy:ky.1=y at e4 r2
    cases y with
    |tup ks =>
     have e4:(match QZ ks with|some ns=>RS kvs.length (Out.ok (D.dt (YH kvs ns v.1)))|none=>.bad)=.ok d':=e4;split at e4
     .rename_i ns ek
      obtain⟨hl,e4⟩:=XI e4;cases e4;have:=uB ek;subst this;generalize k9:ns.map D.int=kk2 at r2
      cases r2 with
      |tup hb rb =>
       subst k9;have:=rb.vint;subst this;refine{ad,_,rfl,DPut.t (k:=ns.map DK) o1 ?_ (by rw[o2.length];exact j9 hl),fin (s1.trans s2) S2 {_,JU,o2.put ns (r1.le s2.le)}};rw[CT];exact S2.sub _ _ hb
      |@tupK a xs hb nb =>
       cases xs with
       |nil=>exact absurd rfl nb
       |cons x xs =>
        cases ns with
        |nil=>cases k9
        |cons n ns=>cases k9
     .cases e4
    |_=>cases e4
   |_=>cases e4
  .cases hg
 .cases hg
end
section
variable{K:AC}{E:Ev}{a b:C5}{ga gb gc ge:G}{gs:List G}
noncomputable def uP:D->String
 |.non=>"NoneType"
 |.bl _=>"bool"
 |.int _=>"int"
 |.str _=>"str"
 |.tup _=>"tuple"
 |.lst _=>"list"
 |.dk _=>"dict"
 |.dt _=>"dict"
def rO(t c:String):Bool:=t==c||(t=="bool"&&c=="int")
def V6(c:String)(g:G):G:=λE=>(g E).bind λp=>.ok (.bl (rO (uP p.1) c),p.2)
theorem zX1{Ex:AI->AN->Prop}{cv:AI}{bb:Bool}(I:Inv X pins σ H s){ad:AQ}{vs:List V}(h:SqL X.K H ad vs)
  (e:BN X.K (.type "list") cv=AA bb) (hq:∀tk,Q (.bool bb) { s with toks:=tk }):A4 (A3 X.prog X.w) A (call (.builtin "isinstance") [.ref ad,cv]) Q Ex s:=by
 obtain⟨CP,r,pl,z⟩:=I.list h;obtain⟨o,h1,h2,_⟩:=pl.isList;exact C7 PZ I.kIn {o,h1,h2} e (λz=>nomatch z) hq
theorem Sr{Ex:AI->AN->Prop}{cv:AI}{bb:Bool}(I:Inv X pins σ H s){ad:AQ}(h:(∃kvs,Rd H ad (.dK kvs))\/∃kvs,Rd H ad (.dT kvs))
  (e:BN X.K (.type "dict") cv=AA bb) (hq:∀tk,Q (.bool bb) { s with toks:=tk }):A4 (A3 X.prog X.w) A (call (.builtin "isinstance") [.ref ad,cv]) Q Ex s:=by
 rcases h with⟨kvs,h⟩|⟨kvs,h⟩
 .obtain⟨_,_,vs,_,o,es,ep,h1,h2,_⟩:=(show ObjOk X.prog X.w H s.heap ad (.dK kvs) from h.ok I.hok)
  exact C7 MF I.kIn {o,h1,h2.1} e (λz=>nomatch z) hq
 .obtain⟨_,_,xs,_,o,es,ep,h1,h2,_⟩:=(show ObjOk X.prog X.w H s.heap ad (.dT kvs) from h.ok I.hok)
  exact C7 MF I.kIn {o,h1,h2.1} e (λz=>nomatch z) hq
structure IsC(c:String):Prop where
 k:∀(K:AC) (t:String),t∈["NoneType","bool","int","str","tuple","list","dict"]->BN K (.type t) (.type c)=AA (rO t c)
theorem yB7:IsC "int":={λK t h=>by simp only[A9,D6,or_false] at h;rcases h with rfl|rfl|rfl|rfl|rfl|rfl|rfl<;>rfl}
theorem Rm:IsC "bool":={λK t h=>by simp only[A9,D6,or_false] at h;rcases h with rfl|rfl|rfl|rfl|rfl|rfl|rfl<;>rfl}
theorem uA:IsC "tuple":={λK t h=>by simp only[A9,D6,or_false] at h;rcases h with rfl|rfl|rfl|rfl|rfl|rfl|rfl<;>rfl}
def yF2(K:AC)(c:String):List V->Hp->VK->Prop:=λxs H Q=>∃v F d,xs=[v,.ty c]/\Sub F H/\Rep K F v d/\Q (.bl (rO (uP d) c)) H
theorem zSJ{cn:String}(ic:IsC cn):CallR X (.builtin "isinstance") (yF2 X.K cn):=by
 intro pins s σ H xs us Q I r h;obtain⟨v,F,d,rfl,sb,rd,q⟩:=h
 cases r with
 |cons r1 r2 =>
  cases r2 with
  |cons r2 r3 =>
   cases r3;cases r2;have fin:∀{bb:Bool} (tk:Nat),rO (uP d) cn=bb->EP X pins σ Q (.bool bb) { s with toks:=tk }:=λtk e=>by subst e;exact{.bl _,H,I.tok tk,rfl,q}
   cases d with
   |non=>obtain rfl:=rd.vN;exact zY I r1 .non (ic.k _ _ 's') λtk=>fin tk rfl
   |bl b=>obtain rfl:=rd.vB;exact zY I r1 (.bl _) (ic.k _ _ 's') λtk=>fin tk rfl
   |int i=>obtain rfl:=rd.vI;exact zY I r1 (.int _) (ic.k _ _ 's') λtk=>fin tk rfl
   |str i=>obtain rfl:=rd.vS;exact zY I r1 (.str _) (ic.k _ _ 's') λtk=>fin tk rfl
   |lst ds =>
    obtain⟨l,ys,rfl,h1,h2⟩:=rd.isRefL;cases r1;exact zX1 I (h1.imp sb.rd id) (ic.k _ _ 's') λtk=>fin tk rfl
   |tup ds =>
    obtain⟨l,ys,rfl,h2,h1⟩:=rd.tupSq;cases r1;exact zW2 I (h1 F H (.refl _) sb) (ic.k _ _ 's') λtk=>fin tk rfl
   |dk kvs =>
    cases rd with
    |dk h1 _=>cases r1;exact Sr I (.inl {_,sb.rd h1}) (ic.k _ _ 's') λtk=>fin tk rfl
   |dt kvs =>
    cases rd with
    |dt h1 _=>cases r1;exact Sr I (.inr {_,sb.rd h1}) (ic.k _ _ 's') λtk=>fin tk rfl
theorem j7{cn:String}{cx:BL}{cp:Y4}(ic:IsC cn)(hm:X.mg "isinstance"=AH)(hmc:X.mg cx=AH)(hvc:GA cx=AA (.type cn))(ha:VE X a ga)(hg:Gl X "isinstance":=by rfl)(hgc:Gl X cx:=by rfl)(hnc:cx≠"__name__":=by decide)(hdc:(cx==("__debug__":BL))=AB:=by decide)
  (oU:AF [.Name cx cp] X.env=(AB,eval (.Name cx cp) X.env)::AF [] X.env:=by rfl)
  (he:AF (a::[.Name cx cp]) X.env=(AB,eval a X.env)::AF [.Name cx cp] X.env:=by rfl) (HZ:(CZ pos (AF [.Name cx cp] X.env)).any (·.1)=AB:=by rfl) :
  VE X (.Call (.Name "isinstance" p) [a,.Name cx cp] [] pos) (V6 cn ga) :=
 (zQ (zSJ ic) hg hm (by decide +kernel) (R0 ha (R0 (Qb (v:=.ty cn) hgc hmc hvc rfl hnc hdc) IP oU) he) 'd' 'd' he HZ).imp λσ H Q h=>by
  obtain⟨τ,F,E,d,E',S,hg,k⟩:=h;obtain⟨q,e1,hg⟩:=pA3 hg;cases hg;exact{τ,F,E,q.1,q.2,S,e1,λv F1 H1 s1 S1 r1=>{v,F1,q.1,rfl,S1.sub,r1,k _ F1 H1 s1 S1 (.bl _)}}
theorem yB8:FE X (.Dict [] [] pos) (gC (.dt [])):=cZ.imp λσ H Q h q hq=>by
 obtain⟨τ,F,E,d,E',S,hg,k⟩:=h;cases hg;have n:=pA5 (H':=EV H q (.dT [])) S.sub (Gr.new hq);exact k q F _ n.stp (S.new n) (pAG S.sub hq) hq {_,JU,.nil} (S.fresh hq)
def Wa:D->Out Bool
 |.non=>.ok AB
 |.bl b=>.ok b
 |.int i=>.ok (i != 0)
 |.lst ds=>.ok (!ds.isEmpty)
 |.tup ds=>.ok (!ds.isEmpty)
 |.str z=>RS z.length (.ok ((z.length:Int) != 0))
 |_=>.bad
def P9(g:G):Ev->Out (Bool×Ev):=λE=>(g E).bind λp=>(Wa p.1).bind λb=>.ok (b,p.2)
theorem Reps.isEmpty{vs:List V}{ds:List D}(r:Reps K F vs ds):vs.isEmpty=ds.isEmpty:=by (cases r)<;>rfl
theorem bF(ha:VE X a ga)(he:∀R8,U9 a X.env R8=(do let v <-R8;LX a.pos;MU [v] (truthy v)):=by intro _;rfl):VT X a (P9 ga):=(zWJ ha he).imp λσ H Q h=>by
 obtain⟨τ,F,E,d,E',S,hg,k⟩:=h;obtain⟨p,e1,hg⟩:=pA3 hg;obtain⟨b,e2,hg⟩:=pA3 hg;cases hg;refine{τ,F,E,p.1,p.2,S,e1,λv F1 H1 s1 S1 r1=>{d,?_,k F1 H1 s1 S1}};generalize hy:p.1=y at e2 r1
 cases y with
 |non=>obtain rfl:=r1.vN;cases e2;rfl
 |bl b=>obtain rfl:=r1.vB;cases e2;rfl
 |int i=>obtain rfl:=r1.vI;cases e2;rfl
 |str z =>
  obtain rfl:=r1.vS;obtain⟨hl,e2⟩:=XI e2;cases e2;exact{bI hl,rfl}
 |lst ds =>
  cases e2;obtain⟨l,ys,rfl,h1,h2⟩:=r1.isRefL;exact .inl {ys,h1.imp S1.sub.rd id,by rw[h2.isEmpty]}
 |tup ds =>
  cases e2;obtain⟨l,ys,rfl,h2,h1⟩:=r1.tupSq;exact .inr (.inl {ys,h1 F1 H1 (.refl _) S1.sub,by rw[h2.isEmpty]})
 |_=>cases e2
noncomputable def UK(lo:Int)(n:Nat):List D:=(D4 n).map λi:Nat=>D.int (lo+(i:Int))
theorem Sq(lo:Int)(n:Nat):Walks K (uU lo n) F (UK lo n):=λi F1 H1 l s=>by
 have hl:(UK lo n).length=n:=by simp[UK]
 refine{λhi=>by rw[hl] at hi;exact hi,λhi=>by rw[hl] at hi;rw[hi];exact AO _,λx H' d e ⟨e1,y⟩=>?_};subst e1 y;unfold UK at e;rw[BA] at e
 cases q:(D4 n)[i]? with
 |none=>rw[q] at e;cases e
 |some j =>
  rw[q] at e
  have:j=i:=by
   obtain⟨h1,h2⟩:=AX.mp q;rw[List.getElem_range] at h2;exact h2.symm
  subst this;cases e;exact{F1,.refl s,.int _}
def mH(i:Int):Prop:=-1000000<=i/\i<=1000000
instance (i:Int):Decidable (mH i):=inferInstanceAs (Decidable (_/\_))
def aZ(g:G):GI:=λE=>(g E).bind λp=>match p.1 with|.int j=>guard (mH j) (.ok (UK 0 j.toNat,p.2))|_=>.bad
def sF(g g':G):GI:=λE=>(g E).bind λp=>(g' p.2).bind λq=>match p.1,q.1 with|.int i,.int j=>guard (mH i/\mH j) (.ok (UK i (j-i).toNat,q.2))|_,_=>.bad
theorem z7(hm:X.mg "range"=AH)(ha:VE X a ga)(hg:Gl X "range":=by rfl)(hs:AF [a] X.env=[(AB,eval a X.env)]:=by rfl)(bP:AF [a] X.env=(AB,eval a X.env)::AF [] X.env:=by rfl):VI X tg (.Call (.Name "range" p) [a] [] pos) (aZ ga):=(zS6 hg hm (R0 ha IP bP) hs).imp λσ H Q h=>by
 obtain⟨τ,F,E,ds,E',S,hg,k⟩:=h;obtain⟨q,e1,hg⟩:=pA3 hg;refine{τ,F,E,q.1,q.2,S,e1,λv F1 H1 s1 S1 r1=>?_};split at hg
 .rename_i j ej
  obtain⟨⟨g1,g2⟩,hg⟩:=iH hg;cases hg;rw[ej] at r1;obtain rfl:=r1.vI;exact{j,rfl,by lia,by lia,k _ F1 H1 s1 S1 (Sq 0 _)}
 .cases hg
theorem zUO(hm:X.mg "range"=AH)(ha:VE X a ga)(hb:VE X b gb)(hg:Gl X "range":=by rfl)(hs:AF [a,b] X.env=[(AB,eval a X.env),(AB,eval b X.env)]:=by rfl)(N6:AF [b] X.env=[(AB,eval b X.env)]:=by rfl)
  (bP:AF [a,b] X.env=(AB,eval a X.env)::AF [b] X.env:=by rfl) (oU:AF [b] X.env=(AB,eval b X.env)::AF [] X.env:=by rfl):VI X tg (.Call (.Name "range" p) [a,b] [] pos) (sF ga gb):=(zS7 hg hm (R0 ha (R0 hb IP oU) bP) hs N6).imp λσ H Q h=>by
 obtain⟨τ,F,E,ds,E',S,hg,k⟩:=h;obtain⟨q,e1,hg⟩:=pA3 hg;obtain⟨r,e2,hg⟩:=pA3 hg;refine{τ,F,E,q.1,q.2,S,e1,λv F1 H1 s1 S1 r1=>{τ,F1,q.2,r.1,r.2,S1,e2,λu F2 H2 s2 S2 r2=>?_}};split at hg
 .rename_i i j ei ej
  obtain⟨⟨⟨g1,g2⟩,g3,g4⟩,hg⟩:=iH hg;cases hg;rw[ei] at r1;rw[ej] at r2;obtain rfl:=r1.vI;obtain rfl:=r2.vI;exact{i,j,rfl,{by lia,by lia,by lia,by lia},k _ F2 H2 (s1.trans s2) S2 (Sq i _)}
 .cases hg
def hU(ds es:List D):List D:=(ds.zip es).map λp=>.tup [p.1,p.2]
theorem yB9{ds es:List D}{d:D}(e:(hU ds es)[i]?=AA d):∃d0 d1,ds[i]?=AA d0/\es[i]?=AA d1/\d=.tup [d0,d1]:=by
 unfold hU at e;rw[BA] at e
 cases q:(ds.zip es)[i]? with
 |none=>rw[q] at e;cases e
 |some z =>
  rw[q] at e;cases e;obtain⟨h1,h2⟩:=VC.mp q;exact{_,_,h1,h2,rfl}
def nM(g g':G):GI:=λE=>(g E).bind λp=>(g' p.2).bind λq=>match p.1,q.1 with
 |.tup ds,.tup es=>.ok (hU ds es,q.2)
 |_,_=>.bad
theorem Mq(hm:X.mg "zip"=AH)(ha:VE X a ga)(hb:VE X b gb)(hg:Gl X "zip":=by rfl)(hs:AF [a,b] X.env=[(AB,eval a X.env),(AB,eval b X.env)]:=by rfl)(N6:AF [b] X.env=[(AB,eval b X.env)]:=by rfl)
  (bP:AF [a,b] X.env=(AB,eval a X.env)::AF [b] X.env:=by rfl) (oU:AF [b] X.env=(AB,eval b X.env)::AF [] X.env:=by rfl):VI X tg (.Call (.Name "zip" p) [a,b] [] pos) (nM ga gb):=(yE4 hg hm (R0 ha (R0 hb IP oU) bP) hs N6).imp λσ H Q h=>by
 obtain⟨τ,F,E,ds,E',S,hg,k⟩:=h;obtain⟨q,e1,hg⟩:=pA3 hg;obtain⟨r,e2,hg⟩:=pA3 hg;refine{τ,F,E,q.1,q.2,S,e1,λv F1 H1 s1 S1 r1=>{τ,F1,q.2,r.1,r.2,S1,e2,λu F2 H2 s2 S2 r2=>?_}};split at hg
 .rename_i Mh es0 ei ej
  cases hg;rw[ei] at r1;rw[ej] at r2;obtain⟨l,ys,rfl,h2,h1⟩:=(r1.le s2.le).tupSq;obtain⟨m,zs,rfl,h4,h3⟩:=r2.tupSq;refine{l,m,rfl,{ys,h1 F2 H2 (.refl _) S2.sub},{zs,h3 F2 H2 (.refl _) S2.sub},k _ F2 H2 (s1.trans s2) S2 λi F3 H3 l3 s3=>?_};have sq:=h1 F3 H3 l3 s3;have Jf:=h3 F3 H3 l3 s3;have hl:(hU Mh es0).length=min Mh.length es0.length:=by simp[hU]
  refine{λhi=>?_,λhi=>{ys,zs,sq,Jf,?_},λx H' d e ⟨pp,xx,yy,ex,hp,eH,y1,y2⟩=>?_}
  .rw[hl] at hi
   have hv:i<ys.length:=by rw[h2.length];lia
   have hw:i<zs.length:=by rw[h4.length];lia
   exact{ys,zs,ys[i],zs[i],sq,Jf,by simp[hv],by simp[hw]}
  .rw[hl] at hi
   rw[h2.length,h4.length];lia
  .subst ex eH
   obtain⟨d0,d1,z1,z2,z3⟩:=yB9 e;subst z3;obtain⟨w,w1,w2⟩:=h2.get z1;obtain⟨w',Iy,w2'⟩:=h4.get z2;rw[y1 ys sq] at w1;cases w1;rw[y2 zs Jf] at Iy;cases Iy;have n:=New.laid (o:=.tup [xx,yy]) s3 hp;exact{_,n,.tup JU (.cons ((w2.le l3).le n.1.le) (.cons ((w2'.le l3).le n.1.le) .nil))}
 .cases hg
def rP(g:G):G:=λE=>(g E).bind λp=>match p.1 with|.int j=>guard (0<=j/\j<=1000) (.ok (.lst (UK 0 j.toNat),p.2))|_=>.bad
theorem Tw{rp iX:Y4}(hc:X.calm=AG)(hm:X.mg "range"=AH)(hml:X.mg "list"=AH)(ha:VE X a ga)(hg:Gl X "range":=by rfl)(hgl:Gl X "list":=by rfl)
  (bP:AF [a] X.env=(AB,eval a X.env)::AF [] X.env:=by rfl) (hp0:(CZ iX (AF [] X.env)).any (·.1)=AB:=by rfl)
  (he:AF [.Call (.Name "range" rp) [a] [] iX] X.env=(AB,eval (.Call (.Name "range" rp) [a] [] iX) X.env)::AF [] X.env:=by rfl) (HZ:(CZ pos (AF [] X.env)).any (·.1)=AB:=by rfl) :
  FE X (.Call (.Name "list" p) [.Call (.Name "range" rp) [a] [] iX] [] pos) (rP ga) :=
 (uC (zL3 hc) hgl hml (by decide +kernel) (R0 (uC zWZ hg hm (by decide +kernel) (R0 ha IP bP) 'd' 'd' bP hp0) IP he) 'd' 'd' he HZ).imp λσ H Q h=>by
  obtain⟨τ,F,E,d,E',S,hg,k⟩:=h;obtain⟨q,e1,hg⟩:=pA3 hg;refine{τ,F,E,q.1,q.2,S,e1,λv F1 H1 s1 S1 r1=>?_};split at hg
  .rename_i j ej
   obtain⟨⟨g1,g2⟩,hg⟩:=iH hg;cases hg;rw[ej] at r1;obtain rfl:=r1.vI;refine{j,rfl,λpp hp=>{pp,j.toNat,rfl,by rw[JU,cH g1],by lia,λl hl=>?_}};have n:=pA5 (H':=EV (EV H1 pp (.rng 0 j)) l (.lst ((D4 j.toNat).map λi:Nat=>V.int (i:Int)))) S1.sub ((Gr.new hp).trans (Gr.new hl));have eA:H1 l=AH:=(Gr.new hp).dom l hl;refine k l F1 _ (s1.trans n.stp) (S1.new n) (pAG S1.sub eA) (s1.dom l eA) {_,JU,?_} (S1.fresh eA);have:UK 0 j.toNat=((D4 j.toNat).map λi:Nat=>(i:Int)).map D.int:=by unfold UK;rw[CT];congr 1;funext i;simp
   rw[this,show((D4 j.toNat).map λi:Nat=>V.int (i:Int))=((D4 j.toNat).map λi:Nat=>(i:Int)).map V.int by rw[CT];rfl];exact Reps.ints _
  .cases hg
end
section
variable{K:AC}{E:Ev}{a b:C5}{g ga gb gc ge:G}{gs:List G}
theorem yF3(hu:X.A.units+64<G3):OpR X (CO .Lt) (λx y H Q=>ZR (λi j=>.bl (decide (i<j))) x y H Q\/Gs X.K x y H Q):=dA.or (Db (AL (AY _ _) hu))
theorem Ag{iter:C5}{t:Tg}{ge:G}(n:CompNm X scope xo cl own C8 js)(hc:X.calm=AG)(hi:VI X tg iter gi)
  (hg:∀C s H fp,VG (OL X scope xo cl (own++C8) C s H fp) tg t) (ht:∀C s H fp,uS (OL X scope xo cl (own++C8) C s H fp) ifs tt) (he:∀C s H fp,VE (OL X scope xo cl (own++C8) C s H fp) OR ge)
  (hN:X.N.Nodup) (hx:X.N[i]?=AA x) (hl:X.env.scope.names.lookup x=AA .local)
  (oQ:HG (.ListComp OR [{tg,iter,ifs,0}] scope pos) (AA (.Name x NB)) XO.line X.env=pure AG)
  (NY:t.ltn own.length=AG:=by rfl) (hj:js.Nodup:=by decide) (hs:∀x,CW iter X.env x=pure x:=by intro _;rfl):VS X (.Assign [.Name x NB] (.ListComp OR [{tg,iter,ifs,0}] scope pos) XO) (FS (.nm i) (K8 gi own.length js t tt ge)) :=
 λpins s σ H D' I h=>by
  refine zR6 (g:=λH=>tG X.K H t) (tt:=λH=>tT X.K H tt) (te:=λH=>tV X.K H ge) n hc hi hg ht he hN hx hl oQ hs pins s σ H D' I ?_;refine Pd NY hj (pA6 ?_);obtain⟨τ,F,E,r,S,hg,k⟩:=h;obtain⟨p,e1,hg⟩:=pA3 hg;obtain⟨E1,e2,hg⟩:=pA3 hg;cases hg;rw[UA] at e2;cases e2;refine{τ,F,E,p.1,p.2,S,e1,λv F1 H1 s1 S1 r1=>?_};obtain⟨S2,h2⟩:=S1.put (i:=i) r1;exact k _ F1 H1 (s1.weak h2) S2
theorem Fun.cal{st:D5}(Fn:Fun K x x st f fd)(h:FnOk P w K mg base LA k f fd ps (MM K np m))(hm:mg x=AA (.ref f))(hb:Binds K fd ps []):JK P w K mg base x k np m:={f,fd,ps,h,hm,Fn.kp,hb}
end
theorem Gf{Pr:α->Prop}:∀p∈([]:List α),Pr p:=λp hp=>nomatch hp
theorem Bk{Pr:α->Prop}{a:α}(h:Pr a):∀p∈[a],Pr p:=λp hp=>by rw[BW.mp hp];exact h
theorem Hx{Pr:α->Prop}{a:α}{l:List α}(h:Pr a)(t:∀p∈l,Pr p):∀p∈a::l,Pr p:=λp hp=>by
 rcases A9.mp hp with rfl|hp
 .exact h
 .exact t p hp
theorem Bj{Pr:α->Prop}{a b:α}(h1:Pr a)(h2:Pr b):∀p∈[a,b],Pr p:=Hx h1 (Bk h2)
theorem Bi{Pr:α->Prop}{a b c:α}(h1:Pr a)(h2:Pr b)(h3:Pr c):∀p∈[a,b,c],Pr p:=Hx h1 (Bj h2 h3)
theorem Hy{Pr:α->Prop}{a b c d:α}(h1:Pr a)(h2:Pr b)(h3:Pr c)(h4:Pr d):∀p∈[a,b,c,d],Pr p:=Hx h1 (Bi h2 h3 h4)
section
variable{a b:C5}{ga gb:G}
end
section
variable{K:AC}{ge:G}
theorem pAJ{o:IL}{u:HO}(s:Sub F H)(h:F a=AA u)(hd:sM u):New F H (EV F a (.frz o u)) (EV H a (.frz o u)):=by
 have hh:=s a u h;refine{{λb v e _ n _=>?_,λb e=>?_,λb v e=>?_,λb v e=>?_,λ_ z=>z.elim},λb v e=>?_}
 .rw[GP (λz=>by rw[z,h] at n;cases n)];exact e
 .by_cases hb:b=a
  .rw[hb,JU] at e;cases e
  .rw[GP hb] at e;exact e
 .by_cases hb:b=a
  .subst hb;rw[h] at e;cases e;exact .inr (.inl {hd,o,JU})
  .exact .inl (by rw[GP hb];exact e)
 .by_cases hb:b=a
  .subst hb;exact .inl (by rw[h];exact nofun)
  .rw[GP hb] at e;exact .inl (by rw[e];exact nofun)
 .by_cases hb:b=a
  .subst hb;rw[JU] at e ⊢;exact e
  .rw[GP hb] at e ⊢;exact s b v e
theorem New.tup{p:AQ}{vs:List V}(s:Sub F H)(h:H p=AA (.tup vs)):∃F',New F H F' H/\F' p=AA (.tup vs):=by
 cases hf:F p with
 |some u =>
  have:=s p u hf;rw[h] at this;cases this;exact{F,.refl s,hf}
 |none =>
  refine{EV F p (.tup vs),{{λ_ _ e _ _ _=>e,λ_ e=>e,.of_gr (Gr.new hf),λb v e=>?_,λ_ z=>z.elim},λb v e=>?_},JU}
  .by_cases hb:b=p
   .subst hb
    refine .inr (.inl λo e' hw=>?_);rw[h] at e';cases e';exact hw
   .rw[GP hb] at e;exact .inl (by rw[e];exact nofun)
  .by_cases hb:b=p
   .subst hb;rw[JU] at e;rw[h];exact e
   .rw[GP hb] at e;exact s b v e
def uL(k:List Int):D:=.tup (k.map D.int)
theorem RepT.keysAt{vs:List (List Key×V)}{ds:List (List Int×D)}(r:RepT K F vs ds):vs.map (·.1)=ds.map λkv=>kv.1.map DK :=
 r.rec1 (T:=λvs ds=>vs.map (·.1)=ds.map λkv=>kv.1.map DK) rfl λ_ _ ih=>congrArg (_::·) ih
theorem RepK.keysAt{vs:List (Key×V)}{ds:List (Key×D)}(r:RepK K F vs ds):vs.map (·.1)=ds.map (·.1) :=
 r.rec1 (R:=λvs ds=>vs.map (·.1)=ds.map (·.1)) rfl λ_ _ ih=>congrArg (_::·) ih
theorem Tv{o:IL}{kvs:List (Key×V)}{ds:List (Key×D)}(h:F a=AA (.frz o (.dK kvs)))(r:RepK K F kvs ds):Walks K (Yh a o kvs) F (ds.map λkv=>rA kv.1):=λi F1 H1 l s=>by
 have hf:F1 a=AA (.frz o (.dK kvs)):=by
  rcases l a _ h with z|⟨z,_⟩|⟨_,_,_,z,_⟩
  .exact z
  .exact z.elim
  .cases z
 have hh:=s _ _ hf;have hl:(ds.map λkv=>rA kv.1).length=kvs.length:=by rw[AK,r.length]
 refine{λhi=>{AM hi (CD hl),hh},λhi=>{by lia,hh},λx H' d e ⟨e1,k,ex,ek⟩=>?_};subst e1 ex;rw[r.keysAt,BA] at ek;rw[BA] at e
 cases q:ds[i]? with
 |none=>rw[q] at e;cases e
 |some kv =>
  rw[q] at e ek;cases e;cases ek;exact{F1,.refl s,Pc _}
theorem Tu{o:IL}{kvs:List (List Key×V)}{ds:List (List Int×D)}(h:F a=AA (.frz o (.dT kvs)))(r:RepT K F kvs ds):Walks K (Yg a o kvs) F (ds.map λkv=>uL kv.1):=λi F1 H1 l s=>by
 have hf:F1 a=AA (.frz o (.dT kvs)):=by
  rcases l a _ h with z|⟨z,_⟩|⟨_,_,_,z,_⟩
  .exact z
  .exact z.elim
  .cases z
 have hh:=s _ _ hf;have hl:(ds.map λkv=>uL kv.1).length=kvs.length:=by rw[AK,r.length]
 refine{λhi=>{AM hi (CD hl),hh},λhi=>{by lia,hh},λx H' d e ⟨e1,p,k,ex,ek,ep⟩=>?_};subst e1 ex;rw[r.keysAt,BA] at ek;rw[BA] at e
 cases q:ds[i]? with
 |none=>rw[q] at e;cases e
 |some kv =>
  rw[q] at e ek;cases e;cases ek;obtain⟨F',n,hp⟩:=New.tup s ep;refine{F',n,.tup hp ?_};rw[CT];exact Reps.ints kv.1
def MQ(g:G):GI:=λE=>(g E).bind λp=>match p.1 with
 |.lst ds=>.ok (ds,p.2)
 |.tup ds=>.ok (ds,p.2)
 |.dk kvs=>.ok (kvs.map λkv=>rA kv.1,p.2)
 |.dt kvs=>.ok (kvs.map λkv=>uL kv.1,p.2)
 |_=>.bad
theorem XH(h:VE X e ge):VI X tg e (MQ ge):=λpins s σ H R I q=>by
 obtain⟨τ,F,E,ds,E',S,hg,k⟩:=q;obtain⟨p,e1,hg⟩:=pA3 hg;split at hg
 .rename_i Z9 ed
  cases hg;exact yBH h pins s σ H R I {τ,F,E,ds,p.2,S,by unfold Ya;rw[e1];show(match p.1 with|.lst ds=>Out.ok (ds,p.2)|_=>.bad)=_;rw[ed],k}
 .rename_i Z9 ed
  cases hg;exact yFE h pins s σ H R I {τ,F,E,ds,p.2,S,by unfold Xz;rw[e1];show(match p.1 with|.tup ds=>Out.ok (ds,p.2)|_=>.bad)=_;rw[ed],k}
 .rename_i kvs ed
  cases hg
  -- which of both it is shows when the JV is there
  refine GY (h pins s σ H (λx H1=>∃F1,Stp (DU σ E) F H F1 H1 (DU σ p.2)/\Sim X.K X.H₀ τ F1 H1 σ p.2/\Rep X.K F1 x (.dk kvs)) I {τ,F,E,p.1,p.2,S,e1,λv F1 H1 s1 S1 r1=>{F1,s1,S1,by rw[<-ed];exact r1}}) λv s1 q0=>?_;obtain⟨x,H1,I1,r1,F1,st,S1,rr⟩:=q0
  cases rr with
  |dk hr r =>
   rename_i a kv;cases r1;rcases hr with hr|⟨o,hr⟩
   .have ha:=S1.sub _ _ hr
    obtain⟨o,ho,I2⟩:=I1.freezeK ha;obtain⟨es,ep,NA,z1,z2,z3⟩:=tL (I1.hok a _ ha);obtain⟨o',q1,q2,q3⟩:=id NA.ex;rw[ho] at q1;cases q1;have n:=pAJ (o:=o) S1.sub hr trivial;refine zP NA λh' kk ki=>?_;refine{s1.heap.objs.size,[s1.heap.objs.size],_,_,_,rfl,I2.kept (t':=s1.toks) kk,Tp a _ o kv es ep q3 z1,ki,λb hb=>?_,k _ _ _ (st.trans n.stp) (S1.new n) (Tv JU (r.le n.1.le))};have e:b=s1.heap.objs.size:=by simpa using hb
    subst e;exact I2.fpOk (AO _) (I2.hok.fresh (AO _))
   .have ha:=S1.sub _ _ hr
    obtain⟨ho,hx⟩:=I1.hok a _ ha;obtain⟨es,ep,NA,z1,z2,z3⟩:=tL hx;obtain⟨o',q1,q2,q3⟩:=id NA.ex;rw[ho] at q1;cases q1;refine zP NA λh' kk ki=>?_;refine{s1.heap.objs.size,[s1.heap.objs.size],_,_,_,rfl,I1.kept (t':=s1.toks) kk,Tp a _ o kv es ep q3 z1,ki,λb hb=>?_,k _ _ _ st S1 (Tv hr r)};have e:b=s1.heap.objs.size:=by simpa using hb
    subst e;exact I1.fpOk (AO _) (I1.hok.fresh (AO _))
 .rename_i kvs ed
  cases hg;refine GY (h pins s σ H (λx H1=>∃F1,Stp (DU σ E) F H F1 H1 (DU σ p.2)/\Sim X.K X.H₀ τ F1 H1 σ p.2/\Rep X.K F1 x (.dt kvs)) I {τ,F,E,p.1,p.2,S,e1,λv F1 H1 s1 S1 r1=>{F1,s1,S1,by rw[<-ed];exact r1}}) λv s1 q0=>?_;obtain⟨x,H1,I1,r1,F1,st,S1,rr⟩:=q0
  cases rr with
  |dt hr r =>
   rename_i a kv;cases r1;rcases hr with hr|⟨o,hr⟩
   .have ha:=S1.sub _ _ hr
    obtain⟨o,ho,I2⟩:=I1.freeze ha;obtain⟨es,ep,NA,z1,z2,z3⟩:=qF (I1.hok a _ ha);obtain⟨o',q1,q2,q3⟩:=id NA.ex;rw[ho] at q1;cases q1;have n:=pAJ (o:=o) S1.sub hr trivial;refine zP NA λh' kk ki=>?_;refine{s1.heap.objs.size,[s1.heap.objs.size],_,_,_,rfl,I2.kept (t':=s1.toks) kk,Sb a _ o kv es ep q3 z1,ki,λb hb=>?_,k _ _ _ (st.trans n.stp) (S1.new n) (Tu JU (r.le n.1.le))};have e:b=s1.heap.objs.size:=by simpa using hb
    subst e;exact I2.fpOk (AO _) (I2.hok.fresh (AO _))
   .have ha:=S1.sub _ _ hr
    obtain⟨ho,hx⟩:=I1.hok a _ ha;obtain⟨es,ep,NA,z1,z2,z3⟩:=qF hx;obtain⟨o',q1,q2,q3⟩:=id NA.ex;rw[ho] at q1;cases q1;refine zP NA λh' kk ki=>?_;refine{s1.heap.objs.size,[s1.heap.objs.size],_,_,_,rfl,I1.kept (t':=s1.toks) kk,Sb a _ o kv es ep q3 z1,ki,λb hb=>?_,k _ _ _ st S1 (Tu hr r)};have e:b=s1.heap.objs.size:=by simpa using hb
    subst e;exact I1.fpOk (AO _) (I1.hok.fresh (AO _))
 .cases hg
end
theorem walk_v{l:RK}{d:DefRec}{K:Params->AC}{lv:Nat}(hn:l.most=AA 63)(xB:d.params.defaults=[])(hr:Room lv Q7)
  (hY:∀(w:DJ) (h:D0),YP w h->(K w.params).In h) (tK:∀w:DJ,Tabs (K w.params) q) (hm:∀ns:List Int,ns.length<=63->∃b d',m [.val (.lst (ns.map D.int))]=.ok (b,.bl AG,d'))
  (F:∀(w:DJ) (mg:BL->Option AI) (fa:AQ) (h:D0),(K w.params).In h->h.Ns BC mg->mg d.name=AA (.ref fa) ->
   ∃fd:JT,(∀(s:AN) (u:AI),T4 s fd {[u],[]} [("script",u)])/\∀base:D0,(K w.params).In base->base.Ns BC mg->CB (K w.params) base->FnOk l.prog w (K w.params) mg base LA lv fa fd ["script"] (MM (K w.params) 1 m)) :
  gK q YY XP YP l.row.toRowW d [] (λf vs=>aN f vs) :=
 L2.walk_of (n:=63) (k:=lv) (x:="script") (CX:=λ_=>LA) (sp:=λw=>MM (K w.params) 1 m) hn 'd' xB hr hY tK F (λw H a ns hl _ hS=>by
  obtain⟨b,d',e⟩:=hm ns hl;refine{rfl,0,H,_,b,_,d',{λ_ _ z=>z,rfl,λi d0 z=>?_,λi t d0 z=>?_,λi j t u d1 d2 a' z=>?_},λi t d0 z=>?_,e,λv F' H' st S r=>?_}
  .cases i with
   |zero=>cases z;exact{_,rfl,.lst hS (Reps.ints ns)}
   |succ i=>simp at z
  .cases i with
   |zero=>cases z
   |succ i=>simp at z
  .cases i with
   |zero=>cases z
   |succ i=>simp at z
  .cases i with
   |zero=>cases z
   |succ i=>simp at z
  .cases b with
   |false=>obtain rfl:=r.vB;rfl
   |true=>obtain⟨_,_,_,ow,_⟩:=r;exact ow.elim) λ_ _ _ _ _ z=>z
end L2
namespace L2
open PySem
theorem fn_bad{K:AC}:FnOk P w K mg base LA k f fd ps (MM K np λ_=>.bad) :=
 {(λvs H Q E h=>by obtain⟨_,_,_,_,_,_,_,_,_,hm,_⟩:=h;cases hm),(λA outer s H args us vs Q E hr e b v h=>by obtain⟨_,_,_,_,_,_,_,_,_,hm,_⟩:=h;cases hm)}
end L2
namespace L2
open PySem PySem.Spec PyProof.Rows
section
variable{K:AC}{E:Ev}
end
section
variable{K:AC}{E:Ev}{g:G}{q:Y4}
end
section
variable{σ:List (Option V)}
end
section
variable{p:BL}{q:BL}
end
end L2
variable{ctv:AI}{c':AQ}{tl:L2.TE}{p1:Y4}
namespace L2
open PySem PySem.Spec PyProof.Rows PySem.W
section
variable{p:BL}{q:BL}{N8:C5}{t:Hp->TE}{o:IL}
end
section
variable{p:BL}{q:BL}{N8:C5}{t:Hp->TE}{o:IL}
end
section
variable{p:BL}{q:BL}{N8:C5}{t:Hp->TE}{o:IL}
end
section
variable{p:BL}{q:BL}{N8:C5}{t:Hp->TE}{c T:AQ}{l:C5}{Jt:Y4}
end
end L2
namespace L2
open PySem PySem.Spec PyProof.Rows
section
variable{K:AC}{E:Ev}{T:AQ}{q:BL}
end
section
variable{K:AC}{g:GS}
end
section
variable{q:BL}{N8:C5}{c T:AQ}{l:C5}{gl ge:G}{Jt:Y4}
end
theorem Rl{α:Type}:∀l:List α,(D4 l.length).filterMap (λi=>l[i]?)=l
 |[]=>rfl
 |a::l=>by
  rw[A0,List.range_succ_eq_map,EU];simp only[List.getElem?_cons_zero,P7]
  congr 1
  exact Rl l
theorem zMH(CP:List AI):bW CP.toArray AH AH (AA (-1))=CP.reverse.toArray:=by
 have h:=picked_rev CP.length;unfold bW
 have e:sliceRange (G2 AH AH (AA (-1)) CP.toArray.size).1 (G2 AH AH (AA (-1)) CP.toArray.size).2.1 (G2 AH AH (AA (-1)) CP.toArray.size).2.2=(D4 CP.length).map λk=>CP.length-1-k:=by
  rw[<-h];simp[G2,Builtin.Str.strSliceIndices]
 rw[e]
 congr 1
 rw[P7]
 have g:∀ks:List Nat,(∀k∈ks,k<CP.length)->ks.filterMap ((λi=>CP.toArray[i]?)∘λk=>CP.length-1-k)=ks.filterMap λi=>CP.reverse[i]?:=by
  intro ks
  induction ks with
  |nil=>intro _;rfl
  |cons k ks ih =>
   intro hk
   have e:((λi=>CP.toArray[i]?)∘λk=>CP.length-1-k) k=CP.reverse[k]?:=by
    show CP.toArray[CP.length-1-k]?=CP.reverse[k]?;rw[List.getElem?_reverse (hk k (.head _)),OJ]
   rw[EU,EU,e,ih λk Y1=>hk k (.tail _ Y1)]
 refine(g _ λk hk=>JY.mp hk).trans ?_;have:=Rl CP.reverse;rw[aT] at this;exact this
section
variable{st:C5}{ts:TE}
def yIS(K:AC)(te ts:TE):TE:=λσ H Q=>te σ H λx H1=>ts σ H1 λy H2=>y=.int (-1)/\∃a xs,x=.ref a/\SqL K H2 a xs/\∀p,H2 p=AH->Q (.ref p) (EV H2 p (.lst xs.reverse))
theorem yCB(he:PE X e te)(hs:PE X st ts):PE X (.Subscript e (.Slice AH AH (AA st) p2) pos) (yIS X.K te ts):=by
 intro pins s σ H Q I h;refine Subscript_ (GY (he pins s σ H _ I h) λv s1 ⟨x,H1,I1,r1,q1⟩=>?_);refine wpAny_Slice ?_;rw[aK];refine wpAny_pure (wpAny_pure ?_);rw[evalPart_some];refine GY (hs pins s1 σ H1 _ I1 q1) λu s3 q0=>?_;obtain⟨y,H3,I3,r3,q3⟩:=q0;obtain⟨rfl,a,xs,rfl,hx,q⟩:=q3;obtain⟨t,rfl⟩:=r3;cases r1;have I4:Inv X pins σ H3 { s3 with heap:=s3.heap.push { cls:=.type "slice",data:=.fields #[.none,.none,.int (-1) t] } }:=I3.kept (t':=s3.toks) λb ob q=>AJ _ q;obtain⟨CP,r,ht,hz⟩:=I4.list hx;have FP:=r.length;show A4 (A3 X.prog X.w) X.A (aF e (.Slice AH AH (AA st) p2) (.ref a) (.ref s3.heap.objs.size)) (EP X pins σ Q) X.xe { s3 with heap:=s3.heap.push { cls:=.type "slice",data:=.fields #[.none,.none,.int (-1) t] } };refine jF (ops:=[.ref a,.ref s3.heap.objs.size]) ht.isList.typeIs TX.lookup ?_ (by with_unfolding_all rfl);refine aC ht.isList (TC ..) .none .none (.int (-1) t) 's' ?_ (by rw[A5]<;>lia);rw[zMH];refine{.ref (s3.heap.push { cls:=.type "slice",data:=.fields #[.none,.none,.int (-1) t] }).objs.size,_,I4.laid (t':=s3.toks) (o:=.lst xs.reverse) (λb ob q=>AJ _ q) (AO _) ?_,rfl,q _ (I4.hok.fresh (AO _))};refine{by rw[aT];exact hz,CP.reverse,0,?_,AW _ rfl};exact Vals.reverse r
end
def Ao(ge gs:G):G:=λE=>(ge E).bind λp=>(gs p.2).bind λq=>match p.1 with
 |.lst xs=>if q.1 matches .int (-1) then .ok (.lst xs.reverse,q.2) else .bad
 |_=>.bad
section
variable{st:C5}{ge gs:G}
theorem yIT(he:VE X e ge)(hs:VE X st gs):FE X (.Subscript e (.Slice AH AH (AA st) p2) pos) (Ao ge gs):=(yCB he hs).imp λσ H Q h=>by
 obtain⟨τ,F,E,d,E',S,hg,k⟩:=h;unfold Ao at hg;obtain⟨p,e1,hg⟩:=pA3 hg;obtain⟨q,e2,hg⟩:=pA3 hg;refine{τ,F,E,p.1,p.2,S,e1,λv F1 H1 st1 S1 r1=>{τ,F1,p.2,q.1,q.2,S1,e2,λu F2 H2 st2 S2 r2=>?_}};obtain⟨pd,pE⟩:=p;obtain⟨qd,qE⟩:=q
 cases pd with
 |lst xs =>
  dsimp only at hg r2 r1;split at hg
  .cases hg
   obtain rfl:=r2.vI
   cases r1 with
   |@lst a vs _ sq rs =>
   refine{rfl,a,vs,rfl,(sq.imp (λz=>st2.le.rd z) id).imp S2.sub.rd id,λD hD=>?_};have n5:New F2 H2 F2 (EV H2 D (.lst vs.reverse)):=pA5 S2.sub (Gr.new hD)
   have hF:F2 D=AH:=by
    cases e:F2 D with
    |none=>rfl
    |some u=>rw[S2.sub _ _ e] at hD;cases hD
   exact k D F2 _ ((st1.trans st2).trans n5.stp) (S2.new n5) hF ((st1.trans st2).dom D hD) {_,JU,(rs.le st2.le).reverse} (S2.fresh hD)
  .cases hg
 |_=>cases hg
end
section
variable{K:AC}{c T:AQ}{Yy:AI}{Yx:Option AQ}{sl vH:Array (Option AI)}{vs:Array AI}
theorem tabIn_of(a:BH K BC x=AA (AA (.ref f)))(l:K.lookup f=AA {oc,od,.func fd,sl})(hc:fd.code=.ref c)(m:K.lookup c=AA {Yy,Yx,.fields vs,vH})(hv:vs[11]?=AA (.ref T)):D9 K x=AA (c,T):=by
 unfold D9;rw[a];simp only[l,hc,m,hv]
theorem zX3(a:BH K BC x=AA AH):D9 K x=AH:=by
 unfold D9;rw[a]
inductive TabE(K:AC)(q:CF)(x:BL):Option AQ->Prop
 |no:BH K BC x=AA AH->TabE K q x AH
 |tab {c T:AQ} {d:DefRec}:D9 K x=AA (c,T)->K.lookup T=AH->(recsOf q).find? (λe=>e.name==x)=AA d->TabE K q x (AA T)
theorem Tabs.of{ts:List (BL×Option AQ)}(h:∀p∈ts,TabE K q p.1 p.2)(hn:ts.map (·.1)=iJ)(ap:ts.Pairwise λa b=>a.2=AH\/a.2≠b.2):Tabs K q:=by
 have g:∀{x:BL} {t:Option AQ},TabE K q x t->∀c T,D9 K x=AA (c,T)->t=AA T/\K.lookup T=AH/\∃d,(recsOf q).find? (λe=>e.name==x)=AA d:=λ{x t} h c T e=>by
  cases h with
  |no z=>rw[zX3 z] at e;cases e
  |tab z1 z2 z3=>rw[z1] at e;cases e;exact{rfl,z2,_,z3}
 have all:∀x∈iJ,∃t,(x,t)∈ts:=λx hx=>by
  rw[<-hn] at hx;obtain⟨p,hp,rfl⟩:=BZ.mp hx;exact{_,hp}
 refine{λx hx c T e=>let ⟨t,z⟩:=all x hx;(g (h _ z) c T e).2.2,λx hx c T e=>let ⟨t,z⟩:=all x hx;(g (h _ z) c T e).2.1,λx hx y hy c c' T e e'=>?_};obtain⟨t,z⟩:=all x hx;obtain⟨u,z'⟩:=all y hy;have a:=(g (h _ z) c T e).1;have b:=(g (h _ z') c' T e').1;dsimp only at a b;subst a b;clear g all hn hx hy h e e'
 induction ts with
 |nil=>cases z
 |cons p r ih =>
  obtain⟨a1,a2⟩:=List.pairwise_cons.mp ap;rcases A9.mp z with e|z1<;>rcases A9.mp z' with e'|z2
  .rw[<-e] at e';cases e';rfl
  .subst e;rcases a1 _ z2 with w|w
   .cases w
   .exact absurd rfl w
  .subst e';rcases a1 _ z1 with w|w
   .cases w
   .exact absurd rfl w
  .exact ih a2 z1 z2
theorem tabs5{t1 t2 t3 t4 t5:Option AQ}(h1:TabE K q "holders" t1)(h2:TabE K q "_law_table" t2)(h3:TabE K q "_law_back" t3)(h4:TabE K q "_law_kept_right" t4)(h5:TabE K q "law" t5)
  (ap:[t1,t2,t3,t4,t5].Pairwise λa b=>a=AH\/a≠b):Tabs K q :=
 Tabs.of (ts:=[("holders",t1),("_law_table",t2),("_law_back",t3),("_law_kept_right",t4),("law",t5)]) (λp hp=>by
  simp only[A9,D6,or_false] at hp;rcases hp with rfl|rfl|rfl|rfl|rfl
  .exact h1
  .exact h2
  .exact h3
  .exact h4
  .exact h5) rfl (JX (f:=(Prod.snd:BL×Option AQ->Option AQ)) (R:=λa b=>a=AH\/a≠b) |>.mp ap)
end
end L2
namespace HT
open PySem PySem.Spec PyProof.Rows
end HT
namespace L2
open PySem PySem.Spec PyProof.Rows
section
variable{st:C5}{ts:TE}
end
end L2
namespace HT
open PySem PySem.Spec PyProof.Rows
noncomputable def lexLe:List Int->List Int->Bool
 |[],_=>AG
 |_::_,[]=>AB
 |a::x,c::y=>if a=c then lexLe x y else decide (a<=c)
theorem zMI:lexLe [] []=AG:=rfl
theorem zKQ(c:Int)(y:List Int):lexLe [] (c::y)=AG:=rfl
theorem zKR(a:Int)(x:List Int):lexLe (a::x) []=AB:=rfl
theorem lexLe_cons(a c:Int)(x y:List Int):lexLe (a::x) (c::y)=if a=c then lexLe x y else decide (a<=c):=rfl
theorem zX4(A:DI)(s:AN)(a:Int)(t:b9)(c:Int)(u:b9)(prog:CF)(w:DJ)(E:AI->AN->Prop)(Q:AI->AN->Prop)(h:Q (.bool (decide (a<=c))) s) :
  A4 (A3 prog w) A (richCompare .LtE (.int a t) (.int c u)) Q E s :=
 (PyProof.Rows.le_int h:A4 (A3 prog w) A (CO .LtE (.int a t) (.int c u)) Q E s)
section
open PySem.SeqAt
open PySem.AutoSeq1 (wpAny_loadPart')
open PySem.MeetsSeq PySem.MeetsSeq2 PySem.MeetsSeq3
theorem zMJ(l b:AQ)(items GH:Array AI)(n n2:Nat)(dd bV:Option AQ)(sl bL:Array (Option AI))(ns ms:List Int)(hi:EA items.toList ns)(hj:EA GH.toList ms) :
  Meets (FJ.«tuple.__le__» {[.ref l,.ref b],[]})
   (λ_ R s=>s.heap.get? l=AA { cls:=.type "tuple",dict:=dd,data:=.seq items n,slots:=sl }/\s.heap.get? b=AA { cls:=.type "tuple",dict:=bV,data:=.seq GH n2,slots:=bL } /\
    R (.ok (.ret (.bool (lexLe ns ms)))) s) :=
 .of_wp λprog w A R s h=>by
  obtain⟨hp,g,d,tk,os⟩:=s;obtain⟨hl,hb,h⟩:=h;have f2:=TF;have z1:items.size=ns.length:=by rw[<-hi.length];simp
  have z2:GH.size=ms.length:=by rw[<-hj.length];simp
  wp_walk using wpAny_loadPart' hl,wpAny_loadPart' hb,wpAny_forIn_list _ (λrest b s'=>b.1=AH/\s'={hp,g,d,tk,os}/\∃(vs ws:List AI) (ZZ Z0:List Int),rest=vs.zip ws /\
   EA vs ZZ/\EA ws Z0/\ZZ.length+GH.size=Z0.length+items.size/\R (.ok (.ret (.bool (lexLe ZZ Z0)))) {hp,g,d,tk,os}) _
  case turn =>
   rintro⟨y,x⟩ rest b s' ⟨eJ,rfl,vs,ws,ZZ,Z0,hz,oO,i4,FP,hR⟩
   cases oO with
   |nil=>rw[fA] at hz;cases hz
   |cons a t hvi' =>
    cases i4 with
    |nil=>rw[cG] at hz;cases hz
    |cons c u hwi' =>
     rw[HD] at hz;injection hz with hyx hrest;injection hyx with hy hx;subst hy hx;rw[lexLe_cons] at hR;simp only[A0] at FP;obtain⟨e,he,eG⟩:=Rc A.in1 {hp,g,d,tk,os} a t c u;refine AD (he prog w _ _ ?_)
     cases e with
     |true =>
      rw[if_pos (eG.mp rfl)] at hR
      wp_walk
      exact{rfl,rfl,_,_,_,_,hrest,hvi',hwi',by lia,hR}
     |false =>
      rw[if_neg (λq=>absurd (eG.mpr q) BJ)] at hR;have Kf:=zX4 A.in1 {hp,g,d,tk,os} a t c u prog w
      wp_walk using Kf
      exact{_,rfl,by simpa using hR}
  case fin =>
   rintro⟨b1,b2⟩ s' ⟨eJ,rfl,vs,ws,ZZ,Z0,hz,oO,i4,FP,hR⟩;simp only at eJ;subst eJ
   have hv:lexLe ZZ Z0=decide (items.size<=GH.size):=by
    cases oO with
    |nil =>
     cases i4 with
     |nil =>
      simp only[HJ] at FP;rw[zMI];exact(decide_eq_true 'l').symm
     |cons c u hw =>
      simp only[HJ,A0] at FP;rw[zKQ];exact(decide_eq_true 'l').symm
    |cons a t hv =>
     cases i4 with
     |nil =>
      simp only[HJ,A0] at FP;rw[zKR];exact(decide_eq_false 'l').symm
     |cons c u hw =>
      rw[HD] at hz;cases hz
   rw[hv] at hR
   wp_walk
   exact{_,rfl,by simpa[OK] using hR}
  case h =>
   exact{rfl,rfl,items.toList,GH.toList,ns,ms,rfl,hi,hj,by lia,h}
end
theorem le_tupInts{l b:AQ}{GH:Array AI}(hl:QU s.heap l items)(hb:QU s.heap b GH)(hi:EA items.toList ns)(hj:EA GH.toList ms)
  (hu:A.units<G3) (h:Q (.bool (lexLe ns ms)) s):A4 (A3 prog w) A (CO .LtE (.ref l) (.ref b)) Q E s:=by
 obtain⟨⟨cls,dd,data,sl⟩,ho,hc,n,hd⟩:=id hl;obtain⟨⟨pK,bV,data2,bL⟩,WF,Y2,n2,Z7⟩:=id hb;simp only at hc hd Y2 Z7;subst hc hd Y2 Z7
 exact eR (op:=.LtE) {_,ho,rfl} {_,WF,rfl} PySem.F.slot_tuple_le PySem.F.entry_tuple_le (PySem.F.args_tuple_le_2 _ _) (zMJ l b items GH n n2 dd bV sl bL ns ms hi hj)
  {ho,WF,show HX (lexLe ns ms)≠X6/\Q (.bool (lexLe ns ms)) s from{(λx=>nomatch x),h}} hu
end HT
variable{bm:List AI}{YX:String}{a0:AI}{s₀:AN}{kn:BL}{WA:AQ}{W:L2.Hp->Prop}
namespace L2
open PySem PySem.Spec PyProof.Rows
def Vz(K:AC):R2:=λx y H Q=>∃a b ns ms,x=.ref a/\y=.ref b/\SqT K H a (ns.map V.int)/\SqT K H b (ms.map V.int)/\Q (.bl (HT.lexLe ns ms)) H
theorem yF5(hu:X.A.units<G3):OpR X (CO .LtE) (Vz X.K):=by
 intro pins s σ H x y v u Q I rx ry h;obtain⟨a,b,ns,ms,rfl,rfl,ha,hb,q⟩:=h;cases rx;cases ry;obtain⟨CP,r1,p1,_⟩:=I.tuple ha;obtain⟨L8,r2,p2,_⟩:=I.tuple hb;have i1:EA CP.toArray.toList ns:=fU r1;have i2:EA L8.toArray.toList ms:=fU r2;exact HT.le_tupInts p1 p2 i1 i2 hu {.bl (HT.lexLe ns ms),H,I,rfl,q}
theorem yF6(hc:X.calm=AG):CallR X (.builtin "min") (λxs H Q=>∃(l:AQ) (ns:List Int),xs=[.ref l]/\SqT X.K H l (ns.map V.int)/\ns≠[]/\∀m,m∈ns->(∀x∈ns,m<=x)->Q (.int m) H):=by
 intro pins s σ H xs us Q I r h;obtain⟨l,ns,rfl,hl,gD,q⟩:=h;obtain⟨u,rfl,ru⟩:=VQ r;cases ru;obtain⟨CP,rv,pl,hz⟩:=I.tuple hl;have pt:s.heap.IsTuple l CP.toArray:=pl;have hi:EA CP ns:=fU rv;have FP:=rv.length;rw[AK] at FP;have UZ:0<ns.length:=by cases ns with|nil=>exact absurd rfl gD|cons _ _=>simp
 have NY:l<s.heap.objs.size:=by obtain⟨o,ho,_⟩:=id pl;exact BB ho
 refine call_min_walk (J2 pt ?_);refine{_,_,_,_,_,_,_,rfl,Walks.tuple (A:=X.A.in1) (by have:=I.ok.hd hc;simp[this]) _ l (CH NY) CP.toArray,{{_,AW _ rfl,rfl,rfl},pt.push _},?_,by simp;lia,CmpOf.ints_lt (λi=>ns.getD i 0) (λi v hv=>LR hi i v (by simpa using hv)),λv h' tk hP hk=>?_}
 .intro b hb
  show b<(s.heap.push _).objs.size;rw[EC];rcases A9.mp hb with rfl|hb
  .exact C9 _
  .rw[BW.mp hb]
   exact J6 NY
 .obtain⟨b1,b2⟩:=argBest_lt (λi=>ns.getD i 0) (CP.toArray.size-1)
  obtain⟨t,rfl⟩:=LR hi _ v (OJ.symm.trans hP);have hsz:CP.toArray.size=ns.length:=by simpa using FP.symm
  have xF:argBest (λi j=>decide (ns.getD i 0<ns.getD j 0)) (CP.toArray.size-1)<ns.length:=by lia
  have gd:∀j,(hj:j<ns.length)->ns.getD j 0=ns[j]:=λj hj=>by rw[F9,BU hj];rfl
  refine{.int _,H,I.kept (t':=tk) λb o e=>hk b o ?_ (AJ _ e),{t,rfl},q _ ?_ λx hx=>?_}
  .simp only[BW]
   exact CH (BB e)
  .rw[gd _ xF]
   exact F7 xF
  .obtain⟨j,hj,rfl⟩:=K6.mp hx
   have:=b2 j 'l';rw[gd j hj] at this;exact this
theorem zUP(hc:X.calm=AG):CallR X (.builtin "max") (λxs H Q=>∃(l:AQ) (ns:List Int),xs=[.ref l]/\SqT X.K H l (ns.map V.int)/\ns≠[]/\∀m,m∈ns->(∀x∈ns,x<=m)->Q (.int m) H):=by
 intro pins s σ H xs us Q I r h;obtain⟨l,ns,rfl,hl,gD,q⟩:=h;obtain⟨u,rfl,ru⟩:=VQ r;cases ru;obtain⟨CP,rv,pl,hz⟩:=I.tuple hl;have pt:s.heap.IsTuple l CP.toArray:=pl;have hi:EA CP ns:=fU rv;have FP:=rv.length;rw[AK] at FP;have UZ:0<ns.length:=by cases ns with|nil=>exact absurd rfl gD|cons _ _=>simp
 have NY:l<s.heap.objs.size:=by obtain⟨o,ho,_⟩:=id pl;exact BB ho
 refine call_max_walk (J2 pt ?_);refine{_,_,_,_,_,_,_,rfl,Walks.tuple (A:=X.A.in1) (by have:=I.ok.hd hc;simp[this]) _ l (CH NY) CP.toArray,{{_,AW _ rfl,rfl,rfl},pt.push _},?_,by simp;lia,CmpOf.ints_gt (λi=>ns.getD i 0) (λi v hv=>LR hi i v (by simpa using hv)),λv h' tk hP hk=>?_}
 .intro b hb
  show b<(s.heap.push _).objs.size;rw[EC];rcases A9.mp hb with rfl|hb
  .exact C9 _
  .rw[BW.mp hb]
   exact J6 NY
 .obtain⟨b1,b2⟩:=argBest_gt (λi=>ns.getD i 0) (CP.toArray.size-1)
  obtain⟨t,rfl⟩:=LR hi _ v (OJ.symm.trans hP);have hsz:CP.toArray.size=ns.length:=by simpa using FP.symm
  have xF:argBest (λi j=>decide (ns.getD i 0>ns.getD j 0)) (CP.toArray.size-1)<ns.length:=by lia
  have gd:∀j,(hj:j<ns.length)->ns.getD j 0=ns[j]:=λj hj=>by rw[F9,BU hj];rfl
  refine{.int _,H,I.kept (t':=tk) λb o e=>hk b o ?_ (AJ _ e),{t,rfl},q _ ?_ λx hx=>?_}
  .simp only[BW]
   exact CH (BB e)
  .rw[gd _ xF]
   exact F7 xF
  .obtain⟨j,hj,rfl⟩:=K6.mp hx
   have:=b2 j 'l';rw[gd j hj] at this;exact this
noncomputable def hJ:GB->BL
 |.str x=>x
 |.int i=>(toString i:String)
 |.bool b=>if b then "True" else "False"
 |.none=>"None"
 |d=>d.shown
theorem zUQ(hg:X.A.guards=AA [])(hu:X.A.units+64<G3):CallR X (.type "str") (λxs H Q=>∃v d,xs=[v]/\DV X.K H v d/\d.showable=AG/\d.depth<=50/\(hJ d).length<=sizeLine/\Q (.str (hJ d)) H):=by
 intro pins s σ H xs us Q I r h;obtain⟨v,d,rfl,hv,hs,hd,hl,q⟩:=h;obtain⟨u,rfl,ru⟩:=VQ r
 have vK:∀{a:AQ} {d:GB},DV X.K H (.ref a) d->RelV (.ref a) u->d.showable=AG->d.depth<=50->d.shown.length<=sizeLine->Q (.str d.shown) H->A4 (A3 X.prog X.w) X.A (call (.type "str") [u]) (EP X pins σ Q) X.xe s:=λ{a d} hv ru hs hd hl q=>by
  obtain⟨as,rd⟩:=hv.reads I ru;cases ru;exact str_of_reads rd hs (PyData.noDict_hsm (PyData.hasDict_of_canLay _ hv.can)) hg 'l' (λb o e=>e) (λh' tu tk hk=>{.str _,H,I.kept (t':=tk) hk,{tu,rfl},q}) hl
 cases hv with
 |non=>cases ru;exact P.str_of_none {.str _,H,I.tok _,{_,rfl},q}
 |bl b=>cases ru;exact P.str_of_bool {.str _,H,I.tok _,{_,rfl},q}
 |int i=>obtain⟨t,rfl⟩:=ru;exact P.str_of_int (by simpa[eX] using hs) {.str _,H,I.tok _,{_,rfl},q}
 |str x hx=>obtain⟨t,rfl⟩:=ru;exact P.str_of_str {.str _,H,I,{_,rfl},q}
 |tup h1 h2=>exact vK (.tup h1 h2) ru hs hd hl q
 |lst h1 h2=>exact vK (.lst h1 h2) ru hs hd hl q
def yK4(ge gs:G):G:=λE=>(ge E).bind λp=>(gs p.2).bind λq=>match p.1 with
 |.tup xs=>if q.1 matches .int (-1) then .ok (.tup xs.reverse,q.2) else .bad
 |_=>.bad
def nV(x y:D):Out D:=match x,y with
 |.tup xs,.tup ys=>match QZ xs,QZ ys with
  |some ns,AA ms=>.ok (.bl (HT.lexLe ns ms))
  |_,_=>.bad
 |_,_=>.bad
def yLC:List D->Out D
 |[.tup ds]=>match QZ ds with
  |some (n::ns)=>.ok (.int (ns.foldl min n))
  |_=>.bad
 |_=>.bad
def hG:List D->Out D
 |[.tup ds]=>match QZ ds with
  |some (n::ns)=>.ok (.int (ns.foldl max n))
  |_=>.bad
 |_=>.bad
def ZE:List D->Out D
 |[d]=>match d.py with
  |some p=>if p.showable=AG/\p.depth<=50/\(hJ p).length<10000 then .ok (.str (hJ p)) else .bad
  |none=>.bad
 |_=>.bad
theorem zX7:∀(ns:List Int) (n:Int),ns.foldl min n∈n::ns/\∀x∈n::ns,ns.foldl min n<=x
 |[],n=>{AU,λx hx=>by rw[BW.mp hx];exact HE _}
 |m::ns,n=>by
  obtain⟨h1,h2⟩:=zX7 ns (min n m);rw[S8];have h3:=h2 _ AU;refine{?_,λx hx=>?_}
  .rcases A9.mp h1 with e|h
   .rw[e]
    rcases YC n m with z|z
    .rw[Int.min_eq_left z];exact AU
    .rw[Int.min_eq_right z];exact AS _ AU
   .exact AS _ (AS _ h)
  .rcases A9.mp hx with e|hx
   .rw[e];lia
   .rcases A9.mp hx with e|hx
    .rw[e];lia
    .exact h2 x (AS _ hx)
theorem Rk:∀(ns:List Int) (n:Int),ns.foldl max n∈n::ns/\∀x∈n::ns,x<=ns.foldl max n
 |[],n=>{AU,λx hx=>by rw[BW.mp hx];exact HE _}
 |m::ns,n=>by
  obtain⟨h1,h2⟩:=Rk ns (max n m);rw[S8];have h3:=h2 _ AU;refine{?_,λx hx=>?_}
  .rcases A9.mp h1 with e|h
   .rw[e]
    rcases YC n m with z|z
    .rw[Int.max_eq_right z];exact AS _ AU
    .rw[Int.max_eq_left z];exact AU
   .exact AS _ (AS _ h)
  .rcases A9.mp hx with e|hx
   .rw[e];lia
   .rcases A9.mp hx with e|hx
    .rw[e];lia
    .exact h2 x (AS _ hx)
section
variable{K:AC}{a b st:C5}{ga gb ge gs:G}{Ce:List G}
theorem yCC:P5 K (Vz K) nV:=λv u x y F H d Q s r1 r2 hf k=>by
 unfold nV at hf;split at hf
 .split at hf
  .rename_i e1 e2
   cases hf;obtain⟨a,rfl,h1⟩:=r1.intsT s e1;obtain⟨b,rfl,h2⟩:=r2.intsT s e2;exact{a,b,_,_,rfl,rfl,h1,h2,k _ F H (.refl s) (.bl _)}
  .cases hf
 .cases hf
theorem yF7(hu:X.A.units+64<G3)(ha:VE X a ga)(hb:VE X b gb)(hm:CY .LtE b=AB:=by with_unfolding_all rfl):VT X (.Compare a [.LtE] [b] pos) (gB (g2 nV ga gb)):=fR (yF5 (AL (AY _ _) hu)) yCC ha hb hm
theorem Dr{vs:List V}{d:D}(r:Reps K F vs [d]):∃v,vs=[v]/\Rep K F v d:=by
 cases r with
 |cons r rr=>cases rr;exact{_,rfl,r}
theorem yCD{xs:List D}{d:D}(h:hG xs=.ok d):∃ds n ns,xs=[.tup ds]/\QZ ds=AA (n::ns)/\d=.int (ns.foldl max n):=by
 unfold hG at h;split at h
 .split at h
  .rename_i e;cases h;exact{_,_,_,rfl,e,rfl}
  .cases h
 .cases h
theorem yCE:fN K (λxs H Q=>∃(l:AQ) (ns:List Int),xs=[.ref l]/\SqT K H l (ns.map V.int)/\ns≠[]/\∀m,m∈ns->(∀x∈ns,x<=m)->Q (.int m) H) hG:=λvs xs F H d Q s r hf k=>by
 obtain⟨ds,n,ns,rfl,e,rfl⟩:=yCD hf;obtain⟨v,rfl,r1⟩:=Dr r;obtain⟨a,rfl,h1⟩:=r1.intsT s e;refine{a,_,rfl,h1,by simp,λm hm hl=>?_};obtain⟨f1,f2⟩:=Rk ns n;rw[lX (f2 m hm) (hl _ f1)];exact k _ F H (.refl s) (.int _)
theorem yF8(hc:X.calm=AG)(hm:X.mg "max"=AH)(ha:VA X (e::es) Ce)(hg:Gl X "max":=by rfl)(he:AF (e::es) X.env=(AB,eval e X.env)::AF es X.env:=by rfl)(HZ:(CZ pos (AF es X.env)).any (·.1)=AB:=by rfl) :
  VE X (.Call (.Name "max" p) (e::es) [] pos) (gN hG Ce):=xY (zUP hc) yCE hm (by decide +kernel) ha hg 'd' 'd' he HZ
theorem yCF{xs:List D}{d:D}(h:ZE xs=.ok d):∃x p,xs=[x]/\x.py=AA p/\(p.showable=AG/\p.depth<=50/\(hJ p).length<10000)/\d=.str (hJ p):=by
 unfold ZE at h;split at h
 .split at h
  .rename_i e
   split at h
   .rename_i q;cases h;exact{_,_,rfl,e,q,rfl}
   .cases h
  .cases h
 .cases h
theorem yF9:fN K (λxs H Q=>∃v d,xs=[v]/\DV K H v d/\d.showable=AG/\d.depth<=50/\(hJ d).length<=sizeLine/\Q (.str (hJ d)) H) ZE:=λvs xs F H d Q s r hf k=>by
 obtain⟨x,p,rfl,e,⟨h1,h2,h3⟩,rfl⟩:=yCF hf;obtain⟨v,rfl,r1⟩:=Dr r;exact{v,p,rfl,Rep.dv s _ r1 e,h1,h2,bI h3,k _ F H (.refl s) (.str _)}
theorem yU(hgd:X.A.guards=AA [])(hu:X.A.units+64<G3)(hm:X.mg "str"=AH)(ha:VA X (e::es) Ce)(hg:Gl X "str":=by rfl)(he:AF (e::es) X.env=(AB,eval e X.env)::AF es X.env:=by rfl)(HZ:(CZ pos (AF es X.env)).any (·.1)=AB:=by rfl) :
  VE X (.Call (.Name "str" p) (e::es) [] pos) (gN ZE Ce):=Gi (zUQ hgd hu) yF9 hm (by decide +kernel) ha hg 'd' 'd' he HZ
end
section
variable{K:AC}
end
structure ExK(K:AC)(C:AQ)(bm:List AI)(YX:String):Prop where
 ex:GL K C bm YX=AG
 ga:LO K (.ref C) "__getattribute__"=AA (AA (.builtin "BaseException.__getattribute__"))
 gb:LO K (.ref C) "__getattr__"=AA AH
 ha:LO K (.ref C) "__class__"=AA (AA (.builtin "object.__class__"))
 hn:Y3 K (.builtin "object.__class__") "__get__"=AA (AA (.builtin "getset_descriptor.__get__"))
 ht:cC K (.builtin "object.__class__")=AA AG
 hm:T0 K C (.type "object")=AA AG
 hb:T0 K C (.type "BaseException")=AA AG
def XAt(x C:AQ)(h:D0):Prop:=∃o,h.get? x=AA o/\o.cls=.ref C
section
variable{K:AC}{x:AQ}
open PySem.W Builtin Builtin.ObjectAttr Builtin.Getset_descriptor in
theorem XAt.type(I:XAt x C h):Looks M h (typeOf (.ref x)) (.ref C):=by
 obtain⟨o,e,c⟩:=I;exact c▸(Looks.ld e).andThen .now
open PySem.W Builtin Builtin.ObjectAttr Builtin.Getset_descriptor in
theorem ExK.find(Z:ExK K C bm YX)(X:K.In h):Looks M h (find (.ref x) (.ref C) "__class__") (.bind (.builtin "getset_descriptor.__get__") (.builtin "object.__class__")) :=
 (looks_findIn X Z.ha).andThen ((show Looks M h (getOf (AA (.builtin "object.__class__"))) (AA (.builtin "getset_descriptor.__get__")) from looks_specialIn X Z.hn).andThen
  ((show Looks M h (dataDescriptor? (AA (.builtin "object.__class__")) (AA (.builtin "getset_descriptor.__get__"))) (AA (.builtin "getset_descriptor.__get__",.builtin "object.__class__")) from(looks_takesIn X Z.ht).andThen .now).andThen (Looks.tag .now)))
open PySem.W Builtin Builtin.ObjectAttr Builtin.Getset_descriptor in
theorem ExK.get(Z:ExK K C bm YX)(X:K.In s.heap)(I:XAt x C s.heap){tp:AI}(q:R (.ok (.ret (.ref C))) s):IC (A3 prog w) A (.call (.builtin "getset_descriptor.__get__") {[.builtin "object.__class__",.ref x,tp],[]}) R s:=by
 obtain⟨hh,g,dr,t,os⟩:=s;have L0:=I.type (M:=A3 prog w);have L1:=looks_mroIn (M:=A3 prog w) X Z.hm;refine jK KF.slot_gs.plain KF.entry_gs (KF.slot_gs.check _ _ _ _ _ _ _ _ KF.type_class (KF.args_gs _ _ _) ?_);unfold FJ.«getset_descriptor.__get__» descrGet;rw[dga_obj];refine AD (wpAny_pure ?_);unfold descrGetter descrCheckInstance descrNameAndClass isInstance;simp only[KF.owner_class]
 repeat lk
 refine{Code.quiet_builtin _ (by decide +kernel),codeAny_builtin KF.entry_class ?_};unfold FJ.«object.__class__» shownTypeOf
 repeat lk
 exact q
open PySem.W Builtin Builtin.ObjectAttr Builtin.Getset_descriptor in
theorem ExK.cls(Z:ExK K C bm YX)(X:K.In s.heap)(I:XAt x C s.heap){Q:Option AI->AN->Prop}(q:Q (AA (.ref C)) { s with toks:=s.toks+1 }):A4 (A3 prog w) A (getAttr? (.ref x) "__class__") Q E s:=by
 obtain⟨hh,g,d,t,os⟩:=s;have L0:=I.type (M:=A3 prog w);have L1:=looks_findIn (M:=A3 prog w) X Z.ga;have L2:=Z.find (M:=A3 prog w) (x:=x) X;have L3:=looks_findIn (M:=A3 prog w) X Z.gb;have L4:=looks_mroIn (M:=A3 prog w) X Z.hb;have hk:builtinKind "BaseException.__getattribute__"=AA .slot:=by decide +kernel
 have oS:splitId "BaseException.__getattribute__"=AA ("BaseException","__getattribute__"):=by decide +kernel
 have ha:=λn=>F.args_bexc_ga (.ref x) n;have QG:(PB "BaseException.__getattribute__"==PB "object.__getattribute__")=AB:=by decide +kernel
 unfold getAttr? getAttrBy? getAttrBy;refine AD (wpAny_mkText (AD (JS (DP (AD (L0.at (AD (L1.at ?_))))))));show A4 _ _ (if(onTheHeap (DN C)&&PB "BaseException.__getattribute__"==PB "object.__getattribute__")=AG then _ else getAttrByItsOwn _ _ _ _ _ _) _ _ _;rw[QG,l0,if_neg BJ];unfold getAttrByItsOwn;refine AD (L3.at (AD (JS (DP ?_))));show A4 _ _ (bindSpecial _ _ >>= _) _ _ _;rw[F.excAttr_ValueError.ga.bind];refine AD (wpAny_pure (X2 (jK F.excAttr_ValueError.ga.plain F.entry_bexc_ga ?_)));simp only[checkBuiltinCall,hk,oS];unfold isInstance
 repeat lk
 refine wpAny_run (h:=AH) (Z.get (s:={hh,g,d,t+1,os}) X I ?_);exact wpAny_pure (wpAny_pure (handed_on rfl (wpAny_pure q)))
open PySem.W Builtin Builtin.ObjectAttr Builtin.Getset_descriptor in
theorem ExK.kit(Z:ExK K C bm YX):KitX K (.ref x) (.ref C) (XAt x C) where
 ty:=λ_ _ _ I=>I.type
 it:=λ_ _ X _=>by
  have z:=Z.ex;unfold excIn at z;split at z
  .rename_i ho
   intro A' Q' E' s' k q;unfold isType loadHead;exact AD (wpAny_loadPart (k _ _ (X _ _ ho)) (wpAny_pure q))
  .cases z
 ne:=λh tp dd CP n sl X htp=>by
  refine Q8.mpr λq=>?_;obtain rfl:C=tp:=Value.ref.inj (beq_iff_eq.mp q);have z:=Z.ex;unfold excIn at z;split at z
  .rename_i ho
   have e:=congrArg Obj.cls (BV ((X _ _ ho).symm.trans htp));exact absurd (Value.type.inj e) 'd'
  .cases z
 ca:=λX I k=>Z.cls X I k
end
structure Fly(P:CF)(w:DJ)(C:AQ)(outer:List TD)(H:Hp)(s:AN)(a:AQ)(H1:Hp)(h1:D0)(fr:List AQ)(a0:AI)(s':AN):Prop where
 os:s'.os=s.os
 bare:M2 s'.gens
 un:Un (QD outer) [] H H1 s.heap h1
 hok:HOk P w H1 h1
 frs_:∀b∈fr,H1 b=AH/\(b∈QD outer\/s.heap.objs.size<=b)/\∃o,h1.get? b=AA o/\∀vs,o.data≠.fields vs
 new:h1.get? a=AH
 fl:Heap.FlyingW (CS h1 fr) outer a (.ref C) a0 s'.heap
 up:h1.UpToSlots s'.heap
def IV(P:CF)(w:DJ)(C:AQ):CXT:=λouter H s E e s'=>∃a H1 h1 fr a0,e=.ref a/\Fly P w C outer H s a H1 h1 fr a0 s'/\E (.ref C) AH H1
section
variable{h2:D0}{fr:List AQ}
theorem Fly.kept(F:Fly P w C outer H s a H1 h1 fr a0 s')(st:(CS h1 fr).StaysIn h2)(up:h1.UpToSlots h2):Un (QD outer) [] H H1 s.heap h2/\HOk P w H1 h2:=by
 have any:∀b o,h1.get? b=AA o->(b∉fr->h2.get? b=AA o)/\∃o',h2.get? b=AA o'/\(b∈fr->∃sl,o'={ o with slots:=sl }):=λb o e=>by
  refine{λn=>st b o (K4 _ e n),?_}
  by_cases hb:b∈fr
  .obtain⟨_,_,o',e',d⟩:=F.frs_ b hb
   rw[e] at e';cases e';obtain⟨sl,q⟩:=up b o e d;exact{_,q,λ_=>{sl,rfl}}
  .exact{o,st b o (K4 _ e hb),λz=>absurd z hb}
 have NN:∀b o,s.heap.get? b=AA o->b∉QD outer->b∉fr:=λb o e n z=>by
  rcases(F.frs_ b z).2.1 with q|q
  .exact n q
  .exact absurd (BB e) (QT.mpr q)
 refine{{λb o e n hb hx=>(any b o (F.un.keep b o e n hb hx)).1 (NN b o e hb),λb o e n hb hx=>?_,F.un.free,λb o e hx=>?_,F.un.tups,F.un.frzs,F.un.tbls},λb u e=>?_}
 .obtain⟨sl,q⟩:=F.un.slot b o e n hb hx
  by_cases hf:b∈fr
  .obtain⟨o',q1,q2⟩:=(any b _ q).2
   obtain⟨vH,rfl⟩:=q2 hf;exact{vH,q1}
  .exact{sl,(any b _ q).1 hf}
 .obtain⟨o',q⟩:=F.un.there b o e hx
  obtain⟨o2,q2,_⟩:=(any b o' q).2;exact{o2,q2}
 .refine(F.hok b u e).stay (λc v hc q=>(any c v q).1 λz=>?_) (λ_ q=>q) (λ_ _ q=>q) λ_ _ _ q=>q
  have n:=(F.frs_ c z).1;rcases hc with rfl|hc
  .rw[n] at e;cases e
  .rw[n] at hc;cases hc
end
section
variable{K:AC}{E:XK}
theorem zSL{vs:List AI}(I:Inv (JJ (IV P w C) P w K mg base N qual scope f cd A outer s₀ H₀ E) pins σ H s)(hx:Heap.MadeExcOf s.heap h' a (.ref C) vs)
  (q:E (.ref C) AH H):(JJ (IV P w C) P w K mg base N qual scope f cd A outer s₀ H₀ E).xe (.ref a) { s with heap:=h' }:=by
 have W4:∀env∈(JJ (IV P w C) P w K mg base N qual scope f cd A outer s₀ H₀ E).stack,∀b,env.frame=AA b->b∈QD (JJ (IV P w C) P w K mg base N qual scope f cd A outer s₀ H₀ E).stack:=λenv he b hb=>FF.mpr {env,he,hb};refine wpAny_leaves_madeW (base:=CS s.heap (QD (JJ (IV P w C) P w K mg base N qual scope f cd A outer s₀ H₀ E).stack)) I.ok.frames rfl (λb o e=>LN _ e) (PySem.W.funFrames_hide I.stack W4) hx λh2 t fl _ _ up=>?_;refine{a,H,s.heap,_,.ref t,rfl,{I.os,I.bare,I.base,I.hok,λb hb=>{I.stkFree b hb,?_,(I.stack.mem hb).2},hx.new,fl,(Heap.UpToSlots.of_keeps hx.keeps).trans up},q};rcases A9.mp (I.stkSub b hb) with e|e
 .exact .inr (CD e.symm)
 .exact .inl e
theorem yCG(X:K.In h)(Z:GL K C bm YX=AG):∃tl N nm q bs hd sn sub ab col dd k0 k1 k2 k3 k5 mN,h.get? C=AA (excClassObj nm q C N bs tl hd sn sub ab col dd k0 k1 k2 k3 k5 YX)/\h.Ns N mN/\mN "__init__"=AH/\OwnTail h bm tl:=by
 unfold GL at Z;split at Z
 .rename_i dd cd sl ho
  split at Z
  .rename_i C' tl k0 k1 k2 k3 n k5 em es
   simp only[BE,beq_iff_eq,M0] at Z;obtain⟨⟨⟨⟨⟨e1,e2⟩,e3⟩,e4⟩,e5⟩,e6⟩:=Z;cases cd;cases sl;dsimp only at em e3 e5 e6 es;subst e1 e2 em e3 es;exact{tl,_,_,_,_,_,_,_,_,_,dd,k0,k1,k2,k3,k5,_,X _ _ ho,.of_isNs (PySem.W.isNs_of_in X e5),PySem.W.nsMap_none_of_in X e5 e6,PySem.W.tail_of_in X e4}
  .cases Z
 .cases Z
theorem zX8{np:Y4}{ta:TA}{B ini:String}(FB:ExcBaseFacts B YX ini bm)(Z:GL K C bm YX=AG)(hm:mg x=AA (.ref C))(hh:A.handled=AH)
  (ha:PA (JJ (IV P w C) P w K mg base N qual scope f cd A outer s₀ H₀ E) (e::es) ta) (hg:Gl (JJ (IV P w C) P w K mg base N qual scope f cd A outer s₀ H₀ E) x:=by rfl) (hd:(x==("__debug__":BL))=AB:=by decide)
  (he:AF (e::es) (ET qual scope s₀.heap.objs.size f cd)=(AB,eval e (ET qual scope s₀.heap.objs.size f cd))::AF es (ET qual scope s₀.heap.objs.size f cd):=by rfl)
  (HZ:(CZ GJ (AF es (ET qual scope s₀.heap.objs.size f cd))).any (·.1)=AB:=by rfl) :
  PS (JJ (IV P w C) P w K mg base N qual scope f cd A outer s₀ H₀ E) (.Raise (AA (.Call (.Name x np) (e::es) [] GJ)) AH pos) (λD σ H=>ta σ H λvs H1=>vs.length<=sizeLine/\E (.ref C) AH H1):=by
 intro pins s σ H D I h;obtain⟨tl,Nn,nm,q,bs,hdct,sn,sub,ab,col,dd,k0,k1,k2,k3,k5,mN,hC,hN,hni,TL⟩:=yCG (K:=K) (h:=base) I.ok.mod.kin Z;refine wpAny_Raise_call_subT (C:=C) (nm:=nm) (q:=q) (N:=Nn) (bs:=bs) (bm:=tl) (hdct:=hdct) (sn:=sn) (sub:=sub) (ab:=ab) (col:=col) (dd:=dd) (k0:=k0) (k1:=k1) (k2:=k2) (k3:=k3) (k5:=k5) FB (mN:=mN) (TL.hasType FB.hasBase) hh ?_ hni (tO I hg hm {rfl,?_} hd)
 .show(CZ GJ (AF (e::es) (ET qual scope s₀.heap.objs.size f cd))).any (·.1)=AB
  rw[he];exact HZ
 .have h:=ha GJ pins s σ H _ I h
  show A4 _ _ (evalArgs (.ref C) AG (CZ GJ (AF (e::es) (ET qual scope s₀.heap.objs.size f cd))) []) _ _ _;have h:A4 (A3 P w) _ (spliced (CZ GJ (AF (e::es) (ET qual scope s₀.heap.objs.size f cd)))) _ _ s:=h;rw[he] at h ⊢;refine YE (CJ h (λus s2 q=>?_) λ_ _ y=>y);obtain⟨vs,H1,I1,r,z,q⟩:=q;exact{rfl,by rw[<-r.length];exact z,I1.bk _ _ hC,hN.keeps I1.bk,TL.keeps I1.bk,λh' a m=>zSL I1 m q}
end
theorem Inv.frame{t:Nat}{m':BL->Option AI}(I:Inv X pins σ H s)(hs:FI X.env.locals s.heap h')(hn:h'.Ns X.env.locals m')(hl:σ'.length=σ.length)
  (hv:∀(i:Nat) (x:BL) (v:V),X.N[i]?=AA x->σ'[i]?=AA (AA v)->dE X.env.scope x->∃u,RelV v u/\Vv X.env h' m' x u):Inv X pins σ' H { s with heap:=h',toks:=t }:=by
 obtain⟨m,⟨oL,es,ep,Zq,r⟩,_⟩:=id I.loc;have ne:∀b o,X.s₀.heap.get? b=AA o->b≠X.env.locals:=λb o e=>CH (AM (BB e) I.ok.above);refine{I.ok,I.os,I.bare,{λb o e n hb hx=>(hs.2 b (ne b o e)).trans (I.base.keep b o e n hb hx),λb o e n hb hx=>?_,I.base.free,λb o e hx=>?_,I.base.tups,I.base.frzs,I.base.tbls},{m',hn,hv},λy c e=>?_,I.free,I.freeC,λp hp=>?_,λb u e=>?_,hl.trans I.len}
 .obtain⟨sl,e1⟩:=I.base.slot b o e n hb hx
  exact{sl,(hs.2 b (ne b o e)).trans e1}
 .obtain⟨o',e1⟩:=I.base.there b o e hx
  exact{o',(hs.2 b (ne b o e)).trans e1}
 .obtain⟨v,z⟩:=I.cell y c e
  exact{v,z.sameBut hs (I.cne y c e)}
 .obtain⟨e,n,ne,nf,d⟩:=I.pin p hp
  exact{(hs.2 p.1 ne).trans e,n,ne,nf,d}
 .refine(I.hok b u e).stay (λc v hc q=>(hs.2 c ?_).trans q) (λ_ q=>q) (λ_ _ q=>q) λ_ _ _ q=>q
  rintro rfl;rcases hc with rfl|hc
  .rw[I.free] at e;cases e
  .rw[I.free] at hc;cases hc
theorem zUR{v:V}{Q:Unit->AN->Prop}(I:Inv X pins σ H s)(hN:X.N.Nodup)(hi:X.N[i]?=AA x)(hk:X.env.scope.names.lookup x=AA .local)(hv:σ[i]?=AA (AA v))
  (h:∀s',Inv X pins (σ.set i AH) H s'->Q () s'):A4 M A (unbindName X.env x) Q E s:=by
 obtain⟨m,hn,hl⟩:=id I.loc;obtain⟨u,_,q⟩:=hl i x v hi hv (.inl hk);rcases q with⟨_,hm⟩|⟨q,_⟩
 .refine wpAny_unbindName_local hk hn hm (by rw[I.ok.kind];rfl) λh' z wT hs=>h _ (I.frame hs wT (CC ..) λj y w e1 e2 e3=>?_)
  have hj:i≠j:=λe=>by
   subst e;rw[BF (AX.mp hv).1] at e2;cases e2
  rw[A7 hj] at e2;obtain⟨u',r',q⟩:=hl j y w e1 e2 e3;have hy:y≠x:=λe=>hj (zS hN hi (e▸e1));refine{u',r',?_};rcases q with⟨k,e⟩|⟨k,c,e,z'⟩
  .exact .inl {k,(if_neg hy).trans e}
  .exact .inr {k,c,e,z'.sameBut hs (I.cne y c e)}
 .have q:X.env.scope.names.lookup x=AA .cell\/X.env.scope.names.lookup x=AA .free:=q
  rw[hk] at q;rcases q with q|q<;>cases q
noncomputable def Cx.hot(X:Cx)(a:AQ):Cx:={ X with A:=X.A.mark (AA (.ref a)),calm:=AB,xe:=λ_ _=>False }
theorem Inv.heat(I:Inv X pins σ H s)(a:AQ):Inv (X.hot a) pins σ H s :=
 {{I.ok.tab,I.ok.mod,I.ok.kind,I.ok.glob,I.ok.blt,I.ok.above,I.ok.inj,I.ok.has,I.ok.cab,(λz=>by cases z),I.ok.frames,I.ok.stk,I.ok.exf,I.ok.bs,I.ok.bsz,I.ok.noex,I.ok.exfs,I.ok.funs,I.ok.frf},I.os,I.bare,I.base,I.loc,I.cell,I.free,I.freeC,I.pin,I.hok,I.len}
theorem pAK(ok:X.Ok)(I:Inv (X.hot a) pins σ H s):Inv X pins σ H s:={ok,I.os,I.bare,I.base,I.loc,I.cell,I.free,I.freeC,I.pin,I.hok,I.len}
def Hd(A:DI):DI:={ A with handled:=AH }
def Bg(P:CF)(w:DJ)(K:AC)(mg:BL->Option AI)(base:D0)(N:List BL)(qual:BL)(scope:RV)(f:AQ)(cd:AI)(A:DI)(outer:List TD)(s:AN)(H:Hp):Cx :=
 { JJ LA P w K mg base N qual scope f cd A outer s H E0 with calm:=AB,xe:=λ_ _=>False }
section
variable{K:AC}
theorem yK5{st:D5}{vs:List V}{Q:VK}(F:Fun K x qual st f fd)(S:FnScope N ps (JO st))
  (hr:Room (k+1) (Hd A)) (e0:Env0 P w K mg base A outer s H) (hb:T4 s fd {us,[]} (ps.zip us)) (hl:vs.length=ps.length) (r:Vals vs us)
  (MT:∀GE,∃t,PSs (Bg P w K mg base N qual (JO st) f GE A outer s H) (XM st) t/\t { nx:=λ_ H'=>Q .non H',rt:=Q } (Q9 N vs) H) :
  IC (A3 P w) A (.call (.ref f) {us,[]}) (CR LA outer P w H s Q E0) s:=by
 obtain⟨oc,od,kV,SZ,pm,an,GE,ct,bN,rfl,lk,QH⟩:=F.ex;have KX:K.In s.heap:=e0.mod.kin.keeps λb o e=>(e0.bs b o e).1;have Ju:s.heap.NoLimit:=e0.mod.nolimit.keeps λb o e=>(e0.bs b o e).1;refine gJ (A:=A) hr.depth (KX _ _ lk) rfl S.co S.gen rfl (X9 KX QH) (hb _ _ _ _ ?_);refine X1 S.kind (λy hy=>?_) λenv he s1 x=>?_
 .rcases S.par y.1 (IX hy).1 with q|q
  .exact .inl q
  .exact .inr {q,NH _ _ _ (.inl q)}
 subst he;refine{Ju.keeps x.toInCall.keep,codeAny_func ?_};obtain⟨t,ht,hq⟩:=MT GE;have e1:Env0 P w K mg base (Hd A) outer s H:={e0.tab,e0.frames,e0.mod,e0.bs,e0.bsz,e0.funs,e0.frf,e0.hok,e0.bare};have I:=Si (CX:=LA) (E:=E0) (qual:=qual) (f:=f) (cd:=GE) S hr.hd e1 hl r x
 have I:Inv (Bg P w K mg base N qual (JO st) f GE A outer s H) [] (Q9 N vs) H s1 :=
  {{I.ok.tab,I.ok.mod,I.ok.kind,I.ok.glob,I.ok.blt,I.ok.above,I.ok.inj,I.ok.has,I.ok.cab,(λz=>by cases z),I.ok.frames,I.ok.stk,I.ok.exf,I.ok.bs,I.ok.bsz,I.ok.noex,I.ok.exfs,I.ok.funs,I.ok.frf},I.os,I.bare,I.base,I.loc,I.cell,I.free,I.freeC,I.pin,I.hok,I.len}
 refine CJ (ht [] s1 (Q9 N vs) H _ I hq) (λfl s' hs=>?_) λe s' hs=>hs.elim
 cases fl with
 |ret u =>
  obtain⟨v,σ',H',J,rv,q⟩:=hs;exact{v,H',J.os,J.bare,J.base,J.hok,rv,q}
 |next =>
  obtain⟨σ',H',J,q⟩:=hs;exact{.non,H',J.os,J.bare,J.base,J.hok,rfl,q}
 |brk=>obtain⟨_,_,_,q⟩:=hs;exact q.elim
 |cont=>obtain⟨_,_,_,q⟩:=hs;exact q.elim
end
def Xo(a:AQ)(b:Bool):TE:=λσ H Q=>σ[0]?=AA (AA (.ref a))/\Q (.bl b) H
def rM(a:AQ)(bs:List Bool):TA:=λσ H Q=>σ[0]?=AA (AA (.ref a))/\Q (bs.map V.bl) H
theorem cO{n:BL}{ce:C5}{cv:V}{uc:AI}{b:Bool}(hX:∀pins σ H s,Inv X pins σ H s->XAt a C s.heap)(Z:ExK X.K C bm YX)(hm:X.mg "isinstance"=AH)(hc:PE X ce (tC cv))(hv:∀u,RelV cv u->u=uc)(he:BN X.K (.ref C) uc=AA b)
  (hN:X.N[0]?=AA n:=by rfl) (hl:dE X.env.scope n:=by first|exact BO rfl|exact EG (BO rfl)) (hg:Gl X "isinstance":=by rfl) (hd:(n==("__debug__":BL))=AB:=by decide) (QH:(n==("__classdict__":BL))=AB:=by decide)
  (h1:AF [.Name n p1,ce] X.env=(AB,eval (.Name n p1) X.env)::AF [ce] X.env:=by rfl) (h2:AF [ce] X.env=(AB,eval ce X.env)::AF [] X.env:=by rfl) (HZ:(CZ pos (AF [ce] X.env)).any (·.1)=AB:=by rfl) :
  PE X (.Call (.Name "isinstance" p) [.Name n p1,ce] [] pos) (Xo a b):=by
 have hc:CallR X (.builtin "isinstance") (λxs H Q=>xs=[.ref a,cv]/\Q (.bl b) H)/\PE X ce (tC cv):={λpins s σ H xs us Q I r h=>by
  obtain⟨rfl,q⟩:=h
  cases r with
  |cons r1 r2 =>
   cases r2 with
   |cons r2 r3 =>
    cases r3;cases r1;obtain rfl:=hv _ r2
    exact C7 Z.kit I.kIn (hX _ _ _ _ I) he (λz=>nomatch z) λtk=>{.bl b,H,I.tok tk,rfl,q},hc}
 refine(zQ hc.1 hg hm Boot.isinstance (R0 (kD hN hl hd QH) (R0 hc.2 IP h2) h1) 'd' 'd' h1 HZ).imp λσ H Q h=>?_;exact{_,h.1,rfl,h.2}
theorem Cs:PA X [] (rM a []):=λpos pins s σ H Q I h=>IP pos pins s σ H Q I h.2
theorem cN{b:Bool}{bs:List Bool}(h:PE X e (Xo a b))(r:PA X es (rM a bs))(hs:AF (e::es) X.env=(AB,eval e X.env)::AF es X.env:=by rfl):PA X (e::es) (rM a (b::bs)) :=
 λpos pins s σ H Q I q=>R0 h r hs pos pins s σ H Q I {q.1,q.1,q.2}
def yGA(a:AQ)(l1 l2 l3:List Bool):TS:=Ay (nO (Aw (rM a l1)) (mF 1)) (Ay (nO (nQ Gq (uO 1) (Aw (rM a l2))) (mF 1)) (Vu (nQ Gq (uO 1) (Aw (rM a l3)))))
def KU(P:CF)(w:DJ)(K:AC)(mg:BL->Option AI)(base:D0)(f C:AQ)(bs:List Bool):Prop :=
 ∀(A:DI) (outer:List TD) (s:AN) (H:Hp) (a:AQ) (Q:VK),Room 2 (Hd A)->Env0 P w K mg base A outer s H->XAt a C s.heap->H a=AH->a∉QD outer ->
  (∀p H',Gr H H'->H p=AH->H' p=AA (.lst (bs.map V.bl))->Q (.ref p) H')->IC (A3 P w) A (.call (.ref f) {[.ref a],[]}) (CR LA outer P w H s Q E0) s
section
variable{K:AC}{st:D5}{l1 l2 l3:List Bool}
theorem zX9{n:BL}(Fn:Fun K x x st f fd)(S:FnScope [n,kn] [n] (JO st))(hb:Binds K fd [n] [])(hz:l1.length+l2.length+l3.length<=100)
  (MT:∀GE A outer s H a,(∀pins σ H' s',Inv (Bg P w K mg base [n,kn] x (JO st) f GE A outer s H) pins σ H' s'->XAt a C s'.heap)->PSs (Bg P w K mg base [n,kn] x (JO st) f GE A outer s H) (XM st) (yGA a l1 l2 l3)) :
  KU P w K mg base f C (l1++l2++l3):=λA outer s H a Q hr e0 ha hn ho k=>by
 obtain⟨o,Kl,WF⟩:=ha;refine yK5 (k:=1) (vs:=[.ref a]) (us:=[.ref a]) Fn S hr e0 ?_ rfl (.cons rfl .nil) λGE=>{_,MT GE A outer s H a λpins σ H' s' I=>{o,I.base.keep a o Kl hn ho (by exact D6),WF},?_}
 .exact hb s [.ref a] (e0.mod.kin.keeps λb o e=>(e0.bs b o e).1) rfl
 .have z:∀n,n<=100->n<=sizeLine:=λn h=>AV h 'd'
  refine{rfl,by rw[AK];exact z _ 'l',λp1 h1=>{_,rfl,rfl,by rw[AK];exact z _ 'l',λp2 h2=>?_}};have n21:=fV (JU (H:=H) (a:=p1) (o:=.lst (l1.map V.bl))) h2;refine{p1,p2,_,_,rfl,rfl,by rw[GP n21];exact JU,JU,by rw[AK,AK];exact z _ 'l',λp3 h3=>?_};refine{_,rfl,rfl,by rw[AK];exact z _ 'l',λp4 h4=>?_};have n43:=fV (JU (a:=p3)) h4;refine{p3,p4,_,_,rfl,rfl,by rw[GP n43];exact JU,JU,by simp only[AK,BI];exact z _ 'l',λp5 h5=>?_};refine k p5 _ ((((Gr.new h1).trans (Gr.new h2)).trans (Gr.new h3)).trans ((Gr.new h4).trans (Gr.new h5))) ?_ ?_
  .exact Gr.dom ((((Gr.new h1).trans (Gr.new h2)).trans (Gr.new h3)).trans (Gr.new h4)) _ h5
  .rw[JU,LG,LG]
end
theorem ObjOk.there(x:ObjOk P w H h a o):∃ob,h.get? a=AA ob:=by
 cases o with
 |lst xs=>obtain⟨_,_,_,_,e⟩:=x;exact{_,e}
 |tup xs=>obtain⟨_,_,_,o,e,_⟩:=x;exact{_,e}
 |dK kvs=>obtain⟨_,_,_,_,o,es,ep,e,_⟩:=x;exact{_,e}
 |dT kvs=>obtain⟨_,_,_,_,o,es,ep,e,_⟩:=x;exact{_,e}
 |set S n=>obtain⟨ob,es,ep,t,e,c⟩:=x;exact{_,e}
 |ins C dx fs=>obtain⟨_,_,_,e,_⟩:=x;exact{_,e}
 |own y=>exact x
 |xd fs=>obtain⟨mA,⟨od,es,ep,e,c⟩,r⟩:=x;exact{_,e}
 |rng lo hi=>obtain⟨t,u,v,e⟩:=x;exact{_,e}
 |frz ob u=>exact{_,x.1}
 |tbl q ps=>exact{_,x.1}
 |met f y=>exact{_,x}
 |ext φ=>exact x.2.1
theorem zYA{bs:List Bool}{W n kf:BL}{ie ik:Nat}{np UZ p3 p4:Y4}{fr:List AQ}{D:Ends}(I:Inv X pins σ H s)(F:Fly X.prog X.w C X.stack H s a H1 h1 fr a0 s')
  (KK:KU X.prog X.w X.K X.mg X.base f C bs) (hr:Room 2 X.A) (hkf:X.mg kf=AA (.ref f)) (hkk:FH X.K (.ref f)=AG) (hW:X.mg W=AA (.ref WA)) (hx:OD X.K (.ref C) (.ref WA)=AA AG)
  (hN:X.N.Nodup) (hi:X.N[ie]?=AA n) (hj:X.N[ik]?=AA kn) (MN:ie≠ik) (W4:X.env.scope.names.lookup n=AA .local) (SF:X.env.scope.names.lookup kn=AA .local)
  (stk:X.stack=X.env::X.outer) (hf:X.env.frame=AA X.env.locals)
  (q:∀p H',Gr H1 H'->H1 p=AH->H' p=AA (.lst (bs.map V.bl))->D.nx ((σ.set ik (AA (.ref p))).set ie AH) H')
  (Kz:Gl X W:=by rfl) (Ky:Gl X kf:=by rfl) (Lo:(W==("__debug__":BL))=AB:=by decide) (Lm:(kf==("__debug__":BL))=AB:=by decide) (Lk:(n==("__debug__":BL))=AB:=by decide) (Lq:(n==("__classdict__":BL))=AB:=by decide)
  (he:AF [.Name n p1] X.env=(AB,eval (.Name n p1) X.env)::AF [] X.env:=by rfl) (oQ:HG (.Call (.Name kf p2) [.Name n p1] [] Z1) (AA (.Name kn p3)) UZ.line X.env=pure AB:=by rfl) :
  A4 (A3 X.prog X.w) X.A (OS (.ref a) X.env) (λ_ ZW=>A4 (A3 X.prog X.w) X.A (setFlight (.ref a) AH) (λ_ oG =>
   A4 (A3 X.prog X.w) X.A (handleBy (.ref a) X.env [.ExceptHandler (AA (.Name W np)) (AA n) [.Assign [.Name kn p3] (.Call (.Name kf p2) [.Name n p1] [] Z1) UZ] p4]) (SP X pins D) X.xe oG) X.xe ZW) X.xe s':=by
 have wD:∀h5,(CS h1 fr).StaysIn h5->h1.UpToSlots h5->Inv X pins σ H1 { s' with heap:=h5 }:=λh5 st up=>by
  obtain⟨un,hok⟩:=F.kept st up;exact I.call' (s':={ s' with heap:=h5 }) (ch:=[]) F.os un hok F.bare λb z=>absurd z 's'
 have na:H1 a=AH:=by
  cases z:H1 a with
  |none=>rfl
  |some u =>
   obtain⟨o,e⟩:=(F.hok a u z).there;rw[F.new] at e;cases e
 have aL:a∉QD X.stack:=λz=>by
  obtain⟨_,o,e,_⟩:=I.stack.mem z;obtain⟨o',e'⟩:=F.un.there a o e 's';rw[F.new] at e';cases e'
 have aL':a≠X.env.locals:=λz=>aL (by rw[stk,z];unfold QD;rw[EU,hf];exact AU);refine wpAny_looks_onW (by rw[I.ok.frames,stk]) hf (stk▸F.fl) λh4 Lh vE=>?_;refine wpAny_landsW Lh λh5 xK kR=>?_;have kR:=(F.up.trans vE).trans kR;have I5:=wD h5 xK.1 kR;refine wpAny_handleBy_cons (codeAny_handlers_test (tO (I5.heat a) Kz hW ?_ Lo)) (by intro z;cases z);refine(PySem.W.exm_one I5.kIn (XAt.type xK.there) hx).here ?_;refine codeAny_handlers_suite_as ?_;refine lands_againW xK λh6 Mc Jb=>?_;have I6:=wD h6 Mc.1 (kR.trans Jb);obtain⟨oa,vs,ea,ca,da,_⟩:=Mc.first;refine Er (v:=.ref a) I6 hN hi (.inl W4) rfl (λs7 I7 hs7=>?_) (.inr W4);obtain⟨c,sb,hc⟩:=hs7
 have ea7:s7.heap.get? a=AA oa:=by
  refine(sb.2 a λz=>?_).trans ea;rcases hc with hc|hc
  .exact aL' (z.trans hc)
  .obtain⟨v,o,e,d⟩:=I6.cell n c hc
   have e:h6.get? c=AA o:=e;rw[<-z,ea] at e;cases e;rw[da] at d;cases d
 have I7:Inv (X.hot a) ((a,oa)::pins) _ H1 s7:=(I7.heat a).pins_of λp hp=>by
  rcases A9.mp hp with rfl|hp
  .exact{ea7,na,aL',λz=>aL (by rw[stk];unfold QD;rw[EU,hf];exact AS _ z),λv d=>by rw[da] at d;cases d}
  .exact I7.pin p (CI _ hp)
 have Kv:ie < σ.length:=by rw[I.len];exact(AX.mp hi).1
 have gD:n≠kn:=λe=>MN (zS hN hi (e▸hj))
 have vG:A4 (A3 X.prog X.w) (X.hot a).A (execs [.Assign [.Name kn p3] (.Call (.Name kf p2) [.Name n p1] [] Z1) UZ] X.env) (λfl s8=>fl=.next/\∃p H',Gr H1 H'/\H1 p=AH/\H' p=AA (.lst (bs.map V.bl))/\Inv (X.hot a) ((a,oa)::pins) ((σ.set ie (AA (.ref a))).set ik (AA (.ref p))) H' s8) (λ_ _=>False) s7:=by
  refine LL (CJ (Q:=λfl s8=>fl=.next/\∃p H',Gr H1 H'/\H1 p=AH/\H' p=AA (.lst (bs.map V.bl))/\Inv (X.hot a) ((a,oa)::pins) ((σ.set ie (AA (.ref a))).set ik (AA (.ref p))) H' s8) ?_ (λfl s8 z=>?_) λ_ _ z=>z)
  .refine TU (NE (tO (X:=X.hot a) I7 Ky hkf ?_ Lm)) oQ
   refine LQ (h₀:=X.base) I7.ok.mod.kin hkk (GY (R0 (kD (X:=X.hot a) hi (.inl W4) Lk Lq) IP he Z1 _ s7 _ H1 (λvs H2=>vs=[.ref a]/\H2=H1) I7 {_,BF Kv,rfl,rfl}) λus s8 z=>?_) he rfl;obtain⟨vs,H2,I8,r8,rfl,rfl⟩:=z
   cases r8 with
   |cons r8 r9 =>
    cases r8;cases r9;refine{I8.kIn,X2 (O4 (KK (X.hot a).A X.stack s8 H2 a (λv H'=>∃p,v=.ref p/\Gr H2 H'/\H2 p=AH/\H' p=AA (.lst (bs.map V.bl))) {rfl,hr.dp,hr.un,hr.gd} I8.env0 ?_ na aL λp H' g1 g2 g3=>{p,rfl,g1,g2,g3}) λr s9 hq=>?_)}
    .exact{oa,(I8.pin (a,oa) (CI _ AU)).1,ca}
    .cases r with
     |error e=>exact hq.elim
     |ok fl =>
      cases fl with
      |ret u =>
       obtain⟨v,H3,I9,rv,p,rfl,g1,g2,g3⟩:=I8.after hq;cases rv;exact zR (X:=X.hot a) (v:=.ref p) I9 hN hj (.inl SF) rfl (λJj xR=>{rfl,p,H3,g1,g2,g3,xR}) (.inr SF)
      |next=>exact hq.elim
      |brk=>exact hq.elim
      |cont=>exact hq.elim
  .obtain⟨rfl,z⟩:=z
   exact HW {rfl,z}
 refine CJ vG (λfl s8 z=>?_) λ_ _ z=>z.elim;obtain⟨rfl,p,H',g,hp,hl,I8⟩:=z;have I8:=(pAK I.ok I8).pins_of (pins':=pins) λp hp=>I8.pin p (CI _ (AS _ hp));refine AD (wpAny_bindName (zR I8 hN hi (.inl W4) (v:=.non) rfl (λs9 I9=>?_) (.inr W4)));refine OA (zUR I9 hN hi W4 (v:=.non) (by rw[BF (by rw[CC,CC];exact Kv)]) λJj xR=>?_);refine{(σ.set ik (AA (.ref p))).set ie AH,H',xR.weak (by simp only[CC]) λi v e=>?_,q p H' g hp hl}
 by_cases h1:ie=i
 .subst h1
  rw[BF (by rw[CC];exact Kv)] at e;cases e
 .rw[A7 h1] at e
  rw[A7 h1,A7 h1]
  by_cases h2:ik=i
  .subst h2
   have eF:ik < σ.length:=by rw[I.len];exact(AX.mp hj).1
   rw[BF eF] at e;rw[BF (by rw[CC];exact eF)];exact e
  .rw[A7 h2] at e
   rw[A7 h2,A7 h1];exact e
abbrev GX:=Ev->Out Ev
def tX(K:AC)(H₀:Hp)(W:Hp->Prop)(g:GX):TS:=λ_ σ H=>∃τ F E E',Sim K H₀ τ F H σ E/\g E=.ok E'/\∀F' H',Stp (DU σ E) F H F' H' (λ_=>False)->Sub F' H'->W H'
def nL(gs:List G):GX:=λE=>(M6 gs E).bind λp=>RS p.1.length (.ok p.2)
def uH(t:Ev->Out (Bool×Ev))(g:GX):GX:=λE=>(t E).bind λp=>if p.1=AG then g p.2 else .bad
def l7(g:GS)(gx:GX):GX:=λE=>(g E).bind λr=>match r with|.nx E1=>gx E1|_=>.bad
section
variable{K:AC}{E:XK}
theorem tZ{np:Y4}{gs:List G}{rest:List D5}{B ini:String}(FB:ExcBaseFacts B YX ini bm)(Z:GL K C bm YX=AG)(hm:mg x=AA (.ref C))(hh:A.handled=AH)
  (ha:VA (JJ (IV P w C) P w K mg base N qual scope f cd A outer s₀ H₀ E) (e::es) gs) (hg:Gl (JJ (IV P w C) P w K mg base N qual scope f cd A outer s₀ H₀ E) x:=by rfl) (hd:(x==("__debug__":BL))=AB:=by decide)
  (he:AF (e::es) (ET qual scope s₀.heap.objs.size f cd)=(AB,eval e (ET qual scope s₀.heap.objs.size f cd))::AF es (ET qual scope s₀.heap.objs.size f cd):=by rfl)
  (HZ:(CZ GJ (AF es (ET qual scope s₀.heap.objs.size f cd))).any (·.1)=AB:=by rfl) :
  PSs (JJ (IV P w C) P w K mg base N qual scope f cd A outer s₀ H₀ E) (.Raise (AA (.Call (.Name x np) (e::es) [] GJ)) AH pos::rest) (tX K H₀ (λH'=>E (.ref C) AH H') (nL gs)) :=
 (iI (zX8 FB Z hm hh ha hg hd he HZ) zZ).imp λD σ H h=>by
  obtain⟨τ,F,E1,E2,S,hg,k⟩:=h;obtain⟨p,e1,hg⟩:=pA3 hg;obtain⟨hl,hg⟩:=XI hg;exact{τ,F,E1,p.1,p.2,S,e1,λvs F1 H1 s1 S1 r1=>{by rw[r1.length];exact CM (j9 hl),k F1 H1 (s1.weak λ_ z=>z.elim) S1.sub}}
end
variable{gx:GX}
theorem Mp{a rest:List D5}{t:Ev->Out (Bool×Ev)}(hc:VT X c t)(ha:PSs X a (tX X.K X.H₀ W gx)):PSs X (.If c a [] pos::rest) (tX X.K X.H₀ W (uH t gx)) :=
 (iI (Hl hc ha UN) zZ).imp λD σ H h=>by
  obtain⟨τ,F,E1,E2,S,hg,k⟩:=h;obtain⟨p,e1,hg⟩:=pA3 hg;refine{τ,F,E1,p.1,p.2,S,e1,λF1 H1 s1 S1=>?_}
  by_cases hp:p.1=AG
  .rw[if_pos hp] at hg ⊢
   exact{τ,F1,p.2,E2,S1,hg,λF2 H2 s2 b=>k F2 H2 (s1.trans s2) b}
  .rw[if_neg hp] at hg;cases hg
theorem tU{st:D5}{rest:List D5}{g:GS}(h1:VS X st g)(h2:PSs X rest (tX X.K X.H₀ W gx)):PSs X (st::rest) (tX X.K X.H₀ W (l7 g gx)) :=
 (iI h1 h2).imp λD σ H h=>by
  obtain⟨τ,F,E1,E2,S,hg,k⟩:=h;obtain⟨r,e1,hg⟩:=pA3 hg;refine{τ,F,E1,r,S,e1,?_}
  cases r with
  |nx E3=>exact λσ' F' H' st S'=>{τ,F',E3,E2,S',hg,λF2 H2 s2 b=>k F2 H2 (st.trans s2) b}
  |bk E3=>cases hg
  |ct E3=>cases hg
  |rt b d E3=>cases hg
theorem Sim.pad{K:AC}{vs:List V}{ds:List D}(N:List BL)(s:Sub F H)(r:Reps K F vs ds):Sim K H₀ τ F H (Q9 N vs) (ds.map Sl.val++DA (N.length-ds.length) .no):=by
 have lv:=r.length;have S:=Sim.args (K:=K) (H₀:=H₀) (τ:=τ) s r
 have cut:∀(i:Nat) x,(ds.map Sl.val++DA (N.length-ds.length) Sl.no)[i]?=AA x->x≠.no->i<ds.length/\(ds.map Sl.val)[i]?=AA x:=λi x q n=>by
  by_cases hi:i<ds.length
  .rw[B9 (by rw[AK];exact hi)] at q;exact{hi,q}
  .rw[BY (by rw[AK];exact EL hi),DZ] at q
   split at q
   .cases q;exact absurd rfl n
   .cases q
 have no:∀(i:Nat) t d,(ds.map Sl.val++DA (N.length-ds.length) Sl.no)[i]?≠AA (.own t d):=λi t d q=>by
  have:=(cut i _ q λz=>by cases z).2;rw[BA] at this
  cases z:ds[i]? with
  |none=>rw[z] at this;cases this
  |some x=>rw[z] at this;cases this
 refine{s,?_,λi d q=>?_,λi t d q=>absurd q (no i t d),λi j t u d e a q=>absurd q (no i t d)}
 .unfold Q9
  rw[BI,BI,CV,CV,AK,AK,lv]
 .obtain⟨hi,q⟩:=cut i _ q λz=>by cases z
  unfold Q9;rw[B9 (by rw[AK,lv];exact hi)];exact S.val i d q
def kN(K:AC)(C:AQ)(np:Nat)(mx:List D->Out Ev):Sp:=λvs H _ E=>vs.length=np/\∃F ds z,Sub F H/\Reps K F vs ds/\mx ds=.ok z/\∀F' H',New F H F' H'->E (.ref C) AH H'
noncomputable def rL(n:Nat)(g:GX):List D->Out Ev:=λds=>g (ds.map Sl.val++DA (n-ds.length) .no)
def WU(P:CF)(w:DJ)(K:AC)(mg:BL->Option AI)(base:D0)(C:AQ)(x:BL)(k np:Nat)(mx:List D->Out Ev):Prop :=
 ∃(f:AQ) (fd:JT) (ps:List BL),FnOk P w K mg base (IV P w C) k f fd ps (kN K C np mx)/\mg x=AA (.ref f)/\FH K (.ref f)=AG/\Binds K fd ps []
section
variable{K:AC}
theorem uG{st:D5}(Fn:Fun K x qual st f fd)(S:FnScope N ps (JO st))
  (MT:∀(GE:AI) (A:DI) (outer:List TD) (s:AN) (H:Hp) (E:XK),Room k (A.deeper (ET qual (JO st) s.heap.objs.size f GE))->A.handled=AH ->
   PSs (JJ (IV P w C) P w K mg base N qual (JO st) f GE A outer s H E) (XM st) (tX K H (λH'=>E (.ref C) AH H') gx)):FnOk P w K mg base (IV P w C) (k+1) f fd ps (kN K C ps.length (rL N.length gx)):=by
 obtain⟨oc,od,kV,SZ,pm,an,GE,ct,bN,rfl,lk,QH⟩:=Fn.ex;refine Xa lk QH S (λvs H Q E h=>h.1) λA outer s H vs Q E hr fZ=>{_,MT GE A outer s H E hr hr.hd,?_};obtain⟨hl,F,ds,z,sb,r,hm,q⟩:=fZ;have S:=Sim.pad (K:=K) (H₀:=H) (τ:=f) N sb r;refine{f,F,_,z,S,hm,λF' H' st Jh=>q F' H' {{λa o e1 e2 e3 _=>st.keep a o e1 e2 e3 λz=>?_,st.dom,st.le,λa o e=>?_,λ_ z=>z.elim},Jh}}
 .obtain⟨i,t,d,e,_⟩:=z
  by_cases hi:i<ds.length
  .rw[B9 (by rw[AK];exact hi),BA,BU hi] at e;cases e
  .rw[BY (by rw[AK];exact EL hi),DZ] at e
   split at e<;>cases e
 .rcases st.new a o e with z|z|⟨i,t,d,e,_⟩
  .exact .inl z
  .exact .inr (.inl z)
  .by_cases hi:i<ds.length
   .rw[B9 (by rw[AK];exact hi),BA,BU hi] at e;cases e
   .rw[BY (by rw[AK];exact EL hi),DZ] at e
    split at e<;>cases e
theorem pAL{st:D5}{mx:List D->Out Ev}(Fn:Fun K x x st f fd)(h:FnOk P w K mg base (IV P w C) k f fd ps (kN K C np mx))(hm:mg x=AA (.ref f))(hb:Binds K fd ps []):WU P w K mg base C x k np mx:={f,fd,ps,h,hm,Fn.kp,hb}
end
theorem Sim.lose{K:AC}{E:Ev}{u:Option V}(S:Sim K H₀ τ F H σ E):Sim K H₀ τ F H (σ.set i u) (E.set i .no)/\∀a,DU (σ.set i u) (E.set i .no) a->DU σ E a:=by
 have NN:∀(j:Nat) x,(E.set i Sl.no)[j]?=AA x->x≠.no->E[j]?=AA x/\(σ.set i u)[j]?=σ[j]?:=λj x q n=>by
  by_cases hj:i=j
  .subst hj
   by_cases hi:i<E.length
   .rw[BF hi] at q;cases q;exact absurd rfl n
   .rw[YB (by rw[CC];exact EL hi)] at q;cases q
  .rw[A7 hj] at q;exact{q,A7 hj}
 have ow:∀{j:Nat} {t d},(E.set i Sl.no)[j]?=AA (.own t d)->E[j]?=AA (.own t d)/\(σ.set i u)[j]?=σ[j]?:=λ{j t d} q=>NN j _ q λz=>by cases z
 refine{{S.sub,by rw[CC,CC];exact S.len,λj d q=>?_,λj t d q=>?_,λj k t1 t2 d1 d2 a q1 q2 z1 z2=>?_},λa ⟨j,t,d,q1,q2⟩=>?_}
 .obtain⟨q1,q2⟩:=NN j _ q λz=>by cases z
  rw[q2];exact S.val j d q1
 .rw[(ow q).2];exact S.own j t d (ow q).1
 .rw[(ow q1).2] at z1
  rw[(ow q2).2] at z2;exact S.inj j k _ _ _ _ a (ow q1).1 (ow q2).1 z1 z2
 .rw[(ow q1).2] at q2
  exact{j,t,d,(ow q1).1,q2}
theorem Pb{K:AC}{F:Hp}:∀(bs:List Bool),Reps K F (bs.map V.bl) (bs.map D.bl)
 |[]=>.nil
 |b::bs=>.cons (.bl b) (Pb bs)
section
variable{K:AC}
end
end L2
namespace L2
open PySem
structure TryS(P:CF)(w:DJ)(K:AC)(mg:BL->Option AI)(base:D0)(C WA fk:AQ)(bs:List Bool):Prop where
 KK:KU P w K mg base fk C bs
 hkf:mg "_law_kinds"=AA (.ref fk)
 hkk:FH K (.ref fk)=AG
 hW:mg "WayError"=AA (.ref WA)
 hx:OD K (.ref C) (.ref WA)=AA AG
end L2
namespace L2
open PySem PySem.Spec PyProof.Rows
section
variable{d:AQ}{es:Array KB}
end
end L2
variable{g':L2.GS}{E1 E' E2:L2.Ev}{gi:L2.GI}{tt:L2.Ev->L2.Out (Bool×L2.Ev)}{gm:L2.GM}{m:L2.Mr}{t2:Bool}
namespace L2
open PySem
theorem EM{x:Out α}{a:α}{f:α->Out β}{r:Out β}(h:x=.ok a)(h2:f a=r):x.bind f=r:=by rw[h];exact h2
theorem D7{g:GS}{E:Ev}{r:Out Fl}(h:g E=.ok (.nx E1))(h2:g' E1=r):E4 g g' E=r:=by
 unfold E4;rw[h];exact h2
theorem QB{g:GS}{E:Ev}{b:Bool}{d:D}(h:g E=.ok (.rt b d E1)):E4 g g' E=.ok (.rt b d E1):=by
 unfold E4;rw[h];rfl
theorem NW{t:Ev->Out (Bool×Ev)}{g:GS}{E:Ev}{r:Out Fl}(h:t E=.ok (AG,E1))(h2:g E1=r):L7 t g g' E=r:=by
 unfold L7;rw[h];exact h2
theorem KO{t:Ev->Out (Bool×Ev)}{g:GS}{E:Ev}{r:Out Fl}(h:t E=.ok (AB,E1))(h2:g' E1=r):L7 t g g' E=r:=by
 unfold L7;rw[h];exact h2
theorem Rj{t:Tg}{g:GS}(P:Nat->Ev->Prop):∀{ds:List D} {E:Ev} (o:Nat),P o E ->
  (∀i d E,ds[i]?=AA d->P (o+i) E->∃E1,UA t d E=.ok E1/\∃E2,g E1=.ok (.nx E2)/\P (o+(i+1)) E2)->∃E',XF t g ds E=.ok (.nx E')/\P (o+ds.length) E'
 |[],E,o,h0,_=>{E,rfl,h0}
 |d::ds,E,o,h0,hs=>by
  obtain⟨E1,e1,E2,e2,p2⟩:=hs 0 d E rfl h0
  obtain⟨E',e',p'⟩:=Rj P (ds:=ds) (E:=E2) (o+1) p2 λi d' E3 hd hp=>by
   have:=hs (i+1) d' E3 (by simpa using hd) (by rw[show o+(i+1)=o+1+i by lia];exact hp);rw[show o+(i+1+1)=o+1+(i+1) by lia] at this;exact this
  refine{E',?_,?_}
  .unfold XF;rw[e1];simp only[Out.bind];rw[e2];exact e'
  .rw[A0,show o+(ds.length+1)=o+1+ds.length by lia];exact p'
theorem zB{t:Tg}{g:GS}{E:Ev}{ds:List D}(P:Nat->Ev->Prop)(hi:gi E=.ok (ds,E1))(h0:P 0 E1)
  (hs:∀i d E,ds[i]?=AA d->P i E->∃E1,UA t d E=.ok E1/\∃E2,g E1=.ok (.nx E2)/\P (i+1) E2):∃E',ZG gi t g E=.ok (.nx E')/\P ds.length E':=by
 obtain⟨E',e,p⟩:=Rj (t:=t) (g:=g) P (ds:=ds) (E:=E1) 0 h0 (λi d E hd hp=>by
  rw[IJ] at hp ⊢;exact hs i d E hd hp)
 refine{E',?_,by simpa using p};unfold ZG;rw[hi];exact e
theorem Mo{t:Ev->Out (Bool×Ev)}{g:GS}(P:Nat->Ev->Prop)(Q:Ev->Prop)
  (hs:∀n E,P n E->(∃E1,t E=.ok (AB,E1)/\Q E1)\/(∃E1 E2 m,t E=.ok (AG,E1)/\g E1=.ok (.nx E2)/\m<n/\P m E2)) :
  ∀(fuel n:Nat) (E:Ev),n<fuel->P n E->∃E',dC t g fuel E=.ok (.nx E')/\Q E'
 |0,n,E,hn,_=>by lia
 |fuel+1,n,E,hn,h=>by
  rcases hs n E h with⟨E1,e1,q⟩|⟨E1,E2,m,e1,e2,hm,p⟩
  .refine{E1,?_,q}
   unfold dC;rw[e1];rfl
  .obtain⟨E',e',q⟩:=Mo P Q hs fuel m E2 (AM hm (HU hn)) p
   refine{E',?_,q};unfold dC;rw[e1];simp only[Out.bind,if_true];rw[e2];exact e'
theorem YM{x:Out α}(h:n<10000):RS n x=x:=if_pos h
theorem yGD{t:Tg}(f:D->List D)(M:Nat)(P:Ev->Prop):∀{ds BS:List D} {E:Ev},P E->BS.length+ds.length * M<10000->(∀d∈ds,(f d).length<=M) ->
  (∀d∈ds,∀(BS:List D) (E:Ev),BS.length+M<10000->P E->∃E1,UA t d E=.ok E1/\∃b E2,tt E1=.ok (b,E2)/\((b=AG/\∃E3,gm (.lst BS) E2=.ok (.lst (BS++f d),E3)/\P E3)\/(b=AB/\f d=[]/\P E2))) ->
  ∃E',QX t tt gm ds (.lst BS) E=.ok (.lst (BS++ds.flatMap f),E')/\P E'
  := by
 intro ds
 induction ds with
 |nil=>intro BS E h0 _ _ _;exact{E,by simp[QX],h0}
 |cons d ds ih =>
  intro BS E h0 hl hM hs;rw[A0,Nat.succ_mul] at hl;obtain⟨E1,e1,b,E2,e2,h⟩:=hs d AU BS E 'l' h0;have hd:=hM d AU;rcases h with⟨rfl,E3,e3,p⟩|⟨rfl,ef,p⟩
  .obtain⟨E',e',p'⟩:=ih (BS:=BS++f d) (E:=E3) p (by rw[BI];lia) (λd hd=>hM d (AS _ hd)) λd hd=>hs d (AS _ hd)
   refine{E',?_,p'};unfold QX;rw[e1];simp only[Out.bind];rw[e2];simp only[if_true];rw[e3];simp only;rw[e',FU,DG]
  .obtain⟨E',e',p'⟩:=ih (BS:=BS) (E:=E2) p 'l' (λd hd=>hM d (AS _ hd)) λd hd=>hs d (AS _ hd)
   refine{E',?_,p'};unfold QX;rw[e1];simp only[Out.bind];rw[e2];simp only[if_false,EJ];rw[e',FU,ef,LD]
theorem Dq{ge:G}{BS:List D}{E:Ev}{x:D}(h:ge E=.ok (x,E'))(hl:BS.length<10000):VN ge (.lst BS) E=.ok (.lst (BS++[x]),E'):=EM h (YM hl)
theorem zYB{t:Tg}{E:Ev}{ds:List D}(f:D->List D)(M:Nat)(P:Ev->Prop)(hi:gi E=.ok (ds,E1))(h0:P (UL k js E1))(hl:ds.length * M<10000)(hM:∀d∈ds,(f d).length<=M)
  (hs:∀d∈ds,∀(BS:List D) (E:Ev),BS.length+M<10000->P E->∃E1,UA t d E=.ok E1/\∃b E2,tt E1=.ok (b,E2)/\((b=AG/\∃E3,gm (.lst BS) E2=.ok (.lst (BS++f d),E3)/\P E3)\/(b=AB/\f d=[]/\P E2)))
  (hb:∀Ec,P Ec->dD E1 Ec k js=E1):sU gi k js (.lst []) t tt gm E=.ok (.lst (ds.flatMap f),E1):=by
 obtain⟨E',e',p'⟩:=yGD f M P (ds:=ds) (BS:=[]) h0 (by simpa using hl) hM hs;unfold sU;rw[hi];simp only[Out.bind];rw[e'];simp only[Out.bind,LD];rw[hb _ p']
theorem mX{t:Tg}{ge:G}{E:Ev}{ds:List D}(f:D->List D)(P:Ev->Prop)(hi:gi E=.ok (ds,E1))(h0:P (UL k js E1))(hl:ds.length<10000)
  (hs:∀d∈ds,∀E,P E->∃E1,UA t d E=.ok E1/\∃b E2,tt E1=.ok (b,E2)/\((b=AG/\∃x E3,ge E2=.ok (x,E3)/\f d=[x]/\P E3)\/(b=AB/\f d=[]/\P E2)))
  (hb:∀Ec,P Ec->dD E1 Ec k js=E1):K8 gi k js t tt ge E=.ok (.lst (ds.flatMap f),E1):=by
 by_cases hP:∀d∈ds,∃E,P E
 .refine zYB f 1 P hi h0 'l' (λd hd=>?_) (λd hd BS E Lu hE=>?_) hb
  .obtain⟨E,hE⟩:=hP d hd
   obtain⟨_,_,_,_,_,⟨_,x,_,_,ef,_⟩|⟨_,ef,_⟩⟩:=hs d hd E hE
   .rw[ef];exact AO _
   .rw[ef];exact B0 _
  .obtain⟨E1,e1,b,E2,e2,⟨hb,x,E3,e3,ef,p⟩|h⟩:=hs d hd E hE
   .exact{E1,e1,b,E2,e2,.inl {hb,E3,by rw[ef];exact Dq e3 (AL (AY _ _) Lu),p}}
   .exact{E1,e1,b,E2,e2,.inr h}
 .exact absurd (λd hd=>{_,h0}) hP
def Pl(n:Nat)(d:D):Prop:=∃p,d.py=AA p/\p.depth<=n/\p.canLay0=AG
def Pls(n:Nat)(ds:List D):Prop:=∃ps,pAH ds=AA ps/\RX ps<=n/\FR ps=AG
theorem Pl.int(n:Nat)(i:Int):Pl n (.int i):={_,rfl,B0 _,rfl}
theorem Pl.bl(n:Nat)(i:Bool):Pl n (.bl i):={_,rfl,B0 _,rfl}
theorem Pls.nil(n:Nat):Pls n []:={_,rfl,B0 _,rfl}
theorem Pls.cons{d:D}{ds:List D}(h:Pl n d)(t:Pls n ds):Pls n (d::ds):=by
 obtain⟨p,e,a,b⟩:=h;obtain⟨ps,e2,a2,b2⟩:=t;exact{p::ps,by simp[pAH,e,e2],by simp only[RX];lia,by simp[FR,b,b2]}
theorem Pls.tup{n:Nat}{ds:List D}(t:Pls n ds):Pl (n+1) (.tup ds):=by
 obtain⟨ps,e2,a2,b2⟩:=t;exact{.tuple ps,by simp[D.py,e2],by simp only[LB];lia,b2}
theorem Pls.lst{n:Nat}{ds:List D}(t:Pls n ds):Pl (n+1) (.lst ds):=by
 obtain⟨ps,e2,a2,b2⟩:=t;exact{.list ps,by simp[D.py,e2],by simp only[LB];lia,b2}
theorem Pls.of{α:Type}{n:Nat}{f:α->D}:∀{xs:List α},(∀x∈xs,Pl n (f x))->Pls n (xs.map f)
 |[],_=>.nil n
 |x::xs,h=>.cons (h x AU) (Pls.of λy hy=>h y (AS _ hy))
theorem Pl.mono{m:Nat}{d:D}(h:Pl n d)(l:n<=m):Pl m d:=let ⟨p,a,b,c⟩:=h;{p,a,AV b l,c}
theorem Pls.ints(n:Nat)(ns:List Int):Pls n (ns.map D.int):=Pls.of λ_ _=>.int _ _
theorem zYC{d:D}(h:Pl 60 d):MJ d d=.ok (.bl AG):=by
 obtain⟨p,e,a,b⟩:=h;unfold MJ;simp only[e];rw[if_pos (AV (lV _ _) a),jM p b]
theorem zYD{d:D}(h:Pl 60 d):IU d d=.ok (.bl AB):=by
 obtain⟨p,e,a,b⟩:=h;unfold IU;simp only[e];rw[if_pos (AV (lV _ _) a),jM p b];rfl
theorem qM(a b:Int):MJ (.int a) (.int b)=.ok (.bl (decide (a=b))):=by
 simp only[MJ,D.py,LB,DO]
 by_cases h:a=b<;>simp[h]
theorem mW(a b:Int):IU (.int a) (.int b)=.ok (.bl (decide (a≠b))):=by
 simp only[IU,D.py,LB,DO]
 by_cases h:a=b<;>simp[h]
theorem zA{ds:List D}(h:Pls n ds):IU (.lst ds) (.lst [])=.ok (.bl (!ds.isEmpty)):=by
 obtain⟨ps,e2,a2,b2⟩:=h;have e0:pAH []=AA []:=by simp[pAH]
 unfold IU;simp only[D.py,e2,e0,Option.map];rw[if_pos (by simp only[LB,RX];lia),DO]
 cases ds with
 |nil=>rw[e0] at e2;cases e2;rfl
 |cons d ds =>
  cases ps with
  |nil =>
   simp only[pAH] at e2;split at e2<;>simp at e2
  |cons p ps=>rfl
theorem Ri:∀ns:List Int,pAH (ns.map D.int)=AA (ns.map PyData.int)
 |[]=>by simp[pAH]
 |n::ns=>by simp[pAH,D.py,Ri ns]
theorem zPN(ps:List (Int×Int)):l8 [.lst (ps.map HB)]=.ok (.lst ((ZJ ps).map HB)):=by
 cases ps with
 |nil=>simp[l8,QZ,pR,ZJ]
 |cons p ps =>
  have:=Tx (p::ps);simp only[l8];rw[this,show QZ ((p::ps).map HB)=AH from rfl]
theorem iD{xs:List α}{i:Int}{x:α}(h0:0<=i)(h:xs[i.toNat]?=AA x):atI xs i=AA x:=by
 have:=yAZ (xs:=xs) (j:=i.toNat) h
 rwa [show((i.toNat:Nat):Int)=i by lia] at this
section
variable[DecidableEq κ]
theorem Rh(kvs:List (κ×D))(k:κ)(v:D):(YH kvs k v).length<=kvs.length+1:=by
 unfold YH;split
 .simp
 .simp
end
theorem M3{gs:List G}{E:Ev}{ds:List D}{b:Bool}{d d':D}(h1:M6 gs E=.ok (ds,E'))(h2:m (ds.map Sl.val)=.ok (b,d,d')):G9 m gs E=.ok (d,E'):=EM h1 (EM h2 rfl)
theorem bE{E:Ev}:M6 [] E=.ok ([],E):=rfl
theorem OW{g:G}{gs:List G}{E:Ev}{d:D}{ds:List D}(h1:g E=.ok (d,E1))(h2:M6 gs E1=.ok (ds,E2)):M6 (g::gs) E=.ok (d::ds,E2):=EM h1 (EM h2 rfl)
theorem FK{g:G}{E:Ev}{d:D}(h1:g E=.ok (d,E1)):M6 [g] E=.ok ([d],E1):=OW h1 bE
theorem NS{f:List D->Out D}{gs:List G}{E:Ev}{ds:List D}{d:D}(h1:M6 gs E=.ok (ds,E'))(h2:f ds=.ok d):gN f gs E=.ok (d,E'):=EM h1 (EM h2 rfl)
theorem fQ{gs:List G}{E:Ev}{ds:List D}(h1:M6 gs E=.ok (ds,E'))(h2:ds.length<10000):SU gs E=.ok (.tup ds,E'):=EM h1 (YM h2)
theorem RA{gs:List G}{E:Ev}{ds:List D}(h1:M6 gs E=.ok (ds,E'))(h2:ds.length<10000):J8 gs E=.ok (.lst ds,E'):=EM h1 (YM h2)
theorem KP{g:G}{E:Ev}{d:D}(h:g E=.ok (d,E')):IS g E=.ok (.rt AB d E'):=EM h rfl
theorem Pa{g:G}{E:Ev}{d:D}(h:g E=.ok (d,E')):yE g E=.ok (.rt AG d E'):=EM h rfl
theorem KR{g:G}{t:Tg}{E:Ev}{d:D}(h:g E=.ok (d,E'))(h2:UA t d E'=.ok E2):FS t g E=.ok (.nx E2):=EM h (EM h2 rfl)
theorem tE{g:G}{E:Ev}{d:D}(h:g E=.ok (d,E')):cP i g E=.ok (.nx (E'.set i (.own AB d))):=EM h rfl
theorem Oz{g:G}{E:Ev}{d:D}(h:g E=.ok (d,E')):pS g E=.ok (.nx E'):=EM h rfl
theorem DQ{f:D->D->Out D}{ga gb:G}{E:Ev}{x y d:D}(h1:ga E=.ok (x,E1))(h2:gb E1=.ok (y,E2))(h3:f x y=.ok d):g2 f ga gb E=.ok (d,E2):=EM h1 (EM h2 (EM h3 rfl))
theorem KD{g:G}{E:Ev}{b:Bool}(h:g E=.ok (.bl b,E')):gB g E=.ok (b,E'):=EM h rfl
theorem cM{g:G}{E:Ev}{d:D}{b:Bool}(h:g E=.ok (d,E'))(h2:Wa d=.ok b):P9 g E=.ok (b,E'):=EM h (EM h2 rfl)
theorem W0{t:Ev->Out (Bool×Ev)}{E:Ev}{b:Bool}(h:t E=.ok (b,E')):M7 t E=.ok (!b,E'):=EM h rfl
theorem RP{t u:Ev->Out (Bool×Ev)}{E:Ev}{r:Out (Bool×Ev)}(h:t E=.ok (AB,E'))(h2:u E'=r):LU t u E=r:=EM h h2
theorem cL{t u:Ev->Out (Bool×Ev)}{E:Ev}(h:t E=.ok (AG,E')):LU t u E=.ok (AG,E'):=EM h rfl
theorem j6{t u:Ev->Out (Bool×Ev)}{E:Ev}{r:Out (Bool×Ev)}(h:t E=.ok (AG,E'))(h2:u E'=r):YK t u E=r:=EM h h2
theorem p8{t u:Ev->Out (Bool×Ev)}{E:Ev}(h:t E=.ok (AB,E')):YK t u E=.ok (AB,E'):=EM h rfl
theorem j5{g:G}{E:Ev}{d:D}(h:g (hide is E)=.ok (d,E'))(h2:sR is E d=AG):VL is g E=.ok (d,E):=EM h (if_pos h2)
theorem cS{g:Ev->Out (Bool×Ev)}{E:Ev}{d:Bool}(h:g (hide is E)=.ok (d,E')):XG is g E=.ok (d,E):=EM h rfl
theorem K7{gb:GS}{sl:Ev}{b:Bool}{d:D}{r:Out (Bool×D×D)}(h:gb (sl++DA (n-sl.length) .no)=.ok (.rt b d E'))(h2:fin sl E' b d=r):NR n gb sl=r:=EM h h2
theorem qL{c:String}{g:G}{E:Ev}{d:D}(h:g E=.ok (d,E')):V6 c g E=.ok (.bl (rO (uP d) c),E'):=EM h rfl
theorem Dp{g:G}{E:Ev}{j:Int}(h:g E=.ok (.int j,E'))(h2:mH j):aZ g E=.ok (UK 0 j.toNat,E'):=EM h (if_pos h2)
theorem yCJ{g g':G}{E:Ev}{i j:Int}(h:g E=.ok (.int i,E1))(h1:g' E1=.ok (.int j,E'))(h2:mH i/\mH j):sF g g' E=.ok (UK i (j-i).toNat,E'):=EM h (EM h1 (if_pos h2))
theorem mV{g:G}{E:Ev}{ds:List D}(h:g E=.ok (.lst ds,E')):MQ g E=.ok (ds,E'):=EM h rfl
theorem Do{g:G}{E:Ev}{ds:List D}(h:g E=.ok (.tup ds,E')):MQ g E=.ok (ds,E'):=EM h rfl
theorem z9{gk gv:G}{E:Ev}{t:Bool}{d0 d v k d':D}(h0:E[i]?=AA (.own t2 d0))(h1:gv E=.ok (v,E1))(h2:gk E1=.ok (k,E2))(h3:E2[i]?=AA (.own t d))(h4:Gg d k v=.ok d'):cT i gk gv E=.ok (.nx (E2.set i (.own t d'))):=by
 unfold cT;rw[h0];simp only;rw[h1];simp only[Out.bind];rw[h2];simp only[h3];rw[h4]
theorem iG{gs:List G}{E:Ev}{t:Bool}{d0 d x d':D}{ds:List D}{b:Bool}(h0:E[i]?=AA (.own t2 d0))(h1:M6 gs E=.ok (ds,E1))(h2:E1[i]?=AA (.own t d))(h3:m (.own AG d::ds.map Sl.val)=.ok (b,x,d')):GT m i gs E=.ok (x,E1.set i (.own t d')):=by
 unfold GT;rw[h0];simp only;rw[h1];simp only[Out.bind,h2];rw[h3]
theorem Dn{f:List D->List D->Out (D×List D)}{gs:List G}{E:Ev}{t:Bool}{xs0 xs:List D}{ds Z9:List D}{x:D}(h0:E[i]?=AA (.own t2 (.lst xs0)))(h1:M6 gs E=.ok (ds,E1))(h2:E1[i]?=AA (.own t (.lst xs)))(h3:f xs ds=.ok (x,Z9)):ZI i f gs E=.ok (x,E1.set i (.own t (.lst Z9))):=by
 unfold ZI;rw[h0];simp only;rw[h1];simp only[Out.bind,h2];rw[h3]
theorem zYE{gs:List G}{E:Ev}{ds:List D}{d d':D}(h1:M6 gs E=.ok (ds,E'))(h2:m (ds.map Sl.val)=.ok (AG,d,d')):p9 m gs E=.ok (d,E'):=EM h1 (EM h2 rfl)
theorem xU{ga gb:G}{E:Ev}{r:Out (D×Ev)}(h:ga E=.ok (.bl AG,E1))(h2:gb E1=r):jS ga gb E=r:=EM h h2
theorem Hc{ga gb:G}{E:Ev}(h:ga E=.ok (.bl AB,E1)):jS ga gb E=.ok (.bl AB,E1):=EM h rfl
theorem yGE{ga:G}{E:Ev}{b:Bool}(h:ga E=.ok (.bl b,E1)):Ar ga E=.ok (.bl (!b),E1):=EM h rfl
theorem yZ{f f':D->D->Out D}{ga gb gc:G}{E E3:Ev}{x y z d:D}(h1:ga E=.ok (x,E1))(h2:gb E1=.ok (y,E2))(h3:f x y=.ok (.bl AG))(h4:gc E2=.ok (z,E3))(h5:f' y z=.ok d):SV f f' ga gb gc E=.ok (d,E3):=EM h1 (EM h2 (EM h3 (EM h4 (EM h5 rfl))))
theorem Dm{f f':D->D->Out D}{ga gb gc:G}{E:Ev}{x y:D}(h1:ga E=.ok (x,E1))(h2:gb E1=.ok (y,E2))(h3:f x y=.ok (.bl AB)):SV f f' ga gb gc E=.ok (.bl AB,E2):=EM h1 (EM h2 (EM h3 rfl))
theorem uR{p:Prop}[Decidable p](h:p):(Out.ok (D.bl (decide p)):Out D)=.ok (.bl AG):=by rw[decide_eq_true h]
theorem Bh{p:Prop}[Decidable p](h:¬p):(Out.ok (D.bl (decide p)):Out D)=.ok (.bl AB):=by rw[decide_eq_false h]
theorem sE{ds:List D}(h:ds.length=n):IG [.lst ds]=.ok (.int n):=by subst h;rfl
theorem yIU{a b c:List D}(h:a.length+b.length<10000)(e:a++b=c):IH (.lst a) (.lst b)=.ok (.lst c):=by subst e;exact YM h
theorem yGF{o:Option D}{d:D}(h:o=AA d):(match o with|some d=>Out.ok d|none=>.bad)=.ok d:=by subst h;rfl
theorem jQ{ds:List D}{i:Int}{d:D}(h:atI ds i=AA d):FG (.lst ds) (.int i)=.ok d:=yGF h
end L2
variable{Fs Hs:L2.Hp}{ow₀:AQ->Prop}{ρ:Int->AQ}{fl:AI}
namespace L2
open PySem PySem.Spec PyProof.Rows
section
variable{K:AC}{E:Ev}{ow M:AQ->Prop}{Yz OQ:D}{vn vg:V}
end
theorem Hw(h:n+64<G3):n+1<G3:=by omega
section
variable{K:AC}{E:Ev}{Yz OQ:D}{vn vg:V}{o:IL}{L xs:List Int}{c:Int}{g:Int->List Int}{v:V}{u3 u4 u5 u6:Option V}
end
section
variable{a:C5}{ga:G}
end
section
variable{K:AC}{E:Ev}{Yz:D}{vn vg vb:V}{L:List Int}{c gi:Int}{g:Int->List Int}{u2 u4 u5 u6:Option V}{left:Int->Int->List Int}
end
section
variable{K:AC}{E:XK}
theorem sD:mL (IV P w C) (JJ (IV P w C) P w K mg base N qual scope f cd A outer s₀ H₀ E) E:=by
 intro pins σ H s e s' I h;obtain⟨a,H1,h1,fr,a0,rfl,F,q⟩:=h;have W4:s₀.heap.objs.size∈QD (JJ (IV P w C) P w K mg base N qual scope f cd A outer s₀ H₀ E).stack:=FF.mpr {ET qual scope s₀.heap.objs.size f cd,AU,rfl};obtain⟨o,ho,_⟩:=(I.stack.mem W4).2;have NY:=BB ho;have I1:Inv (JJ (IV P w C) P w K mg base N qual scope f cd A outer s₀ H₀ E) pins σ H1 { s with heap:=h1 }:=I.call (h':=h1) (g':=s.gens) (d':=s.drawn) (t':=s.toks) (ch:=[]) F.un F.hok I.bare (λb z=>absurd z 's');refine wpAny_leaves_onW (base:=CS h1 fr) I.ok.frames rfl F.fl λh' fl up=>?_;refine{a,H1,h1,fr,a0,rfl,{F.os.trans I.os,F.bare,I1.base,F.hok,λb hb=>?_,F.new,fl,F.up.trans up},q};obtain⟨h1,h2,h3⟩:=F.frs_ b hb;refine{h1,?_,h3};rcases h2 with h2|h2
 .rcases A9.mp (I.stkSub b h2) with e|e
  .exact .inr (CD e.symm)
  .exact .inl e
 .exact .inr (AV (CM NY) h2)
def Xm(K:AC)(H₀:Hp)(W:Hp->Prop)(gs:List G)(mx:List D->Out Ev):TE:=λσ H _=>∃τ F E p z,Sim K H₀ τ F H σ E/\M6 gs E=.ok p/\mx p.1=.ok z/\∀F' H',Stp (DU σ E) F H F' H' (λ_=>False)->Sub F' H'->W H'
def YV(gs:List G)(mx:List D->Out Ev):GX:=λE=>(M6 gs E).bind λp=>(mx p.1).bind λ_=>.ok p.2
end
theorem Rg{L e:AQ}{cls:AI}{Q:Unit->AN->Prop}(La:A.frames=AA (env::outer))(hl:s.heap.FunFrames base (env::outer))(hf:env.frame=AA L)(ht:s.heap.TracedAtW base e cls a0 fl)
  (Bz:base.StaysIn s.heap) (Lg:base.get? e=AH) (h:∀h',Heap.HeldW base (env::outer) e cls a0 L h'->s.heap.UpToSlots h'->Q () { s with heap:=h' }):A4 M A (OS (.ref e) env) Q E s:=by
 by_cases q:fl=J3 L
 .subst q
  exact wpAny_noteFrame_againW hf ht (h s.heap {Bz,Lg,hl,ht} (.refl _))
 .obtain⟨oe,vs,T,oT,ts,he,⟨eI,h0⟩,hd,h1,By,Cc,hT,lF,h3⟩:=ht
  subst eI;unfold OS;simp only[hf];refine AD (DL he hd h1 ?_);rw[if_pos (show(DN T != D2)=AG from by simp)];refine AD (DL hT lF h3 ?_);rw[if_neg (show ¬((fl==J3 L)=AG) from λz=>q (beq_iff_eq.mp z))];refine AD (KY hT lF (BQ.mp h3).1 ?_);have NM:∀b,b≠T->(s.heap.update T (P6 (·.setIfInBounds 3 D2))).get? b=s.heap.get? b:=λb hb=>J0 _ _ (JG hb)
  have N5:∀b o,s.heap.get? b=AA o->(∀vs,o.data≠.fields vs)->b≠T:=λb o hb bR q=>by
   rw[q,hT] at hb;injection hb with hb;subst hb;exact bR ts lF
  refine wpAny_entryW La (hl.of_keeps λb o hb bR=>{o,(NM b (N5 b o hb bR)).trans hb,rfl}) hf ((NM e (JG Cc)).trans he)
   (λb o pA=>(NM b λq=>by rw[q,By] at pA;cases pA).trans (Bz b o pA)) Lg hd (BQ.mp h1).1 h0
   λh' x=>?_
  obtain⟨x1,x2,x3,x4⟩:=x;exact h h' {x1,Lg,x2,x3} λb o hb bR=>x4 b o ((NM b (N5 b o hb bR)).trans hb) bR
theorem zSM{l:List TD}{e:AQ}{cls:AI}{fo:Option AQ}{Q:Unit->AN->Prop}(Bz:base.StaysIn s.heap)(hl:s.heap.FunFrames base l)(ht:s.heap.TracedAtW base e cls a0 fl)
  (h:∀h' fl',base.StaysIn h'->h'.FunFrames base l->h'.TracedAtW base e cls a0 fl'->s.heap.UpToSlots h'->Q () { s with heap:=h' }):A4 M A (setFlight (.ref e) fo) Q E s:=by
 obtain⟨oe,vs,T,oT,ts,he,eI,hd,h1,By,Cc,hT,lF,h3⟩:=ht;have wO:3<ts.size:=(BQ.mp h3).1
 have NM:∀b,b≠T->(s.heap.update T (P6 (·.setIfInBounds 3 (fo.elim D2 λf=>J3 f)))).get? b=s.heap.get? b :=
  λb hb=>J0 _ _ (JG hb)
 have N5:∀b o,s.heap.get? b=AA o->(∀vs,o.data≠.fields vs)->b≠T:=λb o hb bR q=>by
  rw[q,hT] at hb;injection hb with hb;subst hb;exact bR ts lF
 unfold setFlight;refine AD (DL he hd h1 ?_);rw[if_pos (show(DN T != D2)=AG from by simp)]
 refine KY hT lF wO (h _ (fo.elim D2 λf=>J3 f) (λb o pA=>(NM b λq=>by rw[q,By] at pA;cases pA).trans (Bz b o pA))
  (hl.of_keeps λb o hb bR=>{o,(NM b (N5 b o hb bR)).trans hb,rfl}) ?_ λb o hb bR=>{o.slots,(NM b (N5 b o hb bR)).trans hb})
 exact{oe,vs,T,_,_,(NM e (JG Cc)).trans he,eI,hd,h1,By,Cc,KM _ hT (OT (HI lF _)),HI lF _,by simp[wO]}
theorem PG.nox{X:Cx}{tg:C5}{t:TG}(h:PG X.nox tg t):PG X tg t:=λpins s σ H v u Q I r hw =>
 CJ (h pins s σ H v u Q (I.wish _) r hw) (λ_ _ q0=>by obtain⟨σ',H',I',q⟩:=q0;exact{σ',H',I'.unwish,q}) λ_ _ z=>F8 z
theorem PTs.nox{X:Cx}{ifs:List C5}{t:TT}(h:PTs X.nox ifs t):PTs X ifs t:=λpins s σ H Q I hw =>
 CJ (h pins s σ H Q (I.wish _) hw) (λ_ _ q0=>by obtain⟨H',I',q⟩:=q0;exact{H',I'.unwish,q}) λ_ _ z=>F8 z
theorem zUY(ha:H1 BS=AH)(s:Stp (λa=>DU (TJ k js σ) (UL k js E1) a\/a=BS) F1 (EV H1 BS o) F2 H2 (λ_=>False)):Stp (DU σ E1) F1 H1 F2 H2 (λ_=>False):=by
 have xN:∀a,DU (TJ k js σ) (UL k js E1) a->DU σ E1 a:=λa h=>let ⟨n,j,t,d,_,h2,h3⟩:=sV h;{j,t,d,h2,h3};have ne:∀a u,H1 a=AA u->a≠BS:=λa u e z=>by rw[z,ha] at e;cases e
 refine{λa u e hw n ho=>s.keep a u (by rw[GP (ne a u e)];exact e) hw n λz=>z.elim (λz=>ho (xN a z)) (ne a u e),λa e=>?_,s.le,λa u e=>?_,λ_ z=>z.elim}
 .have:=s.dom a e
  by_cases h:a=BS
  .rw[h];exact ha
  .rw[GP h] at this;exact this
 .rcases s.new a u e with z|z|z|z
  .exact .inl z
  .by_cases h:a=BS
   .rw[h];exact .inr (.inl (.none ha))
   .exact .inr (.inl λo' e'=>z o' (by rw[GP h];exact e'))
  .exact .inr (.inr (xN a z))
  .rw[z];exact .inr (.inl (.none ha))
section
variable{K:AC}{E:Ev}
def RZ(ge:G)(gs:List G)(mx:List D->Out Ev):GM:=λd E=>match d with
 |.non=>.ok (.non,E)
 |d=>match VN ge d E with
  |.ok z=>.ok z
  |_=>(YV gs mx E).bind λE1=>.ok (.non,E1)
def jT(gi:GI)(k:Nat)(js:List Nat)(t:Tg)(tt:Ev->Out (Bool×Ev))(ge:G)(gs:List G)(mx:List D->Out Ev):GX:=λE=>(gi E).bind λp=>(QX t tt (RZ ge gs mx) p.1 (.lst []) (UL k js p.2)).bind λq=>match q.1 with|.non=>.ok p.2|_=>.bad
def Vy(K:AC)(W:Hp->Prop)(ge:G)(gs:List G)(mx:List D->Out Ev)(H₀:Hp):TE:=λσ H Q=>tV K H₀ ge σ H Q\/Xm K H₀ W gs mx σ H Q
def Ho(K:AC)(H₀:Hp)(W:Hp->Prop)(gx:GX):TE:=λσ H _=>∃τ F E E',Sim K H₀ τ F H σ E/\gx E=.ok E'/\∀F' H',Stp (DU σ E) F H F' H' (λ_=>False)->Sub F' H'->W H'
theorem zYG{t:Tg}{ge:G}{gs:List G}{mx:List D->Out Ev}(NY:t.ltn k=AG)(hj:js.Nodup){Q:VK}(h:Ho K H₀ W (jT gi k js t tt ge gs mx) σ H Q) :
  mJ (tI K H₀ gi) k js (.lst []) (λH=>tG K H t) (λH=>tT K H tt) (λH BS=>iC BS (Vy K W ge gs mx H)) σ H Q:=by
 obtain⟨τ,F,E,E',S,hg,kq⟩:=h;obtain⟨p,e1,hg⟩:=pA3 hg;obtain⟨q,e2,hg⟩:=pA3 hg
 have hq:q.1=.non:=by
  split at hg
  .assumption
  .cases hg
 refine{τ,F,E,p.1,p.2,S,e1,λJ F1 H1 s1 S1 w1 BS ha=>?_};have hf:=pAG S1.sub ha;have S0:=S1.enter (o:=.lst []) k hj ha
 have no:¬DU (TJ k js σ) (UL k js p.2) BS:=λz=>by
  obtain⟨n,j,t',d',_,z2,z3⟩:=sV z;exact S1.fresh ha {j,t',d',z2,z3}
 refine Wv NY S0 hf no (show OwnAt K F1 (EV H1 BS (.lst [])) BS (.lst []) from{[],JU,.nil}) w1 e2 (λσ5 F5 H5 E5 N' ZX hh=>?_) λσ2 F2 H2 s2 S2 f2 n2 o2 N6=>?_
 .obtain⟨d5,d6,E6,S5,f5,n5,o5,rT,k5⟩:=hh
  unfold RZ at rT;split at rT
  .exact o5.elim
  .split at rT
   .rename_i z hz
    cases rT;exact .inl (Qq {τ,F5,E5,d5,d6,E6,S5,f5,n5,o5,hz,k5})
   .obtain⟨E7,e7,rT⟩:=pA3 rT
    obtain⟨pp,e8,e7⟩:=pA3 e7;obtain⟨z,e9,e7⟩:=pA3 e7;refine .inr {τ,F5,E5,pp,z,S5,e8,e9,λF' H' st sb=>kq F' H' (s1.trans (zUY ha ((ZX.trans (st.more (BS:=BS))).weak λ_ z=>z.elim))) sb}
 .rw[hq] at o2;exact o2.elim
end
theorem Up{h h' base eN:D0}{C:AQ}(hb:∀b o,eN.get? b=AA o->base.get? b=AA o)(k:∀b,b≠C->h'.get? b=h.get? b):∀{l:List TD},h.FunFrames base l->C∉QD l->h'.FunFrames eN l
 |[],_,_=>trivial
 |env::l,⟨hk,⟨L,o,hf,hn,ho,hd⟩,hr⟩,hc=>by
  have hL:L∈QD (env::l):=FF.mpr {env,AU,hf};refine{hk,{L,o,hf,?_,(k L λz=>hc (z▸hL)).trans ho,hd},Up hb k hr λz=>hc ?_}
  .cases q:eN.get? L with
   |none=>rfl
   |some u=>rw[hb L u q] at hn;cases hn
  .obtain⟨e,he,hf'⟩:=FF.mp z
   exact FF.mpr {e,AS _ he,hf'}
section
variable{K:AC}{E:XK}
theorem yCL{s3:AN}{fr:List AQ}(I:Inv (JJ (IV P w C) P w K mg base N qual scope f cd A outer s₀ H₀ E) pins σ H1 { s with heap:=h1 })
  (La:∀b∈fr,H1 b=AH/\(b∈QD outer\/s₀.heap.objs.size<=b)/\∃o,h1.get? b=AA o/\∀vs,o.data≠.fields vs) (hn:h1.get? a=AH) (os:s3.os=s₀.os) (bare:M2 s3.gens)
  (st:(CS h1 fr).StaysIn s3.heap) (fu:s3.heap.FunFrames (CS h1 fr) (JJ (IV P w C) P w K mg base N qual scope f cd A outer s₀ H₀ E).stack) (tr:s3.heap.TracedAtW (CS h1 fr) a (.ref C) a0 fl) (up:h1.UpToSlots s3.heap) (q:E (.ref C) AH H1) :
  (JJ (IV P w C) P w K mg base N qual scope f cd A outer s₀ H₀ E).xe (.ref a) s3:=by
 have wT:(CS h1 fr).get? a=AH:=by
  cases z:(CS h1 fr).get? a with
  |none=>rfl
  |some o=>rw[LN _ z] at hn;cases hn
 show A4 _ _ (leaving _ (.ref a)) _ _ s3;unfold leaving;refine AD (Rg I.ok.frames fu rfl tr st wT λh4 hh vE=>?_);refine wpAny_landsW hh λh5 xK kR=>?_;obtain⟨k1,k2,⟨_,_,k3⟩,k4⟩:=xK;exact{a,H1,h1,fr,a0,rfl,{os,bare,I.base,I.hok,La,hn,{k1,k2,k3,k4},(up.trans vE).trans kR},q}
def Gz(P:CF)(w:DJ)(C:AQ)(X0:Cx)(E:XK):AI->AN->Prop:=λe s'=>∃pins σ H s,Inv X0 pins σ H s/\IV P w C X0.stack H s E e s'
theorem zYH{nm:List BL}{ss:AN}{e:AI}{BS:AI}
  (I3:Inv (JJ (IV P w C) P w K mg base N qual scope f cd A outer s₀ H₀ E) pins σ Hs ss) (f3:∀b∈fp,FpOk (JJ (IV P w C) P w K mg base N qual scope f cd A outer s₀ H₀ E) pins Hs b)
  (h:Gz P w C (OL (JJ (IV P w C) P w K mg base N qual scope f cd A outer s₀ H₀ E) sc xo cl nm ss.heap.objs.size ss Hs fp) E e s') :
  eS (A3 P w) (JJ (IV P w C) P w K mg base N qual scope f cd A outer s₀ H₀ E).A (KZ sc (wC xo (ss.heap.objs.size+1) cl) ss.heap.objs.size (JJ (IV P w C) P w K mg base N qual scope f cd A outer s₀ H₀ E).env) (λx iW=>∃m,iW.heap.Ns ss.heap.objs.size m/\∀h',FI ss.heap.objs.size iW.heap h'->∀aA:TD,aA.locals=ss.heap.objs.size ->
   A4 (A3 P w) (JJ (IV P w C) P w K mg base N qual scope f cd A outer s₀ H₀ E).A (passOn "comprehension.variables-let-go" x aA:SM AI) (λ_ _=>False) (JJ (IV P w C) P w K mg base N qual scope f cd A outer s₀ H₀ E).xe { iW with heap:=h' }) e s':=by
 obtain⟨pins6,σ6,H6,s6,I6,a,H1,h1,fr,a0,rfl,F,q⟩:=h
 have I7:Inv (JJ (IV P w C) P w K mg base N qual scope f cd A outer s₀ H₀ E) pins σ H6 s6:=I3.call' I6.os I6.base I6.hok I6.bare λb hb=>by
  obtain⟨_,g1,_,g3,g4,g5⟩:=f3 b hb;exact⟨g3,g1,g4,g5⟩
 have I8:Inv (JJ (IV P w C) P w K mg base N qual scope f cd A outer s₀ H₀ E) pins σ H1 { s6 with heap:=h1 }:=I7.call (h':=h1) (g':=s6.gens) (d':=s6.drawn) (t':=s6.toks) (ch:=[]) F.un F.hok I7.bare (λb z=>absurd z 's')
 have Lx:ss.heap.objs.size∉QD (JJ (IV P w C) P w K mg base N qual scope f cd A outer s₀ H₀ E).stack:=λz=>by
  obtain⟨_,o,ho,_⟩:=I3.stack.mem z;exact absurd (BB ho) (FN _)
 obtain⟨mC,⟨oC,esC,epC,wR,Lp,rC⟩,_⟩:=I6.loc;have wR:s6.heap.get? ss.heap.objs.size=AA oC:=wR;have frC:H6 ss.heap.objs.size=AH:=I6.free;have kT:h1.get? ss.heap.objs.size=AA oC:=F.un.keep _ _ wR frC Lx 's';have Ma:H1 ss.heap.objs.size=AH:=F.un.free _ _ wR frC 's';have nsC:h1.Ns ss.heap.objs.size mC:=⟨oC,esC,epC,kT,Lp,rC⟩;have Zd:ss.heap.objs.size<s6.heap.objs.size:=BB wR
 have Lz:∀b∈fr,b≠ss.heap.objs.size:=λb hb z=>by
  rcases(F.frs_ b hb).2.1 with y|y
  .exact Lx (z▸y)
  .rw[z] at y;exact absurd Zd (QT.mpr y)
 have frames:=I7.ok.frames;show A4 _ _ (OS (.ref a) (KZ sc (wC xo (ss.heap.objs.size+1) cl) ss.heap.objs.size (JJ (IV P w C) P w K mg base N qual scope f cd A outer s₀ H₀ E).env)) _ _ s';obtain⟨b1,b2,b3,b4⟩:=F.fl;refine Rg (env:=(JJ (IV P w C) P w K mg base N qual scope f cd A outer s₀ H₀ E).env) frames b3 rfl b4.at b1 b2 λh4 hh vE=>?_;obtain⟨c1,c2,c3,c4⟩:=hh;have Ja:h1.UpToSlots h4:=F.up.trans vE;refine⟨mC,Ja.ns nsC,λh5 sb aA _=>?_⟩
 have hC4:∃o,h4.get? ss.heap.objs.size=AA o/\∀vs,o.data≠.fields vs:=by
  obtain⟨sl,z⟩:=Ja _ _ kT λvs y=>by rw[Lp] at y;cases y
  exact⟨_,z,λvs y=>by have y:oC.data=_:=y;rw[Lp] at y;cases y⟩
 have Kw:∀b,b≠ss.heap.objs.size->(h1.hide ss.heap.objs.size).get? b=h1.get? b:=λb hb=>Heap.hide_ne h1 hb
 have I9:Inv (JJ (IV P w C) P w K mg base N qual scope f cd A outer s₀ H₀ E) pins σ H1 { s6 with heap:=h1.hide ss.heap.objs.size }:=I8.turned (s:={ s6 with heap:=h1 }) (h':=h1.hide ss.heap.objs.size) (t':=s6.toks) (it:=ss.heap.objs.size) (λb o hb e=>(Kw b hb).trans e) Ma (GW I3.lt) (.inr I3.sz)
  (λx c e z=>by
   obtain⟨v,zc⟩:=I3.cell x c e
   exact absurd zc.lt (by rw[z];exact FN _))
  (λp hp z=>absurd (BB (I3.pin p hp).1) (by rw[z];exact FN _))
 have jA:∀b o,(CS (h1.hide ss.heap.objs.size) fr).get? b=AA o->(CS h1 fr).get? b=AA o/\b≠ss.heap.objs.size:=λb o e=>by
  have e1:=LN _ e;have hb:b≠ss.heap.objs.size:=λz=>by rw[z,lY] at e1;cases e1
  refine⟨K4 _ ((Kw b hb).symm.trans e1) λz=>?_,hb⟩;rw[WO _ z] at e;cases e
 have fu5:h5.FunFrames (CS (h1.hide ss.heap.objs.size) fr) (JJ (IV P w C) P w K mg base N qual scope f cd A outer s₀ H₀ E).stack:=Up (λb o e=>(jA b o e).1) sb.2 c3 Lx;have ZX:(CS (h1.hide ss.heap.objs.size) fr).StaysIn h5:=λb o e=>(sb.2 b (jA b o e).2).trans (c1 b o (jA b o e).1)
 have Yl:h5.TracedAtW (CS (h1.hide ss.heap.objs.size) fr) a (.ref C) a0 (J3 (ET qual scope s₀.heap.objs.size f cd).locals):=by
  obtain⟨oe,vs,T,oT,ts,t1,t2,t3,t4,t5,t6,t7,t8,t9⟩:=c4;obtain⟨o',z1,z2⟩:=hC4
  have ne:∀b o vs,h4.get? b=AA o->o.data=.fields vs->b≠ss.heap.objs.size:=λb o vs y1 y2 y=>by
   rw[y,z1] at y1;cases y1;exact z2 _ y2
  refine⟨oe,vs,T,oT,ts,(sb.2 a (ne a _ _ t1 t3)).trans t1,t2,t3,t4,?_,t6,(sb.2 T (ne T _ _ t7 t8)).trans t7,t8,t9⟩
  cases y:(CS (h1.hide ss.heap.objs.size) fr).get? T with
  |none=>rfl
  |some o=>rw[(jA T o y).1] at t5;cases t5
 have kR:(h1.hide ss.heap.objs.size).UpToSlots h5:=λb o e hd=>by
  have e1:=Heap.of_hide e;have hb:b≠ss.heap.objs.size:=λz=>by rw[z,lY] at e;cases e
  obtain⟨sl,y⟩:=Ja b o e1 hd;exact⟨sl,(sb.2 b hb).trans y⟩
 unfold PySem.passOn;obtain⟨oe,vs,T,oT,ts,t1,t2,t3,t4,t5⟩:=id Yl;refine AD (DL (s:={ s' with heap:=h5 }) t1 t3 t4 ?_);rw[if_neg (show ¬((DN T==D2)=AG) from by simp)];refine AD (zSM (s:={ s' with heap:=h5 }) ZX fu5 Yl λh6 Mc st6 fu6 tr6 Jb=>?_);refine jC ?_;refine yCL I9 (λb hb=>?_) ?_ (F.os.trans I7.os) F.bare st6 fu6 tr6 (kR.trans Jb) q
 .obtain⟨y1,y2,o,y3,y4⟩:=F.frs_ b hb
  refine⟨y1,?_,o,(Kw b (Lz b hb)).trans y3,y4⟩;rcases y2 with y2|y2
  .rcases A9.mp (I7.stkSub b y2) with e|e
   .exact .inr (CD e.symm)
   .exact .inl e
  .exact .inr (AV (CM (AL I3.sz Zd)) y2)
 .cases y:(h1.hide ss.heap.objs.size).get? a with
  |none=>rfl
  |some o=>have:=Heap.of_hide y;rw[F.new] at this;cases this
end
section
variable{K:AC}{E:XK}
abbrev hZ(P:CF)(w:DJ)(C:AQ)(E:XK)(X:Cx)(sc:RV)(xo:Option BL)(cl:List (BL×AQ))(nm:List BL)(D:AQ)(s:AN)(H:Hp)(fp:List AQ):Cx:=pV (λY=>Gz P w C Y E) X sc xo cl nm D s H fp
theorem zSN{nm:List BL}{D:AQ}:mL (IV P w C) (hZ P w C E X sc xo cl nm D s H fp) E:=λpins σ H s e s' I h=>⟨pins,σ,H,s,I.unwish,h⟩
theorem zYI{iter:C5}{g:Hp->TG}{tt:Hp->TT}{te:Hp->TE}(n:CompNm (JJ (IV P w C) P w K mg base N qual scope f cd A outer s₀ H₀ E) sc xo cl own C8 js)(hi:PI (JJ (IV P w C) P w K mg base N qual scope f cd A outer s₀ H₀ E) tg iter wi)
  (hg:∀D s H fp,PG (hZ P w C E (JJ (IV P w C) P w K mg base N qual scope f cd A outer s₀ H₀ E) sc xo cl (own++C8) D s H fp) tg (g H)) (ht:∀D s H fp,PTs (hZ P w C E (JJ (IV P w C) P w K mg base N qual scope f cd A outer s₀ H₀ E) sc xo cl (own++C8) D s H fp) ifs (tt H)) (he:∀D s H fp,PE (hZ P w C E (JJ (IV P w C) P w K mg base N qual scope f cd A outer s₀ H₀ E) sc xo cl (own++C8) D s H fp) OR (te H))
  (hs:∀x,CW iter (ET qual scope s₀.heap.objs.size f cd) x=pure x:=by intro _;rfl):PE (JJ (IV P w C) P w K mg base N qual scope f cd A outer s₀ H₀ E) (.ListComp OR [⟨tg,iter,ifs,0⟩] sc pos) (mJ wi own.length js (.lst []) g tt λH BS=>iC BS (te H)):=by
 have err:=λ{BS:AI} {fp pins σ Hs ss s' e}=>zYH (P:=P) (w:=w) (K:=K) (mg:=mg) (base:=base) (N:=N) (qual:=qual) (scope:=scope) (f:=f) (C:=C) (cd:=cd) (A:=A) (outer:=outer) (s₀:=s₀) (H₀:=H₀) (E:=E) (sc:=sc) (xo:=xo) (cl:=cl) (nm:=own++C8) (fp:=fp) (pins:=pins) (σ:=σ) (Hs:=Hs) (ss:=ss) (s':=s') (e:=e) (BS:=BS);obtain⟨X,hX⟩:∃X,X=JJ (IV P w C) P w K mg base N qual scope f cd A outer s₀ H₀ E:=⟨_,rfl⟩;have eP:X.prog=P:=by rw[hX];rfl
 have ew:X.w=w:=by rw[hX];rfl
 have hc:X.calm=AG:=by rw[hX];rfl
 have hs:∀x,CW iter X.env x=pure x:=by rw[hX];exact hs
 rw[<-hX] at n hi hg ht he err ⊢;subst eP ew;intro pins s σ H Q I h;rw[aJ];refine JR (use:=AH) rfl hs n.clos n.kind n.loc (CJ (hi pins s σ H _ I h) (λxv FC KH=>CJ KH (λoJ s2 OO=>?_) λ_ _ e=>e) λ_ _ e=>e);obtain⟨it,fp,tn,J,H1,e,I2,T,st2,f2,hW⟩:=OO;subst e
 refine Ab (V:=λY=>Gz X.prog X.w C Y E) (obj:={ cls:=.type "list",dict:=AH,data:=.seq ([]:List AI).toArray }) (pp:=iter.pos) (ifs:=ifs) (tg:=tg) (RR:=λBS D=>jJ (A3 X.prog X.w) X.A X.xe AH (EP X pins σ Q) BS D)
  (m:=λBS env=>(do let _ <-call (.builtin "list.append") [.ref BS,<-eval OR env]))
  (o:=.lst []) (λ{Q s} h=>DH h) (show ObjOk _ _ _ _ _ (.lst []) from⟨B0 _,[],0,.nil,AW _ rfl⟩) (λ_ _=>rfl) (λ_ _=>rfl) (λ_ _=>rfl) (λh0 h1=>K0 h0 h1) n hc hg ht
  (λD s H fp BS=>zK (X:=hZ X.prog X.w C E X sc xo cl (own++C8) D s H fp) (he D s H fp)) (λI3 f3 z=>err (BS:=.none) I3 f3 z) I2 T st2 f2 hW ?_
 intro BS D H' s' m I' hC h1 h2 h3 h4 hn q;exact⟨m,hn,λh' sb=>⟨.ref BS,H',I'.turned (t':=s'.toks) (λb o hb e=>sb.extBut b o hb e) hC h1 (.inr h2) h3 h4,rfl,q⟩⟩
end
theorem Qo{E:XK}{mx:List D->Out Ev}{gs:List G}(hp:mL (IV X.prog X.w C) X E)(CL:WU X.prog X.w X.K X.mg X.base C x k np mx)(hr:Room k X.A)(ha:VA X (e::es) gs)
  (lB:gs.length=np) (hg:Gl X x) (RD:(x==("__debug__":BL))=AB) (he:AF (e::es) X.env=(AB,eval e X.env)::AF es X.env) (HZ:(CZ pos (AF es X.env)).any (·.1)=AB) :
  PE X (.Call (.Name x p) (e::es) [] pos) (Xm X.K X.H₀ (λH'=>E (.ref C) AH H') gs mx):=by
 obtain⟨f',fd,ps,Fn,hm,hk,hb⟩:=CL;refine(zG Fn hr hg hm hk hb .nil hp ha RD he HZ).imp λσ H Q h=>?_;obtain⟨τ,F,E1,p,z,S,e1,e2,k⟩:=h;refine⟨τ,F,E1,p.1,p.2,S,e1,λvs F1 H1 s1 S1 r1=>?_⟩;refine⟨by rw[EH,r1.length,nB e1];exact lB,F1,p.1,z,S1.sub,by rw[EH];exact r1,e2,λF' H' n=>k F' H' ((s1.trans n.stp).weak λ_ z=>z.elim) n.2⟩
section
variable{K:AC}{E:XK}
end
section
variable{K:AC}{a b:C5}{ga gb ge:G}
def Vx:R2:=λx y H Q=>∃i j,x=.str i/\y=.str j/\Q (.bl (FM j i)) H
def Wk:R2:=λx y H Q=>∃i j,x=.str i/\y=.str j/\Q (.bl (!FM j i)) H
theorem yGH:OpR X (CO .In) Vx:=by
 intro pins s σ H x y v u Q I rx ry h;obtain⟨i,j,rfl,rfl,q⟩:=h;obtain⟨t,rfl⟩:=rx;obtain⟨t',rfl⟩:=ry;exact SB.contains ⟨.bl _,H,I,rfl,q⟩
theorem yCN:OpR X (CO .NotIn) Wk:=by
 intro pins s σ H x y v u Q I rx ry h;obtain⟨i,j,rfl,rfl,q⟩:=h;obtain⟨t,rfl⟩:=rx;obtain⟨t',rfl⟩:=ry;exact SB.notContains ⟨.bl _,H,I,rfl,q⟩
noncomputable def kP(x y:D):Out D:=match x,y with|.str i,.str j=>.ok (.bl (FM j i))|_,_=>.bad
noncomputable def mP(x y:D):Out D:=match x,y with|.str i,.str j=>.ok (.bl (!FM j i))|_,_=>.bad
theorem yCO:P5 K Vx kP:=λv u x y F H d Q s r1 r2 hf k=>by
 unfold kP at hf;split at hf
 .cases hf;obtain rfl:=r1.vS;obtain rfl:=r2.vS
  exact⟨_,_,rfl,rfl,k _ F H (.refl s) (.bl _)⟩
 .cases hf
theorem zYJ:P5 K Wk mP:=λv u x y F H d Q s r1 r2 hf k=>by
 unfold mP at hf;split at hf
 .cases hf;obtain rfl:=r1.vS;obtain rfl:=r2.vS
  exact⟨_,_,rfl,rfl,k _ F H (.refl s) (.bl _)⟩
 .cases hf
theorem Wj(ha:VE X a ga)(hb:VE X b gb)(hm:CY .In b=AB:=by with_unfolding_all rfl):VE X (.Compare a [.In] [b] pos) (g2 kP ga gb):=yK yGH yCO ha hb hm
theorem yCP(ha:VE X a ga)(hb:VE X b gb)(hm:CY .NotIn b=AB:=by with_unfolding_all rfl):VT X (.Compare a [.NotIn] [b] pos) (gB (g2 mP ga gb)):=fR yCN zYJ ha hb hm
def Ge(x:BL):List V:=x.cps.toList.map λc=>V.str ⟨#[c]⟩
def W9(x:BL):List D:=x.cps.toList.map λc=>D.str ⟨#[c]⟩
def Bo(x:BL):It:=⟨λi _=>i<x.cps.size,λi H v H'=>H'=H/\(Ge x)[i]?=AA v,λi _=>x.cps.size<=i⟩
theorem zYK(it:AQ)(x:BL)(t:b9):Turn P w K tg (Bo x) [it] it (λi h=>h.IsStrIter it "str_ascii_iterator" x t i) where
 mem:=by simp
 obj:=λi h st b hb=>by
  have e:b=it:=by simpa using hb
  subst e;obtain⟨o,e,c,d⟩:=st;exact⟨o,e,λv z=>by rw[d] at z;cases z⟩
 keep:=λi h h' st k=>let ⟨o,e,r⟩:=st;⟨o,k it 's' o e,r⟩
 item:=by
  intro X hP hw hK hc i pins s σ H E I hf st hg;subst hP hw hK;obtain⟨f0,f1,f2,f3,f4,f5⟩:=hf it 's';have hi:i<x.cps.size:=hg;refine wpAny_pyNext_ascii_item st (c:=x.cps[i]) (by simp[hi]) λh' CG sb=>?_;have I1:Inv X pins σ H { s with heap:=h',toks:=s.toks+1 }:=I.turned (λb o hb e=>(sb.2 b hb).trans e) f0 f1 f3 f4 f5;obtain⟨o,e,c,d⟩:=id CG;exact⟨_,rfl,pT (s:={ s with heap:=h',toks:=s.toks+1 }) e c d 'd' ⟨.str ⟨#[x.cps[i]]⟩,H,I1,⟨_,rfl⟩,⟨rfl,by simp[Ge,hi]⟩,CG,λb hb=>(hf b hb).1⟩⟩
 done:=by
  intro X hP hw hK hc i pins s σ H E I hf st hg;subst hP hw hK;obtain⟨f0,f1,f2,f3,f4,f5⟩:=hf it 's';have hi:x.cps.size<=i:=hg;exact wpAny_pyNext_ascii_end (I.ok.hd hc) st (by simp[hi]) λh' eb=>⟨rfl,I.turned (t':=s.toks) (λb o hb e=>eb b o hb e) f0 f1 f3 f4 f5⟩
 self:=λ_ _ _ _ _ st h=>wpAny_pyIter_striter_ascii st h
def yK6(tl:TE):TI:=λσ H R=>tl σ H λx H1=>∃z,x=.str z/\z.cps.all (·<128)=AG/\R (Bo z) H1
theorem yGJ{l:C5}(hl:PE X l tl):PI X tg l (yK6 tl):=by
 intro pins s σ H R I h;refine GY (hl pins s σ H _ I h) λv s1 ⟨y,H1,I1,r1,z,e,hz,q⟩=>?_;subst e;obtain⟨t,rfl⟩:=r1;refine wpAny_pyIter_ascii hz ⟨s1.heap.objs.size,[s1.heap.objs.size],_,Bo z,H1,rfl,I1.kept (t':=s1.toks) (λb o e=>AJ _ e),zYK _ z t,⟨_,AW _ rfl,rfl,rfl⟩,λb hb=>?_,q⟩;have e:b=s1.heap.objs.size:=by simpa using hb
 subst e;exact I1.fpOk (AO _) (I1.hok.fresh (AO _))
theorem zUZ(x:BL):Walks K (Bo x) F (W9 x):=λi F1 H1 l s=>by
 have hl:(W9 x).length=x.cps.size:=by simp[W9]
 refine⟨λhi=>by rw[hl] at hi;exact hi,λhi=>by rw[hl] at hi;exact CD hi.symm,λv H' d e ⟨e1,y⟩=>?_⟩;subst e1;refine⟨F1,.refl s,?_⟩;unfold W9 at e;unfold Ge at y;rw[BA] at e y
 cases q:x.cps.toList[i]? with
 |none=>rw[q] at e;cases e
 |some c=>rw[q] at e y;cases e;cases y;exact .str _
def cR(g:G):GI:=λE=>(g E).bind λp=>match p.1 with|.str x=>guard (x.cps.all (·<128)=AG) (.ok (W9 x,p.2))|_=>.bad
theorem Cy(h:VE X e ge):VI X tg e (cR ge):=(yGJ h).imp λσ H R q=>by
 obtain⟨τ,F,E,ds,E',S,hg,k⟩:=q;obtain⟨p,e1,hg⟩:=pA3 hg;refine⟨τ,F,E,p.1,p.2,S,e1,λv F1 H1 s1 S1 r1=>?_⟩;split at hg
 .rename_i z ez
  obtain⟨g1,hg⟩:=iH hg;cases hg;rw[ez] at r1;obtain rfl:=r1.vS;exact⟨z,rfl,g1,k _ F1 H1 s1 S1 (zUZ z)⟩
 .cases hg
end
end L2
namespace L2
open PySem PySem.Spec PyProof.Rows PySem.Builtin PySem.Builtin.Str
theorem So:∀(l:List (BL×b9)),Vals ((l.map (·.1)).map V.str) (strValues l)
 |[]=>.nil
 |p::l=>.cons ⟨p.2,rfl⟩ (So l)
theorem z6(x y:BL):(AZ x y).length<=x.length+2:=by
 have e1:=V1 x y 0 x.length (x.length+1);unfold AZ;split
 .simp
 .split
  .simp
  .rw[lQ];lia
section
variable{K:AC}{a b:C5}{ga gb ge:G}
def yGK:V->List V->Hp->VK->Prop:=λx xs H Q=>∃z y,x=.str z/\xs=[.str y]/\(y.length==0)=AB/\z.length<9000/\∀l,H l=AH->Q (.ref l) (EV H l (.lst ((AZ z y).map V.str)))
theorem zYL:Bn X "str.split" yGK:=by
 intro pins s σ H x xs v us Q I rx rv h;obtain⟨z,y,rfl,rfl,hy,hz,q⟩:=h;obtain⟨t,rfl⟩:=rx;obtain⟨u,rfl,ru⟩:=VQ rv;obtain⟨t',rfl⟩:=ru;have hl:=z6 z y
 have fin:∀(l:List (BL×b9)) (tk:Nat),l.map (·.1)=AZ z y->EP X pins σ Q (.ref s.heap.objs.size) { s with toks:=tk,heap:=s.heap.push { cls:=.type "list",data:=.seq (strValues l).toArray } }:=λl tk e=>by
  refine⟨.ref s.heap.objs.size,_,I.laid (t':=tk) (o:=.lst ((AZ z y).map V.str)) (λb u e=>AJ _ e) (AO _) ⟨?_,strValues l,0,by rw[<-e];exact So l,AW _ rfl⟩,rfl,q _ I.fresh⟩;rw[AK];exact AV hl (bI 'l')
 have hn:(partsBetween z (occurrences z y 0 z.length (z.length+1)) y.length).length<=sizeLine:=by
  have e1:=V1 z y 0 z.length (z.length+1);rw[lQ];exact bI 'l'
 cases h1:(decide (z.length<y.length)||decide (strKind z<strKind y))
 .cases hf:(occurrences z y 0 z.length (z.length+1)).isEmpty
  .refine O5 JF (O2 _ _ _) MW (ML _ _) (meets_str_split_sep z y t t' h1 hy hf (bI 'l') hn) ?_
   show wants _ _ _ { s with toks:=_,heap:=s.heap.push { cls:=.type "list",data:=.seq (strsFrom s.toks (partsBetween z (occurrences z y 0 z.length (z.length+1)) y.length)).toArray } };rw[strsFrom_eq];exact fin (numbered s.toks _) _ ((numbered_texts _ _).trans ((if_neg (ne_true_of_eq_false h1)).trans (if_neg (ne_true_of_eq_false hf))).symm)
  .exact O5 JF (O2 _ _ _) MW (ML _ _) (meets_str_split_not_found z y t t' h1 hy hf) (fin [(z,t)] s.toks ((if_neg (ne_true_of_eq_false h1)).trans (if_pos hf)).symm)
 .exact O5 JF (O2 _ _ _) MW (ML _ _) (meets_str_split_cannot_occur z y t t' h1) (fin [(z,t)] s.toks (if_pos h1).symm)
theorem Reps.strs{F:Hp}:∀(ys:List BL),Reps K F (ys.map V.str) (ys.map D.str)
 |[]=>.nil
 |y::ys=>.cons (.str y) (Reps.strs ys)
noncomputable def P4(x y:D):Out D:=match x,y with
 |.str z,.str y=>if(y.length==0)=AB/\z.length<9000 then .ok (.lst ((AZ z y).map D.str)) else .bad
 |_,_=>.bad
theorem ZN(ha:VE X a ga)(he:VE X e ge)(PQ:OB a "split" X.env (eval a X.env)=eval a X.env:=by rfl)
  (U0:((CZ GJ (AF [e] X.env)).all (λx=>!x.1)&&(NG GJ (IR [] X.env)).all (λx=>x.1.isSome)
   && decide ([e].length+([]:List MZ).length+(if([]:List MZ).isEmpty then 0 else 1)<30))=AG:=by rfl)
  (PL:(RG.endLine==GJ.line)=AG:=by rfl) (hs:AF [e] X.env=(AB,eval e X.env)::AF [] X.env:=by rfl) (NC:(CZ GJ (AF [] X.env)).any (·.1)=AB:=by rfl) :
  VE X (.Call (.Attribute a "split" RG) [e] [] GJ) (g2 P4 ga ge) :=
 (yI VB JF PySem.F.type_str_split zYL ha (R0 he IP hs) PQ U0 PL hs NC).imp λσ H Q h=>by
  obtain⟨τ,F,E,d,E',S,hg,k⟩:=h;obtain⟨p,e1,hg⟩:=pA3 hg;obtain⟨q,e2,hg⟩:=pA3 hg;obtain⟨z,e3,hg⟩:=pA3 hg;cases hg;obtain⟨pd,pE⟩:=p;obtain⟨qd,qE⟩:=q;unfold P4 at e3;split at e3
  .rename_i z y x1 x2
   dsimp only at x1 x2;subst x1 x2;split at e3
   .rename_i g
    cases e3;refine⟨τ,F,E,_,pE,S,e1,λv F1 H1 s1 S1 r1=>?_⟩;obtain rfl:=r1.vS;refine⟨?ty,τ,F1,pE,_,qE,S1,e2,λu F2 H2 s2 S2 r2=>?_⟩
    .exact rfl
    .obtain rfl:=r2.vS
     refine⟨z,y,rfl,rfl,g.1,g.2,λl hl=>?_⟩;have n:=New.laid (o:=.lst ((AZ z y).map V.str)) S2.sub hl;exact k _ _ _ ((s1.trans s2).trans n.stp) (S2.new n) (.lst (.inl (.inl JU)) ((Reps.strs _).le n.1.le))
   .cases e3
  .cases e3
end
theorem zSO{ys:List BL}:∀{us:List AI},Vals (ys.map V.str) us->StrsAre us ys:=by
 induction ys with
 |nil=>intro us r;rw[LZ] at r;cases r;exact .nil
 |cons n ns ih =>
  intro us r;rw[A1] at r
  cases r with
  |cons r rr =>
   obtain⟨t,rfl⟩:=r;exact .cons _ _ (ih rr)
noncomputable def mO:List D->Option (List BL)
 |[]=>AA []
 |.str y::r=>(mO r).map (y::·)
 |_=>AH
theorem Rw:∀{ds:List D} {ys:List BL},mO ds=AA ys->ds=ys.map D.str
 |[],ys,h=>by cases h;rfl
 |d::ds,ys,h=>by
  cases d with
  |str y =>
   rw[mO] at h;obtain⟨qs,h1,rfl⟩:=DF.mp h;rw[Rw h1];rfl
  |_=>cases h
theorem Td(ys:List BL):mO (ys.map D.str)=AA ys:=by
 induction ys with
 |nil=>rfl
 |cons y ys ih=>rw[A1,mO,ih];rfl
section
variable{K:AC}{a b:C5}{ga gb ge:G}{gs:List G}
def yIW(K:AC):V->List V->Hp->VK->Prop:=λx xs H Q=>∃z l ys,x=.str z/\xs=[.ref l]/\SqL K H l (ys.map V.str)/\(ys.map (·.length)).sum+ys.length * z.length<9000/\Q (.str (J5 z ys)) H
theorem yCQ:Bn X "str.join" (yIW X.K):=by
 intro pins s σ H x xs v us Q I rx rv h;obtain⟨z,l,ys,rfl,rfl,hl,hz,q⟩:=h;obtain⟨t,rfl⟩:=rx;obtain⟨u,rfl,ru⟩:=VQ rv;cases ru;obtain⟨CP,rs,pl,_⟩:=I.list hl;exact join_list pl.isList (zSO rs) 'l' λt' k=>⟨.str _,H,I.tok _,⟨_,rfl⟩,q⟩
def ZH(x y:D):Out D:=match x,y with
 |.str z,.lst ds=>match mO ds with
  |some ys=>if(ys.map (·.length)).sum+ys.length * z.length<9000 then .ok (.str (J5 z ys)) else .bad
  |none=>.bad
 |_,_=>.bad
theorem mU(ha:VE X a ga)(he:VE X e ge)(PQ:OB a "join" X.env (eval a X.env)=eval a X.env:=by rfl)
  (U0:((CZ GJ (AF [e] X.env)).all (λx=>!x.1)&&(NG GJ (IR [] X.env)).all (λx=>x.1.isSome)
   && decide ([e].length+([]:List MZ).length+(if([]:List MZ).isEmpty then 0 else 1)<30))=AG:=by rfl)
  (PL:(RG.endLine==GJ.line)=AG:=by rfl) (hs:AF [e] X.env=(AB,eval e X.env)::AF [] X.env:=by rfl) (NC:(CZ GJ (AF [] X.env)).any (·.1)=AB:=by rfl) :
  VE X (.Call (.Attribute a "join" RG) [e] [] GJ) (g2 ZH ga ge) :=
 (yI VB PySem.F.slot_str_join PySem.F.type_str_join yCQ ha (R0 he IP hs) PQ U0 PL hs NC).imp λσ H Q h=>by
  obtain⟨τ,F,E,d,E',S,hg,k⟩:=h;obtain⟨p,e1,hg⟩:=pA3 hg;obtain⟨q,e2,hg⟩:=pA3 hg;obtain⟨z,e3,hg⟩:=pA3 hg;cases hg;obtain⟨pd,pE⟩:=p;obtain⟨qd,qE⟩:=q;unfold ZH at e3;split at e3
  .rename_i z ds x1 x2
   dsimp only at x1 x2;subst x1 x2;split at e3
   .rename_i ys ej
    split at e3
    .rename_i g
     cases e3;have e:=Rw ej;subst e;refine⟨τ,F,E,_,pE,S,e1,λv F1 H1 s1 S1 r1=>?_⟩;obtain rfl:=r1.vS;refine⟨rfl,τ,F1,pE,_,qE,S1,e2,λu F2 H2 s2 S2 r2=>?_⟩;obtain⟨l,vs,rfl,h1,rs⟩:=r2.isRefL;have ev:=rs.vstr;subst ev;exact⟨z,l,ys,rfl,rfl,h1.imp S2.sub.rd id,g,k _ F2 H2 (s1.trans s2) S2 (.str _)⟩
    .cases e3
   .cases e3
  .cases e3
theorem zU1:CallR X (.type "int") (λxs H Q=>∃z n,xs=[.str z]/\intText? z=AA n/\z.length<=640/\Q (.int n) H):=by
 intro pins s σ H xs us Q I r h;obtain⟨z,n,rfl,hn,hz,q⟩:=h;obtain⟨u,rfl,ru⟩:=VQ r;obtain⟨t,rfl⟩:=ru;exact PySem.W.KIN.call_text hn hz ⟨.int n,H,I.tok _,⟨_,rfl⟩,q⟩
noncomputable def pQ:List D->Out D
 |[.str z]=>match intText? z with
  |some n=>if z.length<=640 then .ok (.int n) else .bad
  |none=>.bad
 |_=>.bad
theorem yCR:fN K (λxs H Q=>∃z n,xs=[.str z]/\intText? z=AA n/\z.length<=640/\Q (.int n) H) pQ:=λvs xs F H d Q s r hf k=>by
 unfold pQ at hf;split at hf
 .rename_i z
  split at hf
  .rename_i n e
   split at hf
   .rename_i h
    cases hf;obtain⟨v,rfl,r1⟩:=Dr r;obtain rfl:=r1.vS;exact⟨z,n,rfl,e,h,k _ F H (.refl s) (.int _)⟩
   .cases hf
  .cases hf
 .cases hf
theorem Nz(hm:X.mg "int"=AH)(ha:VA X (e::es) gs)(hg:Gl X "int":=by rfl)(he:AF (e::es) X.env=(AB,eval e X.env)::AF es X.env:=by rfl)(HZ:(CZ pos (AF es X.env)).any (·.1)=AB:=by rfl) :
  VE X (.Call (.Name "int" p) (e::es) [] pos) (gN pQ gs):=Gi zU1 yCR hm (by decide +kernel) ha hg 'd' 'd' he HZ
def yK7:V->Option Int->Option Int->Hp->VK->Prop:=λx lo hi H Q=>∃z,x=.str z/\z.length<10000/\Q (.str (HN z lo hi)) H
theorem yGL:SlR X yK7:=by
 intro pins s σ H x v vl vu lo hi sl Q I rx hs pl pu h;obtain⟨z,rfl,hz,q⟩:=h;obtain⟨t,rfl⟩:=rx;refine⟨"str",_,PySem.F.slot_str_getitem.lookup,O2 _ _ _,?_⟩;have fin:∀t' k,EP X pins σ Q (.str (HN z lo hi) t') { s with toks:=k }:=λt' k=>⟨.str _,H,I.tok _,⟨_,rfl⟩,q⟩;have hl:(HN z lo hi).length<=sizeLine:=AV (RH z _ _) (bI 'l')
 cases pl with
 |none =>
  cases pu with
  |none=>exact KA (l:=AH) (u:=AH) (st:=AH) hs rfl (O9 ⟨hl,fin⟩)
  |int j t2=>exact KA (l:=AH) (u:=AA (j,t2)) (st:=AH) hs rfl (O9 ⟨hl,fin⟩)
 |int i t1 =>
  cases pu with
  |none=>exact KA (l:=AA (i,t1)) (u:=AH) (st:=AH) hs rfl (O9 ⟨hl,fin⟩)
  |int j t2=>exact KA (l:=AA (i,t1)) (u:=AA (j,t2)) (st:=AH) hs rfl (O9 ⟨hl,fin⟩)
def Gd(x:D)(lo hi:Option Int):Out D:=match x with
 |.str z=>RS z.length (.ok (.str (HN z lo hi)))
 |_=>.bad
def mT(g:G)(lo hi:Option G):G:=λE=>(g E).bind λp=>(ZK lo p.2).bind λq=>(ZK hi q.2).bind λr=>(Gd p.1 q.1 r.1).bind λd=>.ok (d,r.2)
theorem zO{lo hi:Option C5}{gl gh:Option G}(he:VE X e ge)(hl:VO X lo gl)(hh:VO X hi gh):VE X (.Subscript e (.Slice lo hi AH p2) pos) (mT ge gl gh):=(Rb yGL he hl hh).imp λσ H Q h=>by
 obtain⟨τ,F,E,d,E',S,hg,k⟩:=h;obtain⟨p,e1,hg⟩:=pA3 hg;obtain⟨q,e2,hg⟩:=pA3 hg;obtain⟨r,e3,hg⟩:=pA3 hg;obtain⟨z,e4,hg⟩:=pA3 hg;cases hg;refine⟨τ,F,E,p.1,p.2,S,e1,λv F1 H1 s1 S1 r1=>⟨τ,F1,p.2,q.1,q.2,S1,e2,λF2 H2 s2 S2=>⟨τ,F2,q.2,r.1,r.2,S2,e3,λF3 H3 s3 S3=>?_⟩⟩⟩;unfold Gd at e4;split at e4
 .rename_i y ed
  obtain⟨hy,e4⟩:=XI e4;cases e4;rw[ed] at r1;obtain rfl:=r1.vS;exact⟨y,rfl,hy,k _ F3 H3 ((s1.trans s2).trans s3) S3 (.str _)⟩
 .cases e4
end
end L2
variable{gx:L2.GX}
namespace L2
open PySem PySem.Spec PyProof.Rows
abbrev EX(X:Cx)(W:Hp->Prop)(e:C5)(gx:GX):Prop:=PE X e (Ho X.K X.H₀ W gx)
def pP(t:Ev->Out (Bool×Ev))(g1 g2:GX):GX:=λE=>(t E).bind λp=>if p.1=AG then g1 p.2 else g2 p.2
def mM(gx:GX)(g:GS)(gr:GX):GX:=λE=>match gx E with|.ok E'=>.ok E'|_=>l7 g gr E
def gY(x1:GX)(g1:G)(x2:GX):GX:=λE=>match x1 E with|.ok E'=>.ok E'|_=>(g1 E).bind λp=>x2 p.2
section
variable{sA:GX}
theorem Dl{a rest:List D5}{t:Ev->Out (Bool×Ev)}(hc:VT X c t)(ha:PSs X a (tX X.K X.H₀ W gx))(hr:PSs X rest (tX X.K X.H₀ W sA)):PSs X (.If c a [] pos::rest) (tX X.K X.H₀ W (pP t gx sA)) :=
 (iI (Hl hc ha UN) hr).imp λD σ H h=>by
  obtain⟨τ,F,E1,E2,S,hg,k⟩:=h;obtain⟨p,e1,hg⟩:=pA3 hg;refine⟨τ,F,E1,p.1,p.2,S,e1,λF1 H1 s1 S1=>?_⟩
  by_cases hp:p.1=AG
  .rw[if_pos hp] at hg ⊢
   exact⟨τ,F1,p.2,E2,S1,hg,λF2 H2 s2 b=>k F2 H2 (s1.trans s2) b⟩
  .rw[if_neg hp] at hg ⊢
   exact⟨τ,F1,p.2,E2,S1,hg,λF2 H2 s2 b=>k F2 H2 (s1.trans s2) b⟩
theorem Eh{rest:List D5}(he:EX X W e gx):PSs X (.Return (AA e) pos::rest) (tX X.K X.H₀ W gx) :=
 (iI (yT he) zZ).imp λD σ H h=>h
theorem zYN{g:GS}{rest:List D5}(he:EX X W e gx)(h1:VS X (.Assign [.Name x NB] e pos) g)(h2:PSs X rest (tX X.K X.H₀ W sA))(hN:X.N.Nodup)(hi:X.N[i]?=AA x)(hx:Loc X.env.scope x)
  (hs:HG e (AA (.Name x NB)) pos.line X.env=pure AB:=by rfl) (hf:X.fn x=AG\/X.env.scope.names.lookup x=AA .local:=by exact EG rfl):PSs X (.Assign [.Name x NB] e pos::rest) (tX X.K X.H₀ W (mM gx g sA)):=by
 intro pins s σ H D I h;obtain⟨τ,F,E1,E2,S,hg,k⟩:=h;unfold mM at hg;split at hg
 .rename_i E3 e3
  cases hg;exact(iI (tB hN hi hx he hs hf) zZ) pins s σ H D I ⟨τ,F,E1,E2,S,e3,k⟩
 .exact tU h1 h2 pins s σ H D I ⟨τ,F,E1,E2,S,hg,k⟩
theorem Dk{e1 e2:C5}{g1:G}{c}(h1:EX X W e1 gx)(v1:VE X e1 g1)(h2:EX X W e2 sA)(hs:AF [e1,e2] X.env=(AB,eval e1 X.env)::AF [e2] X.env:=by rfl)(N6:AF [e2] X.env=(AB,eval e2 X.env)::AF [] X.env:=by rfl) :
  EX X W (.Tuple [e1,e2] c pos) (gY gx g1 sA):=by
 have WG:PE X e1 (λσ H Q=>Ho X.K X.H₀ W gx σ H Q\/tV X.K X.H₀ g1 σ H Q):=λpins s σ H Q I z=>z.elim (h1 pins s σ H Q I) (v1 pins s σ H Q I);refine(Nl (R0 WG (R0 h2 IP N6) hs)).imp λσ H Q h=>?_;obtain⟨τ,F,E1,E2,S,hg,k⟩:=h;unfold gY at hg;split at hg
 .rename_i E3 e3
  cases hg;exact .inl ⟨τ,F,E1,E2,S,e3,k⟩
 .obtain⟨p,e4,hg⟩:=pA3 hg
  exact .inr ⟨τ,F,E1,p.1,p.2,S,e4,λv F1 H1 s1 S1 r1=>⟨τ,F1,p.2,E2,S1,hg,λF' H' st sb=>k F' H' (s1.trans st) sb⟩⟩
theorem Rv(hm:X.mg "tuple"=AH)(h:EX X W e gx)(hg:Gl X "tuple":=by rfl)(hs:AF [e] X.env=(AB,eval e X.env)::AF [] X.env:=by rfl)(HZ:(CZ pos (AF [] X.env)).any (·.1)=AB:=by rfl) :
  EX X W (.Call (.Name "tuple" p) [e] [] pos) gx :=
 (uC (r:=λ_ _ _=>False) (T:="tuple") (λ_ _ _ _ _ _ _ _ _ h=>h.elim) hg hm (by decide +kernel) (R0 h IP hs) 'd' 'd' hs HZ).imp λσ H Q h=>h
theorem tP{E:XK}{mx:List D->Out Ev}{gs:List G}(hp:mL (IV X.prog X.w C) X E)(CL:WU X.prog X.w X.K X.mg X.base C x k np mx)(hr:Room k X.A)(ha:VA X (e::es) gs)
  (lB:gs.length=np:=by rfl) (hg:Gl X x:=by rfl) (RD:(x==("__debug__":BL))=AB:=by decide) (he:AF (e::es) X.env=(AB,eval e X.env)::AF es X.env:=by rfl) (HZ:(CZ pos (AF es X.env)).any (·.1)=AB:=by rfl) :
  EX X (λH'=>E (.ref C) AH H') (.Call (.Name x p) (e::es) [] pos) (YV gs mx):=(Qo hp CL hr ha lB hg RD he HZ).imp λσ H Q h=>by
 obtain⟨τ,F,E1,E2,S,hg,k⟩:=h;obtain⟨q,e1,hg⟩:=pA3 hg;obtain⟨z,e2,hg⟩:=pA3 hg;exact⟨τ,F,E1,q,z,S,e1,e2,k⟩
end
section
variable{K:AC}{E:XK}
theorem Ph{iter:C5}{t:Tg}{ge:G}{gs:List G}{mx:List D->Out Ev}(n:CompNm (JJ (IV P w C) P w K mg base N qual scope f cd A outer s₀ H₀ E) sc xo cl own C8 js)
  (hi:VI (JJ (IV P w C) P w K mg base N qual scope f cd A outer s₀ H₀ E) tg iter gi)
  (hg:∀D s H fp,VG (OL (JJ (IV P w C) P w K mg base N qual scope f cd A outer s₀ H₀ E) sc xo cl (own++C8) D s H fp) tg t) (ht:∀D s H fp,uS (OL (JJ (IV P w C) P w K mg base N qual scope f cd A outer s₀ H₀ E) sc xo cl (own++C8) D s H fp) ifs tt)
  (he:∀D s H fp,VE (OL (JJ (IV P w C) P w K mg base N qual scope f cd A outer s₀ H₀ E) sc xo cl (own++C8) D s H fp) (.Call (.Name y p) (e::es) [] GJ) ge)
  (CL:WU P w K mg base C y k np mx) (hr:Room k (A.deeper (ET qual scope s₀.heap.objs.size f cd))) (ha:∀D s H fp,VA (hZ P w C E (JJ (IV P w C) P w K mg base N qual scope f cd A outer s₀ H₀ E) sc xo cl (own++C8) D s H fp) (e::es) gs)
  (lB:gs.length=np:=by rfl) (hgy:∀D s H fp,Gl (hZ P w C E (JJ (IV P w C) P w K mg base N qual scope f cd A outer s₀ H₀ E) sc xo cl (own++C8) D s H fp) y:=by intros;rfl) (RD:(y==("__debug__":BL))=AB:=by decide)
  (Li:∀D:AQ,AF (e::es) (KZ sc (wC xo (D+1) cl) D (ET qual scope s₀.heap.objs.size f cd))=(AB,eval e (KZ sc (wC xo (D+1) cl) D (ET qual scope s₀.heap.objs.size f cd)))::AF es (KZ sc (wC xo (D+1) cl) D (ET qual scope s₀.heap.objs.size f cd)):=by intro _;rfl)
  (HZ:∀D:AQ,(CZ GJ (AF es (KZ sc (wC xo (D+1) cl) D (ET qual scope s₀.heap.objs.size f cd)))).any (·.1)=AB:=by intro _;rfl)
  (NY:t.ltn own.length=AG:=by rfl) (hj:js.Nodup:=by decide) (hs:∀x,CW iter (ET qual scope s₀.heap.objs.size f cd) x=pure x:=by intro _;rfl) :
  EX (JJ (IV P w C) P w K mg base N qual scope f cd A outer s₀ H₀ E) (λH'=>E (.ref C) AH H') (.ListComp (.Call (.Name y p) (e::es) [] GJ) [⟨tg,iter,ifs,0⟩] sc pos) (jT gi own.length js t tt ge gs mx) :=
 (zYI (pos:=pos) (g:=λH=>tG K H t) (tt:=λH=>tT K H tt) (te:=Vy K (λH'=>E (.ref C) AH H') ge gs mx) n hi (λD s H fp=>PG.nox (hg D s H fp)) (λD s H fp=>PTs.nox (ht D s H fp)) (λD s H fp=>λpins s1 σ H1 Q I z=>by
  rcases z with z|z
  .exact PE.nox (X:=hZ P w C E (JJ (IV P w C) P w K mg base N qual scope f cd A outer s₀ H₀ E) sc xo cl (own++C8) D s H fp) (he D s H fp) pins s1 σ H1 Q I z
  .exact Qo (X:=hZ P w C E (JJ (IV P w C) P w K mg base N qual scope f cd A outer s₀ H₀ E) sc xo cl (own++C8) D s H fp) (E:=E) zSN CL hr (ha D s H fp) lB (hgy D s H fp) RD (Li D) (HZ D) pins s1 σ H1 Q I z) hs).imp λσ H Q h=>zYG NY hj h
end
noncomputable def rK(f0 f1 f2:AQ)(i:Int):AQ:=if i=0 then f0 else if i=1 then f1 else f2
def tFn(K:AC)(H₀:Hp)(f0 f1 f2:AQ)(gb:G):TE:=λσ H Q=>∃τ F E i E',Sim K H₀ τ F H σ E/\gb E=.ok (.int i,E')/\(0<=i/\i<3)/\∀F' H',Stp (DU σ E) F H F' H' (DU σ E')->Sim K H₀ τ F' H' σ E'->Q (.ref (rK f0 f1 f2 i)) H'
section
variable{b:C5}{gb:G}{gs:List G}{x0 x1 x2:BL}{f0 f1 f2:AQ}{p0 lp sp:Y4}
theorem Ny(h0:X.mg x0=AA (.ref f0))(h1:X.mg x1=AA (.ref f1))(h2:X.mg x2=AA (.ref f2))(hb:VE X b gb)(g0:Gl X x0:=by rfl)(g1:Gl X x1:=by rfl)(g2:Gl X x2:=by rfl)(d0:(x0==("__debug__":BL))=AB:=by decide)(d1:(x1==("__debug__":BL))=AB:=by decide)(d2:(x2==("__debug__":BL))=AB:=by decide)
  (s0:AF [.Name x0 p0,.Name x1 p1,.Name x2 p2] X.env=(AB,eval (.Name x0 p0) X.env)::AF [.Name x1 p1,.Name x2 p2] X.env:=by rfl) (s1:AF [.Name x1 p1,.Name x2 p2] X.env=(AB,eval (.Name x1 p1) X.env)::AF [.Name x2 p2] X.env:=by rfl) (s2:AF [.Name x2 p2] X.env=(AB,eval (.Name x2 p2) X.env)::AF [] X.env:=by rfl)
  (hs:tN b:=by intro _ _;rfl):PE X (.Subscript (.List [.Name x0 p0,.Name x1 p1,.Name x2 p2] lp) b sp) (tFn X.K X.H₀ f0 f1 f2 gb) :=
 (Wz YT (sY (R0 (YQ (v:=.ref f0) g0 h0 rfl d0) (R0 (YQ (v:=.ref f1) g1 h1 rfl d1) (R0 (YQ (v:=.ref f2) g2 h2 rfl d2) IP s2) s1) s0)) hb hs).imp λσ H Q h=>by
  obtain⟨τ,F,E,i,E',S,hg,hi,k⟩:=h;refine⟨(by decide:3<=sizeLine),λl hl=>?_⟩;have n:=pA5 (H':=EV H l (.lst [.ref f0,.ref f1,.ref f2])) S.sub (Gr.new hl);have hF:=pAG S.sub hl;have no:¬DU σ E l:=S.fresh hl;refine⟨τ,F,E,.int i,E',S.new n,hg,λv F1 H1 st1 S1 r1=>?_⟩;obtain rfl:=r1.vI;have hk:=st1.keep l _ JU trivial hF no;refine⟨l,[.ref f0,.ref f1,.ref f2],i,.ref (rK f0 f1 f2 i),rfl,rfl,.inl (.inl hk),?_,k F1 H1 (n.stp.trans st1) S1⟩;have:i=0\/i=1\/i=2:=by lia
  rcases this with rfl|rfl|rfl<;>rfl
theorem Eg{Q:VK}(C:JK X.prog X.w X.K X.mg X.base x k np m)(hf:X.mg x=AA (.ref f))(hr:Room k X.A)(ha:VA X (e::es) gs)(hn:gs.length=np)
  (he:AF (e::es) X.env=(AB,eval e X.env)::AF es X.env) (HZ:(CZ pos (AF es X.env)).any (·.1)=AB) (I:Inv X pins σ H s) (h:tV X.K X.H₀ (G9 m gs) σ H Q) :
  A4 (A3 X.prog X.w) X.A (jL pos (.ref f) [] (CZ pos (AF (e::es) X.env)) (NG pos (IR [] X.env))) (EP X pins σ Q) X.xe s:=by
 obtain⟨f',fd,ps,Fn,hm,hk,hb⟩:=C;rw[hf] at hm;cases hm;have h:=Pv hn h;exact LQ (h₀:=X.base) I.ok.mod.kin hk (GY (ha pos pins s σ H _ I h) λus s1 ⟨vs,H1,I1,r,q⟩=>⟨I1.kIn,Nk Fn hr hb .nil yF I1 r q⟩) he HZ
def fM(m0 m1 m2:Mr)(gb:G)(gs:List G):G:=λE=>(gb E).bind λq=>match q.1 with
 |.int i=>if 0<=i/\i<3 then G9 (if i=0 then m0 else if i=1 then m1 else m2) gs q.2 else .bad
 |_=>.bad
theorem Nx{k0 k1 k2:Nat}{m0 m1 m2:Mr}(C0:JK X.prog X.w X.K X.mg X.base x0 k0 np m0)(C1:JK X.prog X.w X.K X.mg X.base x1 k1 np m1)(C2:JK X.prog X.w X.K X.mg X.base x2 k2 np m2)(r0:Room k0 X.A)(r1:Room k1 X.A)(r2:Room k2 X.A)(hb:VE X b gb)(ha:VA X (e::es) gs)
  (hn:gs.length=np:=by rfl) (g0:Gl X x0:=by rfl) (g1:Gl X x1:=by rfl) (g2:Gl X x2:=by rfl) (d0:(x0==("__debug__":BL))=AB:=by decide) (d1:(x1==("__debug__":BL))=AB:=by decide) (d2:(x2==("__debug__":BL))=AB:=by decide)
  (s0:AF [.Name x0 p0,.Name x1 p1,.Name x2 p2] X.env=(AB,eval (.Name x0 p0) X.env)::AF [.Name x1 p1,.Name x2 p2] X.env:=by rfl) (s1:AF [.Name x1 p1,.Name x2 p2] X.env=(AB,eval (.Name x1 p1) X.env)::AF [.Name x2 p2] X.env:=by rfl) (s2:AF [.Name x2 p2] X.env=(AB,eval (.Name x2 p2) X.env)::AF [] X.env:=by rfl)
  (hs:tN b:=by intro _ _;rfl) (he:AF (e::es) X.env=(AB,eval e X.env)::AF es X.env:=by rfl) (HZ:(CZ pos (AF es X.env)).any (·.1)=AB:=by rfl)
  (Ld:eval (.Call (.Subscript (.List [.Name x0 p0,.Name x1 p1,.Name x2 p2] lp) b sp) (e::es) [] pos) X.env=(do
   let f <-eval (.Subscript (.List [.Name x0 p0,.Name x1 p1,.Name x2 p2] lp) b sp) X.env
   jL pos f [] (CZ pos (AF (e::es) X.env)) (NG pos (IR [] X.env))):=by rfl) :
  VE X (.Call (.Subscript (.List [.Name x0 p0,.Name x1 p1,.Name x2 p2] lp) b sp) (e::es) [] pos) (fM m0 m1 m2 gb gs):=by
 intro pins s σ H Q I h;obtain⟨τ,F,E,d,E',S,hg,k⟩:=h;obtain⟨q,e1,hg⟩:=pA3 hg;obtain⟨f0,_,_,_,v7,_⟩:=id C0;obtain⟨f1,_,_,_,vZ,_⟩:=id C1;obtain⟨f2,_,_,_,vY,_⟩:=id C2;rw[Ld];obtain⟨qd,qE⟩:=q
 cases qd with
 |int i =>
  dsimp only at hg;split at hg
  .rename_i hi
   refine AD (GY (Ny v7 vZ vY hb g0 g1 g2 d0 d1 d2 s0 s1 s2 hs pins s σ H (λv H1=>v=.ref (rK f0 f1 f2 i)/\∃F1,Stp (DU σ E) F H F1 H1 (DU σ qE)/\Sim X.K X.H₀ τ F1 H1 σ qE) I ⟨τ,F,E,i,qE,S,e1,hi,λF1 H1 st S1=>⟨rfl,F1,st,S1⟩⟩) λfv t1 z=>?_);obtain⟨v,H1,I1,rv,rfl,F1,st,S1⟩:=z;obtain rfl:fv=.ref (rK f0 f1 f2 i):=rv;have T:tV X.K X.H₀ (G9 (if i=0 then m0 else if i=1 then m1 else m2) gs) σ H1 Q:=⟨τ,F1,qE,d,E',S1,hg,λv F2 H2 s2 S2 r2=>k v F2 H2 (st.trans s2) S2 r2⟩;have:i=0\/i=1\/i=2:=by lia
   rcases this with rfl|rfl|rfl
   .exact Eg C0 v7 r0 ha hn he HZ I1 T
   .exact Eg C1 vZ r1 ha hn he HZ I1 T
   .exact Eg C2 vY r2 ha hn he HZ I1 T
  .cases hg
 |_=>cases hg
end
theorem Dj{mx:List D->Out Ev}{gs:List G}{E:Ev}{EE:AI->AN->Prop}
  (CL:WU X.prog X.w X.K X.mg X.base C x k np mx) (hf:X.mg x=AA (.ref f)) (hr:Room k X.A) (ha:VA X (e::es) gs) (kY:X.xe=λ_ _=>False) (lB:gs.length=np)
  (Li:AF (e::es) X.env=(AB,eval e X.env)::AF es X.env) (HZ:(CZ GJ (AF es X.env)).any (·.1)=AB)
  (I:Inv X pins σ H s) (S:Sim X.K X.H₀ τ F H σ E) (hg:YV gs mx E=.ok E1)
  (hE:∀s1 F1 H1 a H2 h1 fr a0 s2 F2,Inv X pins σ H1 s1->Stp (DU σ E) F H F1 H1 (DU σ E1)->Sim X.K X.H₀ τ F1 H1 σ E1->Fly X.prog X.w C X.stack H1 s1 a H2 h1 fr a0 s2->New F1 H1 F2 H2->EE (.ref a) s2) :
  A4 (A3 X.prog X.w) X.A (jL GJ (.ref f) [] (CZ GJ (AF (e::es) X.env)) (NG GJ (IR [] X.env))) Q EE s:=by
 obtain⟨p,e1,hg⟩:=pA3 hg;obtain⟨z,e2,hg⟩:=pA3 hg;cases hg;obtain⟨f',fd,ps,Fn,hm,hk,hbn⟩:=CL;rw[hf] at hm;cases hm;refine LQ (h₀:=X.base) I.ok.mod.kin hk (CJ (ha GJ pins s σ H (λvs H1=>∃F1,Stp (DU σ E) F H F1 H1 (DU σ p.2)/\Sim X.K X.H₀ τ F1 H1 σ p.2/\Reps X.K F1 vs p.1) I ⟨τ,F,E,p.1,p.2,S,e1,λvs F1 H1 s1 S1 r1=>⟨F1,s1,S1,r1⟩⟩) (λus s1 z0=>?_) λ_ _ z=>by rw[kY] at z;exact z.elim) Li HZ;obtain⟨vs,H1,I1,r1,F1,s1',S1,rp⟩:=z0;refine⟨I1.kIn,?_⟩
 have hl:us.length=ps.length:=by
  rw[<-r1.length];exact Fn.len vs H1 (λ_ _=>False) (λcls _ H2=>cls=.ref C/\∃F2,New F1 H1 F2 H2) ⟨by rw[rp.length,nB e1];exact lB,F1,p.1,z,S1.sub,rp,e2,λF2 H2 n=>⟨rfl,F2,n⟩⟩
 refine X2 (O4 (Fn.run X.A X.stack s1 H1 ⟨us,[]⟩ us vs (λ_ _=>False) (λcls _ H2=>cls=.ref C/\∃F2,New F1 H1 F2 H2) hr I1.env0 ?_ r1 ⟨by rw[rp.length,nB e1];exact lB,F1,p.1,z,S1.sub,rp,e2,λF2 H2 n=>⟨rfl,F2,n⟩⟩) λrr s2 hq=>?_)
 .have:=hbn s1 us I1.kIn (by rw[EH];exact hl)
  rw[EH] at this;exact this
 .cases rr with
  |ok fl =>
   cases fl with
   |ret u=>obtain⟨_,_,_,_,_,_,_,z⟩:=hq;exact z.elim
   |next=>exact hq.elim
   |brk=>exact hq.elim
   |cont=>exact hq.elim
  |error ee =>
   obtain⟨a,H2,h1,fr,a0,rfl,Fy,_,F2,n2⟩:=hq;exact hE s1 F1 H1 a H2 h1 fr a0 s2 F2 I1 s1' S1 Fy n2
def XS(X:Cx)(C:AQ)(st:D5)(gx:GX):Prop:=∀{pins:List (AQ×IL)} {s:AN} {σ:St} {H F:Hp} {τ:AQ} {E E1:Ev} {Q:Flow->AN->Prop} {EE:AI->AN->Prop},Inv X pins σ H s->Sim X.K X.H₀ τ F H σ E->gx E=.ok E1 ->
 (∀s1 F1 H1 a H2 h1 fr a0 s2 F2,Inv X pins σ H1 s1->Stp (DU σ E) F H F1 H1 (DU σ E1)->Sim X.K X.H₀ τ F1 H1 σ E1->Fly X.prog X.w C X.stack H1 s1 a H2 h1 fr a0 s2->New F1 H1 F2 H2->EE (.ref a) s2)->A4 (A3 X.prog X.w) X.A (exec st X.env) Q EE s
def p7(m0 m1 m2:List D->Out Ev)(gb:G)(gs:List G):GX:=λE=>(gb E).bind λq=>match q.1 with
 |.int i=>if 0<=i/\i<3 then YV gs (if i=0 then m0 else if i=1 then m1 else m2) q.2 else .bad
 |_=>.bad
theorem yCS{tn x0 x1 x2:BL}{k0 k1 k2:Nat}{m0 m1 m2:List D->Out Ev}{b:C5}{gb:G}{gs:List G}{p0 lp sp p5:Y4}(C0:WU X.prog X.w X.K X.mg X.base C x0 k0 np m0)(C1:WU X.prog X.w X.K X.mg X.base C x1 k1 np m1)(C2:WU X.prog X.w X.K X.mg X.base C x2 k2 np m2)(r0:Room k0 X.A)(r1:Room k1 X.A)(r2:Room k2 X.A)(hb:VE X b gb)(ha:VA X (e::es) gs)
  (kY:X.xe=λ_ _=>False:=by rfl) (hn:gs.length=np:=by rfl) (g0:Gl X x0:=by rfl) (g1:Gl X x1:=by rfl) (g2:Gl X x2:=by rfl) (d0:(x0==("__debug__":BL))=AB:=by decide) (d1:(x1==("__debug__":BL))=AB:=by decide) (d2:(x2==("__debug__":BL))=AB:=by decide)
  (s0:AF [.Name x0 p0,.Name x1 p1,.Name x2 p2] X.env=(AB,eval (.Name x0 p0) X.env)::AF [.Name x1 p1,.Name x2 p2] X.env:=by rfl) (s1:AF [.Name x1 p1,.Name x2 p2] X.env=(AB,eval (.Name x1 p1) X.env)::AF [.Name x2 p2] X.env:=by rfl) (s2:AF [.Name x2 p2] X.env=(AB,eval (.Name x2 p2) X.env)::AF [] X.env:=by rfl)
  (hs:tN b:=by intro _ _;rfl) (he:AF (e::es) X.env=(AB,eval e X.env)::AF es X.env:=by rfl) (HZ:(CZ pos (AF es X.env)).any (·.1)=AB:=by rfl)
  (Ld:eval (.Call (.Subscript (.List [.Name x0 p0,.Name x1 p1,.Name x2 p2] lp) b sp) (e::es) [] pos) X.env=(do
   let f <-eval (.Subscript (.List [.Name x0 p0,.Name x1 p1,.Name x2 p2] lp) b sp) X.env
   jL pos f [] (CZ pos (AF (e::es) X.env)) (NG pos (IR [] X.env))):=by rfl)
  (hsx:HG (.Call (.Subscript (.List [.Name x0 p0,.Name x1 p1,.Name x2 p2] lp) b sp) (e::es) [] pos) (AA (.Name tn p5)) RG.line X.env=pure AB:=by rfl) :
  XS X C (.Assign [.Name tn p5] (.Call (.Subscript (.List [.Name x0 p0,.Name x1 p1,.Name x2 p2] lp) b sp) (e::es) [] pos) RG) (p7 m0 m1 m2 gb gs):=by
 intro pins s σ H F τ E E1 Q EE I S hg hE;obtain⟨q,e1,hg⟩:=pA3 hg;obtain⟨f0,_,_,_,v7,_⟩:=id C0;obtain⟨f1,_,_,_,vZ,_⟩:=id C1;obtain⟨f2,_,_,_,vY,_⟩:=id C2;refine TU ?_ hsx;rw[Ld];obtain⟨qd,qE⟩:=q
 cases qd with
 |int i =>
  dsimp only at hg;split at hg
  .rename_i hi
   refine AD (CJ (Ny v7 vZ vY hb g0 g1 g2 d0 d1 d2 s0 s1 s2 hs pins s σ H (λv H1=>v=.ref (rK f0 f1 f2 i)/\∃F1,Stp (DU σ E) F H F1 H1 (DU σ qE)/\Sim X.K X.H₀ τ F1 H1 σ qE) I ⟨τ,F,E,i,qE,S,e1,hi,λF1 H1 st S1=>⟨rfl,F1,st,S1⟩⟩) (λfv t1 z=>?_) λ_ _ z=>by rw[kY] at z;exact z.elim);obtain⟨v,H1,I1,rv,rfl,F1,st,S1⟩:=z;obtain rfl:fv=.ref (rK f0 f1 f2 i):=rv;have T:∀s1 F2 H2 a H3 h1 fr a0 s2 F3,Inv X pins σ H2 s1->Stp (DU σ qE) F1 H1 F2 H2 (DU σ E1)->Sim X.K X.H₀ τ F2 H2 σ E1->Fly X.prog X.w C X.stack H2 s1 a H3 h1 fr a0 s2->New F2 H2 F3 H3->EE (.ref a) s2:=λs1 F2 H2 a H3 h1 fr a0 s2 F3 J st2 S2 Fy n=>hE s1 F2 H2 a H3 h1 fr a0 s2 F3 J (st.trans st2) S2 Fy n;have:i=0\/i=1\/i=2:=by lia
   rcases this with rfl|rfl|rfl
   .exact Dj C0 v7 r0 ha kY hn he HZ I1 S1 hg T
   .exact Dj C1 vZ r1 ha kY hn he HZ I1 S1 hg T
   .exact Dj C2 vY r2 ha kY hn he HZ I1 S1 hg T
  .cases hg
 |_=>cases hg
def l6(g:GS)(gx:GX)(ik ie:Nat)(bs:List Bool):GS:=λE=>match g E with
 |.ok r=>.ok r
 |_=>(gx E).bind λE1=>.ok (.nx ((E1.set ik (.val (.lst (bs.map D.bl)))).set ie .no))
theorem yCT{fk:AQ}{bs:List Bool}{W n kf:BL}{ie ik:Nat}{nw UZ p3 p4:Y4}{st:D5}{g:GS}(hb:VS X st g)(hX:XS X C st gx)
  (KK:KU X.prog X.w X.K X.mg X.base fk C bs) (oV:Room 2 X.A) (hkf:X.mg kf=AA (.ref fk)) (hkk:FH X.K (.ref fk)=AG) (hW:X.mg W=AA (.ref WA)) (hx:OD X.K (.ref C) (.ref WA)=AA AG)
  (hN:X.N.Nodup) (hi:X.N[ie]?=AA n) (hj:X.N[ik]?=AA kn) (MN:ie≠ik) (W4:X.env.scope.names.lookup n=AA .local) (SF:X.env.scope.names.lookup kn=AA .local)
  (stk:X.stack=X.env::X.outer:=by rfl) (hf:X.env.frame=AA X.env.locals:=by rfl) (kY:X.xe=λ_ _=>False:=by rfl)
  (Kz:Gl X W:=by rfl) (Ky:Gl X kf:=by rfl) (Lo:(W==("__debug__":BL))=AB:=by decide) (Lm:(kf==("__debug__":BL))=AB:=by decide) (Lk:(n==("__debug__":BL))=AB:=by decide) (Lq:(n==("__classdict__":BL))=AB:=by decide)
  (he:AF [.Name n p1] X.env=(AB,eval (.Name n p1) X.env)::AF [] X.env:=by rfl) (oQ:HG (.Call (.Name kf p2) [.Name n p1] [] Z1) (AA (.Name kn p3)) UZ.line X.env=pure AB:=by rfl) :
  VS X (.Try [st] [.ExceptHandler (AA (.Name W nw)) (AA n) [.Assign [.Name kn p3] (.Call (.Name kf p2) [.Name n p1] [] Z1) UZ] p4] [] [] pos) (l6 g gx ik ie bs):=by
 intro pins s σ H D' I h;obtain⟨τ,F,E,r,S,hg,q⟩:=h;refine wpAny_Try_except ?_;unfold l6 at hg;split at hg
 .rename_i r' eg
  cases hg;refine LL (CJ (hb pins s σ H D' I ⟨τ,F,E,r,S,eg,q⟩) (λfl s1 z=>?_) λe s1 z=>?_)
  .cases fl with
   |next=>exact HW (HW z)
   |brk=>exact z
   |cont=>exact z
   |ret u=>exact z
  .rw[kY] at z;exact z.elim
 .obtain⟨E1,e1,hg⟩:=pA3 hg
  cases hg;refine LL (hX I S e1 λs2 F2 H2 a H3 h1 fr a0 s3 F3 I2 st2 S2 Fy n2=>?_);refine zYA (np:=nw) (p4:=p4) (D:=D') I2 Fy KK oV hkf hkk hW hx hN hi hj MN W4 SF stk hf (λpp H4 gr hp hl3=>?_) Kz Ky Lo Lm Lk Lq he oQ;have n3:=n2.trans (New.gro n2.2 gr);have rr:Rep X.K (gro F3 H3 H4) (.ref pp) (.lst (bs.map D.bl)):=.lst (.inl (.inl (by rw[Py hp];exact hl3))) (Pb bs);obtain⟨S4,w4⟩:=(S2.new n3).put (i:=ik) rr;obtain⟨S5,w5⟩:=S4.lose (i:=ie) (u:=AH);exact q _ _ _ (((st2.trans n3.stp).weak w4).weak w5) S5
theorem yGM{c:Const}:AF (.Constant c k p::es) env=(AB,eval (.Constant c k p) env)::AF es env:=rfl
def Xq(t:BL×Nat×Y4):C5:=.Constant (.str t.1) t.2.1 t.2.2
theorem Pg{X:Cx}:∀l:List (BL×Nat×Y4),VA X (l.map Xq) (l.map λt=>gC (.str t.1))
 |[]=>DE
 |t::l=>CN L9 (Pg l) yGM
theorem yGN(l:List (BL×Nat×Y4))(h:es=l.map Xq:=by rfl):FE X (.List es pos) (J8 (l.map λt=>gC (.str t.1))):=by
 subst h;exact QY (Pg l)
section
variable{a b:C5}{rest:List C5}{ga gb:G}
theorem yGO(ha:PE X a ta)(hb:PE X (.BoolOp .Or (b::rest) pos) tb) :
  PE X (.BoolOp .Or (a::b::rest) pos) (λσ H Q=>ta σ H λx H1=>∃z,x=.str z/\z.length<=sizeLine/\if z.length=0 then tb σ H1 Q else Q x H1):=by
 intro pins s σ H Q I h;refine BoolOp_or (GY (ha pins s σ H _ I h) λv s1 ⟨x,H1,I1,r1,q1⟩=>?_);obtain⟨z,rfl,hz,q1⟩:=q1;obtain⟨t,rfl⟩:=r1;refine P.truthy_str (by simp only[sizeLine] at hz;lia) ?_
 by_cases e:z.length=0
 .rw[if_pos e] at q1
  rw[e];exact hb pins _ σ H1 Q (I1.tok _) q1
 .rw[if_neg e] at q1
  have:((z.length:Int) != 0)=AG:=by simp only[bne_iff_ne,ne_eq];lia
  rw[this];exact⟨.str z,H1,I1.tok _,⟨_,rfl⟩,q1⟩
def Vw(ga gb:G):G:=λE=>(ga E).bind λp=>match p.1 with|.str z=>if z.length=0 then gb p.2 else RS z.length (.ok (.str z,p.2))|_=>.bad
theorem yIY(ha:VE X a ga)(hb:VE X (.BoolOp .Or (b::rest) pos) gb):VE X (.BoolOp .Or (a::b::rest) pos) (Vw ga gb):=(yGO ha hb).imp λσ H Q q=>by
 obtain⟨τ,F,E,d,E',S,hg,k⟩:=q;obtain⟨p,ea,hg⟩:=pA3 hg;refine⟨τ,F,E,p.1,p.2,S,ea,λv F1 H1 st1 S1 r1=>?_⟩;split at hg
 .rename_i z eb
  rw[eb] at r1;obtain rfl:=r1.vS
  by_cases e:z.length=0
  .rw[if_pos e] at hg
   refine⟨z,rfl,by rw[e];exact B0 _,?_⟩;rw[if_pos e];exact⟨τ,F1,p.2,d,E',S1,hg,λv F2 H2 st2 S2 r2=>k v F2 H2 (st1.trans st2) S2 r2⟩
  .rw[if_neg e] at hg
   obtain⟨hl,hg⟩:=XI hg;cases hg;refine⟨z,rfl,bI hl,?_⟩;rw[if_neg e];exact k _ F1 H1 st1 S1 (.str z)
 .cases hg
end
end L2
variable{DW BD way:Int}
namespace My
open PySem L2
noncomputable def O6(i:Nat):D5:=PySem.Challenge.pw_waymusts_k23_texts_spoilt_anywhere.main.body.getD i (.Pass ⟨0,0,0,0⟩)
structure Bt(mg:BL->Option AI):Prop where
 b_ValueError:mg "ValueError"=AH
 b_all:mg "all"=AH
 b_bool:mg "bool"=AH
 b_int:mg "int"=AH
 b_isinstance:mg "isinstance"=AH
 b_len:mg "len"=AH
 b_list:mg "list"=AH
 b_max:mg "max"=AH
 b_min:mg "min"=AH
 b_range:mg "range"=AH
 b_sorted:mg "sorted"=AH
 b_str:mg "str"=AH
 b_tuple:mg "tuple"=AH
 b_zip:mg "zip"=AH
 k_FIGURES:∃t,mg "FIGURES"=AA (LY "0123456789" t)
 k_MOST_FIGURES:∃t,mg "MOST_FIGURES"=AA (IA 6 t)
 k_MOST_LANES:∃t,mg "MOST_LANES"=AA (IA 120 t)
 k_MOST_PLACES:∃t,mg "MOST_PLACES"=AA (IA 24 t)
 k_NOTHING:∃t,mg "NOTHING"=AA (LY "-" t)
abbrev Ey:D5:=O6 15
abbrev Ai:D5:=O6 23
abbrev Fj:D5:=O6 29
abbrev Fi:D5:=O6 30
abbrev Fh:D5:=O6 31
abbrev Fk:D5:=O6 35
abbrev Fg:D5:=O6 36
abbrev Fx:D5:=O6 37
abbrev Gb:D5:=O6 38
abbrev Fw:D5:=O6 41
abbrev Ew:D5:=O6 16
abbrev Af:D5:=O6 24
abbrev Ah:D5:=O6 26
abbrev Fu:D5:=O6 32
abbrev Ft:D5:=O6 39
abbrev Ga:D5:=O6 40
abbrev Fq:D5:=O6 42
abbrev Fv:D5:=O6 43
abbrev Fp:D5:=O6 45
abbrev Et:D5:=O6 17
abbrev Ad:D5:=O6 27
abbrev Eu:D5:=O6 33
abbrev Fz:D5:=O6 44
abbrev Ff:D5:=O6 46
abbrev Ef:D5:=O6 18
abbrev Fo:D5:=O6 47
abbrev z8:D5:=O6 25
abbrev Es:D5:=O6 34
abbrev Fe:D5:=O6 48
abbrev hV:D5:=O6 49
theorem O8{P:List BL}(h1:sc.kind=.function:=by rfl)(h2:sc.isCoroutine=AB:=by rfl)(h3:sc.isGenerator=AB:=by rfl)(h4:N.Nodup:=by decide +kernel)(h5:N.take P.length=P:=by rfl)(h6:∀x∈P,sc.names.lookup x=AA .local\/sc.names.lookup x=AA .cell:=by decide +kernel)(h7:∀y∈sc.names,y.2≠.free:=by decide +kernel):FnScope N P sc:=⟨h1,h2,h3,h4,h5,h6,h7⟩
theorem cn(h1:closureFor scope X.env=pure cl)(h2:scope.kind=.function:=by rfl)(ho:∀n,Q6 n scope.names cl=wC xo n cl:=by intro _;rfl)(hp:∀h,pushCells h scope.names=pC xo h:=by intro _;rfl)(h4:∀y∈scope.names,y.2=.local->scope.names.lookup y.1=AA .local:=by decide +kernel)(h5:∀y∈scope.names,y.2=.free->y.1∈C8:=by decide +kernel)(h6:cl.map (·.1)=C8:=by rfl)
  (h7:∀p∈cl,X.env.cells.lookup p.1=AA p.2:=by first|exact Gf|exact Bk rfl|exact Bj rfl rfl|exact Bi rfl rfl rfl|exact Hy rfl rfl rfl rfl) (h8:C8.map AA=js.map λj=>X.N[j]?:=by rfl)
  (h9:∀x∈C8,X.env.kindOf x=AA .cell\/X.env.kindOf x=AA .free:=by first|exact Gf|(refine Bk ?_<;>first|exact BO rfl|exact EG rfl)|(refine Bj ?_ ?_<;>first|exact BO rfl|exact EG rfl)|(refine Bi ?_ ?_ ?_<;>first|exact BO rfl|exact EG rfl)|(refine Hy ?_ ?_ ?_ ?_<;>first|exact BO rfl|exact EG rfl))
  (h10:∀x∈C8,(TY scope X.env).names.lookup x=AA .cell\/(TY scope X.env).names.lookup x=AA .free:=by first|exact Gf|(refine Bk ?_<;>first|exact BO rfl|exact EG rfl)|(refine Bj ?_ ?_<;>first|exact BO rfl|exact EG rfl)|(refine Bi ?_ ?_ ?_<;>first|exact BO rfl|exact EG rfl)|(refine Hy ?_ ?_ ?_ ?_<;>first|exact BO rfl|exact EG rfl))
  (hd:∀y∈scope.names,y.2=.cell->xo=AA y.1:=by decide +kernel) (h11:∀x∈C8,xo≠AA x:=by decide +kernel):CompNm X scope xo cl own C8 js:=⟨h1,h2,ho,hp,h4,h5,hd,h6,h7,h8,h9,h10,h11⟩
theorem RQ(i:Nat)(hN:(own++C8).Nodup:=by decide +kernel)(hi:(own++C8)[i]?=AA x:=by rfl)(hx:L2.Loc (OL X scope xo cl (own++C8) C s H fp).env.scope x:=by exact BO rfl)(hf:(OL X scope xo cl (own++C8) C s H fp).fn x=AG\/(OL X scope xo cl (own++C8) C s H fp).env.scope.names.lookup x=AA .local:=by exact EG rfl):VG (OL X scope xo cl (own++C8) C s H fp) (.Name x pos) (.nm i):=bD hN hi hx hf
def Tc:GS :=
 (IS (jS (V6 "int" (AR 0)) (Ar (V6 "bool" (AR 0)))))
def nG:Mr:=NR 1 Tc
theorem zSR:FnScope ["thing"] ["thing"] (JO Ey):=O8
theorem zPX{K:AC}(Fn:Fun K "is_whole" "is_whole" Ey f fd)(T:Bt mg) :FnOk P w K mg base LA 1 f fd ["thing"] (MM K 1 nG) :=
 PD Fn zSR λGE A outer s H E hr=>by
  have hu:=hr.units;unfold Tc;exact(H9 (K3 (sK (j7 yB7 T.b_isinstance T.b_int (by decide +kernel) (BX 0)) (pU (Xc (j7 Rm T.b_isinstance T.b_bool (by decide +kernel) (BX 0)))))))
def Uo:GS :=
 (E4 (L7 (LU (M7 (gB (SV OM OM (gC (.int 1)) (gN IG [(AR 0)]) (gC (.int 6))))) (M7 (P9 (gN XA [(K8 (cR (AR 0)) 1 [] (.nm 0) JN (g2 kP (AR 0) (gC (.str "0123456789"))))]))))
 rB
 MS)
 (E4 (L7 (YK (gB (g2 MJ (g2 FG (AR 0) (gC (.int 0))) (gC (.str "0")))) (gB (g2 IU (AR 0) (gC (.str "0")))))
 rB
 MS)
 (IS (gN pQ [(AR 0)]))))
def Q1:Mr:=NR 1 Uo
theorem Um:FnScope ["text"] ["text"] (JO Ai):=O8
theorem zKT{K:AC}(Fn:Fun K "read_number" "read_number" Ai f fd)(T:Bt mg) :FnOk P w K mg base LA 1 f fd ["text"] (MM K 1 Q1) :=
 PD Fn Um λGE A outer s H E hr=>by
  have hu:=hr.units;unfold Uo
  exact(GU (OV (VW.t (WY (WZ (tW cQ (ZO _) cQ (ZO _) DY (SS T.b_len (CN (BX 0) DE)) (kA (v:=.int 6) T.k_MOST_FIGURES.choose_spec ⟨_,rfl⟩ (λ_=>.int 6)))) (ZL (WZ (bF (sG rfl T.b_all (CN (pA7 (YO (own:=["sign"]) (C8:=[]) (js:=[]) (cn (xo:=AH) rfl) rfl (Cy (BX 0)) (λC s H fp=>(RQ 0)) (λC s H fp=>VR) (λC s H fp=>(Wj (BX 0) (kA (v:=.str "0123456789") T.k_FIGURES.choose_spec ⟨_,rfl⟩ (λ_=>.str "0123456789")))))) DE)))))))
   (H9 sX)
   OX)
   (GU (OV (VW.t (qC (XE hu (KC hu (BX 0) DY) L9) (qO (VM hu (BX 0) L9))))
   (H9 sX)
   OX)
   (H9 (K3 (Nz T.b_int (CN (BX 0) DE))))))
def Uw:GX :=
 (pP (LU (M7 (gB (SV OM OM (gC (.int 1)) (gN IG [(AR 0)]) (gC (.int 6))))) (M7 (P9 (gN XA [(K8 (cR (AR 0)) 1 [] (.nm 0) JN (g2 kP (AR 0) (gC (.str "0123456789"))))])))) (nL [(gC (.str "a number has one to six figures"))])
 (uH (YK (gB (g2 MJ (g2 FG (AR 0) (gC (.int 0))) (gC (.str "0")))) (gB (g2 IU (AR 0) (gC (.str "0"))))) (nL [(gC (.str "a number has no 0 ahead"))])))
def W2:List D->Out Ev:=rL 1 Uw
theorem zKU{K:AC}(Fn:Fun K "read_number" "read_number" Ai f fd)(T:Bt mg)(k6:mg "NoText"=AA (.ref C))(Z:GL K C [.type "ValueError",.type "Exception",.type "BaseException",.type "object"] "ValueError.__new__"=AG) :FnOk P w K mg base (IV P w C) 1 f fd ["text"] (kN K C 1 W2) :=
 uG Fn Um λGE A outer s H E hr hh=>by
  have hu:=hr.units;unfold Uw
  exact(Dl (VW.t (WY (WZ (tW cQ (ZO _) cQ (ZO _) DY (SS T.b_len (CN (BX 0) DE)) (kA (v:=.int 6) T.k_MOST_FIGURES.choose_spec ⟨_,rfl⟩ (λ_=>.int 6)))) (ZL (WZ (bF (sG rfl T.b_all (CN (pA7 (YO (own:=["sign"]) (C8:=[]) (js:=[]) (cn (xo:=AH) rfl) rfl (Cy (BX 0)) (λC s H fp=>(RQ 0)) (λC s H fp=>VR) (λC s H fp=>(Wj (BX 0) (kA (v:=.str "0123456789") T.k_FIGURES.choose_spec ⟨_,rfl⟩ (λ_=>.str "0123456789")))))) DE))))))) (tZ FY Z k6 hh (CN L9 DE))
   (Mp (VW.t (qC (XE hu (KC hu (BX 0) DY) L9) (qO (VM hu (BX 0) L9)))) (tZ FY Z k6 hh (CN L9 DE))))
def Ud:GS :=
 (E4 (L7 (gB (g2 T9 (AR 1) (gN IG [(AR 0)])))
 (IS (g2 FG (AR 0) (AR 1)))
 MS)
 (IS (gC (.int 0))))
def qY:Mr:=NR 2 Ud
theorem zPY:FnScope ["script","k"] ["script","k"] (JO Fj):=O8
theorem zOC{K:AC}(Fn:Fun K "_law_cell" "_law_cell" Fj f fd)(T:Bt mg) :FnOk P w K mg base LA 1 f fd ["script","k"] (MM K 2 qY) :=
 PD Fn zPY λGE A outer s H E hr=>by
  have hu:=hr.units;unfold Ud
  exact(GU (OV (yC hu (BX 1) (SS T.b_len (CN (BX 0) DE)))
   (H9 (K3 (KC hu (BX 0) (BX 1))))
   OX)
   (H9 (K3 DY)))
def Uc:GS :=
 (E4 (L7 (gB (g2 kQ (AR 0) (g2 aY (gC (.int 10)) (gC (.int 18)))))
 (yE (J8 [(g2 g8 (AR 0) (g2 aY (gC (.int 10)) (gC (.int 18)))),(g2 T7 (AR 0) (gC (.int 2305843009213693951))),(AR 1)]))
 MS)
 (yE (J8 [(gC (.int 0)),(g2 T7 (AR 0) (gC (.int 2305843009213693951))),(AR 1)])))
def qW:Mr:=NR 2 Uc
theorem zPZ:FnScope ["cell","turn"] ["cell","turn"] (JO Fi):=O8
theorem zOD{K:AC}(Fn:Fun K "_law_well" "_law_well" Fi f fd)(T:Bt mg) :FnOk P w K mg base LA 1 f fd ["cell","turn"] (MM K 2 qW) :=
 PD Fn zPZ λGE A outer s H E hr=>by
  have hu:=hr.units;unfold Uc
  exact(GU (OV (Wu (BX 0) (xZ DY DY))
   (H9 (Px (QY (CN (yB (BX 0) (xZ DY DY)) (CN (jZ (BX 0) DY) (CN (BX 1) DE))))))
   OX)
   (H9 (Px (QY (CN DY (CN (jZ (BX 0) DY) (CN (BX 1) DE)))))))
def Ub:GS :=
 (E4 (L7 (XG [0] (gB (g2 YU (g2 FG (AR 0) (gC (.int 0))) (gC (.int 0)))))
 (E4 (FS (.nm 2) (VL [0] (g2 T7 (g2 FG (AR 0) (gC (.int 0))) (AR 1))))
 (E4 (cT 0 (gC (.int 0)) (VL [0] (g2 l9 (g2 FG (AR 0) (gC (.int 0))) (AR 1))))
 (IS (AR 2))))
 MS)
 (E4 (cT 0 (gC (.int 2)) (VL [0] (g2 IH (g2 FG (AR 0) (gC (.int 2))) (gC (.int 1)))))
 (E4 (FS (.nm 3) (gC (.int 2305843009213693951)))
 (E4 (FS (.nm 4) (VL [0] (g2 T7 (g2 IH (g2 FG (AR 0) (gC (.int 1))) (g2 XB (gC (.int 1000003)) (g2 FG (AR 0) (gC (.int 2))))) (AR 3))))
 (E4 (FS (.nm 4) (VL [0] (g2 T7 (g2 IH (g2 IH (g2 XB (AR 4) (AR 4)) (g2 XB (gC (.int 7919)) (g2 aY (g2 FG (AR 0) (gC (.int 2))) (gC (.int 2))))) (gC (.int 5))) (AR 3))))
 (IS (g2 T7 (g2 l9 (g2 T7 (g2 aY (AR 4) (gC (.int 3))) (AR 3)) (gC (.int 13))) (AR 1))))))))
def HA:Mr:=NR 5 Ub
theorem KG:FnScope ["bag","many","found","p","n"] ["bag","many"] (JO Fh):=O8
theorem zOE{K:AC}(Fn:Fun K "_law_take" "_law_take" Fh f fd)(T:Bt mg) :FnOk P w K mg base LA 1 f fd ["bag","many"] (MM K 2 HA) :=
 PD Fn KG λGE A outer s H E hr=>by
  have hu:=hr.units;unfold Ub
  exact(GU (OV (qB [0] (Hg (KC hu (BX 0) DY) DY))
   (GU (MA (i:=2) KG.nd rfl (BO rfl) (j2 [0] (jZ (KC hu (BX 0) DY) (BX 1))))
   (GU (Aa 0 hu DY (j2 [0] (Mu (KC hu (BX 0) DY) (BX 1))))
   (H9 (K3 (BX 2)))))
   OX)
   (GU (Aa 0 hu DY (j2 [0] (NT (KC hu (BX 0) DY) DY)))
   (GU (MA (i:=3) KG.nd rfl (BO rfl) DY)
   (GU (MA (i:=4) KG.nd rfl (BO rfl) (j2 [0] (jZ (NT (KC hu (BX 0) DY) (yA DY (KC hu (BX 0) DY))) (BX 3))))
   (GU (MA (i:=4) KG.nd rfl (BO rfl) (j2 [0] (jZ (NT (NT (yA (BX 4) (BX 4)) (yA DY (xZ (KC hu (BX 0) DY) DY))) DY) (BX 3))))
   (H9 (K3 (jZ (Mu (jZ (xZ (BX 4) DY) (BX 3)) DY) (BX 1)))))))))
theorem M8:FnScope ["e","kinds"] ["e"] (JO Fk):=O8
theorem ku{K:AC}{c0 c1 c2 c3 c4 c5 c6 c7 c8 c9:AQ}(Fn:Fun K "_law_kinds" "_law_kinds" Fk f fd)(T:Bt mg)(hb:Binds K fd ["e"] [])(Z:ExK K C bm YX)(m0:mg "NotReached"=AA (.ref c0))(e0:BN K (.ref C) (.ref c0)=AA AB)(m1:mg "NoPaper"=AA (.ref c1))(e1:BN K (.ref C) (.ref c1)=AA AB)(m2:mg "TooMany"=AA (.ref c2))(e2:BN K (.ref C) (.ref c2)=AA AB)(m3:mg "NoSuch"=AA (.ref c3))(e3:BN K (.ref C) (.ref c3)=AA AB)(m4:mg "NoLane"=AA (.ref c4))(e4:BN K (.ref C) (.ref c4)=AA AB)(m5:mg "NoRound"=AA (.ref c5))(e5:BN K (.ref C) (.ref c5)=AA AB)(m6:mg "NoText"=AA (.ref c6))(e6:BN K (.ref C) (.ref c6)=AA AG)(m7:mg "NoRow"=AA (.ref c7))(e7:BN K (.ref C) (.ref c7)=AA AB)(m8:mg "NoPlace"=AA (.ref c8))(e8:BN K (.ref C) (.ref c8)=AA AB)(m9:mg "NothingLeft"=AA (.ref c9))(e9:BN K (.ref C) (.ref c9)=AA AB)(e10:BN K (.ref C) (.type "ValueError")=AA AG):KU P w K mg base f C [AB,AB,AB,AB,AB,AB,AG,AB,AB,AB,AG] :=
 zX9 (l1:=[AB,AB,AB,AB]) (l2:=[AB,AB,AG,AB]) (l3:=[AB,AB,AG]) Fn M8 hb 'd' λGE A outer s H a hX=>by
  exact(iI (tB (i:=1) M8.nd rfl (BO rfl) (sY (cN (cO hX Z T.b_isinstance (YQ (v:=.ref c0) rfl m0 rfl) (λ_ h=>h) e0) (cN (cO hX Z T.b_isinstance (YQ (v:=.ref c1) rfl m1 rfl) (λ_ h=>h) e1) (cN (cO hX Z T.b_isinstance (YQ (v:=.ref c2) rfl m2 rfl) (λ_ h=>h) e2) (cN (cO hX Z T.b_isinstance (YQ (v:=.ref c3) rfl m3 rfl) (λ_ h=>h) e3) Cs)))))) (iI (tB (i:=1) M8.nd rfl (BO rfl) (Hk Ni (pv 1) (sY (cN (cO hX Z T.b_isinstance (YQ (v:=.ref c4) rfl m4 rfl) (λ_ h=>h) e4) (cN (cO hX Z T.b_isinstance (YQ (v:=.ref c5) rfl m5 rfl) (λ_ h=>h) e5) (cN (cO hX Z T.b_isinstance (YQ (v:=.ref c6) rfl m6 rfl) (λ_ h=>h) e6) (cN (cO hX Z T.b_isinstance (YQ (v:=.ref c7) rfl m7 rfl) (λ_ h=>h) e7) Cs))))))) (Qa (yT (Hk Ni (pv 1) (sY (cN (cO hX Z T.b_isinstance (YQ (v:=.ref c8) rfl m8 rfl) (λ_ h=>h) e8) (cN (cO hX Z T.b_isinstance (YQ (v:=.ref c9) rfl m9 rfl) (λ_ h=>h) e9) (cN (cO hX Z T.b_isinstance (Qb (v:=.ty "ValueError") rfl T.b_ValueError (by decide +kernel) rfl) (λ_ h=>h) e10) Cs)))))))))
def Tn:GS :=
 (IS (K8 (aZ (gC (.int 11))) 1 [0] (.nm 0) JN (Yb (g2 MJ (AR 0) (AR 1)) (g2 MJ (AR 0) (gC (.int 10))))))
def uF:Mr:=NR 1 Tn
theorem zP0:FnScope ["which"] ["which"] (JO Fg):=O8
theorem zOF{K:AC}(Fn:Fun K "_law_only" "_law_only" Fg f fd)(T:Bt mg) :FnOk P w K mg base LA 1 f fd ["which"] (MM K 1 uF) :=
 PD Fn zP0 λGE A outer s H E hr=>by
  have hu:=hr.units;unfold Tn;exact(H9 (K3 (pA7 (YO (own:=["k"]) (C8:=["which"]) (js:=[0]) (cn (xo:=AH) rfl) rfl (z7 T.b_range DY) (λC s H fp=>(RQ 0)) (λC s H fp=>VR) (λC s H fp=>(yKY (Gj hu (BX 0) (BX 1)) (pU (Gj hu (BX 0) DY))))))))
def Vc:GS :=
 (IS (Vw (g2 ZH (gC (.str " ")) (K8 (MQ (AR 0)) 1 [] (.nm 0) JN (gN ZE [(AR 0)]))) (gC (.str "-"))))
def nJ:Mr:=NR 1 Vc
theorem zHB:FnScope ["places"] ["places"] (JO Fx):=O8
theorem zGN{K:AC}(Fn:Fun K "_law_show_places" "_law_show_places" Fx f fd)(T:Bt mg) :FnOk P w K mg base LA 1 f fd ["places"] (MM K 1 nJ) :=
 PD Fn zHB λGE A outer s H E hr=>by
  have hu:=hr.units;unfold Vc;exact(H9 (K3 (yIY (mU L9 (pA7 (YO (own:=["place"]) (C8:=[]) (js:=[]) (cn (xo:=AH) rfl) rfl (XH (BX 0)) (λC s H fp=>(RQ 0)) (λC s H fp=>VR) (λC s H fp=>(yU hr.gd hu T.b_str (CN (BX 0) DE)))))) (pU L9))))
def Uz:GS :=
 (IS (K8 (MQ (AR 0)) 2 [] (.tp [(.nm 0),(.nm 1)]) JN (g2 IH (g2 IH (gN ZE [(AR 0)]) (gC (.str ">"))) (gN ZE [(AR 1)]))))
def Al:Mr:=NR 1 Uz
theorem zH0:FnScope ["lanes"] ["lanes"] (JO Gb):=O8
theorem zHC{K:AC}(Fn:Fun K "_law_show_lanes" "_law_show_lanes" Gb f fd)(T:Bt mg) :FnOk P w K mg base LA 1 f fd ["lanes"] (MM K 1 Al) :=
 PD Fn zH0 λGE A outer s H E hr=>by
  have hu:=hr.units;unfold Uz;exact(H9 (K3 (pA7 (YO (own:=["one","other"]) (C8:=[]) (js:=[]) (cn (xo:=AH) rfl) rfl (XH (BX 0)) (λC s H fp=>(mI rfl (YR (RQ 0) (YR (RQ 1) mZ)))) (λC s H fp=>VR) (λC s H fp=>(NT (NT (yU hr.gd hu T.b_str (CN (BX 0) DE)) L9) (yU hr.gd hu T.b_str (CN (BX 1) DE))))))))
def Vb:GS :=
 (E4 (L7 (LU (M7 (gB (SV OM OM (gC (.int 1)) (gN IG [(AR 0)]) (gC (.int 6))))) (gB (g2 IU (K8 (cR (AR 0)) 1 [] (.nm 0) (gB (g2 mP (AR 0) (gC (.str "0123456789")))) (AR 0)) (J8 []))))
 (IS (gC .non))
 MS)
 (IS (nY (LU (gB (g2 MJ (AR 0) (gC (.str "0")))) (gB (g2 IU (g2 FG (AR 0) (gC (.int 0))) (gC (.str "0"))))) (gN pQ [(AR 0)]) (gC .non))))
def ZQ:Mr:=NR 1 Vb
theorem zHD:FnScope ["word"] ["word"] (JO Fw):=O8
theorem zGO{K:AC}(Fn:Fun K "_law_number_read" "_law_number_read" Fw f fd)(T:Bt mg) :FnOk P w K mg base LA 1 f fd ["word"] (MM K 1 ZQ) :=
 PD Fn zHD λGE A outer s H E hr=>by
  have hu:=hr.units;unfold Vb
  exact(GU (OV (VW.t (WY (WZ (tW cQ (ZO _) cQ (ZO _) DY (SS T.b_len (CN (BX 0) DE)) DY)) (ZL (VM hu (pA7 (YO (own:=["sign"]) (C8:=[]) (js:=[]) (cn (xo:=AH) rfl) rfl (Cy (BX 0)) (λC s H fp=>(RQ 0)) (λC s H fp=>(Pe (yCP (BX 0) L9))) (λC s H fp=>(BX 0)))) (pA7 (QY DE))))))
   (H9 (K3 YL))
   OX)
   (H9 (K3 (uK (VW.t (WY (XE hu (BX 0) L9) (ZL (VM hu (KC hu (BX 0) DY) L9)))) (Nz T.b_int (CN (BX 0) DE)) YL))))
def Tb:GS :=
 (IS (jS (G9 nG [(AR 1)]) (SV OM T9 (gC (.int 0)) (AR 1) (AR 0))))
def uE:Mr:=NR 2 Tb
theorem zSS:FnScope ["many","thing"] ["many","thing"] (JO Ew):=O8
theorem zP1{K:AC}(Fn:Fun K "is_place" "is_place" Ew f fd)(T:Bt mg)(O1:JK P w K mg base "is_whole" 1 1 nG):FnOk P w K mg base LA 2 f fd ["many","thing"] (MM K 2 uE) :=
 PD Fn zSS λGE A outer s H E hr=>by
  have hu:=hr.units;unfold Tb;exact(H9 (K3 (sK (NX O1 (hr.mono 'd') (CN (BX 1) DE)) (pU (yBT cQ (ZO _) (yF3 hu) Ct DY (BX 1) (BX 0))))))
def Tl:GS :=
 (E4 (FS (.nm 1) (g2 P4 (AR 0) (gC (.str ">"))))
 (E4 (L7 (gB (g2 IU (gN IG [(AR 1)]) (gC (.int 2))))
 rB
 MS)
 (IS (SU [(G9 Q1 [(g2 FG (AR 1) (gC (.int 0)))]),(G9 Q1 [(g2 FG (AR 1) (gC (.int 1)))])]))))
def ZP:Mr:=NR 2 Tl
theorem MB:FnScope ["text","ends"] ["text"] (JO Af):=O8
theorem zOG{K:AC}(Fn:Fun K "read_lane" "read_lane" Af f fd)(T:Bt mg)(DR:JK P w K mg base "read_number" 1 1 Q1):FnOk P w K mg base LA 2 f fd ["text"] (MM K 1 ZP) :=
 PD Fn MB λGE A outer s H E hr=>by
  have hu:=hr.units;unfold Tl
  exact(GU (MA (i:=1) MB.nd rfl (BO rfl) (ZN (BX 0) L9))
   (GU (OV (VM hu (SS T.b_len (CN (BX 1) DE)) DY)
   (H9 sX)
   OX)
   (H9 (K3 (a7 (CN (NX DR (hr.mono 'd') (CN (KC hu (BX 1) DY) DE)) (CN (NX DR (hr.mono 'd') (CN (KC hu (BX 1) DY) DE)) DE)))))))
def Uf:GX :=
 (l7 (FS (.nm 1) (g2 P4 (AR 0) (gC (.str ">"))))
 (pP (gB (g2 IU (gN IG [(AR 1)]) (gC (.int 2)))) (nL [(gC (.str "a lane has two ends"))])
 (gY (YV [(g2 FG (AR 1) (gC (.int 0)))] W2) (G9 Q1 [(g2 FG (AR 1) (gC (.int 0)))]) (YV [(g2 FG (AR 1) (gC (.int 1)))] W2))))
def qX:List D->Out Ev:=rL 2 Uf
theorem zOH{K:AC}(Fn:Fun K "read_lane" "read_lane" Af f fd)(T:Bt mg)(EN:WU P w K mg base C "read_number" 1 1 W2)(k6:mg "NoText"=AA (.ref C))(Z:GL K C [.type "ValueError",.type "Exception",.type "BaseException",.type "object"] "ValueError.__new__"=AG)(DR:JK P w K mg base "read_number" 1 1 Q1):FnOk P w K mg base (IV P w C) 2 f fd ["text"] (kN K C 1 qX) :=
 uG Fn MB λGE A outer s H E hr hh=>by
  have hu:=hr.units;unfold Uf
  exact(tU (MA (i:=1) MB.nd rfl (BO rfl) (ZN (BX 0) L9))
   (Dl (VM hu (SS T.b_len (CN (BX 1) DE)) DY) (tZ FY Z k6 hh (CN L9 DE))
   (Eh (Dk (tP sD EN (hr.mono 'd') (CN (KC hu (BX 1) DY) DE)) (NX DR (hr.mono 'd') (CN (KC hu (BX 1) DY) DE)) (tP sD EN (hr.mono 'd') (CN (KC hu (BX 1) DY) DE))))))
def Ul:GS :=
 (E4 (L7 (gB (g2 MJ (AR 0) (gC (.str "-"))))
 (IS (SU []))
 MS)
 (IS (gN TH [(K8 (MQ (g2 P4 (AR 0) (gC (.str " ")))) 1 [] (.nm 0) JN (G9 Q1 [(AR 0)]))])))
def W1:Mr:=NR 1 Ul
theorem Uk:FnScope ["text"] ["text"] (JO Ah):=O8
theorem zKV{K:AC}(Fn:Fun K "read_places" "read_places" Ah f fd)(T:Bt mg)(DR:JK P w K mg base "read_number" 1 1 Q1):FnOk P w K mg base LA 2 f fd ["text"] (MM K 1 W1) :=
 PD Fn Uk λGE A outer s H E hr=>by
  have hu:=hr.units;unfold Ul
  exact(GU (OV (XE hu (BX 0) (kA (v:=.str "-") T.k_NOTHING.choose_spec ⟨_,rfl⟩ (λ_=>.str "-")))
   (H9 (K3 (a7 DE)))
   OX)
   (H9 (K3 (fT T.b_tuple (CN (pA7 (YO (own:=["word"]) (C8:=[]) (js:=[]) (cn (xo:=AH) rfl) rfl (XH (ZN (BX 0) L9)) (λC s H fp=>(RQ 0)) (λC s H fp=>VR) (λC s H fp=>(NX DR (hr.mono 'd') (CN (BX 0) DE))))) DE)))))
def Uv:GX :=
 (l7 (L7 (gB (g2 MJ (AR 0) (gC (.str "-"))))
 (IS (SU []))
 MS)
 (jT (MQ (g2 P4 (AR 0) (gC (.str " ")))) 1 [] (.nm 0) JN (G9 Q1 [(AR 0)]) [(AR 0)] W2))
def bG:List D->Out Ev:=rL 1 Uv
theorem zKW{K:AC}(Fn:Fun K "read_places" "read_places" Ah f fd)(T:Bt mg)(EN:WU P w K mg base C "read_number" 1 1 W2)(DR:JK P w K mg base "read_number" 1 1 Q1):FnOk P w K mg base (IV P w C) 2 f fd ["text"] (kN K C 1 bG) :=
 uG Fn Uk λGE A outer s H E hr hh=>by
  have hu:=hr.units;unfold Uv
  exact(tU (OV (XE hu (BX 0) (kA (v:=.str "-") T.k_NOTHING.choose_spec ⟨_,rfl⟩ (λ_=>.str "-")))
   (H9 (K3 (a7 DE)))
   OX)
   (Eh (Rv T.b_tuple (Ph (own:=["word"]) (C8:=[]) (js:=[]) (cn (xo:=AH) rfl) (XH (ZN (BX 0) L9)) (λC s H fp=>(RQ 0)) (λC s H fp=>VR) (λC s H fp=>(NX DR (hr.mono 'd') (CN (BX 0) DE))) EN (hr.mono 'd') (λD s H fp=>(CN (BX 0) DE))))))
def Ut:GS :=
 (E4 (cP 2 (gN xX [(AR 1)]))
 (E4 (cP 3 (J8 []))
 (E4 (dC (XG [2] (gB (g2 IU (AR 2) (J8 []))))
 (pS (ZI 3 fG [(ZI 2 j8 [(GT HA 0 [(VL [2] (gN IG [(AR 2)]))])])])) 100000)
 (IS (AR 3)))))
def kM:Mr:=NR 4 Ut
theorem KS:FnScope ["bag","some","left","found"] ["bag","some"] (JO Fu):=O8
theorem zIZ{K:AC}(Fn:Fun K "_law_shuffled" "_law_shuffled" Fu f fd)(T:Bt mg)(BK:JK P w K mg base "_law_take" 1 2 HA):FnOk P w K mg base LA 2 f fd ["bag","some"] (MM K 2 kM) :=
 PD Fn KS λGE A outer s H E hr=>by
  have hu:=hr.units;unfold Ut
  exact(GU (tJ (i:=2) KS.nd rfl (BO rfl) (yFY rfl T.b_list (CN (BX 1) DE)))
   (GU (tJ (i:=3) KS.nd rfl (BO rfl) (QY DE))
   (GU (zXD 100000 ID (qB [2] (VM hu (BX 2) (pA7 (QY DE))))
   (H9 (Pw (Rn 3 (CN (yB6 2 (CN (NL 0 BK (hr.mono 'd') (CN (j2 [2] (SS T.b_len (CN (BX 2) DE))) DE)) DE)) DE)))))
   (H9 (K3 (BX 3))))))
def Us:GS :=
 (IS (g2 ZH (gC (.str " ")) (g2 IH (J8 [(gN ZE [(g2 FG (AR 0) (gC (.int 0)))])]) (G9 Al [(g2 FG (AR 0) (gC (.int 1)))]))))
def Am:Mr:=NR 1 Us
theorem zKC:FnScope ["net"] ["net"] (JO Ft):=O8
theorem zI0{K:AC}(Fn:Fun K "_law_show_net" "_law_show_net" Ft f fd)(T:Bt mg)(PU:JK P w K mg base "_law_show_lanes" 1 1 Al):FnOk P w K mg base LA 2 f fd ["net"] (MM K 1 Am) :=
 PD Fn zKC λGE A outer s H E hr=>by
  have hu:=hr.units;unfold Us;exact(H9 (K3 (mU L9 (NT (pA7 (QY (CN (yU hr.gd hu T.b_str (CN (KC hu (BX 0) DY) DE)) DE))) (NX PU (hr.mono 'd') (CN (KC hu (BX 0) DY) DE))))))
def Uy:GS :=
 (IS (g2 IH (g2 IH (G9 nJ [(g2 FG (AR 0) (gC (.int 0)))]) (gC (.str " / "))) (G9 nJ [(g2 FG (AR 0) (gC (.int 1)))])))
def Ak:Mr:=NR 1 Uy
theorem zH6:FnScope ["paper"] ["paper"] (JO Ga):=O8
theorem zHG{K:AC}(Fn:Fun K "_law_show_paper" "_law_show_paper" Ga f fd)(T:Bt mg)(G5:JK P w K mg base "_law_show_places" 1 1 nJ):FnOk P w K mg base LA 2 f fd ["paper"] (MM K 1 Ak) :=
 PD Fn zH6 λGE A outer s H E hr=>by
  have hu:=hr.units;unfold Uy;exact(H9 (K3 (NT (NT (NX G5 (hr.mono 'd') (CN (KC hu (BX 0) DY) DE)) L9) (NX G5 (hr.mono 'd') (CN (KC hu (BX 0) DY) DE)))))
def Ur:GS :=
 (E4 (FS (.nm 1) (g2 P4 (AR 0) (gC (.str " "))))
 (E4 (FS (.nm 2) (G9 ZQ [(g2 FG (AR 1) (gC (.int 0)))]))
 (E4 (cP 3 (J8 []))
 (E4 (ZG (MQ (OI (AR 1) (AA (gC (.int 1))) AH)) (.nm 4)
 (E4 (FS (.nm 5) (K8 (MQ (g2 P4 (AR 4) (gC (.str ">")))) 1 [] (.nm 0) JN (G9 ZQ [(AR 0)])))
 (E4 (L7 (XG [3] (LU (gB (g2 IU (gN IG [(AR 5)]) (gC (.int 2)))) (LU (gB (g2 VU (gC .non) (AR 5))) (LU (gB (g2 MJ (g2 FG (AR 5) (gC (.int 0))) (g2 FG (AR 5) (gC (.int 1))))) (YK (gB (g2 IU (AR 3) (J8 []))) (gB (g2 nV (gN TH [(AR 5)]) (g2 FG (AR 3) (g1 g7 (gC (.int 1)))))))))))
 (IS (gC .non))
 MS)
 (pS (ZI 3 fG [(gN TH [(AR 5)])])))))
 (E4 (L7 (XG [3] (LU (gB (g2 ZF (AR 2) (gC .non))) (LU (M7 (gB (SV OM OM (gC (.int 1)) (AR 2) (gC (.int 24))))) (gB (g2 YU (gN IG [(AR 3)]) (gC (.int 120)))))))
 (IS (gC .non))
 MS)
 (E4 (L7 (XG [3] (gB (g2 IU (K8 (MQ (AR 3)) 1 [2] (.nm 0) (gB (g2 kQ (gN hG [(AR 0)]) (AR 1))) (AR 0)) (J8 []))))
 (IS (gC .non))
 MS)
 (IS (VL [3] (SU [(AR 2),(gN TH [(AR 3)])])))))))))
def nH:Mr:=NR 6 Ur
theorem GD:FnScope ["text","words","many","lanes","word","ends"] ["text"] (JO Fq):=O8
theorem zI1{K:AC}(Fn:Fun K "_law_net_read" "_law_net_read" Fq f fd)(T:Bt mg)(G6:JK P w K mg base "_law_number_read" 1 1 ZQ):FnOk P w K mg base LA 2 f fd ["text"] (MM K 1 nH) :=
 PD Fn GD λGE A outer s H E hr=>by
  have hu:=hr.units;unfold Ur
  exact(GU (MA (i:=1) GD.nd rfl (BO rfl) (ZN (BX 0) L9))
   (GU (MA (i:=2) GD.nd rfl (EG rfl) (NX G6 (hr.mono 'd') (CN (KC hu (BX 1) DY) DE)))
   (GU (tJ (i:=3) GD.nd rfl (BO rfl) (QY DE))
   (GU (sW ID rfl (XH (UM (BX 1) (Q0 DY) T8)) (bD (i:=4) GD.nd rfl (BO rfl))
   (GU (Ag (i:=5) (own:=["end"]) (C8:=[]) (js:=[]) (cn (xo:=AH) rfl) rfl (XH (ZN (BX 4) L9)) (λC s H fp=>(RQ 0)) (λC s H fp=>VR) (λC s H fp=>(NX G6 (hr.mono 'd') (CN (BX 0) DE))) GD.nd rfl rfl rfl)
   (GU (OV (qB [3] (VW.t (WY (VM hu (SS T.b_len (CN (BX 5) DE)) DY) (WY (Hh hu YL (BX 5)) (WY (XE hu (KC hu (BX 5) DY) (KC hu (BX 5) DY)) (ZL (VW.t (qC (VM hu (BX 3) (pA7 (QY DE))) (qO (yF7 hu (fT T.b_tuple (CN (BX 5) DE)) (KC hu (BX 3) (Wp DY))))))))))))
   (H9 (K3 YL))
   OX)
   (H9 (Pw (Rn 3 (CN (fT T.b_tuple (CN (BX 5) DE)) DE)))))))
   (GU (OV (qB [3] (VW.t (WY (Mv (BX 2) YL) (WY (WZ (tW cQ (ZO _) cQ (ZO _) DY (BX 2) DY)) (ZL (Hg (SS T.b_len (CN (BX 3) DE)) DY))))))
   (H9 (K3 YL))
   OX)
   (GU (OV (qB [3] (VM hu (pA7 (YO (own:=["lane"]) (C8:=["many"]) (js:=[2]) (cn (xo:=AH) rfl) rfl (XH (BX 3)) (λC s H fp=>(RQ 0)) (λC s H fp=>(Pe (Wu (yF8 rfl T.b_max (CN (BX 0) DE)) (BX 1)))) (λC s H fp=>(BX 0)))) (pA7 (QY DE))))
   (H9 (K3 YL))
   OX)
   (H9 (K3 (j2 [3] (a7 (CN (BX 2) (CN (fT T.b_tuple (CN (BX 3) DE)) DE))))))))))))
def Va:GS :=
 (E4 (FS (.nm 1) (K8 (MQ (g2 P4 (AR 0) (gC (.str " ")))) 1 [] (.nm 0) JN (G9 ZQ [(AR 0)])))
 (E4 (L7 (gB (g2 MJ (AR 0) (gC (.str "-"))))
 (FS (.nm 1) (J8 []))
 MS)
 (IS (nY (gB (g2 VU (gC .non) (AR 1))) (gC .non) (gN TH [(AR 1)])))))
def cX:Mr:=NR 2 Va
theorem IN:FnScope ["text","found"] ["text"] (JO Fv):=O8
theorem zGP{K:AC}(Fn:Fun K "_law_places_read" "_law_places_read" Fv f fd)(T:Bt mg)(G6:JK P w K mg base "_law_number_read" 1 1 ZQ):FnOk P w K mg base LA 2 f fd ["text"] (MM K 1 cX) :=
 PD Fn IN λGE A outer s H E hr=>by
  have hu:=hr.units;unfold Va
  exact(GU (Ag (i:=1) (own:=["word"]) (C8:=[]) (js:=[]) (cn (xo:=AH) rfl) rfl (XH (ZN (BX 0) L9)) (λC s H fp=>(RQ 0)) (λC s H fp=>VR) (λC s H fp=>(NX G6 (hr.mono 'd') (CN (BX 0) DE))) IN.nd rfl rfl rfl)
   (GU (OV (XE hu (BX 0) L9)
   (H9 (MA (i:=1) IN.nd rfl (BO rfl) (pA7 (QY DE))))
   OX)
   (H9 (K3 (uK (Hh hu YL (BX 1)) YL (fT T.b_tuple (CN (BX 1) DE)))))))
def Vd:GS :=
 (E4 (FS (.nm 2) (gC (.str " !\"#$&'()*+,-./0123456789:;<=>?@ABCDEFGHIJKLMNOPQRSTUVWXYZ[\\]^_`abcdefghijklmnopqrstuvwxyz{|}~\n")))
 (E4 (FS (.nm 3) (gC (.str " >0129-/\n")))
 (E4 (FS (.nm 4) (GT HA 0 [(gC (.int 3))]))
 (E4 (FS (.nm 5) (g2 FG (J8 [(g2 FG (AR 2) (GT HA 0 [(gC (.int 95))])),(g2 FG (AR 3) (GT HA 0 [(gC (.int 9))]))]) (GT HA 0 [(gC (.int 2))])))
 (E4 (FS (.nm 6) (GT HA 0 [(g2 IH (gN IG [(AR 1)]) (gC (.int 1)))]))
 (E4 (L7 (gB (g2 MJ (GT HA 0 [(gC (.int 6))]) (gC (.int 0))))
 (FS (.nm 6) (g2 FG (J8 [(gC (.int 0)),(gN IG [(AR 1)])]) (GT HA 0 [(gC (.int 2))])))
 MS)
 (E4 (L7 (gB (g2 MJ (AR 4) (gC (.int 0))))
 (IS (g2 IH (mT (AR 1) AH (AA (AR 6))) (mT (AR 1) (AA (g2 IH (AR 6) (gC (.int 1)))) AH)))
 MS)
 (IS (g2 IH (g2 IH (mT (AR 1) AH (AA (AR 6))) (AR 5)) (mT (AR 1) (AA (g2 g8 (g2 IH (AR 6) (AR 4)) (gC (.int 1)))) AH))))))))))
def Aj:Mr:=NR 7 Vd
theorem EW:FnScope ["bag","text","signs","few","way","sign","at"] ["bag","text"] (JO Fp):=O8
theorem zH7{K:AC}(Fn:Fun K "_law_sign_bent" "_law_sign_bent" Fp f fd)(T:Bt mg)(BK:JK P w K mg base "_law_take" 1 2 HA):FnOk P w K mg base LA 2 f fd ["bag","text"] (MM K 2 Aj) :=
 PD Fn EW λGE A outer s H E hr=>by
  have hu:=hr.units;unfold Vd
  exact(GU (MA (i:=2) EW.nd rfl (BO rfl) L9)
   (GU (MA (i:=3) EW.nd rfl (BO rfl) L9)
   (GU (MA (i:=4) EW.nd rfl (BO rfl) (NL 0 BK (hr.mono 'd') (CN DY DE)))
   (GU (MA (i:=5) EW.nd rfl (BO rfl) (KC hu (pA7 (QY (CN (KC hu (BX 2) (NL 0 BK (hr.mono 'd') (CN DY DE))) (CN (KC hu (BX 3) (NL 0 BK (hr.mono 'd') (CN DY DE))) DE)))) (NL 0 BK (hr.mono 'd') (CN DY DE))))
   (GU (MA (i:=6) EW.nd rfl (BO rfl) (NL 0 BK (hr.mono 'd') (CN (NT (SS T.b_len (CN (BX 1) DE)) DY) DE)))
   (GU (OV (XE hu (NL 0 BK (hr.mono 'd') (CN DY DE)) DY)
   (H9 (MA (i:=6) EW.nd rfl (BO rfl) (KC hu (pA7 (QY (CN DY (CN (SS T.b_len (CN (BX 1) DE)) DE)))) (NL 0 BK (hr.mono 'd') (CN DY DE)))))
   OX)
   (GU (OV (XE hu (BX 4) DY)
   (H9 (K3 (NT (zO (BX 1) T8 (Q0 (BX 6))) (zO (BX 1) (Q0 (NT (BX 6) DY)) T8))))
   OX)
   (H9 (K3 (NT (NT (zO (BX 1) T8 (Q0 (BX 6))) (BX 5)) (zO (BX 1) (Q0 (yB (NT (BX 6) (BX 4)) DY)) T8)))))))))))
def Ru:GS :=
 (E4 (L7 (LU (M7 (P9 (V6 "tuple" (AR 1)))) (gB (g2 IU (gN IG [(AR 1)]) (gC (.int 2)))))
 (IS (gC (.bl AB)))
 MS)
 (E4 (FS (.tp [(.nm 2),(.nm 3)]) (AR 1))
 (IS (jS (G9 uE [(AR 0),(AR 2)]) (jS (G9 uE [(AR 0),(AR 3)]) (g2 IU (AR 2) (AR 3)))))))
def qT:Mr:=NR 4 Ru
theorem QC:FnScope ["many","thing","one","other"] ["many","thing"] (JO Et):=O8
theorem zST{K:AC}(Fn:Fun K "is_lane" "is_lane" Et f fd)(T:Bt mg)(SH:JK P w K mg base "is_place" 2 2 uE):FnOk P w K mg base LA 3 f fd ["many","thing"] (MM K 2 qT) :=
 PD Fn QC λGE A outer s H E hr=>by
  have hu:=hr.units;unfold Ru
  exact(GU (OV (VW.t (WY (WZ (bF (j7 uA T.b_isinstance T.b_tuple (by decide +kernel) (BX 1)))) (ZL (VM hu (SS T.b_len (CN (BX 1) DE)) DY))))
   (H9 (K3 fJ))
   OX)
   (GU (Dc (BX 1) (mI rfl (YR (bD (i:=2) QC.nd rfl (BO rfl)) (YR (bD (i:=3) QC.nd rfl (BO rfl)) mZ))))
   (H9 (K3 (sK (NX SH (hr.mono 'd') (CN (BX 0) (CN (BX 2) DE))) (sK (NX SH (hr.mono 'd') (CN (BX 0) (CN (BX 3) DE))) (pU (yK0 hu (BX 2) (BX 3)))))))))
def Ue:GS :=
 (E4 (FS (.nm 1) (g2 P4 (AR 0) (gC (.str " / "))))
 (E4 (L7 (gB (g2 IU (gN IG [(AR 1)]) (gC (.int 2))))
 rB
 MS)
 (IS (SU [(G9 W1 [(g2 FG (AR 1) (gC (.int 0)))]),(G9 W1 [(g2 FG (AR 1) (gC (.int 1)))])]))))
def cW:Mr:=NR 2 Ue
theorem K9:FnScope ["text","orders"] ["text"] (JO Ad):=O8
theorem zMS{K:AC}(Fn:Fun K "read_paper" "read_paper" Ad f fd)(T:Bt mg)(HC:JK P w K mg base "read_places" 2 1 W1):FnOk P w K mg base LA 3 f fd ["text"] (MM K 1 cW) :=
 PD Fn K9 λGE A outer s H E hr=>by
  have hu:=hr.units;unfold Ue
  exact(GU (MA (i:=1) K9.nd rfl (BO rfl) (ZN (BX 0) L9))
   (GU (OV (VM hu (SS T.b_len (CN (BX 1) DE)) DY)
   (H9 sX)
   OX)
   (H9 (K3 (a7 (CN (NX HC (hr.mono 'd') (CN (KC hu (BX 1) DY) DE)) (CN (NX HC (hr.mono 'd') (CN (KC hu (BX 1) DY) DE)) DE)))))))
def Uj:GX :=
 (l7 (FS (.nm 1) (g2 P4 (AR 0) (gC (.str " / "))))
 (pP (gB (g2 IU (gN IG [(AR 1)]) (gC (.int 2)))) (nL [(gC (.str "a paper has two orders"))])
 (gY (YV [(g2 FG (AR 1) (gC (.int 0)))] bG) (G9 W1 [(g2 FG (AR 1) (gC (.int 0)))]) (YV [(g2 FG (AR 1) (gC (.int 1)))] bG))))
def kL:List D->Out Ev:=rL 2 Uj
theorem zMT{K:AC}(Fn:Fun K "read_paper" "read_paper" Ad f fd)(T:Bt mg)(GG:WU P w K mg base C "read_places" 2 1 bG)(k6:mg "NoText"=AA (.ref C))(Z:GL K C [.type "ValueError",.type "Exception",.type "BaseException",.type "object"] "ValueError.__new__"=AG)(HC:JK P w K mg base "read_places" 2 1 W1):FnOk P w K mg base (IV P w C) 3 f fd ["text"] (kN K C 1 kL) :=
 uG Fn K9 λGE A outer s H E hr hh=>by
  have hu:=hr.units;unfold Uj
  exact(tU (MA (i:=1) K9.nd rfl (BO rfl) (ZN (BX 0) L9))
   (Dl (VM hu (SS T.b_len (CN (BX 1) DE)) DY) (tZ FY Z k6 hh (CN L9 DE))
   (Eh (Dk (tP sD GG (hr.mono 'd') (CN (KC hu (BX 1) DY) DE)) (NX HC (hr.mono 'd') (CN (KC hu (BX 1) DY) DE)) (tP sD GG (hr.mono 'd') (CN (KC hu (BX 1) DY) DE))))))
def Ta:GS :=
 (E4 (FS (.nm 2) (g2 FG (J8 [(AR 1),(g2 IH (gC (.int 1)) (GT HA 0 [(AR 1)])),(g2 IH (gC (.int 1)) (GT HA 0 [(gN iA [(gC (.int 7)),(AR 1)])]))]) (GT HA 0 [(gC (.int 3))])))
 (E4 (FS (.nm 3) (GT HA 0 [(gC (.int 4))]))
 (E4 (FS (.nm 4) (g2 FG (J8 [(gC (.int 0)),(gC (.int 1)),(GT HA 0 [(g2 IH (AR 2) (gC (.int 1)))]),(g2 IH (AR 2) (GT HA 0 [(g2 XB (gC (.int 5)) (AR 2))])),(gC (.int 120))]) (GT HA 0 [(gC (.int 5))])))
 (E4 (cP 5 (gC (.dt [])))
 (E4 (ZG (sF (gC (.int 1)) (AR 2)) (.nm 6)
 (L7 (gB (g2 T9 (AR 3) (gC (.int 3))))
 (cT 5 (SU [(g2 FG (J8 [(GT HA 0 [(AR 6)]),(g2 g8 (g2 g8 (AR 6) (gC (.int 1))) (GT HA 0 [(gN iA [(AR 6),(gC (.int 2))])])),(gC (.int 0))]) (AR 3)),(AR 6)]) (gC (.bl AG)))
 MS))
 (E4 (ZG (aZ (AR 4)) (.nm 7)
 (E4 (FS (.nm 8) (GT HA 0 [(AR 2)]))
 (E4 (FS (.nm 9) (g2 FG (J8 [(GT HA 0 [(AR 2)]),(g2 T7 (g2 IH (g2 IH (AR 8) (gC (.int 1))) (GT HA 0 [(gC (.int 2))])) (AR 2))]) (GT HA 0 [(gC (.int 2))])))
 (L7 (XG [5] (YK (gB (g2 IU (AR 8) (AR 9))) (gB (g2 T9 (gN IG [(AR 5)]) (gC (.int 120))))))
 (cT 5 (SU [(AR 8),(AR 9)]) (gC (.bl AG)))
 MS))))
 (E4 (FS (.nm 10) (GT kM 0 [(rP (AR 2))]))
 (E4 (FS (.nm 11) (g2 FG (J8 [(g2 FG (AR 10) (gC (.int 0))),(g2 FG (AR 10) (gC (.int 0))),(GT HA 0 [(AR 2)])]) (GT HA 0 [(gC (.int 3))])))
 (IS (VL [5] (SU [(SU [(AR 2),(gN TH [(gN l8 [(K8 (MQ (AR 5)) 2 [10] (.tp [(.nm 0),(.nm 1)]) JN (SU [(g2 FG (AR 2) (AR 0)),(g2 FG (AR 2) (AR 1))]))])])]),(AR 11)])))))))))))
def uD:Mr:=NR 12 Ta
theorem FX:FnScope ["bag","most","many","way","more","lanes","k","turn","one","other","names","gate"] ["bag","most"] (JO Eu):=O8
theorem zP2{K:AC}(Fn:Fun K "_law_net" "_law_net" Eu f fd)(T:Bt mg)(BK:JK P w K mg base "_law_take" 1 2 HA)(KW:JK P w K mg base "_law_shuffled" 2 2 kM):FnOk P w K mg base LA 3 f fd ["bag","most"] (MM K 2 uD) :=
 PD Fn FX λGE A outer s H E hr=>by
  have hu:=hr.units;unfold Ta
  exact(GU (MA (i:=2) FX.nd rfl (BO rfl) (KC hu (pA7 (QY (CN (BX 1) (CN (NT DY (NL 0 BK (hr.mono 'd') (CN (BX 1) DE))) (CN (NT DY (NL 0 BK (hr.mono 'd') (CN (Ms rfl T.b_min (CN DY (CN (BX 1) DE))) DE))) DE))))) (NL 0 BK (hr.mono 'd') (CN DY DE))))
   (GU (MA (i:=3) FX.nd rfl (BO rfl) (NL 0 BK (hr.mono 'd') (CN DY DE)))
   (GU (MA (i:=4) FX.nd rfl (BO rfl) (KC hu (pA7 (QY (CN DY (CN DY (CN (NL 0 BK (hr.mono 'd') (CN (NT (BX 2) DY) DE)) (CN (NT (BX 2) (NL 0 BK (hr.mono 'd') (CN (yA DY (BX 2)) DE))) (CN DY DE))))))) (NL 0 BK (hr.mono 'd') (CN DY DE))))
   (GU (tJ (i:=5) FX.nd rfl (BO rfl) yB8)
   (GU (sW ID rfl (zUO T.b_range DY (BX 2)) (bD (i:=6) FX.nd rfl (BO rfl))
   (H9 (OV (yC hu (BX 3) DY)
   (H9 (Aa 5 hu (a7 (CN (KC hu (pA7 (QY (CN (NL 0 BK (hr.mono 'd') (CN (BX 6) DE)) (CN (yB (yB (BX 6) DY) (NL 0 BK (hr.mono 'd') (CN (Ms rfl T.b_min (CN (BX 6) (CN DY DE))) DE))) (CN DY DE))))) (BX 3)) (CN (BX 6) DE))) fJ))
   OX)))
   (GU (sW ID rfl (z7 T.b_range (BX 4)) (bD (i:=7) FX.nd rfl (BO rfl))
   (GU (MA (i:=8) FX.nd rfl (BO rfl) (NL 0 BK (hr.mono 'd') (CN (BX 2) DE)))
   (GU (MA (i:=9) FX.nd rfl (BO rfl) (KC hu (pA7 (QY (CN (NL 0 BK (hr.mono 'd') (CN (BX 2) DE)) (CN (jZ (NT (NT (BX 8) DY) (NL 0 BK (hr.mono 'd') (CN DY DE))) (BX 2)) DE)))) (NL 0 BK (hr.mono 'd') (CN DY DE))))
   (H9 (OV (qB [5] (VW.t (qC (VM hu (BX 8) (BX 9)) (qO (yC hu (SS T.b_len (CN (BX 5) DE)) DY)))))
   (H9 (Aa 5 hu (a7 (CN (BX 8) (CN (BX 9) DE))) fJ))
   OX)))))
   (GU (MA (i:=10) FX.nd rfl (EG rfl) (NL 0 KW (hr.mono 'd') (CN (pA7 (Tw rfl T.b_range T.b_list (BX 2))) DE)))
   (GU (MA (i:=11) FX.nd rfl (BO rfl) (KC hu (pA7 (QY (CN (KC hu (BX 10) DY) (CN (KC hu (BX 10) DY) (CN (NL 0 BK (hr.mono 'd') (CN (BX 2) DE)) DE))))) (NL 0 BK (hr.mono 'd') (CN DY DE))))
   (H9 (K3 (j2 [5] (a7 (CN (a7 (CN (BX 2) (CN (fT T.b_tuple (CN (pA7 (zXX T.b_sorted (CN (pA7 (YO (own:=["one","other"]) (C8:=["names"]) (js:=[10]) (cn (xo:=AH) rfl) rfl (XH (BX 5)) (λC s H fp=>(mI rfl (YR (RQ 0) (YR (RQ 1) mZ)))) (λC s H fp=>VR) (λC s H fp=>(a7 (CN (KC hu (BX 2) (BX 0)) (CN (KC hu (BX 2) (BX 1)) DE)))))) DE))) DE)) DE))) (CN (BX 11) DE))))))))))))))
def Ux:GS :=
 (E4 (FS (.nm 1) (g2 P4 (AR 0) (gC (.str " / "))))
 (E4 (FS (.nm 2) (K8 (MQ (AR 1)) 1 [] (.nm 0) JN (G9 cX [(AR 0)])))
 (IS (nY (LU (gB (g2 IU (gN IG [(AR 1)]) (gC (.int 2)))) (gB (g2 VU (gC .non) (AR 2)))) (gC .non) (gN TH [(AR 2)])))))
def nI:Mr:=NR 3 Ux
theorem JD:FnScope ["text","parts","found"] ["text"] (JO Fz):=O8
theorem zHI{K:AC}(Fn:Fun K "_law_paper_read" "_law_paper_read" Fz f fd)(T:Bt mg)(IQ:JK P w K mg base "_law_places_read" 2 1 cX):FnOk P w K mg base LA 3 f fd ["text"] (MM K 1 nI) :=
 PD Fn JD λGE A outer s H E hr=>by
  have hu:=hr.units;unfold Ux
  exact(GU (MA (i:=1) JD.nd rfl (BO rfl) (ZN (BX 0) L9))
   (GU (Ag (i:=2) (own:=["part"]) (C8:=[]) (js:=[]) (cn (xo:=AH) rfl) rfl (XH (BX 1)) (λC s H fp=>(RQ 0)) (λC s H fp=>VR) (λC s H fp=>(NX IQ (hr.mono 'd') (CN (BX 0) DE))) JD.nd rfl rfl rfl)
   (H9 (K3 (uK (VW.t (WY (VM hu (SS T.b_len (CN (BX 1) DE)) DY) (ZL (Hh hu YL (BX 2))))) YL (fT T.b_tuple (CN (BX 2) DE)))))))
@[irreducible] def Fd:GS :=
 (E4 (FS (.nm 2) (GT HA 0 [(gC (.int 9))]))
 (E4 (L7 (gB (g2 T9 (AR 2) (gC (.int 4))))
 (IS (GT Aj 0 [(AR 1)]))
 MS)
 (E4 (FS (.nm 3) (g2 P4 (AR 1) (gC (.str " "))))
 (E4 (FS (.nm 4) (GT HA 0 [(gN IG [(AR 3)])]))
 (E4 (FS (.nm 5) (g2 FG (AR 3) (GT HA 0 [(gN IG [(AR 3)])])))
 (E4 (FS (.nm 6) (J8 [(gC (.str "")),(gC (.str "-")),(gC (.str "/")),(gC (.str "0")),(gC (.str "00")),(gC (.str "24")),(gC (.str "25")),(gC (.str "0>1")),(gC (.str "1>0")),(gC (.str "1>1")),(gC (.str "9999999")),(gC (.str "999999")),(gC (.str "net")),(gC (.str "look")),(gC (.str "gate")),(gC (.str "lane"))]))
 (E4 (L7 (gB (g2 MJ (AR 2) (gC (.int 4))))
 (IS (g2 ZH (gC (.str " ")) (g2 IH (OI (AR 3) AH (AA (AR 4))) (OI (AR 3) (AA (g2 IH (AR 4) (gC (.int 1)))) AH))))
 MS)
 (E4 (L7 (gB (g2 MJ (AR 2) (gC (.int 5))))
 (IS (g2 ZH (gC (.str " ")) (g2 IH (g2 IH (OI (AR 3) AH (AA (AR 4))) (OI (AR 3) (AA (AR 4)) (AA (g2 IH (AR 4) (gC (.int 1)))))) (OI (AR 3) (AA (AR 4)) AH))))
 MS)
 (E4 (L7 (gB (g2 MJ (AR 2) (gC (.int 6))))
 (IS (g2 ZH (gC (.str " ")) (g2 IH (g2 IH (OI (AR 3) AH (AA (AR 4))) (J8 [(AR 5)])) (OI (AR 3) (AA (g2 IH (AR 4) (gC (.int 1)))) AH))))
 MS)
 (E4 (L7 (gB (g2 MJ (AR 2) (gC (.int 7))))
 (IS (g2 ZH (gC (.str " ")) (g2 IH (g2 IH (OI (AR 3) AH (AA (AR 4))) (Ao (OI (AR 3) (AA (AR 4)) (AA (g2 IH (AR 4) (gC (.int 2))))) (g1 g7 (gC (.int 1))))) (OI (AR 3) (AA (g2 IH (AR 4) (gC (.int 2)))) AH))))
 MS)
 (IS (g2 ZH (gC (.str " ")) (g2 IH (g2 IH (OI (AR 3) AH (AA (AR 4))) (J8 [(g2 FG (AR 6) (GT HA 0 [(gC (.int 16))]))])) (OI (AR 3) (AA (g2 IH (AR 4) (gC (.int 1)))) AH))))))))))))))
def nD:Mr:=NR 7 Fd
theorem IT:FnScope ["bag","text","way","words","at","other","odd"] ["bag","text"] (JO Ff):=O8
theorem zOJ{K:AC}(Fn:Fun K "_law_bent" "_law_bent" Ff f fd)(T:Bt mg)(BK:JK P w K mg base "_law_take" 1 2 HA)(QJ:JK P w K mg base "_law_sign_bent" 2 2 Aj):FnOk P w K mg base LA 3 f fd ["bag","text"] (MM K 2 nD) :=
 PD Fn IT λGE A outer s H E hr=>by
  have hu:=hr.units;unfold Fd;refine GU ?_ ?_
  .exact(MA (i:=2) IT.nd rfl (BO rfl) (NL 0 BK (hr.mono 'd') (CN DY DE)))
  refine GU ?_ ?_
  .exact(OV (yC hu (BX 2) DY)
    (H9 (K3 (NL 0 QJ (hr.mono 'd') (CN (BX 1) DE))))
    OX)
  refine GU ?_ ?_
  .exact(MA (i:=3) IT.nd rfl (BO rfl) (ZN (BX 1) L9))
  refine GU ?_ ?_
  .exact(MA (i:=4) IT.nd rfl (BO rfl) (NL 0 BK (hr.mono 'd') (CN (SS T.b_len (CN (BX 3) DE)) DE)))
  refine GU ?_ ?_
  .exact(MA (i:=5) IT.nd rfl (BO rfl) (KC hu (BX 3) (NL 0 BK (hr.mono 'd') (CN (SS T.b_len (CN (BX 3) DE)) DE))))
  refine GU ?_ ?_
  .exact(by refine MA (i:=6) ?_ ?_ ?_ ?_ ?_ ?_;exact IT.nd;rfl;exact(BO rfl);refine pA7 ?_;refine yGN [("",0,{183,11,183,13}),("-",0,{183,15,183,18}),("/",0,{183,20,183,23}),("0",0,{183,25,183,28}),("00",0,{183,30,183,34}),("24",0,{183,36,183,40}),("25",0,{183,42,183,46}),("0>1",0,{183,48,183,53}),("1>0",0,{183,55,183,60}),("1>1",0,{183,62,183,67}),("9999999",0,{183,69,183,78}),("999999",0,{183,80,183,88}),("net",0,{183,90,183,95}),("look",0,{183,97,183,103}),("gate",0,{183,105,183,111}),("lane",0,{183,113,183,119})] ?_;rfl;rfl;exact EG rfl)
  refine GU ?_ ?_
  .exact(OV (XE hu (BX 2) DY)
    (H9 (K3 (mU L9 (NT (UM (BX 3) T8 (Q0 (BX 4))) (UM (BX 3) (Q0 (NT (BX 4) DY)) T8)))))
    OX)
  refine GU ?_ ?_
  .exact(OV (XE hu (BX 2) DY)
    (H9 (K3 (mU L9 (NT (NT (UM (BX 3) T8 (Q0 (BX 4))) (UM (BX 3) (Q0 (BX 4)) (Q0 (NT (BX 4) DY)))) (UM (BX 3) (Q0 (BX 4)) T8)))))
    OX)
  refine GU ?_ ?_
  .exact(OV (XE hu (BX 2) DY)
    (H9 (K3 (mU L9 (NT (NT (UM (BX 3) T8 (Q0 (BX 4))) (pA7 (QY (CN (BX 5) DE)))) (UM (BX 3) (Q0 (NT (BX 4) DY)) T8)))))
    OX)
  refine GU ?_ ?_
  .exact(OV (XE hu (BX 2) DY)
    (H9 (K3 (mU L9 (NT (NT (UM (BX 3) T8 (Q0 (BX 4))) (pA7 (yIT (UM (BX 3) (Q0 (BX 4)) (Q0 (NT (BX 4) DY))) (Wp DY)))) (UM (BX 3) (Q0 (NT (BX 4) DY)) T8)))))
    OX)
  exact(H9 (K3 (mU L9 (NT (NT (UM (BX 3) T8 (Q0 (BX 4))) (pA7 (QY (CN (KC hu (BX 6) (NL 0 BK (hr.mono 'd') (CN DY DE))) DE)))) (UM (BX 3) (Q0 (NT (BX 4) DY)) T8)))))
def Qn:GS :=
 (E4 (L7 (LU (M7 (P9 (V6 "tuple" (AR 0)))) (gB (g2 IU (gN IG [(AR 0)]) (gC (.int 2)))))
 (IS (gC (.bl AB)))
 MS)
 (E4 (FS (.tp [(.nm 1),(.nm 2)]) (AR 0))
 (E4 (L7 (LU (M7 (P9 (G9 nG [(AR 1)]))) (M7 (gB (SV OM OM (gC (.int 1)) (AR 1) (gC (.int 24))))))
 (IS (gC (.bl AB)))
 MS)
 (E4 (L7 (LU (M7 (P9 (V6 "tuple" (AR 2)))) (gB (g2 YU (gN IG [(AR 2)]) (gC (.int 120)))))
 (IS (gC (.bl AB)))
 MS)
 (E4 (L7 (M7 (P9 (gN XA [(K8 (MQ (AR 2)) 1 [1] (.nm 0) JN (G9 qT [(AR 1),(AR 0)]))])))
 (IS (gC (.bl AB)))
 MS)
 (IS (gN XA [(K8 (nM (AR 2) (OI (AR 2) (AA (gC (.int 1))) AH)) 2 [] (.tp [(.nm 0),(.nm 1)]) JN (g2 T9 (AR 0) (AR 1)))])))))))
def nA:Mr:=NR 3 Qn
theorem R6:FnScope ["thing","many","lanes"] ["thing"] (JO Ef):=O8
theorem zU4{K:AC}(Fn:Fun K "is_net" "is_net" Ef f fd)(T:Bt mg)(O1:JK P w K mg base "is_whole" 1 1 nG)(aB:JK P w K mg base "is_lane" 3 2 qT):FnOk P w K mg base LA 4 f fd ["thing"] (MM K 1 nA) :=
 PD Fn R6 λGE A outer s H E hr=>by
  have hu:=hr.units;unfold Qn
  exact(GU (OV (VW.t (WY (WZ (bF (j7 uA T.b_isinstance T.b_tuple (by decide +kernel) (BX 0)))) (ZL (VM hu (SS T.b_len (CN (BX 0) DE)) DY))))
   (H9 (K3 fJ))
   OX)
   (GU (Dc (BX 0) (mI rfl (YR (bD (i:=1) R6.nd rfl (EG rfl)) (YR (bD (i:=2) R6.nd rfl (BO rfl)) mZ))))
   (GU (OV (VW.t (WY (WZ (bF (NX O1 (hr.mono 'd') (CN (BX 1) DE)))) (ZL (WZ (tW cQ (ZO _) cQ (ZO _) DY (BX 1) (kA (v:=.int 24) T.k_MOST_PLACES.choose_spec {_,rfl} (λ_=>.int 24)))))))
   (H9 (K3 fJ))
   OX)
   (GU (OV (VW.t (WY (WZ (bF (j7 uA T.b_isinstance T.b_tuple (by decide +kernel) (BX 2)))) (ZL (Hg (SS T.b_len (CN (BX 2) DE)) (kA (v:=.int 120) T.k_MOST_LANES.choose_spec {_,rfl} (λ_=>.int 120))))))
   (H9 (K3 fJ))
   OX)
   (GU (OV (WZ (bF (sG rfl T.b_all (CN (pA7 (YO (own:=["lane"]) (C8:=["many"]) (js:=[1]) (cn (xo:=AH) rfl) rfl (XH (BX 2)) (λC s H fp=>(RQ 0)) (λC s H fp=>VR) (λC s H fp=>(NX aB (hr.mono 'd') (CN (BX 1) (CN (BX 0) DE)))))) DE))))
   (H9 (K3 fJ))
   OX)
   (H9 (K3 (sG rfl T.b_all (CN (pA7 (YO (own:=["lane","later"]) (C8:=[]) (js:=[]) (cn (xo:=AH) rfl) rfl (Mq T.b_zip (BX 2) (UM (BX 2) (Q0 DY) T8)) (λC s H fp=>(mI rfl (YR (RQ 0) (YR (RQ 1) mZ)))) (λC s H fp=>VR) (λC s H fp=>(yK1 hu (BX 0) (BX 1))))) DE)))))))))
def Uu:GS :=
 (E4 (FS (.tp [(.nm 1),(.nm 2)]) (GT uD 0 [(gC (.int 24))]))
 (E4 (FS (.nm 3) (K8 (aZ (gC (.int 2))) 1 [1,0] (.nm 0) JN (OI (gN TH [(GT kM 2 [(rP (g2 FG (AR 1) (gC (.int 0))))])]) AH (AA (GT HA 2 [(gC (.int 25))])))))
 (IS (J8 [(G9 Am [(AR 1)]),(G9 nJ [(g2 FG (AR 3) (gC (.int 0)))]),(G9 Ak [(AR 3)])]))))
def qZ:Mr:=NR 4 Uu
theorem JC:FnScope ["bag","net","gate","some"] ["bag"] (JO Fo):=O8
theorem zKD{K:AC}(Fn:Fun K "_law_written" "_law_written" Fo f fd)(T:Bt mg)(XY:JK P w K mg base "_law_net" 3 2 uD)(RE:JK P w K mg base "_law_show_net" 2 1 Am)(G5:JK P w K mg base "_law_show_places" 1 1 nJ)(PR:JK P w K mg base "_law_show_paper" 2 1 Ak)(KW:JK P w K mg base "_law_shuffled" 2 2 kM)(BK:JK P w K mg base "_law_take" 1 2 HA):FnOk P w K mg base LA 4 f fd ["bag"] (MM K 1 qZ) :=
 PD Fn JC λGE A outer s H E hr=>by
  have hu:=hr.units;unfold Uu
  exact(GU (Dc (NL 0 XY (hr.mono 'd') (CN DY DE)) (mI rfl (YR (bD (i:=1) JC.nd rfl (EG rfl)) (YR (bD (i:=2) JC.nd rfl (BO rfl)) mZ))))
   (GU (Ag (i:=3) (own:=["k"]) (C8:=["net","bag"]) (js:=[1,0]) (cn (xo:=AH) rfl) rfl (z7 T.b_range DY) (λC s H fp=>(RQ 0)) (λC s H fp=>VR) (λC s H fp=>(UM (fT T.b_tuple (CN (NL 2 KW (hr.mono 'd') (CN (pA7 (Tw rfl T.b_range T.b_list (KC hu (BX 1) DY))) DE)) DE)) T8 (Q0 (NL 2 BK (hr.mono 'd') (CN DY DE))))) JC.nd rfl rfl rfl)
   (H9 (K3 (pA7 (QY (CN (NX RE (hr.mono 'd') (CN (BX 1) DE)) (CN (NX G5 (hr.mono 'd') (CN (KC hu (BX 3) DY) DE)) (CN (NX PR (hr.mono 'd') (CN (BX 3) DE)) DE)))))))))
def Sz:GS :=
 (E4 (FS (.nm 1) (g2 P4 (AR 0) (gC (.str " "))))
 (E4 (FS (.nm 2) (SU [(G9 Q1 [(g2 FG (AR 1) (gC (.int 0)))]),(gN TH [(K8 (MQ (OI (AR 1) (AA (gC (.int 1))) AH)) 1 [] (.nm 0) JN (G9 ZP [(AR 0)]))])]))
 (E4 (L7 (M7 (P9 (G9 nA [(AR 2)])))
 rB
 MS)
 (IS (AR 2)))))
def cU:Mr:=NR 3 Sz
theorem IM:FnScope ["text","words","net"] ["text"] (JO z8):=O8
theorem zP3{K:AC}(Fn:Fun K "read_net" "read_net" z8 f fd)(T:Bt mg)(DR:JK P w K mg base "read_number" 1 1 Q1)(SI:JK P w K mg base "is_net" 4 1 nA)(ME:JK P w K mg base "read_lane" 2 1 ZP):FnOk P w K mg base LA 5 f fd ["text"] (MM K 1 cU) :=
 PD Fn IM λGE A outer s H E hr=>by
  have hu:=hr.units;unfold Sz
  exact(GU (MA (i:=1) IM.nd rfl (BO rfl) (ZN (BX 0) L9))
   (GU (MA (i:=2) IM.nd rfl (BO rfl) (a7 (CN (NX DR (hr.mono 'd') (CN (KC hu (BX 1) DY) DE)) (CN (fT T.b_tuple (CN (pA7 (YO (own:=["word"]) (C8:=[]) (js:=[]) (cn (xo:=AH) rfl) rfl (XH (UM (BX 1) (Q0 DY) T8)) (λC s H fp=>(RQ 0)) (λC s H fp=>VR) (λC s H fp=>(NX ME (hr.mono 'd') (CN (BX 0) DE))))) DE)) DE))))
   (GU (OV (WZ (bF (NX SI (hr.mono 'd') (CN (BX 2) DE))))
   (H9 sX)
   OX)
   (H9 (K3 (BX 2))))))
def Tk:GX :=
 (l7 (FS (.nm 1) (g2 P4 (AR 0) (gC (.str " "))))
 (mM (gY (YV [(g2 FG (AR 1) (gC (.int 0)))] W2) (G9 Q1 [(g2 FG (AR 1) (gC (.int 0)))]) (jT (MQ (OI (AR 1) (AA (gC (.int 1))) AH)) 1 [] (.nm 0) JN (G9 ZP [(AR 0)]) [(AR 0)] qX)) (FS (.nm 2) (SU [(G9 Q1 [(g2 FG (AR 1) (gC (.int 0)))]),(gN TH [(K8 (MQ (OI (AR 1) (AA (gC (.int 1))) AH)) 1 [] (.nm 0) JN (G9 ZP [(AR 0)]))])]))
 (uH (M7 (P9 (G9 nA [(AR 2)]))) (nL [(gC (.str "what is written is no net"))]))))
def kK:List D->Out Ev:=rL 3 Tk
theorem zP4{K:AC}(Fn:Fun K "read_net" "read_net" z8 f fd)(T:Bt mg)(EN:WU P w K mg base C "read_number" 1 1 W2)(N4:WU P w K mg base C "read_lane" 2 1 qX)(k6:mg "NoText"=AA (.ref C))(Z:GL K C [.type "ValueError",.type "Exception",.type "BaseException",.type "object"] "ValueError.__new__"=AG)(DR:JK P w K mg base "read_number" 1 1 Q1)(SI:JK P w K mg base "is_net" 4 1 nA)(ME:JK P w K mg base "read_lane" 2 1 ZP):FnOk P w K mg base (IV P w C) 5 f fd ["text"] (kN K C 1 kK) :=
 uG Fn IM λGE A outer s H E hr hh=>by
  have hu:=hr.units;unfold Tk
  exact(tU (MA (i:=1) IM.nd rfl (BO rfl) (ZN (BX 0) L9))
   (zYN (i:=2) (Dk (tP sD EN (hr.mono 'd') (CN (KC hu (BX 1) DY) DE)) (NX DR (hr.mono 'd') (CN (KC hu (BX 1) DY) DE)) (Rv T.b_tuple (Ph (own:=["word"]) (C8:=[]) (js:=[]) (cn (xo:=AH) rfl) (XH (UM (BX 1) (Q0 DY) T8)) (λC s H fp=>(RQ 0)) (λC s H fp=>VR) (λC s H fp=>(NX ME (hr.mono 'd') (CN (BX 0) DE))) N4 (hr.mono 'd') (λD s H fp=>(CN (BX 0) DE))))) (MA (i:=2) IM.nd rfl (BO rfl) (a7 (CN (NX DR (hr.mono 'd') (CN (KC hu (BX 1) DY) DE)) (CN (fT T.b_tuple (CN (pA7 (YO (own:=["word"]) (C8:=[]) (js:=[]) (cn (xo:=AH) rfl) rfl (XH (UM (BX 1) (Q0 DY) T8)) (λC s H fp=>(RQ 0)) (λC s H fp=>VR) (λC s H fp=>(NX ME (hr.mono 'd') (CN (BX 0) DE))))) DE)) DE))))
   (Mp (WZ (bF (NX SI (hr.mono 'd') (CN (BX 2) DE)))) (tZ FY Z k6 hh (CN L9 DE))) IM.nd rfl (BO rfl)))
def Ep(zBL:Mr):GS :=
 (E4 (L7 (P9 (V6 "tuple" (AR 1)))
 (E4 (L7 (LU (M7 (P9 (V6 "tuple" (AR 0)))) (gB (g2 IU (gN IG [(AR 0)]) (gN IG [(AR 1)]))))
 (IS (gC (.bl AB)))
 MS)
 (IS (gN XA [(K8 (nM (AR 0) (AR 1)) 2 [] (.tp [(.nm 0),(.nm 1)]) JN (G9 zBL [(AR 0),(AR 1)]))])))
 MS)
 (IS (jS (Ar (V6 "bool" (AR 0))) (g2 MJ (AR 0) (AR 1)))))
def zBL:Nat->Mr
 |0=>λ_=>.bad
 |n+1=>NR 2 (Ep (zBL n))
theorem zU5:FnScope ["found","due"] ["found","due"] (JO Es):=O8
theorem Sy{P:CF}{w:DJ}{K:AC}{mg:BL->Option AI}{base:D0}{f:AQ}{fd:JT}(Fn:Fun K "_law_is" "_law_is" Es f fd)(T:Bt mg)(hm:mg "_law_is"=AA (.ref f))(hb:Binds K fd ["found","due"] []) :∀n:Nat,FnOk P w K mg base LA (n+0) f fd ["found","due"] (MM K 2 (zBL n))
 |0=>fn_bad
 |n+1=>by
  have QK:JK P w K mg base "_law_is" (n+0) 2 (zBL n):=Fun.cal Fn (Sy Fn T hm hb  n) hm hb;have hl:n+1+0=(n+0)+1:=by lia
  rw[hl];show FnOk P w K mg base LA ((n+0)+1) f fd ["found","due"] (MM K 2 (NR 2 (Ep (zBL n))))
  exact PD Fn zU5 λGE A outer s H E hr=>by
   have hu:=hr.units;unfold Ep
   exact(GU (OV (bF (j7 uA T.b_isinstance T.b_tuple (by decide +kernel) (BX 1)))
   (GU (OV (VW.t (WY (WZ (bF (j7 uA T.b_isinstance T.b_tuple (by decide +kernel) (BX 0)))) (ZL (VM hu (SS T.b_len (CN (BX 0) DE)) (SS T.b_len (CN (BX 1) DE))))))
   (H9 (K3 fJ))
   OX)
   (H9 (K3 (sG rfl T.b_all (CN (pA7 (YO (own:=["one","other"]) (C8:=[]) (js:=[]) (cn (xo:=AH) rfl) rfl (Mq T.b_zip (BX 0) (BX 1)) (λC s H fp=>(mI rfl (YR (RQ 0) (YR (RQ 1) mZ)))) (λC s H fp=>VR) (λC s H fp=>(NX QK (hr.mono 'l') (CN (BX 0) (CN (BX 1) DE)))))) DE)))))
   OX)
   (H9 (K3 (sK (Xc (j7 Rm T.b_isinstance T.b_bool (by decide +kernel) (BX 0))) (pU (Gj hu (BX 0) (BX 1)))))))
def Tj:GS :=
 (E4 (FS (.nm 2) (gC .non))
 (E4 (FS (.nm 3) (J8 []))
 (E4 (l6 (FS (.nm 2) (fM cU W1 cW (AR 0) [(AR 1)])) (p7 kK bG kL (AR 0) [(AR 1)]) 3 4 [AB,AB,AB,AB,AB,AB,AG,AB,AB,AB,AG])
 (IS (nY (gB (g2 MJ (AR 3) (J8 []))) (AR 2) (AR 3))))))
def kJ:Mr:=NR 5 Tj
theorem KE:FnScope ["way","text","told","kinds","e"] ["way","text"] (JO Fe):=O8
theorem zOK{K:AC}(Fn:Fun K "_law_told" "_law_told" Fe f fd)(T:Bt mg){fk:AQ}(ts:TryS P w K mg base C WA fk [AB,AB,AB,AB,AB,AB,AG,AB,AB,AB,AG])(OZ:WU P w K mg base C "read_net" 5 1 kK)(GG:WU P w K mg base C "read_places" 2 1 bG)(M9:WU P w K mg base C "read_paper" 3 1 kL)(XX:JK P w K mg base "read_net" 5 1 cU)(HC:JK P w K mg base "read_places" 2 1 W1)(U5:JK P w K mg base "read_paper" 3 1 cW):FnOk P w K mg base LA 6 f fd ["way","text"] (MM K 2 kJ) :=
 PD Fn KE λGE A outer s H E hr=>by
  have hu:=hr.units;unfold Tj
  exact(GU (MA (i:=2) KE.nd rfl (BO rfl) YL)
   (GU (MA (i:=3) KE.nd rfl (BO rfl) (pA7 (QY DE)))
   (GU (yCT (ik:=3) (ie:=4) (MA (i:=2) KE.nd rfl (BO rfl) (Nx XX HC U5 (hr.mono 'd') (hr.mono 'd') (hr.mono 'd') (BX 0) (CN (BX 1) DE))) (yCS OZ GG M9 (hr.mono 'd') (hr.mono 'd') (hr.mono 'd') (BX 0) (CN (BX 1) DE)) ts.KK (hr.mono 'd') ts.hkf ts.hkk ts.hW ts.hx KE.nd rfl rfl 'd' rfl rfl)
   (H9 (K3 (uK (XE hu (BX 3) (pA7 (QY DE))) (BX 2) (BX 3)))))))
def Wi:GS :=
 (E4 (ZG (MQ (g2 IH (J8 [(G9 qY [(AR 0),(gC (.int 0))])]) (OI (AR 0) (AA (gC (.int 1))) (AA (gC (.int 20)))))) (.nm 1)
 (E4 (cP 2 (p9 qW [(AR 1),(gC (.int 0))]))
 (E4 (FS (.nm 3) (GT HA 2 [(gC (.int 3))]))
 (E4 (FS (.nm 4) (g2 FG (J8 [(gC (.int 0)),(gC (.int 1)),(gC (.int 1)),(gC (.int 2))]) (GT HA 2 [(gC (.int 4))])))
 (E4 (FS (.nm 5) (GT HA 2 [(gC (.int 16))]))
 (E4 (FS (.nm 6) (nY (gB (g2 MJ (AR 5) (gC (.int 0)))) (g2 FG (J8 [(gC (.str "")),(gC (.str " ")),(gC (.str "  ")),(gC (.str "-")),(gC (.str " / "))]) (GT HA 2 [(gC (.int 5))])) (g2 FG (GT qZ 2 []) (AR 3))))
 (E4 (ZG (aZ (AR 4)) (.nm 7)
 (FS (.nm 6) (GT nD 2 [(AR 6)])))
 (E4 (FS (.nm 8) (fM nH cX nI (AR 3) [(AR 6)]))
 (E4 (FS (.nm 9) (G9 kJ [(AR 3),(AR 6)]))
 (L7 (LU (YK (gB (g2 ZF (AR 8) (gC .non))) (gB (g2 IU (AR 9) (G9 uF [(gC (.int 6))])))) (YK (gB (g2 sI (AR 8) (gC .non))) (M7 (P9 (G9 (zBL 5) [(AR 9),(AR 8)])))))
 (IS (gC (.bl AB)))
 MS))))))))))
 (IS (gC (.bl AG))))
def m_law:Mr:=NR 10 Wi
theorem N3:FnScope ["script","cell","bag","way","bends","blank","text","turn","due","found"] ["script"] (JO hV):=O8
theorem yGQ{K:AC}(Fn:Fun K "law" "law" hV f fd)(T:Bt mg)(WH:JK P w K mg base "_law_well" 1 2 qW)(BK:JK P w K mg base "_law_take" 1 2 HA)(RF:JK P w K mg base "_law_net_read" 2 1 nH)(IQ:JK P w K mg base "_law_places_read" 2 1 cX)(PV:JK P w K mg base "_law_paper_read" 3 1 nI)(WI:JK P w K mg base "_law_told" 6 2 kJ)(WK:JK P w K mg base "_law_cell" 1 2 qY)(WL:JK P w K mg base "_law_bent" 3 2 nD)(SJ:JK P w K mg base "_law_written" 4 1 qZ)(WJ:JK P w K mg base "_law_only" 1 1 uF)(QK:JK P w K mg base "_law_is" 5 2 (zBL 5)):FnOk P w K mg base LA 7 f fd ["script"] (MM K 1 m_law) :=
 PD Fn N3 λGE A outer s H E hr=>by
  have hu:=hr.units;unfold Wi
  exact(GU (sW ID rfl (XH (NT (pA7 (QY (CN (NX WK (hr.mono 'd') (CN (BX 0) (CN DY DE))) DE))) (UM (BX 0) (Q0 DY) (Q0 DY)))) (bD (i:=1) N3.nd rfl (BO rfl))
   (GU (tJ (i:=2) N3.nd rfl (BO rfl) (yFH WH (hr.mono 'd') (CN (BX 1) (CN DY DE))))
   (GU (MA (i:=3) N3.nd rfl (BO rfl) (NL 2 BK (hr.mono 'd') (CN DY DE)))
   (GU (MA (i:=4) N3.nd rfl (BO rfl) (KC hu (pA7 (QY (CN DY (CN DY (CN DY (CN DY DE)))))) (NL 2 BK (hr.mono 'd') (CN DY DE))))
   (GU (MA (i:=5) N3.nd rfl (BO rfl) (NL 2 BK (hr.mono 'd') (CN DY DE)))
   (GU (MA (i:=6) N3.nd rfl (BO rfl) (uK (XE hu (BX 5) DY) (KC hu (pA7 (QY (CN L9 (CN L9 (CN L9 (CN L9 (CN L9 DE))))))) (NL 2 BK (hr.mono 'd') (CN DY DE))) (KC hu (NL 2 SJ (hr.mono 'd') DE) (BX 3))))
   (GU (sW ID rfl (z7 T.b_range (BX 4)) (bD (i:=7) N3.nd rfl (BO rfl))
   (H9 (MA (i:=6) N3.nd rfl (BO rfl) (NL 2 WL (hr.mono 'd') (CN (BX 6) DE)))))
   (GU (MA (i:=8) N3.nd rfl (BO rfl) (Nx RF IQ PV (hr.mono 'd') (hr.mono 'd') (hr.mono 'd') (BX 3) (CN (BX 6) DE)))
   (GU (MA (i:=9) N3.nd rfl (BO rfl) (NX WI (hr.mono 'd') (CN (BX 3) (CN (BX 6) DE))))
   (H9 (OV (VW.t (WY (VW.t (qC (Mv (BX 8) YL) (qO (VM hu (BX 9) (NX WJ (hr.mono 'd') (CN DY DE)))))) (ZL (VW.t (qC (yBR (BX 8) YL) (qO (WZ (bF (NX QK (hr.mono 'd') (CN (BX 9) (CN (BX 8) DE)))))))))))
   (H9 (K3 fJ))
   OX)))))))))))
   (H9 (K3 fJ)))
theorem mD{i j:Int}(h:0<j):T7 (.int i) (.int j)=.ok (.int (i % j)):=if_pos h
theorem Nv{i j:Int}(h:0<j/\j<2 ^ 200):l9 (.int i) (.int j)=.ok (.int (i / j)):=if_pos h
theorem Gy{i j:Int}(h:qN i\/qN j):XB (.int i) (.int j)=.ok (.int (i * j)):=if_pos h
theorem Gx{i j:Int}(h:0<=j/\j<=1000000/\i.natAbs<2 ^ 64):aY (.int i) (.int j)=.ok (.int (i ^ j.toNat)):=if_pos h
noncomputable def UJ(a b c n:Int)(u2 u3 u4:Sl):Ev:=[.own AG (.lst [.int a,.int b,.int c]),.val (.int n),u2,u3,u4]
theorem Nu{a b c n:Int}{u2 u3 u4:Sl}:XG [0] (gB (g2 YU (g2 FG (AR 0) (gC (.int 0))) (gC (.int 0)))) (UJ a b c n u2 u3 u4)=.ok (decide (0<a),UJ a b c n u2 u3 u4) :=
 cS (KD (DQ (DQ (x:=.lst [.int a,.int b,.int c]) (y:=.int 0) rfl rfl (d:=.int a) rfl) (y:=.int 0) rfl rfl))
theorem zYO{a b c n:Int}(ha:0<a)(hn:1<=n)(Z6:n<2 ^ 200) :
  HA [.own AG (.lst [.int a,.int b,.int c]),.val (.int n)]=.ok (AB,.int (a % n),.lst [.int (a / n),.int b,.int c]):=by
 have h1:0<n:=by lia
 have t:=Nu (a:=a) (b:=b) (c:=c) (n:=n) (u2:=.no) (u3:=.no) (u4:=.no);rw[decide_eq_true ha] at t
 exact K7 (QB (NW t (D7 (E1:=UJ a b c n (.val (.int (a % n))) .no .no) (KR (j5 (DQ (DQ (x:=.lst [.int a,.int b,.int c]) (y:=.int 0) rfl rfl (d:=.int a) rfl) (y:=.int n) rfl (mD h1)) rfl) rfl)
  (D7 (E1:=UJ (a / n) b c n (.val (.int (a % n))) .no .no) (z9 (i:=0) (E1:=UJ a b c n (.val (.int (a % n))) .no .no) (E2:=UJ a b c n (.val (.int (a % n))) .no .no) (t:=AG) (d:=.lst [.int a,.int b,.int c]) (k:=.int 0) (d':=.lst [.int (a / n),.int b,.int c]) rfl (j5 (DQ (DQ (x:=.lst [.int a,.int b,.int c]) (y:=.int 0) rfl rfl (d:=.int a) rfl) (y:=.int n) rfl (Nv {h1,Z6})) rfl) rfl rfl rfl) (KP (d:=.int (a % n)) rfl))))) rfl
def gX(b c:Int):Int:=(b+1000003 * c) % 2305843009213693951
def gW(b c:Int):Int:=(gX b c * gX b c+7919 * c ^ 2+5) % 2305843009213693951
theorem s64{i:Int}(h0:0<=i)(h:i<2305843009213693951):qN i:={by lia,by lia}
theorem zYR{a b c n:Int}(ha:¬0<a)(hc:0<=c)(Y2:c<1000000)(hn:1<=n)(Z6:n<2 ^ 200) :
  HA [.own AG (.lst [.int a,.int b,.int c]),.val (.int n)]=.ok (AB,.int (gW b (c+1) ^ 3 % 2305843009213693951 / 13 % n),.lst [.int a,.int b,.int (c+1)]):=by
 have h1:0<n:=by lia
 have m1:0<=gX b (c+1):=LS _ 'd';have m2:gX b (c+1)<2305843009213693951:=JI _ 'd';have m3:0<=gW b (c+1):=LS _ 'd';have m4:gW b (c+1)<2305843009213693951:=JI _ 'd';have t:=Nu (a:=a) (b:=b) (c:=c) (n:=n) (u2:=.no) (u3:=.no) (u4:=.no);rw[decide_eq_false ha] at t;have hp:(0:Int)<2305843009213693951:=by decide
 have bag:AR 0 (hide [0] (UJ a b (c+1) n .no .no .no))=.ok (.lst [.int a,.int b,.int (c+1)],hide [0] (UJ a b (c+1) n .no .no .no)):=rfl
 have s1:cT 0 (gC (.int 2)) (VL [0] (g2 IH (g2 FG (AR 0) (gC (.int 2))) (gC (.int 1)))) (UJ a b c n .no .no .no)=.ok (.nx (UJ a b (c+1) n .no .no .no)) :=
  z9 (i:=0) (E1:=UJ a b c n .no .no .no) (E2:=UJ a b c n .no .no .no) (t:=AG) (d:=.lst [.int a,.int b,.int c]) (k:=.int 2) (d':=.lst [.int a,.int b,.int (c+1)]) rfl (j5 (DQ (DQ (x:=.lst [.int a,.int b,.int c]) (y:=.int 2) rfl rfl (d:=.int c) rfl) (y:=.int 1) rfl rfl) rfl) rfl rfl rfl
 have s3:FS (.nm 4) (VL [0] (g2 T7 (g2 IH (g2 FG (AR 0) (gC (.int 1))) (g2 XB (gC (.int 1000003)) (g2 FG (AR 0) (gC (.int 2))))) (AR 3))) (UJ a b (c+1) n .no (.val (.int 2305843009213693951)) .no)=.ok (.nx (UJ a b (c+1) n .no (.val (.int 2305843009213693951)) (.val (.int (gX b (c+1)))))) :=
  KR (j5 (d:=.int (gX b (c+1))) (DQ (DQ (DQ (x:=.lst [.int a,.int b,.int (c+1)]) (y:=.int 1) rfl rfl (d:=.int b) rfl) (DQ (x:=.int 1000003) rfl (DQ (x:=.lst [.int a,.int b,.int (c+1)]) (y:=.int 2) rfl rfl (d:=.int (c+1)) rfl) (Gy (.inl {by decide,by decide}))) rfl) (y:=.int 2305843009213693951) rfl (mD hp)) rfl) rfl
 have s4:FS (.nm 4) (VL [0] (g2 T7 (g2 IH (g2 IH (g2 XB (AR 4) (AR 4)) (g2 XB (gC (.int 7919)) (g2 aY (g2 FG (AR 0) (gC (.int 2))) (gC (.int 2))))) (gC (.int 5))) (AR 3))) (UJ a b (c+1) n .no (.val (.int 2305843009213693951)) (.val (.int (gX b (c+1)))))=.ok (.nx (UJ a b (c+1) n .no (.val (.int 2305843009213693951)) (.val (.int (gW b (c+1)))))) :=
  KR (j5 (d:=.int (gW b (c+1))) (DQ (DQ (DQ (DQ (x:=.int (gX b (c+1))) (y:=.int (gX b (c+1))) rfl rfl (Gy (.inl (s64 m1 m2)))) (DQ (x:=.int 7919) rfl (DQ (DQ (x:=.lst [.int a,.int b,.int (c+1)]) (y:=.int 2) rfl rfl (d:=.int (c+1)) rfl) (y:=.int 2) rfl (Gx {by decide,by decide,by lia})) (Gy (.inl {by decide,by decide}))) rfl) (y:=.int 5) rfl rfl) (y:=.int 2305843009213693951) rfl (mD hp)) rfl) rfl
 have s5:IS (g2 T7 (g2 l9 (g2 T7 (g2 aY (AR 4) (gC (.int 3))) (AR 3)) (gC (.int 13))) (AR 1)) (UJ a b (c+1) n .no (.val (.int 2305843009213693951)) (.val (.int (gW b (c+1)))))=.ok (.rt AB (.int (gW b (c+1) ^ 3 % 2305843009213693951 / 13 % n)) (UJ a b (c+1) n .no (.val (.int 2305843009213693951)) (.val (.int (gW b (c+1)))))) :=
  KP (DQ (DQ (DQ (DQ (x:=.int (gW b (c+1))) (y:=.int 3) rfl rfl (Gx {by decide,by decide,by lia})) (y:=.int 2305843009213693951) rfl (mD hp)) (y:=.int 13) rfl (Nv {by decide,by decide})) (y:=.int n) rfl (mD h1))
 exact K7 (D7 (KO t rfl) (D7 s1 (D7 (E1:=UJ a b (c+1) n .no (.val (.int 2305843009213693951)) .no) rfl (D7 s3 (D7 s4 s5))))) rfl
def Bag(k:Nat)(d:D):Prop:=∃a b c:Int,d=.lst [.int a,.int b,.int c]/\0<=c/\c<=k
theorem Bag.mono{k':Nat}{d:D}(h:Bag k d)(l:k<=k'):Bag k' d:=by
 obtain⟨a,b,c,e,h0,h1⟩:=h;exact{a,b,c,e,h0,by lia}
theorem Dw{d:D}{n:Int}(B:Bag k d)(hk:k<900000)(hn:1<=n)(Z6:n<2 ^ 200) :
  ∃r d',HA [.own AG d,.val (.int n)]=.ok (AB,.int r,d')/\0<=r/\r<n/\Bag (k+1) d':=by
 obtain⟨a,b,c,rfl,h0,h1⟩:=B
 by_cases ha:0<a
 .exact{_,_,zYO ha hn Z6,LS _ 'l',JI _ 'l',_,_,_,rfl,h0,by lia}
 .exact{_,_,zYR ha h0 'l' hn Z6,LS _ 'l',JI _ 'l',_,_,_,rfl,by lia,by lia}
theorem yCW(n:Int):∃d,qW [.val (.int n),.val (.int 0)]=.ok (AG,d,.non)/\Bag 0 d:=by
 have hp:(0:Int)<2305843009213693951:=by decide
 have pw:∀E:Ev,g2 aY (gC (.int 10)) (gC (.int 18)) E=.ok (.int 1000000000000000000,E):=λE=>DQ (x:=.int 10) (y:=.int 18) rfl rfl (Gx {by decide,by decide,by decide});have t:gB (g2 kQ (AR 0) (g2 aY (gC (.int 10)) (gC (.int 18)))) [.val (.int n),.val (.int 0)]=.ok (decide (1000000000000000000<=n),[.val (.int n),.val (.int 0)]):=KD (DQ (x:=.int n) rfl (pw _) rfl)
 by_cases h:1000000000000000000<=n
 .rw[decide_eq_true h] at t
  exact{.lst [.int (n-1000000000000000000),.int (n % 2305843009213693951),.int 0],K7 (QB (NW t (Pa (RA (OW (DQ (x:=.int n) rfl (pw _) (d:=.int (n-1000000000000000000)) rfl) (OW (DQ (x:=.int n) (y:=.int 2305843009213693951) rfl rfl (mD hp)) (FK (d:=.int 0) rfl))) (show 3<10000 by decide))))) rfl,_,_,_,rfl,by decide,by decide}
 .rw[decide_eq_false h] at t
  exact{.lst [.int 0,.int (n % 2305843009213693951),.int 0],K7 (D7 (KO t rfl) (Pa (RA (OW (d:=.int 0) rfl (OW (DQ (x:=.int n) (y:=.int 2305843009213693951) rfl rfl (mD hp)) (FK (d:=.int 0) rfl))) (show 3<10000 by decide)))) rfl,_,_,_,rfl,by decide,by decide}
def VH(BD:Int)(ps:List (Int×Int)):D:=.tup [.int BD,.tup (ps.map HB)]
def yIZ(p:Int×Int):Int×Int:=(p.2,p.1)
structure Net(BD:Int)(ps:List (Int×Int)):Prop where
 m1:1<=BD
 m2:BD<=24
 len:ps.length<=120
 rg:∀p∈ps,0<=p.1/\p.1<BD/\0<=p.2/\p.2<BD/\p.1≠p.2
 pw:ps.Pairwise λa b=>UO a b=AG
def back(ps:List (Int×Int)):List (Int×Int):=ZJ (ps.map yIZ)
theorem qR(Ec:Ev)(k:Nat):∀(j:Nat) (E:Ev),cJ Ec k [] j E=E
 |_,[]=>rfl
 |j,s::E=>by
  rw[cJ,qR Ec k (j+1) E];cases s<;>rfl
theorem Nt{E:Ev}(h:E.length=2):∃x y,E=[x,y]:=by
 match E,h with
 |[x,y],_=>exact{x,y,rfl}
theorem yK8{ps:List (Int×Int)}(h:ps.Pairwise λa b=>UO a b=AG):ps.Pairwise λa b=>leP a b=AG :=
 h.imp λ{a b} e=>by
  simp only[leP,UO,decide_eq_true_eq,M0,decide_eq_false_iff_not] at *;lia
theorem zP7{a b:Int×Int}(h:leP a b=AG)(hn:a≠b):UO a b=AG:=by
 obtain⟨a1,a2⟩:=a;obtain⟨b1,b2⟩:=b;simp only[leP,UO,decide_eq_true_eq,M0,decide_eq_false_iff_not] at *;have:¬(a1=b1/\a2=b2):=λ⟨x,y⟩=>hn (by rw[x,y]);lia
theorem zYS{ps:List (Int×Int)}(h:ps.Nodup):(ZJ ps).Pairwise λa b=>UO a b=AG:=by
 have h2:(ZJ ps).Nodup:=(Ez ps).nodup_iff.mpr h;exact((Ro ps).and h2).imp λ{a b} e=>zP7 e.1 e.2
theorem zYT(ds:List α):XA [.lst (ds.map λ_=>.bl AG)]=.ok (.bl AG):=by
 have:YN (ds.map λ_=>D.bl AG)=AA (ds.map λ_=>AG):=by
  induction ds with
  |nil=>rfl
  |cons d ds ih=>simp[YN,ih]
 simp[XA,this]
theorem Go(xs:List α):PF xs (AA 1) AH=xs.drop 1:=by
 unfold PF HT.sIx
 cases xs with
 |nil=>simp
 |cons x xs=>simp
theorem tk{g:G}{E:Ev}{d:D}{n:Int}(h0:E[0]?=AA (.own AG d))(B:Bag k d)(hk:k<900000)(hg:g E=.ok (.int n,E))(hn:1<=n)(Z6:n<2 ^ 200) :
  ∃r d',GT HA 0 [g] E=.ok (.int r,E.set 0 (.own AG d'))/\0<=r/\r<n/\Bag (k+1) d':=by
 obtain⟨r,d',e,a,b,B'⟩:=Dw B hk hn Z6;exact{r,d',iG h0 (FK hg) h0 e,a,b,B'}
theorem Rt{α β:Type}(f:α->β):∀(l:List α) (i:Nat),(l.map f).eraseIdx i=(l.eraseIdx i).map f
 |[],_=>rfl
 |_::_,0=>rfl
 |a::l,i+1=>by simp[Rt f l i]
theorem Sx{α:Type}:∀{l:List α} {i:Nat} (h:i<l.length),(l[i]::l.eraseIdx i).Perm l
 |a::l,0,_=>.refl _
 |a::l,i+1,h=>by
  have:=Sx (l:=l) (i:=i) (by simpa using h);simp only[List.getElem_cons_succ,List.eraseIdx_cons_succ];exact(I0 _ _ _).trans (this.cons a)
theorem Pf{d:D}{xs:List Int}(B:Bag k d)(hx:xs.length<=1000)(hk:k<800000) :
  ∃(ys:List Int) (d':D),kM [.own AG d,.val (.lst (xs.map D.int))]=.ok (AB,.lst (ys.map D.int),d')/\ys.Perm xs/\Bag (k+xs.length) d':=by
 obtain⟨E',e,ys,d',rfl,hp,B'⟩:=Mo (t:=XG [2] (gB (g2 IU (AR 2) (J8 [])))) (g:=pS (ZI 3 fG [(ZI 2 j8 [(GT HA 0 [(VL [2] (gN IG [(AR 2)]))])])]))
  (λn E=>∃(rest JE:List Int) (d:D),E=[.own AG d,.val (.lst (xs.map D.int)),.own AB (.lst (rest.map D.int)),.own AB (.lst (JE.map D.int))]/\(JE++rest).Perm xs/\Bag (k+JE.length) d/\n=rest.length)
  (λE=>∃(JE:List Int) (d:D),E=[.own AG d,.val (.lst (xs.map D.int)),.own AB (.lst []),.own AB (.lst (JE.map D.int))]/\JE.Perm xs/\Bag (k+xs.length) d)
  (λn E hP=>by
   obtain⟨rest,JE,d,hE,hp,B,hn⟩:=hP;subst hE;have FP:=hp.length_eq;rw[BI] at FP
   have tw:XG [2] (gB (g2 IU (AR 2) (J8 []))) [.own AG d,.val (.lst (xs.map D.int)),.own AB (.lst (rest.map D.int)),.own AB (.lst (JE.map D.int))]=.ok (!(rest.map D.int).isEmpty,[.own AG d,.val (.lst (xs.map D.int)),.own AB (.lst (rest.map D.int)),.own AB (.lst (JE.map D.int))]) :=
    cS (KD (DQ (x:=.lst (rest.map D.int)) (y:=.lst []) rfl rfl (zA (Pls.ints 0 rest))))
   by_cases hr:rest=[]
   .subst hr
    rw[EH] at hp;exact .inl {_,tw,JE,d,rfl,hp,by rw[<-hp.length_eq];exact B}
   .have UZ:0<rest.length:=List.length_pos_iff.mpr hr
    have hg:VL [2] (gN IG [(AR 2)]) [.own AG d,.val (.lst (xs.map D.int)),.own AB (.lst (rest.map D.int)),.own AB (.lst (JE.map D.int))]=.ok (.int (rest.length:Int),[.own AG d,.val (.lst (xs.map D.int)),.own AB (.lst (rest.map D.int)),.own AB (.lst (JE.map D.int))]) :=
     j5 (NS (FK (d:=.lst (rest.map D.int)) rfl) (sE (AK _))) rfl
    obtain⟨r,d',et,r0,r1,B'⟩:=tk (g:=VL [2] (gN IG [(AR 2)])) (E:=[.own AG d,.val (.lst (xs.map D.int)),.own AB (.lst (rest.map D.int)),.own AB (.lst (JE.map D.int))]) rfl B 'l' hg 'l' 'l';have Ke:r.toNat<rest.length:=by lia
    have Kh:ZI 2 j8 [(GT HA 0 [(VL [2] (gN IG [(AR 2)]))])] [.own AG d,.val (.lst (xs.map D.int)),.own AB (.lst (rest.map D.int)),.own AB (.lst (JE.map D.int))]=.ok (.int rest[r.toNat],[.own AG d',.val (.lst (xs.map D.int)),.own AB (.lst ((rest.eraseIdx r.toNat).map D.int)),.own AB (.lst (JE.map D.int))]) :=
     Dn (i:=2) (f:=j8) (t:=AB) (xs:=rest.map D.int) (ds:=[.int r]) (x:=.int rest[r.toNat]) (Z9:=(rest.eraseIdx r.toNat).map D.int) rfl (FK et) rfl (by
      simp only[j8,AK,L2.guard];rw[if_pos {r0,r1,by lia},BA,BU Ke]
      simp[Rt])
    refine .inr {_,_,(rest.eraseIdx r.toNat).length,?_,Oz (Dn (i:=3) (f:=fG) (t:=AB) (xs:=JE.map D.int) (ds:=[.int rest[r.toNat]]) (x:=.non) (Z9:=(JE++[rest[r.toNat]]).map D.int) rfl (FK Kh) rfl (by
      simp only[fG,AK]
      rw[YM 'l'];simp)),?_,rest.eraseIdx r.toNat,JE++[rest[r.toNat]],d',rfl,?_,?_,rfl}
    .rw[tw]
     cases rest with
     |nil=>exact absurd rfl hr
     |cons a l=>rfl
    .rw[List.length_eraseIdx_of_lt Ke];lia
    .rw[DG]
     exact((Sx Ke).append_left JE).trans hp
    .rw[BI,EB,<-Nat.add_assoc];exact B') 100000 xs.length [.own AG d,.val (.lst (xs.map D.int)),.own AB (.lst (xs.map D.int)),.own AB (.lst [])] (RM (AV hx (CK _ _)))
  {xs,[],d,rfl,HL _,B,rfl}
 exact{ys,d',K7 (D7 (tE (d:=.lst (xs.map D.int)) rfl) (D7 (tE (d:=.lst []) rfl) (D7 e (KP (d:=.lst (ys.map D.int)) rfl)))) rfl,hp,B'}
noncomputable def UI(d:D)(DW:Int)(u2 u3 u4 u5 u6 u7 u8 u9 u10 u11:Sl):Ev:=[.own AG d,.val (.int DW),u2,u3,u4,u5,u6,u7,u8,u9,u10,u11]
theorem YG{xs:List Int}{ds:List D}{x:D}{i:Int}(h0:0<=i)(h:ds[i.toNat]?=AA x):FG (.lst ds) (.int i)=.ok x:=by
 exact jQ (iD h0 h)
theorem yK9{d:D}(B:Bag k d)(hk:k<800000)(h1:1<=DW)(h2:DW<=24) :
  ∃BD d',FS (.nm 2) (g2 FG (J8 [(AR 1),(g2 IH (gC (.int 1)) (GT HA 0 [(AR 1)])),(g2 IH (gC (.int 1)) (GT HA 0 [(gN iA [(gC (.int 7)),(AR 1)])]))]) (GT HA 0 [(gC (.int 3))]))
   (UI d DW .no .no .no .no .no .no .no .no .no .no)=.ok (.nx (UI d' DW (.val (.int BD)) .no .no .no .no .no .no .no .no .no))/\1<=BD/\BD<=DW/\Bag (k+3) d':=by
 obtain⟨a,d1,e1,a0,a1,B1⟩:=tk (g:=AR 1) (E:=UI d DW .no .no .no .no .no .no .no .no .no .no) rfl B (AM hk (CK _ _)) rfl h1 'l';obtain⟨b,d2,e2,b0,b1,B2⟩:=tk (g:=gN iA [(gC (.int 7)),(AR 1)]) (E:=UI d1 DW .no .no .no .no .no .no .no .no .no .no) (n:=if DW<7 then DW else 7) rfl B1 'l' rfl (by split<;>lia) (by split<;>lia);obtain⟨c,d3,e3,c0,c1,B3⟩:=tk (g:=gC (.int 3)) (E:=UI d2 DW .no .no .no .no .no .no .no .no .no .no) rfl B2 'l' rfl 'l' 'l';have hb:b<DW:=by split at b1<;>lia
 have J9:∃BD:Int,([D.int DW,.int (1+a),.int (1+b)])[c.toNat]?=AA (.int BD)/\1<=BD/\BD<=DW:=by
  have:c=0\/c=1\/c=2:=by lia
  rcases this with rfl|rfl|rfl
  .exact{DW,rfl,h1,HE _}
  .exact{1+a,rfl,by lia,by lia}
  .exact{1+b,rfl,by lia,by lia}
 obtain⟨BD,hm,m0,m1⟩:=J9;refine{BD,d3,KR (DQ (RA (OW (d:=.int DW) rfl (OW (DQ (x:=.int 1) rfl e1 (d:=.int (1+a)) rfl) (FK (DQ (x:=.int 1) rfl e2 (d:=.int (1+b)) rfl)))) (show 3<10000 by decide)) e3 (YG (xs:=[]) c0 hm)) rfl,m0,m1,B3}
theorem yLA{d:D}{kind:Int}(B:Bag k d)(hk:k<800000)(h1:1<=BD)(h2:BD<=24) :
  ∃wanted d',FS (.nm 4) (g2 FG (J8 [(gC (.int 0)),(gC (.int 1)),(GT HA 0 [(g2 IH (AR 2) (gC (.int 1)))]),(g2 IH (AR 2) (GT HA 0 [(g2 XB (gC (.int 5)) (AR 2))])),(gC (.int 120))]) (GT HA 0 [(gC (.int 5))]))
   (UI d DW (.val (.int BD)) (.val (.int kind)) .no .no .no .no .no .no .no .no)=.ok (.nx (UI d' DW (.val (.int BD)) (.val (.int kind)) (.val (.int wanted)) .no .no .no .no .no .no .no))/\0<=wanted/\wanted<=200/\Bag (k+3) d':=by
 obtain⟨a,d1,e1,a0,a1,B1⟩:=tk (g:=g2 IH (AR 2) (gC (.int 1))) (E:=UI d DW (.val (.int BD)) (.val (.int kind)) .no .no .no .no .no .no .no .no) rfl B (AM hk (CK _ _)) rfl 'l' 'l'
 have Ko:XB (.int 5) (.int BD)=.ok (.int (5 * BD)):=by
  simp only[XB,L2.guard];rw[if_pos (.inl {by decide,by decide})]
 obtain⟨b,d2,e2,b0,b1,B2⟩:=tk (g:=g2 XB (gC (.int 5)) (AR 2)) (E:=UI d1 DW (.val (.int BD)) (.val (.int kind)) .no .no .no .no .no .no .no .no) rfl B1 'l' (DQ (x:=.int 5) (y:=.int BD) rfl rfl Ko) 'l' 'l';obtain⟨c,d3,e3,c0,c1,B3⟩:=tk (g:=gC (.int 5)) (E:=UI d2 DW (.val (.int BD)) (.val (.int kind)) .no .no .no .no .no .no .no .no) rfl B2 'l' rfl 'l' 'l'
 have J9:∃w:Int,([D.int 0,.int 1,.int a,.int (BD+b),.int 120])[c.toNat]?=AA (.int w)/\0<=w/\w<=200:=by
  have:c=0\/c=1\/c=2\/c=3\/c=4:=by lia
  rcases this with rfl|rfl|rfl|rfl|rfl
  .exact{0,rfl,by decide,by decide}
  .exact{1,rfl,by decide,by decide}
  .exact{a,rfl,a0,by lia}
  .exact{BD+b,rfl,by lia,by lia}
  .exact{120,rfl,by decide,by decide}
 obtain⟨w,hw,w0,w1⟩:=J9;exact{w,d3,KR (DQ (RA (OW (d:=.int 0) rfl (OW (d:=.int 1) rfl (OW e1 (OW (DQ (x:=.int BD) rfl e2 (d:=.int (BD+b)) rfl) (FK (d:=.int 120) rfl))))) (show 5<10000 by decide)) e3 (YG (xs:=[]) c0 hw)) rfl,w0,w1,B3}
structure Ln(BD:Int)(kvs:List (List Int×D)):Prop where
 nd:(kvs.map (·.1)).Nodup
 rg:∀k∈kvs.map (·.1),∃a b:Int,k=[a,b]/\0<=a/\a<BD/\0<=b/\b<BD/\a≠b
theorem Rs(kvs:List (List Int×D))(k:List Int)(v:D):(YH kvs k v).map (·.1)=if k∈kvs.map (·.1) then kvs.map (·.1) else kvs.map (·.1)++[k]:=by
 unfold YH
 by_cases h:k∈kvs.map (·.1)
 .rw[if_pos h,if_pos]
  .rw[CT]
   refine PC λkv _=>?_;simp only[Function.comp];split<;>rfl
  .obtain⟨kv,Kt,e⟩:=BZ.mp h
   exact gT.mpr {kv,Kt,decide_eq_true e}
 .rw[if_neg h,if_neg]
  .simp
  .intro z
   obtain⟨kv,Kt,e⟩:=gT.mp z;exact h (BZ.mpr {kv,Kt,of_decide_eq_true e})
theorem Ln.put{kvs:List (List Int×D)}(L:Ln BD kvs){a b:Int}(h:0<=a/\a<BD/\0<=b/\b<BD/\a≠b)(v:D):Ln BD (YH kvs [a,b] v):=by
 constructor
 .rw[Rs]
  split
  .exact L.nd
  .rename_i hn
   rw[List.nodup_append];exact{L.nd,LC.mpr {by simp,UG},λp hp q hq=>by rw[BW.mp hq];exact λz=>hn (z▸hp)}
 .rw[Rs]
  split
  .exact L.rg
  .intro k hk
   rcases GN.mp hk with h'|h'
   .exact L.rg k h'
   .exact{a,b,BW.mp h',h}
theorem Nr{kvs:List (List Int×D)}{a b:Int}(h:kvs.length<10000):Gg (.dt kvs) (.tup [.int a,.int b]) (.bl AG)=.ok (.dt (YH kvs [a,b] (.bl AG))):=by
 exact YM h
abbrev Xs:GS:=L7 (gB (g2 T9 (AR 3) (gC (.int 3))))
 (cT 5 (SU [(g2 FG (J8 [(GT HA 0 [(AR 6)]),(g2 g8 (g2 g8 (AR 6) (gC (.int 1))) (GT HA 0 [(gN iA [(AR 6),(gC (.int 2))])])),(gC (.int 0))]) (AR 3)),(AR 6)]) (gC (.bl AG)))
 MS
section
variable{kind wanted:Int}
abbrev O7(d:D)(DW BD kind wanted:Int)(kvs:List (List Int×D))(u6 u7 u8 u9:Sl):Ev:=UI d DW (.val (.int BD)) (.val (.int kind)) (.val (.int wanted)) (.own AB (.dt kvs)) u6 u7 u8 u9 .no .no
theorem yI1{d:D}(B:Bag k d)(hk:k<800000)(h1:1<=BD)(h2:BD<=24)(o7:0<=kind) :
  ∃(d':D) (kvs:List (List Int×D)) (u6:Sl),ZG (sF (gC (.int 1)) (AR 2)) (.nm 6) Xs (O7 d DW BD kind wanted [] .no .no .no .no)=.ok (.nx (O7 d' DW BD kind wanted kvs u6 .no .no .no))/\Bag (k+48) d'/\Ln BD kvs/\kvs.length<=24:=by
 obtain⟨E',e,d',kvs,u6,rfl,B',L,hl⟩:=zB (gi:=sF (gC (.int 1)) (AR 2)) (t:=.nm 6) (g:=Xs) (E:=O7 d DW BD kind wanted [] .no .no .no .no)
  (λi E=>∃(d':D) (kvs:List (List Int×D)) (u6:Sl),E=O7 d' DW BD kind wanted kvs u6 .no .no .no/\Bag (k+2 * i) d'/\Ln BD kvs/\kvs.length<=i) (yCJ (i:=1) (j:=BD) rfl rfl {{by decide,by decide},by lia,by lia}) {d,[],.no,rfl,B,{UG,λ_ h=>by simp at h},AO _}
  (λi x E hx hP=>by
   obtain⟨d,kvs,u6,hE,B,L,hl⟩:=hP;subst hE;have hi:=(AX.mp hx).1;simp only[UK,AK,JZ] at hi;simp only[UK] at hx;rw[BA,List.getElem?_range hi] at hx;obtain rfl:=BV hx;obtain⟨p,hp⟩:∃p:Int,p=1+(i:Int):={_,rfl};show ∃E1,UA (Tg.nm 6) (.int (1+(i:Int))) (O7 d DW BD kind wanted kvs u6 Sl.no Sl.no Sl.no)=Out.ok E1/\_;rw[<-hp];refine{_,rfl,?_}
   by_cases Zv:kind<3
   .obtain⟨a,d1,e1,a0,a1,B1⟩:=tk (g:=AR 6) (E:=O7 d DW BD kind wanted kvs (.val (.int p)) .no .no .no) (n:=p) rfl B 'l' rfl 'l' 'l'
    obtain⟨b,d2,e2,b0,b1,B2⟩:=tk (g:=gN iA [(AR 6),(gC (.int 2))]) (E:=O7 d1 DW BD kind wanted kvs (.val (.int p)) .no .no .no) (n:=if 2<p then 2 else p) rfl B1 'l' rfl (by split<;>lia) (by split<;>lia)
    have J9:∃v:Int,([D.int a,.int (p-1-b),.int 0])[kind.toNat]?=AA (.int v)/\0<=v/\v<p:=by
     have:kind=0\/kind=1\/kind=2:=by lia
     rcases this with h|h|h
     .exact{a,by rw[h];rfl,a0,a1}
     .exact{p-1-b,by rw[h];rfl,by split at b1<;>lia,by lia}
     .exact{0,by rw[h];rfl,HE _,JH a0 a1}
    obtain⟨v,hv,v0,v1⟩:=J9;refine{_,NW (KD (DQ (x:=.int kind) (y:=.int 3) rfl rfl (d:=.bl AG) (by simp only[T9];rw[decide_eq_true Zv]))) (z9 (i:=5) (E1:=O7 d DW BD kind wanted kvs (.val (.int p)) .no .no .no) (E2:=O7 d2 DW BD kind wanted kvs (.val (.int p)) .no .no .no) (t:=AB) (d:=.dt kvs) (v:=.bl AG) rfl rfl (fQ (OW (DQ (RA (OW e1 (OW (DQ (x:=.int (p-1)) rfl e2 (d:=.int (p-1-b)) rfl) (FK (d:=.int 0) rfl))) (show 3<10000 by decide)) (y:=.int kind) rfl (YG (xs:=[]) o7 hv)) (FK (d:=.int p) rfl)) (show 2<10000 by decide)) rfl (Nr 'l')),d2,_,_,rfl,B2.mono 'l',L.put {v0,by lia,YD (JH a0 a1),by lia,Int.ne_of_lt v1} _,AV (Rh _ _ _) (ED hl (AO _))}
   .exact{_,KO (KD (DQ (x:=.int kind) (y:=.int 3) rfl rfl (d:=.bl AB) (by simp only[T9];rw[decide_eq_false Zv]))) rfl,d,kvs,_,rfl,B.mono 'l',L,AV hl (AY _ _)})
 simp only[UK,AK,JZ] at B' hl;exact{d',kvs,u6,e,B'.mono 'l',L,by lia}
abbrev Xr:GS:=(E4 (FS (.nm 8) (GT HA 0 [(AR 2)]))
 (E4 (FS (.nm 9) (g2 FG (J8 [(GT HA 0 [(AR 2)]),(g2 T7 (g2 IH (g2 IH (AR 8) (gC (.int 1))) (GT HA 0 [(gC (.int 2))])) (AR 2))]) (GT HA 0 [(gC (.int 2))])))
 (L7 (XG [5] (YK (gB (g2 IU (AR 8) (AR 9))) (gB (g2 T9 (gN IG [(AR 5)]) (gC (.int 120))))))
 (cT 5 (SU [(AR 8),(AR 9)]) (gC (.bl AG)))
 MS)))
theorem yI2{d:D}{u6:Sl}{kvs:List (List Int×D)}(B:Bag k d)(hk:k<800000)(h1:1<=BD)(h2:BD<=24)(hw0:0<=wanted)(hw1:wanted<=200)(L:Ln BD kvs)(hl:kvs.length<=120) :
  ∃(d':D) (dL:List (List Int×D)) (u7 u8 u9:Sl),ZG (aZ (AR 4)) (.nm 7) Xr (O7 d DW BD kind wanted kvs u6 .no .no .no)=.ok (.nx (O7 d' DW BD kind wanted dL u6 u7 u8 u9))/\Bag (k+800) d'/\Ln BD dL/\dL.length<=120:=by
 obtain⟨E',e,d',dL,u7,u8,u9,rfl,B',L',i7⟩:=zB (gi:=aZ (AR 4)) (t:=.nm 7) (g:=Xr) (E:=O7 d DW BD kind wanted kvs u6 .no .no .no)
  (λi E=>∃(d':D) (kvs:List (List Int×D)) (u7 u8 u9:Sl),E=O7 d' DW BD kind wanted kvs u6 u7 u8 u9/\Bag (k+4 * i) d'/\Ln BD kvs/\kvs.length<=120) (Dp (j:=wanted) rfl {by lia,by lia}) {d,kvs,.no,.no,.no,rfl,B,L,hl}
  (λi x E hx hP=>by
   obtain⟨d,kvs,u7,u8,u9,hE,B,L,hl⟩:=hP;subst hE;have hi:=(AX.mp hx).1;simp only[UK,AK,JZ] at hi;obtain⟨a,d1,e1,a0,a1,B1⟩:=tk (g:=AR 2) (E:=O7 d DW BD kind wanted kvs u6 (.val x) u8 u9) (n:=BD) rfl B 'l' rfl (h1) 'l';obtain⟨b,d2,e2,b0,b1,B2⟩:=tk (g:=AR 2) (E:=O7 d1 DW BD kind wanted kvs u6 (.val x) (.val (.int a)) u9) (n:=BD) rfl B1 'l' rfl (h1) 'l';obtain⟨c,d3,e3,c0,c1,B3⟩:=tk (g:=gC (.int 2)) (E:=O7 d2 DW BD kind wanted kvs u6 (.val x) (.val (.int a)) u9) (n:=2) rfl B2 'l' rfl 'l' 'l';obtain⟨f,d4,e4,f0,f1,B4⟩:=tk (g:=gC (.int 2)) (E:=O7 d3 DW BD kind wanted kvs u6 (.val x) (.val (.int a)) u9) (n:=2) rfl B3 'l' rfl 'l' 'l';have m0:0<=(a+1+c) % BD:=LS _ (Int.ne_of_gt (JH a0 a1));have m1:(a+1+c) % BD<BD:=JI _ (JH a0 a1)
   have Kq:T7 (.int (a+1+c)) (.int BD)=.ok (.int ((a+1+c) % BD)):=by
    simp only[T7,L2.guard];rw[if_pos (JH a0 a1)]
   have J9:∃v:Int,([D.int b,.int ((a+1+c) % BD)])[f.toNat]?=AA (.int v)/\0<=v/\v<BD:=by
    have:f=0\/f=1:=by lia
    rcases this with h|h
    .exact{b,by rw[h];rfl,b0,b1}
    .exact{(a+1+c) % BD,by rw[h];rfl,m0,m1}
   obtain⟨v,hv,v0,v1⟩:=J9;refine{_,rfl,?_};have s1:FS (.nm 8) (GT HA 0 [(AR 2)]) (O7 d DW BD kind wanted kvs u6 (.val x) u8 u9)=.ok (.nx (O7 d1 DW BD kind wanted kvs u6 (.val x) (.val (.int a)) u9)):=KR e1 rfl
   have s2:FS (.nm 9) (g2 FG (J8 [(GT HA 0 [(AR 2)]),(g2 T7 (g2 IH (g2 IH (AR 8) (gC (.int 1))) (GT HA 0 [(gC (.int 2))])) (AR 2))]) (GT HA 0 [(gC (.int 2))])) (O7 d1 DW BD kind wanted kvs u6 (.val x) (.val (.int a)) u9)=.ok (.nx (O7 d4 DW BD kind wanted kvs u6 (.val x) (.val (.int a)) (.val (.int v)))) :=
    KR (DQ (RA (OW e2 (FK (DQ (DQ (x:=.int (a+1)) rfl e3 (d:=.int (a+1+c)) rfl) (y:=.int BD) rfl Kq))) (show 2<10000 by decide)) e4 (YG (xs:=[]) f0 hv)) rfl
   have t1:gB (g2 IU (AR 8) (AR 9)) (hide [5] (O7 d4 DW BD kind wanted kvs u6 (.val x) (.val (.int a)) (.val (.int v))))=.ok (decide (a≠v),hide [5] (O7 d4 DW BD kind wanted kvs u6 (.val x) (.val (.int a)) (.val (.int v)))) :=
    KD (DQ (x:=.int a) (y:=.int v) rfl rfl (mW _ _))
   have t2:gB (g2 T9 (gN IG [(AR 5)]) (gC (.int 120))) (hide [5] (O7 d4 DW BD kind wanted kvs u6 (.val x) (.val (.int a)) (.val (.int v))))=.ok (decide ((kvs.length:Int)<120),hide [5] (O7 d4 DW BD kind wanted kvs u6 (.val x) (.val (.int a)) (.val (.int v)))) :=
    KD (DQ (x:=.int kvs.length) (NS (FK (d:=.dt kvs) rfl) rfl) (y:=.int 120) rfl rfl)
   by_cases Lr:a=v
   .rw[decide_eq_false (λz=>z Lr)] at t1
    exact{_,D7 s1 (D7 s2 (KO (cS (p8 t1)) rfl)),d4,kvs,_,_,_,rfl,B4.mono 'l',L,hl}
   rw[decide_eq_true Lr] at t1
   by_cases lC:(kvs.length:Int)<120
   .rw[decide_eq_true lC] at t2
    exact{_,D7 s1 (D7 s2 (NW (cS (j6 t1 t2)) (z9 (i:=5) (E1:=O7 d4 DW BD kind wanted kvs u6 (.val x) (.val (.int a)) (.val (.int v))) (E2:=O7 d4 DW BD kind wanted kvs u6 (.val x) (.val (.int a)) (.val (.int v))) (t:=AB) (d:=.dt kvs) (v:=.bl AG) (k:=.tup [.int a,.int v]) rfl rfl rfl rfl (Nr (RM (AV hl (CK _ _))))))),d4,_,_,_,_,rfl,B4.mono 'l',L.put {a0,a1,v0,v1,Lr} _,AV (Rh _ _ _) 'l'}
   .rw[decide_eq_false lC] at t2
    exact{_,D7 s1 (D7 s2 (KO (cS (j6 t1 t2)) rfl)),d4,kvs,_,_,_,rfl,B4.mono 'l',L,hl})
 simp only[UK,AK,JZ] at B';exact{d',dL,u7,u8,u9,e,B'.mono 'l',L',i7}
end
def ri(n:Nat):List Int:=(D4 n).map λ(j:Nat)=>(0:Int)+(j:Int)
theorem Cw(n:Nat):UK 0 n=(ri n).map D.int:=by simp[UK,ri]
theorem dB{x:Int}:x∈ri n↔0<=x/\x<n:=by
 unfold ri;constructor
 .intro h
  obtain⟨j,hj,rfl⟩:=BZ.mp h;have:=JY.mp hj;lia
 .rintro⟨a,b⟩
  exact BZ.mpr {x.toNat,JY.mpr 'l',by lia}
theorem yI3(n:Nat):(ri n).Nodup:=List.Pairwise.map _ (λa b h z=>h 'l') List.nodup_range
theorem mG(n:Nat):(ri n).length=n:=by simp[ri]
def V8(ys:List Int)(a:Int):Int:=ys.getD a.toNat 0
def pk(ys:List Int)(k:List Int):Int×Int:=match k with
 |[a,b]=>(V8 ys a,V8 ys b)
 |_=>(0,0)
theorem xT{ys:List Int}{a:Int}(h0:0<=a)(h:a.toNat<ys.length):FG (.lst (ys.map D.int)) (.int a)=.ok (.int (V8 ys a)):=by
 refine YG (xs:=[]) h0 ?_;rw[BA,BU h];simp[V8,h]
theorem Cv{ys:List Int}{a:Int}(h:a.toNat<ys.length):V8 ys a∈ys:=by
 have:V8 ys a=ys[a.toNat]:=by simp[V8,h]
 rw[this];exact F7 h
theorem Cu{ys:List Int}(hn:ys.Nodup){a b:Int}(a0:0<=a)(b0:0<=b)(ha:a.toNat<ys.length)(hb:b.toNat<ys.length)(e:V8 ys a=V8 ys b):a=b:=by
 have e1:V8 ys a=ys[a.toNat]:=by simp[V8,ha]
 have e2:V8 ys b=ys[b.toNat]:=by simp[V8,hb]
 rw[e1,e2] at e;rcases gO a.toNat b.toNat with h|h|h
 .exact absurd e (GF.mp hn _ _ ha hb h)
 .lia
 .exact absurd e.symm (GF.mp hn _ _ hb ha h)
theorem Sw:∀ps:List (Int×Int),pA9 (ps.map HB)=AG
 |[]=>by simp[pA9]
 |p::ps=>by simp[pA9,D.nod,HB,Sw ps]
section
variable{kind wanted:Int}
def Ot(ys:List Int)(d:D):List D:=match d with
 |.tup [.int a,.int b]=>[HB (V8 ys a,V8 ys b)]
 |_=>[]
theorem Qm{ys:List Int}:∀{ks:List (List Int)},(∀k∈ks,∃a b:Int,k=[a,b]/\0<=a/\a<BD/\0<=b/\b<BD/\a≠b)->(ks.map uL).flatMap (Ot ys)=(ks.map (pk ys)).map HB
 |[],_=>rfl
 |k::ks,h=>by
  obtain⟨a,b,rfl,_⟩:=h k AU;simp only[A1,FU,Qm λk hk=>h k (AS _ hk)]
  rfl
theorem fO{x:Int}(h:n=BD.toNat)(h0:0<=x)(h1:x<BD):x.toNat<n:=by lia
theorem yCX{d:D}(B:Bag k d)(hk:k<700000)(h1:1<=DW)(h2:DW<=24) :
  ∃(BD:Int) (ps:List (Int×Int)) (OQ:Int) (d':D),uD [.own AG d,.val (.int DW)]=.ok (AB,.tup [VH BD ps,.int OQ],d')/\Net BD ps/\BD<=DW/\0<=OQ/\OQ<BD/\Bag (k+1000) d':=by
 obtain⟨BD,d1,e1,m1,m2,B1⟩:=yK9 B (AM hk (CK _ _)) h1 h2;obtain⟨kind,d2,e2,k0,k1,B2⟩:=tk (g:=gC (.int 4)) (E:=UI d1 DW (.val (.int BD)) .no .no .no .no .no .no .no .no .no) rfl B1 'l' rfl 'l' 'l';obtain⟨wanted,d3,e3,w0,w1,B3⟩:=yLA (DW:=DW) (BD:=BD) (kind:=kind) B2 'l' m1 (OG m2 h2);obtain⟨d4,kvs,u6,e4,B4,L4,l4⟩:=yI1 (DW:=DW) (BD:=BD) (kind:=kind) (wanted:=wanted) B3 'l' m1 (OG m2 h2) k0;obtain⟨d5,kvs,u7,u8,u9,e5,B5,L5,l5⟩:=yI2 (DW:=DW) (BD:=BD) (kind:=kind) (wanted:=wanted) (u6:=u6) B4 'l' m1 (OG m2 h2) w0 w1 L4 (AV l4 (CK _ _));obtain⟨ys,d6,e6,hp,B6⟩:=Pf (xs:=ri BD.toNat) B5 (by rw[mG];lia) 'l';have dR:ys.length=BD.toNat:=by rw[hp.length_eq,mG]
 have Jz:ys.Nodup:=hp.nodup_iff.mpr (yI3 _);have Ka:∀x,x∈ys->0<=x/\x<BD:=λx hx=>by have:=dB.mp (hp.mem_iff.mp hx);lia
 rw[mG] at B6
 have s6:FS (.nm 10) (GT kM 0 [(rP (AR 2))]) (O7 d5 DW BD kind wanted kvs u6 u7 u8 u9)=.ok (.nx (UI d6 DW (.val (.int BD)) (.val (.int kind)) (.val (.int wanted)) (.own AB (.dt kvs)) u6 u7 u8 u9 (.val (.lst (ys.map D.int))) .no)):=by
  refine KR (iG (ds:=[.lst ((ri BD.toNat).map D.int)]) (E1:=O7 d5 DW BD kind wanted kvs u6 u7 u8 u9) (t:=AG) (d:=d5) rfl (FK (EM (a:=(.int BD,O7 d5 DW BD kind wanted kvs u6 u7 u8 u9)) rfl ?_)) rfl e6) rfl;simp only[L2.guard];rw[if_pos {by lia,by lia},Cw]
 obtain⟨a,d7,e7,a0,a1,B7⟩:=tk (g:=AR 2) (E:=UI d6 DW (.val (.int BD)) (.val (.int kind)) (.val (.int wanted)) (.own AB (.dt kvs)) u6 u7 u8 u9 (.val (.lst (ys.map D.int))) .no) (n:=BD) rfl B6 'l' rfl (m1) 'l';obtain⟨c,d8,e8,c0,c1,B8⟩:=tk (g:=gC (.int 3)) (E:=UI d7 DW (.val (.int BD)) (.val (.int kind)) (.val (.int wanted)) (.own AB (.dt kvs)) u6 u7 u8 u9 (.val (.lst (ys.map D.int))) .no) (n:=3) rfl B7 'l' rfl 'l' 'l';have hz:(0:Int).toNat<ys.length:=by rw[dR];lia
 have Z3:=Ka _ (Cv (ys:=ys) (a:=0) hz)
 have J9:∃g:Int,([D.int (V8 ys 0),.int (V8 ys 0),.int a])[c.toNat]?=AA (.int g)/\0<=g/\g<BD:=by
  have:c=0\/c=1\/c=2:=by lia
  rcases this with h|h|h
  .exact{_,by rw[h];rfl,Z3.1,Z3.2}
  .exact{_,by rw[h];rfl,Z3.1,Z3.2}
  .exact{a,by rw[h];rfl,a0,a1}
 obtain⟨OQ,hg,g0,g1⟩:=J9;obtain⟨E9,Z8⟩:∃E9,E9=UI d8 DW (.val (.int BD)) (.val (.int kind)) (.val (.int wanted)) (.own AB (.dt kvs)) u6 u7 u8 u9 (.val (.lst (ys.map D.int))) (.val (.int OQ)):={_,rfl}
 have s7:FS (.nm 11) (g2 FG (J8 [(g2 FG (AR 10) (gC (.int 0))),(g2 FG (AR 10) (gC (.int 0))),(GT HA 0 [(AR 2)])]) (GT HA 0 [(gC (.int 3))])) (UI d6 DW (.val (.int BD)) (.val (.int kind)) (.val (.int wanted)) (.own AB (.dt kvs)) u6 u7 u8 u9 (.val (.lst (ys.map D.int))) .no)=.ok (.nx E9):=by
  rw[Z8];exact KR (DQ (RA (OW (DQ (x:=.lst (ys.map D.int)) (y:=.int 0) rfl rfl (xT 'd' hz)) (OW (DQ (x:=.lst (ys.map D.int)) (y:=.int 0) rfl rfl (xT 'd' hz)) (FK e7))) (show 3<10000 by decide)) e8 (YG (xs:=[]) c0 hg)) rfl
 obtain⟨qs,i5⟩:∃qs,qs=(kvs.map (·.1)).map (pk ys):={_,rfl}
 have xD:K8 (MQ (AR 5)) 2 [10] (.tp [(.nm 0),(.nm 1)]) JN (SU [(g2 FG (AR 2) (AR 0)),(g2 FG (AR 2) (AR 1))]) (hide [5] E9)=.ok (.lst (qs.map HB),hide [5] E9):=by
  have:=mX (gi:=MQ (AR 5)) (k:=2) (js:=[10]) (t:=.tp [(.nm 0),(.nm 1)]) (tt:=JN) (ge:=SU [(g2 FG (AR 2) (AR 0)),(g2 FG (AR 2) (AR 1))]) (E:=hide [5] E9) (E1:=hide [5] E9) (ds:=(kvs.map (·.1)).map uL) (Ot ys) (λE=>∃x y,E=[x,y,.val (.lst (ys.map D.int))]) (by rw[CT,Z8];rfl) (by rw[Z8];exact{_,_,rfl}) (by rw[AK,AK];lia) (λx hx E hE=>by
   obtain⟨ky,Ks,rfl⟩:=BZ.mp hx;obtain⟨p,q,rfl⟩:=hE;obtain⟨a,b,rfl,a0,a1,b0,b1,_⟩:=L5.rg ky Ks
   exact{_,rfl,AG,_,rfl,.inl {rfl,_,_,fQ (OW (DQ (x:=.lst (ys.map D.int)) (y:=.int a) rfl rfl (xT a0 (fO dR a0 a1))) (FK (DQ (x:=.lst (ys.map D.int)) (y:=.int b) rfl rfl (xT b0 (fO dR b0 b1))))) (show 2<10000 by decide),rfl,_,_,rfl}}) (λEc Cd=>by
   rw[Z8]
   have:∀(u:Sl) (j:Nat),j≠10->jR Ec 2 [10] j (WX [5] j u)=WX [5] j u:=λu j hj=>by
    cases u with
    |no=>rfl
    |val d=>rfl
    |own t d =>
     simp only[WX];split<;>rfl
   simp only[dD,hide,UI,iB,cJ,IJ,Nat.reduceAdd];rw[this u6 6 'd',this u7 7 'd',this u8 8 'd',this u9 9 'd']
   rfl)
  rw[this,Qm L5.rg,i5]
 have Kn:Net BD (ZJ qs):=by
  have pm:=Ez qs;refine{m1,OG m2 h2,by rw[pm.length_eq,i5,AK,AK];exact l5,λp hp=>?_,zYS ?_}
  .have hp:=pm.mem_iff.mp hp
   rw[i5] at hp;obtain⟨ky,Ks,rfl⟩:=BZ.mp hp;obtain⟨a,b,rfl,a0,a1,b0,b1,ab⟩:=L5.rg ky Ks;have ha:=Ka _ (Cv (ys:=ys) (a:=a) (fO dR a0 a1));have hb:=Ka _ (Cv (ys:=ys) (a:=b) (fO dR b0 b1));exact{ha.1,ha.2,hb.1,hb.2,λz=>ab (Cu Jz a0 b0 (fO dR a0 a1) (fO dR b0 b1) z)}
  .rw[i5]
   refine JX.mpr (List.Pairwise.imp_of_mem ?_ L5.nd);intro x y hx hy hxy z;obtain⟨a,b,rfl,a0,a1,b0,b1,ab⟩:=L5.rg x hx;obtain⟨a',b',rfl,a0',a1',b0',b1',ab'⟩:=L5.rg y hy;simp only[pk,Prod.mk.injEq] at z;exact hxy (by rw[Cu Jz a0 a0' (fO dR a0 a1) (fO dR a0' a1') z.1,Cu Jz b0 b0' (fO dR b0 b1) (fO dR b0' b1') z.2])
 refine{BD,ZJ qs,OQ,d8,K7 (E':=E9) (D7 e1 (D7 (KR e2 rfl) (D7 e3 (D7 (tE (d:=.dt []) rfl) (D7 e4 (D7 e5 (D7 s6 (D7 s7 (KP (j5 (d:=.tup [VH BD (ZJ qs),.int OQ]) (fQ (OW (fQ (OW (d:=.int BD) (by rw[Z8];rfl) (FK (NS (FK (NS (FK xD) (zPN qs))) rfl))) (show 2<10000 by decide)) (FK (d:=.int OQ) (by rw[Z8];rfl))) (show 2<10000 by decide)) ?_)))))))))) (by rw[Z8];rfl),Kn,m2,g0,g1,B8.mono 'l'};rw[Z8];simp only[sR,UI,VH,D.flat,pA8,D.nod,pA9,Sw]
 rfl
end
def Hv:D->Bool
 |.int _=>AG
 |_=>AB
theorem Ql(d:D):nG [.val d]=.ok (AB,.bl (Hv d),.non):=by cases d<;>rfl
noncomputable def bH(BD:Int):D->Bool
 |.int x=>decide (0<=x)&&decide (x<BD)
 |_=>AB
theorem Qk(BD:Int)(d:D):uE [.val (.int BD),.val d]=.ok (AB,.bl (bH BD d),.non):=by
 have w:=Ql d
 cases d with
 |int x =>
  refine K7 (E':=[.val (.int BD),.val (.int x)]) (KP (xU (E1:=[.val (.int BD),.val (.int x)]) (M3 (ds:=[.int x]) rfl w) ?_)) rfl
  by_cases h:0<=x
  .rw[bH,decide_eq_true h,DS]
   exact yZ (x:=.int 0) (y:=.int x) rfl rfl (uR h) (z:=.int BD) rfl rfl
  .rw[bH,decide_eq_false h,J1]
   exact Dm (x:=.int 0) (y:=.int x) rfl rfl (Bh h)
 |_=>exact K7 (KP (Hc (M3 (ds:=[_]) rfl w))) rfl
def R7(BD:Int):D->Option (Int×Int)
 |.tup [.int a,.int b]=>if(bH BD (.int a)&&(bH BD (.int b)&&decide (a≠b)))=AG then AA (a,b) else AH
 |_=>AH
theorem Nq(ds:List D):(∃x y,ds=[x,y])\/ds.length≠2:=by
 match ds with
 |[]=>exact .inr 's'
 |[_]=>exact .inr 's'
 |[x,y]=>exact .inl {x,y,rfl}
 |_::_::_::_=>exact .inr 's'
theorem yCY{ds:List D}(h:ds.length≠2):R7 BD (.tup ds)=AH:=by
 match ds,h with
 |[],_=>rfl
 |[x],_=>cases x<;>rfl
 |[x,y],h=>exact absurd rfl h
 |x::y::z::w,_=>cases x<;>first|rfl|(cases y<;>rfl)
theorem Qj{d:D}{p:Int×Int}(h:R7 BD d=AA p):d=HB p/\0<=p.1/\p.1<BD/\0<=p.2/\p.2<BD/\p.1≠p.2:=by
 unfold R7 at h;split at h
 .split at h
  .rename_i e
   cases h;simp only[bH,BE,decide_eq_true_eq] at e;exact{rfl,e.1.1,e.1.2,e.2.1.1,e.2.1.2,e.2.2}
  .cases h
 .cases h
theorem zYV{d:D}(h:∀ds,d≠.tup ds):rO (uP d) "tuple"=AB:=by
 cases d<;>first|rfl|exact absurd rfl (h _)
theorem An(d:D):(∃ds,d=.tup ds)\/∀ds,d≠.tup ds:=by
 cases d<;>first|exact .inl {_,rfl}|exact .inr (λ_ z=>by cases z)
theorem yGR{d:D}(h:∀ds,d≠.tup ds):R7 BD d=AH:=by
 cases d<;>first|rfl|exact absurd rfl (h _)
theorem Gw{E:Ev}{d:D}(hv:AR i E=.ok (d,E))(h:∀ds,d≠.tup ds){u:Ev->Out (Bool×Ev)}:LU (M7 (P9 (V6 "tuple" (AR i)))) u E=.ok (AG,E):=by
 refine cL (W0 (b:=AB) (cM (qL hv) ?_));rw[zYV h];rfl
theorem yR{E:Ev}{ds:List D}(hv:AR i E=.ok (.tup ds,E)):gB (g2 IU (gN IG [(AR i)]) (gC (.int 2))) E=.ok (decide (ds.length≠2),E):=by
 refine KD (DQ (x:=.int ds.length) (NS (FK hv) rfl) (y:=.int 2) rfl ?_);rw[mW];congr 2;exact decide_eq_decide.mpr 'l'
theorem sQ{E:Ev}{ds:List D}(hv:AR i E=.ok (.tup ds,E)){u:Ev->Out (Bool×Ev)}{r:Out (Bool×Ev)}(h:u E=r):LU (M7 (P9 (V6 "tuple" (AR i)))) u E=r :=
 RP (W0 (b:=AG) (cM (qL hv) rfl)) h
theorem yC0(BD:Int)(d:D):qT [.val (.int BD),.val d]=.ok (AB,.bl (R7 BD d).isSome,.non):=by
 rcases An d with⟨ds,rfl⟩|h
 .rcases Nq ds with⟨x,y,rfl⟩|hl
  .have t1:LU (M7 (P9 (V6 "tuple" (AR 1)))) (gB (g2 IU (gN IG [(AR 1)]) (gC (.int 2)))) [.val (.int BD),.val (.tup [x,y]),.no,.no]=.ok (AB,[.val (.int BD),.val (.tup [x,y]),.no,.no]):=sQ (ds:=[x,y]) rfl ((yR (i:=1) (ds:=[x,y]) rfl).trans rfl)
   have px:=Qk BD x;have py:=Qk BD y;refine K7 (D7 (KO t1 rfl) (D7 (E1:=[.val (.int BD),.val (.tup [x,y]),.val x,.val y]) (KR (d:=.tup [x,y]) rfl rfl) (KP (d:=.bl (R7 BD (.tup [x,y])).isSome) (E':=[.val (.int BD),.val (.tup [x,y]),.val x,.val y]) ?_))) rfl
   cases hx:bH BD x with
   |false =>
    rw[hx] at px
    have:R7 BD (.tup [x,y])=AH:=by
     cases x<;>first|rfl|(cases y<;>first|rfl|(simp only[R7,hx,J1];rfl))
    rw[this];exact Hc (M3 (ds:=[.int BD,x]) rfl px)
   |true =>
    rw[hx] at px;refine xU (M3 (ds:=[.int BD,x]) rfl px) ?_
    cases hy:bH BD y with
    |false =>
     rw[hy] at py
     have:R7 BD (.tup [x,y])=AH:=by
      cases x<;>first|rfl|(cases y<;>first|rfl|(simp only[R7,hx,hy,J1,DS];rfl))
     rw[this];exact Hc (M3 (ds:=[.int BD,y]) rfl py)
    |true =>
     rw[hy] at py;refine xU (M3 (ds:=[.int BD,y]) rfl py) ?_
     cases x with
     |int a =>
      cases y with
      |int b =>
       refine DQ (x:=.int a) (y:=.int b) rfl rfl ?_;rw[mW];simp only[R7,hx,hy,DS]
       by_cases e:a=b
       .simp[e]
       .simp[e]
      |_=>cases hy
     |_=>cases hx
  .rw[yCY hl]
   refine K7 (QB (E1:=[.val (.int BD),.val (.tup ds),.no,.no]) (NW (sQ (i:=1) rfl ((yR rfl).trans ?_)) (KP (d:=.bl AB) rfl))) rfl;rw[decide_eq_true hl];rfl
 .rw[yGR h]
  exact K7 (QB (E1:=[.val (.int BD),.val d,.no,.no]) (NW (Gw (i:=1) rfl h) (KP (d:=.bl AB) rfl))) rfl
theorem Qi{t:Tg}{ge:G}{E:Ev}{ds:List D}(f:D->D)(P:Ev->Prop)(hi:gi E=.ok (ds,E1))(h0:P (UL k js E1))(hl:ds.length<10000)
  (hs:∀d∈ds,∀E,P E->∃E1,UA t d E=.ok E1/\∃E3,ge E1=.ok (f d,E3)/\P E3)
  (hb:∀Ec,P Ec->dD E1 Ec k js=E1):K8 gi k js t JN ge E=.ok (.lst (ds.map f),E1):=by
 have:=mX (t:=t) (tt:=JN) (ge:=ge) (λd=>[f d]) P hi h0 hl (λd hd E hE=>by
  obtain⟨E1,e1,E3,e3,p⟩:=hs d hd E hE
  exact{E1,e1,AG,E1,rfl,.inl {rfl,_,_,e3,rfl,p}}) hb
 rw[this]
 congr 3
 clear this hi hl hs
 induction ds with
 |nil=>rfl
 |cons p ps ih=>simp only[A1,FU,ih];rfl
theorem all_map(p:α->Bool)(ds:List α):XA [.lst (ds.map λd=>.bl (p d))]=.ok (.bl (ds.all p)):=by
 have:YN (ds.map λd=>D.bl (p d))=AA (ds.map p):=by
  have:=toBls_map (ds.map p);rw[CT] at this;exact this
 simp[XA,this]
def YW(BD:Int):Int×Int->List D->Bool
 |_,[]=>AG
 |q,d::ds=>match R7 BD d with
  |none=>AB
  |some p=>HT.lexLt [q.1,q.2] [p.1,p.2]&&YW BD p ds
def fF:D->Bool
 |.tup [.int m,.tup ls]=>decide (1<=m/\m<=24)&&(decide (ls.length<=120)&&YW m (-1,-1) ls)
 |_=>AB
noncomputable def sC(ps:List (Int×Int)):Bool:=(ps.zip (ps.drop 1)).all λz=>HT.lexLt [z.1.1,z.1.2] [z.2.1,z.2.2]
theorem Os{BD:Int}:∀{ds:List D} {q:Int×Int},YW BD q ds=AG->(ds.all λd=>(R7 BD d).isSome)=AG
 |[],_,_=>rfl
 |d::ds,q,h=>by
  rw[YW] at h
  cases e:R7 BD d with
  |none=>rw[e] at h;cases h
  |some p =>
   rw[e] at h;simp only[BE] at h;rw[K1,e,Os h.2];rfl
theorem Np{BD:Int}:∀{ds:List D},(ds.all λd=>(R7 BD d).isSome)=AG->∃ps:List (Int×Int),ds=ps.map HB/\∀p∈ps,R7 BD (HB p)=AA p
 |[],_=>{[],rfl,λp h=>by simp at h}
 |d::ds,h=>by
  rw[K1,BE] at h;obtain⟨ps,e,hp⟩:=Np h.2;obtain⟨p,ep⟩:=UF.mp h.1;have:=(Qj ep).1;refine{p::ps,by rw[A1,<-e,this],λq hq=>?_};rcases A9.mp hq with e|hq
  .rw[e,<-this];exact ep
  .exact hp q hq
theorem Qh{BD:Int}:∀{ps:List (Int×Int)} (q:Int×Int),(∀p∈ps,R7 BD (HB p)=AA p)->YW BD q (ps.map HB)=sC (q::ps)
 |[],q,_=>rfl
 |p::ps,q,h=>by
  rw[A1,YW,h p AU];show(HT.lexLt [q.1,q.2] [p.1,p.2]&&YW BD p (ps.map HB))=_;rw[Qh p λr hr=>h r (AS _ hr)];unfold sC;simp[HD]
theorem zP8{ps:List (Int×Int)}(h:∀p∈ps,R7 BD (HB p)=AA p):sC ((-1,-1)::ps)=sC ps:=by
 cases ps with
 |nil=>rfl
 |cons p ps =>
  have:=(Qj (h p AU)).2.1;unfold sC;simp only[aU,OY,HD,K1]
  have l:HT.lexLt [-1,-1] [p.1,p.2]=AG:=by
   rw[HT.lexLt_cons,if_neg 'l'];exact decide_eq_true 'l'
  rw[l,DS]
theorem yC1{d:D}(h:∀ds,d≠.tup ds):fF d=AB:=by
 cases d<;>first|rfl|exact absurd rfl (h _)
theorem zYW{ds:List D}(h:ds.length≠2):fF (.tup ds)=AB:=by
 match ds,h with
 |[],_=>rfl
 |[x],_=>cases x<;>rfl
 |[x,y],h=>exact absurd rfl h
 |x::y::z::w,_=>cases x<;>first|rfl|(cases y<;>rfl)
theorem zYX{x y:D}(h:Hv x=AB):fF (.tup [x,y])=AB:=by
 cases x<;>first|rfl|cases h
theorem Qg{m:Int}{y:D}(h:∀ds,y≠.tup ds):fF (.tup [.int m,y])=AB:=by
 cases y<;>first|rfl|exact absurd rfl (h _)
theorem Oq{E:Ev}{m:Int}(hv:AR i E=.ok (.int m,E)):gB (SV OM OM (gC (.int 1)) (AR i) (gC (.int 24))) E=.ok (decide (1<=m/\m<=24),E):=by
 by_cases h:1<=m
 .refine KD ((yZ (x:=.int 1) (y:=.int m) rfl hv (uR h) (z:=.int 24) rfl rfl).trans ?_)
  congr 3
  exact decide_eq_decide.mpr {λz=>{h,z},λz=>z.2}
 .refine KD ((Dm (x:=.int 1) (y:=.int m) rfl hv (Bh h)).trans ?_)
  rw[decide_eq_false (λz=>h z.1)]
theorem yI4{E:Ev}{ls:List D}(hv:AR i E=.ok (.tup ls,E)):gB (g2 YU (gN IG [(AR i)]) (gC (.int 120))) E=.ok (!decide (ls.length<=120),E):=by
 refine KD ((DQ (x:=.int ls.length) (NS (FK hv) rfl) (y:=.int 120) rfl rfl).trans ?_)
 congr 3
 by_cases h:ls.length<=120
 .rw[decide_eq_true h];exact decide_eq_false 'l'
 .rw[decide_eq_false h];exact decide_eq_true 'l'
theorem yGS(d:D):nA [.val d]=.ok (AB,.bl (fF d),.non):=by
 rcases An d with⟨ds,rfl⟩|h
 .rcases Nq ds with⟨x,y,rfl⟩|hl
  .have t1:LU (M7 (P9 (V6 "tuple" (AR 0)))) (gB (g2 IU (gN IG [(AR 0)]) (gC (.int 2)))) [.val (.tup [x,y]),.no,.no]=.ok (AB,[.val (.tup [x,y]),.no,.no]):=sQ (ds:=[x,y]) rfl ((yR (i:=0) (ds:=[x,y]) rfl).trans rfl)
   obtain⟨E2,xH⟩:∃E2:Ev,E2=[.val (.tup [x,y]),.val x,.val y]:={_,rfl};have v1:AR 1 E2=.ok (x,E2):=by rw[xH];rfl
   have v2:AR 2 E2=.ok (y,E2):=by rw[xH];rfl
   have s1:∀{g:GS} {r:Out Fl},g E2=r->E4 (L7 (LU (M7 (P9 (V6 "tuple" (AR 0)))) (gB (g2 IU (gN IG [(AR 0)]) (gC (.int 2))))) (IS (gC (.bl AB))) MS) (E4 (FS (.tp [(.nm 1),(.nm 2)]) (AR 0)) g) [.val (.tup [x,y]),.no,.no]=r:=λh =>
    D7 (KO t1 rfl) (D7 (E1:=E2) (KR (d:=.tup [x,y]) rfl (by rw[xH];rfl)) h)
   have w:=Ql x
   cases hx:Hv x with
   |false =>
    rw[zYX hx];rw[hx] at w;exact K7 (E':=E2) (s1 (QB (NW (cL (W0 (b:=AB) (cM (M3 (ds:=[x]) (FK v1) w) rfl))) (KP (d:=.bl AB) rfl)))) rfl
   |true =>
    obtain⟨m,rfl⟩:∃m,x=.int m:=by cases x<;>first|exact{_,rfl}|cases hx
    have t2:LU (M7 (P9 (G9 nG [(AR 1)]))) (M7 (gB (SV OM OM (gC (.int 1)) (AR 1) (gC (.int 24))))) E2=.ok (!decide (1<=m/\m<=24),E2) :=
     RP (W0 (b:=AG) (cM (M3 (ds:=[.int m]) (FK v1) w) rfl)) (W0 (Oq v1))
    by_cases hm:1<=m/\m<=24
    .rw[decide_eq_true hm] at t2
     rcases An y with⟨ls,rfl⟩|hy
     .have t3:LU (M7 (P9 (V6 "tuple" (AR 2)))) (gB (g2 YU (gN IG [(AR 2)]) (gC (.int 120)))) E2=.ok (!decide (ls.length<=120),E2):=sQ v2 (yI4 v2)
      show _=Out.ok (AB,D.bl (decide (1<=m/\m<=24)&&(decide (ls.length<=120)&&YW m (-1,-1) ls)),D.non);rw[decide_eq_true hm,DS]
      by_cases hl:ls.length<=120
      .rw[decide_eq_true hl] at t3
       rw[decide_eq_true hl,DS]
       have hc:K8 (MQ (AR 2)) 1 [1] (.nm 0) JN (G9 qT [(AR 1),(AR 0)]) E2=.ok (.lst (ls.map λl=>.bl (R7 m l).isSome),E2):=by
        refine Qi (λl=>.bl (R7 m l).isSome) (λE=>∃u,E=[u,.val (.int m)]) (Do v2) (by rw[xH];exact{_,rfl}) (RM (AV hl (CK _ _))) (λl _ E hE=>?_) ((λEc q0=>by obtain⟨u,e⟩:=q0;exact by rw[xH,e];rfl));obtain⟨u,rfl⟩:=hE;exact{_,rfl,_,M3 (ds:=[.int m,l]) rfl (yC0 m l),_,rfl}
       have t4:M7 (P9 (gN XA [(K8 (MQ (AR 2)) 1 [1] (.nm 0) JN (G9 qT [(AR 1),(AR 0)]))])) E2=.ok (!(ls.all λl=>(R7 m l).isSome),E2) :=
        W0 (cM (NS (FK hc) (all_map _ _)) rfl)
       cases ha:ls.all λl=>(R7 m l).isSome with
       |false =>
        rw[ha] at t4
        have:YW m (-1,-1) ls=AB:=by
         cases e:YW m (-1,-1) ls with
         |false=>rfl
         |true=>rw[Os e] at ha;cases ha
        rw[this];exact K7 (E':=E2) (s1 (D7 (KO t2 rfl) (D7 (KO t3 rfl) (QB (NW t4 (KP (d:=.bl AB) rfl)))))) rfl
       |true =>
        rw[ha] at t4;obtain⟨ps,rfl,hp⟩:=Np ha;rw[Qh _ hp,zP8 hp]
        have hz:K8 (nM (AR 2) (OI (AR 2) (AA (gC (.int 1))) AH)) 2 [] (.tp [(.nm 0),(.nm 1)]) JN (g2 T9 (AR 0) (AR 1)) E2=.ok (.lst ((ps.zip (ps.drop 1)).map λz=>.bl (HT.lexLt [z.1.1,z.1.2] [z.2.1,z.2.2])),E2):=by
         have sl:OI (AR 2) (AA (gC (.int 1))) AH E2=.ok (.tup ((ps.drop 1).map HB),E2):=by
          refine EM v2 (EM (a:=(AA 1,E2)) rfl (EM (a:=(AH,E2)) rfl ?_));show Out.ok (D.tup (PF (ps.map HB) (AA 1) AH),E2)=_;rw[Go,List.map_drop]
         have zi:nM (AR 2) (OI (AR 2) (AA (gC (.int 1))) AH) E2=.ok ((ps.zip (ps.drop 1)).map λz=>.tup [HB z.1,HB z.2],E2):=by
          refine EM v2 (EM sl ?_);show Out.ok (hU (ps.map HB) ((ps.drop 1).map HB),E2)=_;unfold hU;rw[List.zip_map,CT];rfl
         have:=Qi (k:=2) (js:=[]) (t:=.tp [(.nm 0),(.nm 1)]) (ge:=g2 T9 (AR 0) (AR 1)) (λd=>match d with|.tup [a,b]=>(match T9 a b with|.ok r=>r|_=>.non)|_=>.non) (λE=>E.length=2) zi rfl (by
           rw[AK,List.length_zip];rw[AK] at hl;lia) (λd hd E hE=>by
          obtain⟨z,_,rfl⟩:=BZ.mp hd;obtain⟨u,v,rfl⟩:=Nt hE
          exact{_,rfl,_,DQ (x:=HB z.1) (y:=HB z.2) rfl rfl rfl,rfl}) λEc _=>qR Ec 2 0 E2
         rw[this,CT];rfl
        refine K7 (E':=E2) (s1 (D7 (KO t2 rfl) (D7 (KO t3 rfl) (D7 (KO t4 rfl) (KP (NS (FK hz) ?_)))))) rfl;exact all_map (λz:(Int×Int)×(Int×Int)=>HT.lexLt [z.1.1,z.1.2] [z.2.1,z.2.2]) _
      .rw[decide_eq_false hl] at t3
       rw[decide_eq_false hl,J1];exact K7 (E':=E2) (s1 (D7 (KO t2 rfl) (QB (NW t3 (KP (d:=.bl AB) rfl))))) rfl
     .rw[Qg hy]
      exact K7 (E':=E2) (s1 (D7 (KO t2 rfl) (QB (NW (Gw v2 hy) (KP (d:=.bl AB) rfl))))) rfl
    .rw[decide_eq_false hm] at t2
     have:fF (.tup [.int m,y])=AB:=by
      rcases An y with⟨ls,rfl⟩|hy
      .show(decide (1<=m/\m<=24)&&_)=AB
       rw[decide_eq_false hm];rfl
      .exact Qg hy
     rw[this];exact K7 (E':=E2) (s1 (QB (NW t2 (KP (d:=.bl AB) rfl)))) rfl
  .rw[zYW hl]
   refine K7 (QB (E1:=[.val (.tup ds),.no,.no]) (NW (sQ (i:=0) rfl ((yR rfl).trans ?_)) (KP (d:=.bl AB) rfl))) rfl;rw[decide_eq_true hl];rfl
 .rw[yC1 h]
  exact K7 (QB (E1:=[.val d,.no,.no]) (NW (Gw (i:=0) rfl h) (KP (d:=.bl AB) rfl))) rfl
theorem kI{gs:List G}{E:Ev}{ds:List D}(h1:M6 gs E=.ok (ds,E'))(h2:m (ds.map Sl.val)=.bad):G9 m gs E=.bad:=EM h1 (by show(m (ds.map Sl.val)).bind _=_;rw[h2];rfl)
theorem Dv{g:G}{t:Tg}{E:Ev}(h:g E=.bad):FS t g E=.bad:=by unfold FS;rw[h];rfl
theorem tD{g:G}{E:Ev}(h:g E=.bad):IS g E=.bad:=by unfold IS;rw[h];rfl
theorem mS{g:GS}{E:Ev}(h:g E=.bad):E4 g g' E=.bad:=by unfold E4;rw[h];rfl
theorem kH{g:G}{gs:List G}{E:Ev}(h:g E=.bad):M6 (g::gs) E=.bad:=by rw[M6,h];rfl
theorem Eo{g:G}{gs:List G}{E:Ev}{d:D}(h:g E=.ok (d,E1))(h2:M6 gs E1=.bad):M6 (g::gs) E=.bad:=by rw[M6,h];show(M6 gs E1).bind _=_;rw[h2];rfl
theorem qQ{gs:List G}{E:Ev}(h:M6 gs E=.bad):SU gs E=.bad:=by unfold SU;rw[h];rfl
theorem Xl{f:List D->Out D}{gs:List G}{E:Ev}(h:M6 gs E=.bad):gN f gs E=.bad:=by unfold gN;rw[h];rfl
theorem fn_bad{gb:GS}{sl:Ev}(h:gb (sl++DA (n-sl.length) .no)=.bad):NR n gb sl=.bad:=by unfold NR;rw[h];rfl
theorem Rr(f:α->β)(l:List α):l.flatMap (λx=>[f x])=l.map f:=by
 induction l with
 |nil=>rfl
 |cons x l ih=>rw[FU,ih];rfl
theorem nC{ge:G}{E:Ev}{ds:List D}(f:D->D)(hi:gi E=.ok (ds,E1))(hl:ds.length<10000)(he:∀d∈ds,ge [.val d]=.ok (f d,[.val d])):K8 gi 1 [] (.nm 0) JN ge E=.ok (.lst (ds.map f),E1):=by
 have:=mX (gi:=gi) (k:=1) (js:=[]) (t:=.nm 0) (tt:=JN) (ge:=ge) (E:=E) (E1:=E1) (ds:=ds) (λd=>[f d]) (λE=>∃u,E=[u]) hi {_,rfl} hl (λd hd E hE=>by
  obtain⟨u,rfl⟩:=hE
  exact{_,rfl,AG,_,rfl,.inl {rfl,f d,_,he d hd,rfl,_,rfl}}) (λEc _=>qR Ec 1 0 _)
 rw[this,Rr]
theorem zVE{E:Ev}{ds:List D}(p:D->Bool)(hi:gi E=.ok (ds,E1))(hl:ds.length<10000)(ht:∀d∈ds,tt [.val d]=.ok (p d,[.val d])):K8 gi 1 [] (.nm 0) tt (AR 0) E=.ok (.lst (ds.filter p),E1):=by
 have:=mX (gi:=gi) (k:=1) (js:=[]) (t:=.nm 0) (tt:=tt) (ge:=AR 0) (E:=E) (E1:=E1) (ds:=ds) (λd=>if p d then[d] else[]) (λE=>∃u,E=[u]) hi {_,rfl} hl (λd hd E hE=>by
  obtain⟨u,rfl⟩:=hE;refine{_,rfl,p d,_,ht d hd,?_}
  cases h:p d with
  |true=>exact .inl {rfl,d,[.val d],rfl,rfl,_,rfl}
  |false=>exact .inr {rfl,rfl,_,rfl}) (λEc _=>qR Ec 1 0 _)
 rw[this]
 congr 2
 clear this hi hl ht
 congr 1
 induction ds with
 |nil=>rfl
 |cons d ds ih =>
  rw[FU,ih,gS];cases p d<;>rfl
theorem toBls_map{α:Type}(p:α->Bool):∀l:List α,YN (l.map λx=>D.bl (p x))=AA (l.map p)
 |[]=>rfl
 |x::l=>by rw[A1,YN,toBls_map p l];rfl
def EQ(x:BL):Prop:=x.cps.all (·<128)=AG
theorem pZ(h:EQ x):HS (.str x)=AG:=by
 unfold HS PyData.strOk
 exact MO.mpr λi hi=>by
  have:=MO.mp h i hi;simp at this ⊢;lia
theorem Pl.str(n:Nat){x:BL}(h:EQ x):Pl n (.str x):={.str x,by rw[D.py,if_pos (pZ h)],B0 _,pZ h}
def W3(c:Nat):Bool:=decide (c∈[48,49,50,51,52,53,54,55,56,57])
theorem Xk(c:Nat):FM "0123456789" {#[c]}=W3 c:=by
 unfold FM;rw[StrLaws.found_one]
 rfl
def QE(x y:BL):Bool:=DO (.str x) (.str y)
theorem qK(hx:EQ x)(hy:EQ y):MJ (.str x) (.str y)=.ok (.bl (QE x y)):=by
 unfold MJ;rw[D.py,D.py,if_pos (pZ hx),if_pos (pZ hy)]
 rfl
theorem yY(hx:EQ x)(hy:EQ y):IU (.str x) (.str y)=.ok (.bl (!QE x y)):=by
 unfold IU;rw[D.py,D.py,if_pos (pZ hx),if_pos (pZ hy)]
 rfl
def ZD(x:BL):Bool:=decide (1<=x.length)&&decide (x.length<=6)&&x.cps.toList.all W3
def head(x:BL):BL:={#[x.cps.toList.headD 0]}
def OH(x:BL):Bool:=ZD x&&(QE x "0"||!QE (head x) "0")
def KQ(x:BL):Int:=((NumText.digitsVal x.cps.toList:Nat):Int)
theorem Di{c:Nat}(h:c<128):EQ {#[c]}:=by unfold EQ;simp[h]
theorem kE(hx:EQ x){c:Nat}(h:c∈x.cps.toList):c<128:=by
 unfold EQ at hx;rw[MO] at hx;obtain⟨i,hi,e⟩:=List.getElem_of_mem h;have:=hx i (by simpa using hi);rw[<-e];simpa using this
theorem jW:EQ "0":=by unfold EQ;decide +kernel
theorem qJ:x.cps.toList.length=x.length:=LI
theorem Op(hx:EQ x):cR (AR 0) [.val (.str x)]=.ok (W9 x,[.val (.str x)]):=by
 show L2.guard (x.cps.all (·<128)=AG) (Out.ok (W9 x,[Sl.val (D.str x)]))=_;exact if_pos hx
theorem zYY(hx:EQ x)(hl:x.length<10000):P9 (gN XA [(K8 (cR (AR 0)) 1 [] (.nm 0) JN (g2 kP (AR 0) (gC (.str "0123456789"))))]) [.val (.str x)]=.ok (x.cps.toList.all W3,[.val (.str x)]):=by
 have hi:cR (AR 0) [.val (.str x)]=.ok (W9 x,[.val (.str x)]):=Op hx
 have hc:=nC (ge:=g2 kP (AR 0) (gC (.str "0123456789"))) (λd=>match d with|.str z=>.bl (FM "0123456789" z)|_=>.non) hi (by unfold W9;rw[AK,qJ];exact hl) (λd hd=>by
  obtain⟨c,_,rfl⟩:=BZ.mp hd
  rfl)
 have e:(W9 x).map (λd=>match d with|.str z=>D.bl (FM "0123456789" z)|_=>D.non)=x.cps.toList.map λc=>D.bl (W3 c):=by
  unfold W9;rw[CT];exact PC λc _=>by show D.bl (FM "0123456789" {#[c]})=_;rw[Xk]
 rw[e] at hc;refine cM (d:=.bl (x.cps.toList.all W3)) (NS (FK hc) ?_) rfl;show(match YN (x.cps.toList.map λc=>D.bl (W3 c)) with|some bs=>Out.ok (D.bl (bs.all id))|none=>.bad)=_;rw[toBls_map];show Out.ok (D.bl ((x.cps.toList.map W3).all id))=_;rw[List.all_map];rfl
theorem yC2(hx:EQ x)(hl:x.length<10000):gB (g2 IU (K8 (cR (AR 0)) 1 [] (.nm 0) (gB (g2 mP (AR 0) (gC (.str "0123456789")))) (AR 0)) (J8 [])) [.val (.str x)]=.ok (!x.cps.toList.all W3,[.val (.str x)]):=by
 have hi:cR (AR 0) [.val (.str x)]=.ok (W9 x,[.val (.str x)]):=Op hx
 have hc:=zVE (tt:=gB (g2 mP (AR 0) (gC (.str "0123456789")))) (λd=>match d with|.str z=>!FM "0123456789" z|_=>AB) hi (by unfold W9;rw[AK,qJ];exact hl) (λd hd=>by
  obtain⟨c,_,rfl⟩:=BZ.mp hd
  rfl)
 have e:(W9 x).filter (λd=>match d with|.str z=>!FM "0123456789" z|_=>AB)=(x.cps.toList.filter λc=>!W3 c).map λc=>D.str {#[c]}:=by
  unfold W9;rw[List.filter_map]
  congr 1
  exact List.filter_congr λc _=>by show(!FM "0123456789" {#[c]})=_;rw[Xk]
 rw[e] at hc;have hp:Pls 0 ((x.cps.toList.filter λc=>!W3 c).map λc=>D.str {#[c]}):=Pls.of λc hc=>Pl.str 0 (Di (kE hx (LF.mp hc).1));refine KD (DQ hc (RA bE 'd') ?_);rw[zA hp]
 congr 2
 rw[gR]
 cases h:x.cps.toList.all W3 with
 |true =>
  rw[EK] at h;have:x.cps.toList.filter (λc=>!W3 c)=[]:=W5.mpr λc hc=>by rw[h c hc];decide
  rw[this];rfl
 |false =>
  have:∃c∈x.cps.toList,W3 c=AB:=by
   rw[MY] at h;obtain⟨c,hc,e⟩:=h;exact{c,hc,by simpa using e}
  obtain⟨c,hc,e⟩:=this;have m:c∈x.cps.toList.filter λc=>!W3 c:=LF.mpr {hc,by rw[e];rfl}
  cases q:x.cps.toList.filter λc=>!W3 c with
  |nil=>rw[q] at m;cases m
  |cons _ _=>rfl
theorem yX{g:G}(hl:x.length<10000)(hg:g [.val (.str x)]=.ok (.int 6,[.val (.str x)])):M7 (gB (SV OM OM (gC (.int 1)) (gN IG [(AR 0)]) g)) [.val (.str x)]=.ok (!(decide (1<=x.length)&&decide (x.length<=6)),[.val (.str x)]):=by
 have hn:gN IG [(AR 0)] [.val (.str x)]=.ok (.int (x.length:Int),[.val (.str x)]):=NS (FK (d:=.str x) rfl) (YM hl)
 by_cases h1:1<=x.length
 .by_cases h2:x.length<=6
  .rw[decide_eq_true h1,decide_eq_true h2]
   exact W0 (b:=AG) (KD (yZ (x:=.int 1) rfl hn (by show Out.ok (D.bl (decide ((1:Int)<=(x.length:Int))))=_;exact uR 'l') hg (by show Out.ok (D.bl (decide ((x.length:Int)<=6)))=_;exact uR 'l')))
  .rw[decide_eq_true h1,decide_eq_false h2]
   exact W0 (b:=AB) (KD (yZ (x:=.int 1) rfl hn (by show Out.ok (D.bl (decide ((1:Int)<=(x.length:Int))))=_;exact uR 'l') hg (by show Out.ok (D.bl (decide ((x.length:Int)<=6)))=_;exact Bh 'l')))
 .rw[decide_eq_false h1,J1]
  exact W0 (b:=AB) (KD (Dm (x:=.int 1) rfl hn (by show Out.ok (D.bl (decide ((1:Int)<=(x.length:Int))))=_;exact Bh 'l')))
theorem Cq{t:Ev->Out (Bool×Ev)}{g g':GX}{E:Ev}{r:Out Ev}(h:t E=.ok (AG,E1))(h2:g E1=r):pP t g g' E=r:=EM h ((if_pos rfl).trans h2)
theorem pY{t:Ev->Out (Bool×Ev)}{g g':GX}{E:Ev}{r:Out Ev}(h:t E=.ok (AB,E1))(h2:g' E1=r):pP t g g' E=r:=EM h ((if_neg BJ).trans h2)
theorem Wh{t:Ev->Out (Bool×Ev)}{g:GX}{E:Ev}{r:Out Ev}(h:t E=.ok (AG,E1))(h2:g E1=r):uH t g E=r:=EM h ((if_pos rfl).trans h2)
theorem tR{z:BL}{E:Ev}:nL [(gC (.str z))] E=.ok E:=EM (a:=([.str z],E)) rfl (YM (show 1<10000 by decide))
theorem Hf(hx:EQ x)(hl:x.length<10000):LU (M7 (gB (SV OM OM (gC (.int 1)) (gN IG [(AR 0)]) (gC (.int 6))))) (M7 (P9 (gN XA [(K8 (cR (AR 0)) 1 [] (.nm 0) JN (g2 kP (AR 0) (gC (.str "0123456789"))))]))) [.val (.str x)]=.ok (!ZD x,[.val (.str x)]):=by
 unfold ZD
 cases h:decide (1<=x.length)&&decide (x.length<=6) with
 |true=>exact RP (by rw[yX hl rfl,h];rfl) (W0 (zYY hx hl))
 |false=>exact cL (by rw[yX hl rfl,h];rfl)
theorem yGU(hx:EQ x)(hl:x.length<10000):LU (M7 (gB (SV OM OM (gC (.int 1)) (gN IG [(AR 0)]) (gC (.int 6))))) (gB (g2 IU (K8 (cR (AR 0)) 1 [] (.nm 0) (gB (g2 mP (AR 0) (gC (.str "0123456789")))) (AR 0)) (J8 []))) [.val (.str x)]=.ok (!ZD x,[.val (.str x)]):=by
 unfold ZD
 cases h:decide (1<=x.length)&&decide (x.length<=6) with
 |true=>exact RP (by rw[yX hl rfl,h];rfl) (yC2 hx hl)
 |false=>exact cL (by rw[yX hl rfl,h];rfl)
theorem Bf(hf:ZD x=AG):g2 FG (AR 0) (gC (.int 0)) [.val (.str x)]=.ok (.str (head x),[.val (.str x)]):=by
 unfold ZD at hf;simp only[BE,decide_eq_true_eq] at hf;obtain⟨⟨h1,h2⟩,_⟩:=hf;refine DQ (x:=.str x) (y:=.int 0) rfl rfl ?_;show RS x.length (match L2.atI x.cps.toList 0 with|some c=>Out.ok (D.str {#[c]})|none=>.bad)=_;rw[YM 'o'];have hl:x.cps.toList.length=x.length:=qJ;unfold head
 cases q:x.cps.toList with
 |nil=>rw[q] at hl;simp at hl;omega
 |cons c r=>rw[iD (x:=c) 'd' rfl];rfl
theorem zN(hx:EQ x)(hf:ZD x=AG):EQ (head x):=by
 unfold ZD at hf;simp only[BE,decide_eq_true_eq] at hf;have hl:x.cps.toList.length=x.length:=qJ;unfold head
 cases q:x.cps.toList with
 |nil=>rw[q] at hl;simp at hl;omega
 |cons c r=>exact Di (kE hx (by rw[q];exact AU))
theorem Cp(hf:ZD x=AG):gN pQ [(AR 0)] [.val (.str x)]=.ok (.int (KQ x),[.val (.str x)]):=by
 unfold ZD at hf;simp only[BE,decide_eq_true_eq,EK] at hf;obtain⟨⟨h1,h2⟩,h3⟩:=hf;have hl:x.cps.toList.length=x.length:=qJ
 have hd:NumText.AllDigits x.cps.toList:=λc hc=>by
  have:=h3 c hc;unfold W3 at this;simp only[decide_eq_true_eq,A9,D6,or_false] at this;omega
 have e:=intText_digits hd (λz=>by rw[z] at hl;simp at hl;omega) 'o';refine NS (FK (d:=.str x) rfl) ?_;show(match intText? x with|some n=>if x.length<=640 then Out.ok (D.int n) else .bad|none=>.bad)=_;rw[e];exact if_pos 'o'
theorem j4(hx:EQ x)(hl:x.length<10000)(h:OH x=AG):Q1 [.val (.str x)]=.ok (AB,.int (KQ x),.non):=by
 unfold OH at h;rw[BE] at h;obtain⟨hf,h⟩:=h;have t1:=Hf hx hl;rw[hf] at t1;refine K7 (D7 (KO t1 rfl) (D7 (KO (E1:=[.val (.str x)]) ?_ rfl) (KP (Cp hf)))) rfl;have e1:gB (g2 MJ (g2 FG (AR 0) (gC (.int 0))) (gC (.str "0"))) [.val (.str x)]=.ok (QE (head x) "0",[.val (.str x)]):=KD (DQ (Bf hf) (y:=.str "0") rfl (qK (zN hx hf) jW));have e2:gB (g2 IU (AR 0) (gC (.str "0"))) [.val (.str x)]=.ok (!QE x "0",[.val (.str x)]):=KD (DQ (x:=.str x) (y:=.str "0") rfl rfl (yY hx jW))
 cases q:QE (head x) "0" with
 |false=>rw[q] at e1;exact p8 e1
 |true =>
  rw[q] at e1 h;have:QE x "0"=AG:=by simpa using h
  rw[this] at e2;exact j6 e1 e2
theorem yQ(hx:EQ x)(hl:x.length<10000)(h:OH x=AB):Q1 [.val (.str x)]=.bad/\∃z,W2 [.str x]=.ok z:=by
 have t1:=Hf hx hl;unfold OH at h
 cases hf:ZD x with
 |false =>
  rw[hf] at t1;exact{fn_bad (mS (NW t1 rfl)),[.val (.str x)],Cq t1 tR}
 |true =>
  rw[hf] at t1 h;have h:QE x "0"=AB/\QE (head x) "0"=AG:=by simpa using h
  have e1:gB (g2 MJ (g2 FG (AR 0) (gC (.int 0))) (gC (.str "0"))) [.val (.str x)]=.ok (QE (head x) "0",[.val (.str x)]):=KD (DQ (Bf hf) (y:=.str "0") rfl (qK (zN hx hf) jW));have e2:gB (g2 IU (AR 0) (gC (.str "0"))) [.val (.str x)]=.ok (!QE x "0",[.val (.str x)]):=KD (DQ (x:=.str x) (y:=.str "0") rfl rfl (yY hx jW));rw[h.2] at e1;rw[h.1] at e2;have t2:=j6 e1 e2;exact{fn_bad (D7 (KO t1 rfl) (mS (NW t2 rfl))),[.val (.str x)],pY t1 (Wh t2 tR)}
def KN(x:BL):D:=if OH x then .int (KQ x) else .non
theorem Dh(hx:EQ x)(hl:x.length<10000):ZQ [.val (.str x)]=.ok (AB,KN x,.non):=by
 have t1:=yGU hx hl;unfold KN OH
 cases hf:ZD x with
 |false =>
  rw[hf] at t1;exact K7 (QB (NW t1 (KP (E':=[.val (.str x)]) (d:=.non) rfl))) rfl
 |true =>
  rw[hf] at t1;refine K7 (D7 (KO t1 rfl) (KP (E':=[.val (.str x)]) ?_)) rfl;have e1:gB (g2 IU (g2 FG (AR 0) (gC (.int 0))) (gC (.str "0"))) [.val (.str x)]=.ok (!QE (head x) "0",[.val (.str x)]):=KD (DQ (Bf hf) (y:=.str "0") rfl (yY (zN hx hf) jW));have e2:gB (g2 MJ (AR 0) (gC (.str "0"))) [.val (.str x)]=.ok (QE x "0",[.val (.str x)]):=KD (DQ (x:=.str x) (y:=.str "0") rfl rfl (qK hx jW))
  cases q:QE x "0" with
  |true =>
   rw[q] at e2;exact EM (cL e2) ((if_pos rfl).trans (Cp hf))
  |false =>
   rw[q] at e2
   cases q2:QE (head x) "0" with
   |true=>rw[q2] at e1;exact EM (RP e2 e1) ((if_neg BJ).trans rfl)
   |false=>rw[q2] at e1;exact EM (RP e2 e1) ((if_pos rfl).trans (Cp hf))
theorem Qf(x:BL):0<=KQ x:=fC _
theorem US:EQ x↔∀c∈x.cps.toList,c<128:={λh c hc=>kE h hc,λh=>by
 unfold EQ;rw[MO];intro i hi
 simpa using h x.cps[i] 's'}
theorem Oo(h:EQ x)(i j:Nat):EQ (VD x i j):=US.mpr λc hc=>by
 refine kE h ?_;unfold VD at hc;rw[HY] at hc;exact Y8 (Y7 hc) |> λz=>z
theorem Qe{x:BL}(h:EQ x)(w:Nat):∀(Ml:List Nat) (a:Nat),∀p∈StrLaws.partsFrom x w a Ml,EQ p
 |[],a,p,hp=>by rw[BW.mp hp];exact Oo h _ _
 |c::r,a,p,hp=>by
  rcases A9.mp hp with e|hp'
  .rw[e];exact Oo h _ _
  .exact Qe h w r _ p hp'
theorem SX{a:BL}(hx:EQ x)(h:a∈AZ x y):EQ a:=by
 unfold AZ at h;split at h
 .rw[BW.mp h];exact hx
 .split at h
  .rw[BW.mp h];exact hx
  .rw[UD] at h
   exact Qe hx _ _ _ a h
theorem R1{a:BL}(h:a∈AZ x y):a.length<=x.length:=PyProof.Rows.part_short h
section
variable{ge:G}{gs:List G}{mx:List D->Out Ev}{P:D->Prop}{f:D->D}
theorem Xj(h1:∀q,P q->ge [.val q]=.ok (f q,[.val q])):∀{ns:List D} {BS:List D} {u:Sl},(∀q∈ns,¬P q->ge [.val q]=.bad)->(∃q∈ns,¬P q)->BS.length+ns.length<10000->QX (.nm 0) JN (VN ge) ns (.lst BS) [u]=.bad
 |[],_,_,_,h,_=>by obtain⟨q,hq,_⟩:=h;cases hq
 |q::ns,BS,u,h2,h,hl=>by
  show((VN ge (.lst BS) [.val q]).bind λz=>QX (.nm 0) JN (VN ge) ns z.1 z.2)=.bad
  by_cases hp:P q
  .have e:VN ge (.lst BS) [.val q]=.ok (.lst (BS++[f q]),[.val q]):=by
    unfold VN;exact EM (h1 q hp) (YM (by rw[A0] at hl;lia))
   rw[e];refine Xj h1 (ns:=ns) (BS:=BS++[f q]) (u:=.val q) (λq' dY=>h2 q' (AS _ dY)) ?_ (by rw[BI,EB];rw[A0] at hl;lia);obtain⟨q',dY,hn⟩:=h;rcases A9.mp dY with e|e
   .exact absurd hp (e▸hn)
   .exact{q',e,hn}
  .have e:VN ge (.lst BS) [.val q]=.bad:=by
    unfold VN;rw[h2 q AU hp];rfl
   rw[e];rfl
theorem Xi:∀{ns:List D} {u:Sl},∃v,QX (.nm 0) JN (RZ ge gs mx) ns .non [u]=.ok (.non,[v])
 |[],u=>{u,rfl}
 |q::ns,u=>Xi (ns:=ns) (u:=.val q)
theorem On(h1:∀q,P q->ge [.val q]=.ok (f q,[.val q])):∀{ns:List D} {BS:List D} {u:Sl},(∀q∈ns,¬P q->ge [.val q]=.bad/\YV gs mx [.val q]=.ok [.val q])->(∃q∈ns,¬P q)->BS.length+ns.length<10000->∃v,QX (.nm 0) JN (RZ ge gs mx) ns (.lst BS) [u]=.ok (.non,[v])
 |[],_,_,_,h,_=>by obtain⟨q,hq,_⟩:=h;cases hq
 |q::ns,BS,u,h2,h,hl=>by
  show ∃v,((RZ ge gs mx (.lst BS) [.val q]).bind λz=>QX (.nm 0) JN (RZ ge gs mx) ns z.1 z.2)=.ok (.non,[v])
  by_cases hp:P q
  .have e:RZ ge gs mx (.lst BS) [.val q]=.ok (.lst (BS++[f q]),[.val q]):=by
    have e0:VN ge (.lst BS) [.val q]=.ok (.lst (BS++[f q]),[.val q]):=by
     unfold VN;exact EM (h1 q hp) (YM (by rw[A0] at hl;lia))
    unfold RZ;dsimp only;rw[e0]
   rw[e];refine On h1 (ns:=ns) (BS:=BS++[f q]) (u:=.val q) (λq' dY=>h2 q' (AS _ dY)) ?_ (by rw[BI,EB];rw[A0] at hl;lia);obtain⟨q',dY,hn⟩:=h;rcases A9.mp dY with e|e
   .exact absurd hp (e▸hn)
   .exact{q',e,hn}
  .obtain⟨b1,b2⟩:=h2 q AU hp
   have e:RZ ge gs mx (.lst BS) [.val q]=.ok (.non,[.val q]):=by
    have e0:VN ge (.lst BS) [.val q]=.bad:=by
     unfold VN;rw[b1];rfl
    unfold RZ;dsimp only;rw[e0];exact EM b2 rfl
   rw[e];exact Xi
theorem Om{E:Ev}{ds:List D}(hi:gi E=.ok (ds,E1))(hl:ds.length<10000)(h1:∀q,P q->ge [.val q]=.ok (f q,[.val q]))(h2:∀q∈ds,¬P q->ge [.val q]=.bad/\YV gs mx [.val q]=.ok [.val q])(h:∃q∈ds,¬P q) :
  K8 gi 1 [] (.nm 0) JN ge E=.bad/\jT gi 1 [] (.nm 0) JN ge gs mx E=.ok E1:=by
 have c1:=Xj h1 (ns:=ds) (BS:=[]) (u:=.no) (λq hq n=>(h2 q hq n).1) h (by simpa using hl);obtain⟨v,c2⟩:=On h1 (ns:=ds) (BS:=[]) (u:=.no) h2 h (by simpa using hl);refine{?_,?_}
 .unfold K8 sU
  rw[hi];show(QX (.nm 0) JN (VN ge) ds (.lst []) [.no]).bind _=_;rw[c1];rfl
 .unfold jT
  rw[hi];show(QX (.nm 0) JN (RZ ge gs mx) ds (.lst []) [.no]).bind _=_;rw[c2];rfl
end
section
variable{a b:BL}
theorem yI5{t:Ev->Out (Bool×Ev)}{g:GX}{E:Ev}(h:t E=.ok (AB,E1)):uH t g E=.bad:=EM h (if_neg BJ)
theorem Ol(hx:EQ x)(hl:x.length<10000)(h:OH x=AG):W2 [.str x]=.bad:=by
 unfold OH at h;rw[BE] at h;obtain⟨hf,h⟩:=h;have t1:=Hf hx hl;rw[hf] at t1;refine pY t1 (yI5 (E1:=[.val (.str x)]) ?_);have e1:gB (g2 MJ (g2 FG (AR 0) (gC (.int 0))) (gC (.str "0"))) [.val (.str x)]=.ok (QE (head x) "0",[.val (.str x)]):=KD (DQ (Bf hf) (y:=.str "0") rfl (qK (zN hx hf) jW));have e2:gB (g2 IU (AR 0) (gC (.str "0"))) [.val (.str x)]=.ok (!QE x "0",[.val (.str x)]):=KD (DQ (x:=.str x) (y:=.str "0") rfl rfl (yY hx jW))
 cases q:QE (head x) "0" with
 |false=>rw[q] at e1;exact p8 e1
 |true =>
  rw[q] at e1 h;have:QE x "0"=AG:=by simpa using h
  rw[this] at e2;exact j6 e1 e2
theorem kG(hl:x.length<9000)(hy:(y.length==0)=AB):P4 (.str x) (.str y)=.ok (.lst ((AZ x y).map D.str)):=if_pos {hy,hl}
theorem jV{gs:List G}{mx:List D->Out Ev}{E z:Ev}{ds:List D}(h:M6 gs E=.ok (ds,E1))(h2:mx ds=.ok z):YV gs mx E=.ok E1:=EM h (EM h2 rfl)
theorem Co{gs:List G}{mx:List D->Out Ev}{E:Ev}{ds:List D}(h:M6 gs E=.ok (ds,E1))(h2:mx ds=.bad):YV gs mx E=.bad:=EM h (by show(mx ds).bind _=_;rw[h2];rfl)
theorem bC{g:GS}{E:Ev}{r:Out Ev}(h:g E=.ok (.nx E1))(h2:gx E1=r):l7 g gx E=r:=EM h h2
theorem He{x1 x2:GX}{g1:G}{E:Ev}(h:x1 E=.ok E1):gY x1 g1 x2 E=.ok E1:=by unfold gY;rw[h]
theorem xS{x1 x2:GX}{g1:G}{E:Ev}{d:D}{r:Out Ev}(h:x1 E=.bad)(h1:g1 E=.ok (d,E1))(h2:x2 E1=r):gY x1 g1 x2 E=r:=by unfold gY;rw[h];exact EM h1 h2
theorem yV{l:List BL}{E:Ev}(hE:E=[.val (.str x),.val (.lst (l.map D.str))]):gB (g2 IU (gN IG [(AR 1)]) (gC (.int 2))) E=.ok (decide (l.length≠2),E):=by
 subst hE;refine KD (DQ (x:=.int (l.length:Int)) (y:=.int 2) (NS (FK (d:=.lst (l.map D.str)) rfl) (sE (by rw[AK]))) rfl ?_);rw[mW]
 by_cases h:l.length=2
 .rw[decide_eq_false 'l',decide_eq_false 'l']
 .rw[decide_eq_true 'l',decide_eq_true 'l']
theorem yI6{l:List BL}(h:l.length≠2):(match l with|[_,_]=>AG|_=>AB)=AB:=by
 match l,h with
 |[],_=>rfl
 |[_],_=>rfl
 |[_,_],h=>exact absurd rfl h
 |_::_::_::_,_=>rfl
theorem j3{l:List BL}(h:l.length=2):∃a b,l=[a,b]:=by
 match l,h with
 |[a,b],_=>exact{a,b,rfl}
theorem fW:g2 FG (AR 1) (gC (.int 0)) [.val (.str x),.val (.lst [.str a,.str b])]=.ok (.str a,[.val (.str x),.val (.lst [.str a,.str b])]):=DQ (x:=.lst [.str a,.str b]) (y:=.int 0) rfl rfl (jQ (iD 'd' rfl))
theorem rN:g2 FG (AR 1) (gC (.int 1)) [.val (.str x),.val (.lst [.str a,.str b])]=.ok (.str b,[.val (.str x),.val (.lst [.str a,.str b])]):=DQ (x:=.lst [.str a,.str b]) (y:=.int 1) rfl rfl (jQ (iD 'd' rfl))
def RO(x:BL):Bool:=match AZ x ">" with|[a,b]=>OH a&&OH b|_=>AB
def N2(x:BL):Int×Int:=match AZ x ">" with|[a,b]=>(KQ a,KQ b)|_=>(0,0)
theorem Oj(hl:x.length<9000):FS (.nm 1) (g2 P4 (AR 0) (gC (.str ">"))) [.val (.str x),.no]=.ok (.nx [.val (.str x),.val (.lst ((AZ x ">").map D.str))]):=KR (DQ (x:=.str x) (y:=.str ">") rfl rfl (kG hl (by decide +kernel))) rfl
theorem yGV(hx:EQ x)(hl:x.length<9000)(h:RO x=AG):ZP [.val (.str x)]=.ok (AB,HB (N2 x),.non):=by
 unfold RO at h;unfold N2;have t1:=yV (x:=x) (l:=AZ x ">") rfl;have ha:=Oj hl
 by_cases h2:(AZ x ">").length=2
 .obtain⟨a,b,e⟩:=j3 h2
  have pa:EQ a/\a.length<=x.length:={SX (y:=">") hx (by rw[e];simp),R1 (y:=">") (by rw[e];simp)};have pb:EQ b/\b.length<=x.length:={SX (y:=">") hx (by rw[e];simp),R1 (y:=">") (by rw[e];simp)};rw[e] at h t1 ha ⊢;dsimp only at h ⊢;rw[BE] at h;exact K7 (D7 ha (D7 (KO t1 rfl) (KP (fQ (OW (M3 (FK fW) (j4 pa.1 'l' h.1)) (FK (M3 (FK rN) (j4 pb.1 'l' h.2)))) (show 2<10000 by decide))))) rfl
 .exfalso
  revert h h2
  cases q:AZ x ">" with
  |nil=>intro h;cases h
  |cons a r=>cases r with
   |nil=>intro h;cases h
   |cons b r=>cases r with
    |nil=>intro _ h2;exact absurd rfl h2
    |cons c r=>intro h;cases h
theorem yGW(hx:EQ x)(hl:x.length<9000)(h:RO x=AB):ZP [.val (.str x)]=.bad/\∃z,qX [.str x]=.ok z:=by
 unfold RO at h;have t1:=yV (x:=x) (l:=AZ x ">") rfl;have ha:=Oj hl
 by_cases h2:(AZ x ">").length=2
 .obtain⟨a,b,e⟩:=j3 h2
  have pa:EQ a/\a.length<=x.length:={SX (y:=">") hx (by rw[e];simp),R1 (y:=">") (by rw[e];simp)};have pb:EQ b/\b.length<=x.length:={SX (y:=">") hx (by rw[e];simp),R1 (y:=">") (by rw[e];simp)};rw[e] at h t1 ha;dsimp only at h
  cases qa:OH a with
  |false =>
   obtain⟨b1,z,hz⟩:=yQ pa.1 'l' qa;exact{fn_bad (D7 ha (D7 (KO t1 rfl) (tD (qQ (kH (kI (FK fW) b1)))))),_,bC ha (pY t1 (He (jV (FK fW) hz)))}
  |true =>
   rw[qa] at h;have qb:OH b=AB:=by simpa using h
   obtain⟨b1,z,hz⟩:=yQ pb.1 'l' qb;have va:=M3 (FK (fW (x:=x) (a:=a) (b:=b))) (j4 pa.1 'l' qa);exact{fn_bad (D7 ha (D7 (KO t1 rfl) (tD (qQ (Eo va (kH (kI (FK rN) b1))))))),_,bC ha (pY t1 (xS (Co (FK fW) (Ol pa.1 'l' qa)) va (jV (FK rN) hz)))}
 .rw[decide_eq_true h2] at t1
  exact{fn_bad (D7 ha (mS (NW t1 rfl))),_,bC ha (Cq t1 tR)}
end
section
variable{a b:BL}
theorem Rq:EQ "-":=by unfold EQ;decide +kernel
def SR(x:BL):Bool:=QE x "-"||(AZ x " ").all OH
def cI(x:BL):List Int:=if QE x "-"=AG then[] else(AZ x " ").map KQ
def T6(x:BL):D:=if SR x=AG then .tup ((cI x).map D.int) else .non
def Hr(d:D):D:=match d with|.str z=>.int (KQ z)|_=>.non
theorem xW{E:Ev}(hl:x.length<9000)(hE:AR 0 E=.ok (.str x,E)):MQ (g2 P4 (AR 0) (gC (.str " "))) E=.ok ((AZ x " ").map D.str,E):=mV (DQ (x:=.str x) (y:=.str " ") hE rfl (kG hl (by decide +kernel)))
theorem qI(y:BL)(hl:x.length<9000):((AZ x y).map D.str).length<10000:=by
 rw[AK];have:=z6 x y;lia
theorem Dg(hx:EQ x):gB (g2 MJ (AR 0) (gC (.str "-"))) [.val (.str x)]=.ok (QE x "-",[.val (.str x)]):=KD (DQ (x:=.str x) (y:=.str "-") rfl rfl (qK hx Rq))
theorem yP(hx:EQ x)(hl:x.length<9000)(h:SR x=AG):W1 [.val (.str x)]=.ok (AB,.tup ((cI x).map D.int),.non):=by
 have t:=Dg hx;unfold SR at h;unfold cI
 cases q:QE x "-" with
 |true =>
  rw[q] at t;exact K7 (QB (NW t (KP (fQ bE (show 0<10000 by decide))))) rfl
 |false =>
  rw[q] at t h;rw[P3,EK] at h
  have hc:=nC (E:=[.val (.str x)]) (ge:=G9 Q1 [(AR 0)]) Hr (xW hl rfl) (qI " " hl) (λd hd=>by
   obtain⟨w,hw,rfl⟩:=BZ.mp hd;have:=R1 hw
   exact M3 (ds:=[.str w]) rfl (j4 (SX hx hw) 'l' (h w hw)))
  rw[CT] at hc;have e:(AZ x " ").map (Hr∘D.str)=((AZ x " ").map KQ).map D.int:=by rw[CT];rfl
  rw[e] at hc;rw[if_neg BJ];exact K7 (D7 (KO t rfl) (KP (NS (FK hc) rfl))) rfl
theorem Cn(hx:EQ x)(hl:x.length<9000)(h:SR x=AB):W1 [.val (.str x)]=.bad/\∃z,bG [.str x]=.ok z:=by
 have t:=Dg hx;unfold SR at h;rw[Bool.or_eq_false_iff] at h;obtain⟨q,h⟩:=h;rw[q] at t
 have ex:∃d∈(AZ x " ").map D.str,¬∃w,d=.str w/\w∈AZ x " "/\OH w=AG:=by
  rw[MY] at h;obtain⟨w,hw,e⟩:=h;refine{.str w,BZ.mpr {w,hw,rfl},λ⟨w',e1,_,e2⟩=>?_};cases e1;exact e e2
 obtain⟨c1,c2⟩:=Om (ge:=G9 Q1 [(AR 0)]) (gs:=[(AR 0)]) (mx:=W2) (P:=λd=>∃w,d=.str w/\w∈AZ x " "/\OH w=AG) (f:=Hr) (xW (E:=[.val (.str x)]) hl rfl) (qI " " hl) (λd hd=>by
   obtain⟨w,rfl,hw,e⟩:=hd;have:=R1 hw
   exact M3 (ds:=[.str w]) rfl (j4 (SX hx hw) 'l' e)) (λd hd n=>by
   obtain⟨w,hw,rfl⟩:=BZ.mp hd;have:=R1 hw
   have e:OH w=AB:=by
    cases z:OH w with
    |false=>rfl
    |true=>exact absurd {w,rfl,hw,z} n
   obtain⟨b1,z,hz⟩:=yQ (SX hx hw) 'l' e
   exact{kI (ds:=[.str w]) rfl b1,jV (ds:=[.str w]) rfl hz}) ex
 exact{fn_bad (D7 (KO t rfl) (tD (Xl (kH c1)))),_,bC (KO t rfl) c2}
theorem yC5(hx:EQ x)(hl:x.length<9000)(h:SR x=AG):bG [.str x]=.bad:=by
 have t:=Dg hx;unfold SR at h
 cases q:QE x "-" with
 |true =>
  rw[q] at t;exact EM (NW t (KP (fQ bE (show 0<10000 by decide)))) rfl
 |false =>
  rw[q] at t h;rw[P3,EK] at h;refine bC (KO t rfl) ?_
  have cl:∀(ws:List BL) (BS:List D) (u:Sl),(∀w∈ws,w∈AZ x " ")->BS.length+ws.length<10000->∃U6 v,QX (.nm 0) JN (RZ (G9 Q1 [(AR 0)]) [(AR 0)] W2) (ws.map D.str) (.lst BS) [u]=.ok (.lst U6,[v]):=by
   intro ws
   induction ws with
   |nil=>intro BS u _ _;exact{BS,u,rfl}
   |cons w ws ih =>
    intro BS u hm i7;have hw:=hm w AU;have:=R1 hw;have e0:VN (G9 Q1 [(AR 0)]) (.lst BS) [.val (.str w)]=.ok (.lst (BS++[.int (KQ w)]),[.val (.str w)]):=Dq (M3 (ds:=[.str w]) rfl (j4 (SX hx hw) 'l' (h w hw))) (by rw[A0] at i7;lia)
    have e1:RZ (G9 Q1 [(AR 0)]) [(AR 0)] W2 (.lst BS) [.val (.str w)]=.ok (.lst (BS++[.int (KQ w)]),[.val (.str w)]):=by
     unfold RZ;dsimp only;rw[e0]
    obtain⟨U6,v,e2⟩:=ih (BS++[.int (KQ w)]) (.val (.str w)) (λz hz=>hm z (AS _ hz)) (by rw[BI,EB];rw[A0] at i7;lia);refine{U6,v,?_};show((RZ (G9 Q1 [(AR 0)]) [(AR 0)] W2 (.lst BS) [.val (.str w)]).bind λz=>QX (.nm 0) JN (RZ (G9 Q1 [(AR 0)]) [(AR 0)] W2) (ws.map D.str) z.1 z.2)=_;rw[e1];exact e2
  obtain⟨U6,v,e⟩:=cl (AZ x " ") [] .no (λ_ h=>h) (by have:=z6 x " ";simp;lia);show(MQ (g2 P4 (AR 0) (gC (.str " "))) [.val (.str x)]).bind _=_;rw[xW hl rfl];show(QX (.nm 0) JN (RZ (G9 Q1 [(AR 0)]) [(AR 0)] W2) ((AZ x " ").map D.str) (.lst []) [.no]).bind _=_;rw[e];rfl
theorem Df(w:BL):∃p,(KN w).py=AA p/\DO p .none=!OH w:=by
 unfold KN
 cases OH w with
 |true=>exact{_,rfl,rfl}
 |false=>exact{_,rfl,rfl}
theorem yO{f:α->D}{p:α->Bool}(h:∀a,∃q,(f a).py=AA q/\DO q .none=!p a)(l:List α):VU .non (.lst (l.map f))=.ok (.bl (!l.all p)):=by
 have J9:∀l:List α,∃ps,pAH (l.map f)=AA ps/\ps.any (λd=>DO d .none)=!l.all p:=by
  intro l
  induction l with
  |nil=>exact{[],rfl,rfl}
  |cons a l ih =>
   obtain⟨ps,e1,e2⟩:=ih;obtain⟨q,e3,e4⟩:=h a;refine{q::ps,?_,?_}
   .rw[A1,pAH,e3,e1]
   .rw[FZ,K1,e2,e4]
    cases p a<;>simp
 obtain⟨ps,e1,e2⟩:=J9 l;unfold VU;dsimp only;rw[e1];show(if(PyData.none).depth<=60 then Out.ok (D.bl (ps.any λd=>DO d PyData.none)) else .bad)=_;rw[if_pos 'd',e2]
theorem Oi(hx:EQ x)(hl:x.length<9000):cX [.val (.str x)]=.ok (AB,T6 x,.non):=by
 have hc:=nC (E:=[.val (.str x),.no]) (ge:=G9 ZQ [(AR 0)]) (λd=>match d with|.str z=>KN z|_=>.non) (xW hl rfl) (qI " " hl) (λd hd=>by
  obtain⟨w,hw,rfl⟩:=BZ.mp hd;have:=R1 hw
  exact M3 (ds:=[.str w]) rfl (Dh (SX hx hw) 'l'))
 rw[CT] at hc;have e:(AZ x " ").map ((λd=>match d with|D.str z=>KN z|_=>D.non)∘D.str)=(AZ x " ").map KN:=rfl;rw[e] at hc;have a1:FS (.nm 1) (K8 (MQ (g2 P4 (AR 0) (gC (.str " ")))) 1 [] (.nm 0) JN (G9 ZQ [(AR 0)])) [.val (.str x),.no]=.ok (.nx [.val (.str x),.val (.lst ((AZ x " ").map KN))]):=KR hc rfl;have t:gB (g2 MJ (AR 0) (gC (.str "-"))) [.val (.str x),.val (.lst ((AZ x " ").map KN))]=.ok (QE x "-",[.val (.str x),.val (.lst ((AZ x " ").map KN))]):=KD (DQ (x:=.str x) (y:=.str "-") rfl rfl (qK hx Rq));unfold T6 SR cI
 cases q:QE x "-" with
 |true =>
  rw[q] at t;have b1:gB (g2 VU (gC .non) (AR 1)) [.val (.str x),.val (.lst [])]=.ok (AB,[.val (.str x),.val (.lst [])]):=KD (DQ (x:=.non) (y:=.lst []) rfl rfl (yO (f:=KN) (p:=OH) Df []));exact K7 (D7 a1 (D7 (NW (E1:=[.val (.str x),.val (.lst ((AZ x " ").map KN))]) t (KR (RA bE 'd') rfl)) (KP (EM b1 ((if_neg BJ).trans (NS (FK (d:=.lst []) rfl) rfl)))))) rfl
 |false =>
  rw[q] at t;have b1:gB (g2 VU (gC .non) (AR 1)) [.val (.str x),.val (.lst ((AZ x " ").map KN))]=.ok (!(AZ x " ").all OH,[.val (.str x),.val (.lst ((AZ x " ").map KN))]):=KD (DQ (x:=.non) (y:=.lst ((AZ x " ").map KN)) rfl rfl (yO Df _));refine K7 (D7 a1 (D7 (KO t rfl) (KP (E':=[.val (.str x),.val (.lst ((AZ x " ").map KN))]) ?_))) rfl;rw[P3]
  cases z:(AZ x " ").all OH with
  |false=>rw[z] at b1;exact EM b1 ((if_pos rfl).trans rfl)
  |true =>
   rw[z] at b1;refine EM b1 ((if_neg BJ).trans (NS (FK (d:=.lst ((AZ x " ").map KN)) rfl) ?_));rw[if_pos rfl,if_neg BJ,CT];show Out.ok (D.tup ((AZ x " ").map KN))=_
   congr 2
   exact PC λw hw=>by
    show KN w=D.int (KQ w);unfold KN;rw[EK] at z;rw[if_pos (z w hw)]
end
section
variable{a b:BL}
def nP(f:BL->BL->α)(z:α):List BL->α
 |[a,b]=>f a b
 |_=>z
theorem yN{l:List BL}{f:BL->BL->α}{z:α}(h:l.length≠2):nP f z l=z:=by
 match l,h with
 |[],_=>rfl
 |[_],_=>rfl
 |[_,_],h=>exact absurd rfl h
 |_::_::_::_,_=>rfl
def XD(x:BL):Bool:=nP (λa b=>SR a&&SR b) AB (AZ x " / ")
def nN(x:BL):D:=nP (λa b=>.tup [.tup ((cI a).map D.int),.tup ((cI b).map D.int)]) .non (AZ x " / ")
def gZ(x:BL):D:=if XD x=AG then nN x else .non
theorem Oh(hl:x.length<9000):FS (.nm 1) (g2 P4 (AR 0) (gC (.str " / "))) [.val (.str x),.no]=.ok (.nx [.val (.str x),.val (.lst ((AZ x " / ").map D.str))]):=KR (DQ (x:=.str x) (y:=.str " / ") rfl rfl (kG hl (by decide +kernel))) rfl
theorem yGX(hx:EQ x)(hl:x.length<9000)(h:XD x=AG):cW [.val (.str x)]=.ok (AB,nN x,.non):=by
 have t1:=yV (x:=x) (l:=AZ x " / ") rfl;have ha:=Oh hl
 by_cases h2:(AZ x " / ").length=2
 .obtain⟨a,b,e⟩:=j3 h2
  have pa:EQ a/\a.length<=x.length:={SX (y:=" / ") hx (by rw[e];simp),R1 (y:=" / ") (by rw[e];simp)};have pb:EQ b/\b.length<=x.length:={SX (y:=" / ") hx (by rw[e];simp),R1 (y:=" / ") (by rw[e];simp)};unfold XD at h;unfold nN;rw[e] at h t1 ha ⊢;dsimp only[nP] at h ⊢;rw[BE] at h;exact K7 (D7 ha (D7 (KO t1 rfl) (KP (fQ (OW (M3 (FK fW) (yP pa.1 'l' h.1)) (FK (M3 (FK rN) (yP pb.1 'l' h.2)))) (show 2<10000 by decide))))) rfl
 .unfold XD at h
  rw[yN h2] at h;cases h
theorem yGY(hx:EQ x)(hl:x.length<9000)(h:XD x=AB):cW [.val (.str x)]=.bad/\∃z,kL [.str x]=.ok z:=by
 unfold XD at h;have t1:=yV (x:=x) (l:=AZ x " / ") rfl;have ha:=Oh hl
 by_cases h2:(AZ x " / ").length=2
 .obtain⟨a,b,e⟩:=j3 h2
  have pa:EQ a/\a.length<=x.length:={SX (y:=" / ") hx (by rw[e];simp),R1 (y:=" / ") (by rw[e];simp)};have pb:EQ b/\b.length<=x.length:={SX (y:=" / ") hx (by rw[e];simp),R1 (y:=" / ") (by rw[e];simp)};rw[e] at h t1 ha;dsimp only[nP] at h
  cases qa:SR a with
  |false =>
   obtain⟨b1,z,hz⟩:=Cn pa.1 'l' qa;exact{fn_bad (D7 ha (D7 (KO t1 rfl) (tD (qQ (kH (kI (FK fW) b1)))))),_,bC ha (pY t1 (He (jV (FK fW) hz)))}
  |true =>
   rw[qa] at h;have qb:SR b=AB:=by simpa using h
   obtain⟨b1,z,hz⟩:=Cn pb.1 'l' qb;have va:=M3 (FK (fW (x:=x) (a:=a) (b:=b))) (yP pa.1 'l' qa);exact{fn_bad (D7 ha (D7 (KO t1 rfl) (tD (qQ (Eo va (kH (kI (FK rN) b1))))))),_,bC ha (pY t1 (xS (Co (FK fW) (yC5 pa.1 'l' qa)) va (jV (FK rN) hz)))}
 .rw[decide_eq_true h2] at t1
  exact{fn_bad (D7 ha (mS (NW t1 rfl))),_,bC ha (Cq t1 tR)}
theorem yC7(w:BL):∃p,(T6 w).py=AA p/\DO p .none=!SR w:=by
 unfold T6
 cases SR w with
 |true=>exact{_,by rw[if_pos rfl,D.py,Ri];rfl,rfl}
 |false=>exact{_,rfl,rfl}
theorem yC8(hx:EQ x)(hl:x.length<9000):nI [.val (.str x)]=.ok (AB,gZ x,.non):=by
 obtain⟨l,hL⟩:∃l,l=AZ x " / ":={_,rfl}
 have a1:FS (.nm 1) (g2 P4 (AR 0) (gC (.str " / "))) [.val (.str x),.no,.no]=.ok (.nx [.val (.str x),.val (.lst (l.map D.str)),.no]):=by
  rw[hL];exact KR (DQ (x:=.str x) (y:=.str " / ") rfl rfl (kG hl (by decide +kernel))) rfl
 have hc:=nC (E:=[.val (.str x),.val (.lst (l.map D.str)),.no]) (ge:=G9 cX [(AR 0)]) (λd=>match d with|.str z=>T6 z|_=>.non) (mV (g:=AR 1) (ds:=l.map D.str) rfl) (by rw[hL];exact qI " / " hl) (λd hd=>by
  obtain⟨w,hw,rfl⟩:=BZ.mp hd;rw[hL] at hw;have:=R1 hw
  exact M3 (ds:=[.str w]) rfl (Oi (SX hx hw) 'l'))
 rw[CT] at hc;have e:l.map ((λd=>match d with|D.str z=>T6 z|_=>D.non)∘D.str)=l.map T6:=rfl;rw[e] at hc;have a2:FS (.nm 2) (K8 (MQ (AR 1)) 1 [] (.nm 0) JN (G9 cX [(AR 0)])) [.val (.str x),.val (.lst (l.map D.str)),.no]=.ok (.nx [.val (.str x),.val (.lst (l.map D.str)),.val (.lst (l.map T6))]):=KR hc rfl
 have t1:gB (g2 IU (gN IG [(AR 1)]) (gC (.int 2))) [.val (.str x),.val (.lst (l.map D.str)),.val (.lst (l.map T6))]=.ok (decide (l.length≠2),[.val (.str x),.val (.lst (l.map D.str)),.val (.lst (l.map T6))]):=by
  refine KD (DQ (x:=.int (l.length:Int)) (y:=.int 2) (NS (FK (d:=.lst (l.map D.str)) rfl) (sE (by rw[AK]))) rfl ?_);rw[mW]
  by_cases h:l.length=2
  .rw[decide_eq_false 'l',decide_eq_false 'l']
  .rw[decide_eq_true 'l',decide_eq_true 'l']
 have t2:gB (g2 VU (gC .non) (AR 2)) [.val (.str x),.val (.lst (l.map D.str)),.val (.lst (l.map T6))]=.ok (!l.all SR,[.val (.str x),.val (.lst (l.map D.str)),.val (.lst (l.map T6))]):=KD (DQ (x:=.non) (y:=.lst (l.map T6)) rfl rfl (yO yC7 _));refine K7 (D7 a1 (D7 a2 (KP (E':=[.val (.str x),.val (.lst (l.map D.str)),.val (.lst (l.map T6))]) ?_))) rfl
 by_cases h2:l.length=2
 .obtain⟨a,b,rfl⟩:=j3 h2
  have t1:=RP (t:=gB (g2 IU (gN IG [(AR 1)]) (gC (.int 2)))) (u:=gB (g2 VU (gC .non) (AR 2))) t1 t2
  by_cases z:(SR a&&SR b)=AG
  .have h1:XD x=AG:=by unfold XD;rw[<-hL];exact z
   have hp:gZ x=.tup [.tup ((cI a).map D.int),.tup ((cI b).map D.int)]:=by
    unfold gZ;rw[if_pos h1];unfold nN;rw[<-hL];rfl
   have:[a,b].all SR=AG:=by simpa using z
   rw[this] at t1;rw[hp];rw[BE] at z;refine EM t1 ((if_neg BJ).trans (NS (FK (d:=.lst ([a,b].map T6)) rfl) ?_));show Out.ok (D.tup [T6 a,T6 b])=_;unfold T6;rw[if_pos z.1,if_pos z.2]
  .have h1:¬XD x=AG:=by unfold XD;rw[<-hL];exact z
   have hp:gZ x=.non:=by unfold gZ;rw[if_neg h1]
   have:[a,b].all SR=AB:=by
    have z:(SR a&&SR b)=AB:=by simpa using z
    simpa using z
   rw[this] at t1;rw[hp];exact EM t1 ((if_pos rfl).trans rfl)
 .have h1:¬XD x=AG:=by unfold XD;rw[<-hL,yN h2];exact BJ
  have hp:gZ x=.non:=by unfold gZ;rw[if_neg h1]
  rw[decide_eq_true h2] at t1;rw[hp];exact EM (cL t1) ((if_pos rfl).trans rfl)
end
theorem zY2(x y:BL):AZ x y≠[]:=by
 unfold AZ;split
 .exact NP _ _
 .split
  .exact NP _ _
  .rw[UD]
   cases Builtin.Str.occurrences x y 0 x.length (x.length+1) with
   |nil=>exact NP _ _
   |cons _ _=>exact NP _ _
theorem yGZ{E:Ev}{ds:List D}{ge:G}{gs:List G}{mx:List D->Out Ev}{f:D->D}(hi:gi E=.ok (ds,E1))(hl:ds.length<10000)(h:∀q∈ds,ge [.val q]=.ok (f q,[.val q])):jT gi 1 [] (.nm 0) JN ge gs mx E=.bad:=by
 have cl:∀(ws:List D) (BS:List D) (u:Sl),(∀w∈ws,w∈ds)->BS.length+ws.length<10000->∃U6 v,QX (.nm 0) JN (RZ ge gs mx) ws (.lst BS) [u]=.ok (.lst U6,[v]):=by
  intro ws
  induction ws with
  |nil=>intro BS u _ _;exact{BS,u,rfl}
  |cons w ws ih =>
   intro BS u hm i7;have e0:VN ge (.lst BS) [.val w]=.ok (.lst (BS++[f w]),[.val w]):=Dq (h w (hm w AU)) (by rw[A0] at i7;lia)
   have e1:RZ ge gs mx (.lst BS) [.val w]=.ok (.lst (BS++[f w]),[.val w]):=by
    unfold RZ;dsimp only;rw[e0]
   obtain⟨U6,v,e2⟩:=ih (BS++[f w]) (.val w) (λz hz=>hm z (AS _ hz)) (by rw[BI,EB];rw[A0] at i7;lia);refine{U6,v,?_};show((RZ ge gs mx (.lst BS) [.val w]).bind λz=>QX (.nm 0) JN (RZ ge gs mx) ws z.1 z.2)=_;rw[e1];exact e2
 obtain⟨U6,v,e⟩:=cl ds [] .no (λ_ h=>h) (by simpa using hl);unfold jT;rw[hi];show(QX (.nm 0) JN (RZ ge gs mx) ds (.lst []) [.no]).bind _=_;rw[e];rfl
def MP(x:BL):BL:=(AZ x " ").headD ""
def NK(x:BL):List BL:=(AZ x " ").drop 1
def WT(x:BL):D:=.tup [.int (KQ (MP x)),.tup ((NK x).map λw=>HB (N2 w))]
def fL(x:BL):Bool:=OH (MP x)&&((NK x).all RO&&fF (WT x))
theorem tY(x:BL):AZ x " "=MP x::NK x:=by
 unfold MP NK
 cases h:AZ x " " with
 |nil=>exact absurd h (zY2 x " ")
 |cons a r=>rfl
theorem qH:MP x∈AZ x " ":=by rw[tY];exact AU
theorem qG{w:BL}(h:w∈NK x):w∈AZ x " ":=by rw[tY];exact AS _ h
abbrev nE(x:BL)(u:Sl):Ev:=[.val (.str x),.val (.lst (.str (MP x)::(NK x).map D.str)),u]
theorem Og(hl:x.length<9000):FS (.nm 1) (g2 P4 (AR 0) (gC (.str " "))) [.val (.str x),.no,.no]=.ok (.nx (nE x .no)):=by
 refine KR (DQ (x:=.str x) (y:=.str " ") rfl rfl (kG hl (by decide +kernel))) ?_;rw[tY];rfl
theorem sP(u:Sl):g2 FG (AR 1) (gC (.int 0)) (nE x u)=.ok (.str (MP x),nE x u):=DQ (x:=.lst (.str (MP x)::(NK x).map D.str)) (y:=.int 0) rfl rfl (jQ (iD 'd' rfl))
theorem Cm(u:Sl):MQ (OI (AR 1) (AA (gC (.int 1))) AH) (nE x u)=.ok ((NK x).map D.str,nE x u):=by
 refine mV ?_;refine EM (a:=(.lst (.str (MP x)::(NK x).map D.str),nE x u)) rfl (EM (a:=(AA 1,nE x u)) rfl (EM (a:=(AH,nE x u)) rfl ?_));show Out.ok (D.lst (PF (.str (MP x)::(NK x).map D.str) (AA 1) AH),nE x u)=_;rw[Go];rfl
theorem tQ(hl:x.length<9000):((NK x).map D.str).length<10000:=by
 have:=qI (x:=x) " " hl;rw[tY,A1,A0] at this;lia
def Bc(d:D):D:=match d with|.str z=>HB (N2 z)|_=>.non
theorem Ee(hx:EQ x)(hl:x.length<9000){w:BL}(hw:w∈NK x)(h:RO w=AG):G9 ZP [(AR 0)] [.val (.str w)]=.ok (Bc (.str w),[.val (.str w)]):=by
 have:=R1 (qG hw);exact M3 (ds:=[.str w]) rfl (yGV (SX hx (qG hw)) 'l' h)
theorem Wm(hn:OH (MP x)=AG):M7 (P9 (G9 nA [(AR 2)])) (nE x (.val (WT x)))=.ok (!fF (WT x),nE x (.val (WT x))):=W0 (cM (M3 (ds:=[WT x]) rfl (yGS (WT x))) rfl)
theorem Of(hx:EQ x)(hl:x.length<9000)(hn:OH (MP x)=AG)(hw:(NK x).all RO=AG):FS (.nm 2) (SU [(G9 Q1 [(g2 FG (AR 1) (gC (.int 0)))]),(gN TH [(K8 (MQ (OI (AR 1) (AA (gC (.int 1))) AH)) 1 [] (.nm 0) JN (G9 ZP [(AR 0)]))])]) (nE x .no)=.ok (.nx (nE x (.val (WT x)))):=by
 have:=R1 (x:=x) qH;rw[EK] at hw
 have hc:=nC (ge:=G9 ZP [(AR 0)]) Bc (Cm (x:=x) .no) (tQ hl) (λd hd=>by
  obtain⟨w,Z4,rfl⟩:=BZ.mp hd
  exact Ee hx hl Z4 (hw w Z4))
 rw[CT] at hc;exact KR (fQ (OW (M3 (FK (sP .no)) (j4 (SX hx qH) 'l' hn)) (FK (NS (FK hc) rfl))) (show 2<10000 by decide)) rfl
theorem yC9(hx:EQ x)(hl:x.length<9000)(h:fL x=AG):cU [.val (.str x)]=.ok (AB,WT x,.non):=by
 unfold fL at h;rw[BE,BE] at h;obtain⟨hn,hw,hb⟩:=h;have t:=Wm hn;rw[hb] at t;exact K7 (D7 (Og hl) (D7 (Of hx hl hn hw) (D7 (KO t rfl) (KP (d:=WT x) rfl)))) rfl
theorem Oe{gr:GX}{g:GS}{E:Ev}(h:gx E=.ok E1):mM gx g gr E=.ok E1:=by unfold mM;rw[h]
theorem yDA{gr:GX}{g:GS}{E:Ev}{r:Out Ev}(h:gx E=.bad)(h1:g E=.ok (.nx E1))(h2:gr E1=r):mM gx g gr E=r:=by unfold mM;rw[h];exact bC h1 h2
theorem yDB(hx:EQ x)(hl:x.length<9000)(h:fL x=AB):cU [.val (.str x)]=.bad/\∃z,kK [.str x]=.ok z:=by
 have lH:=R1 (x:=x) qH;have aH:=SX (x:=x) hx qH;have ha:=Og hl;unfold fL at h
 cases hn:OH (MP x) with
 |false =>
  obtain⟨b1,z,hz⟩:=yQ aH 'l' hn;exact{fn_bad (D7 ha (mS (Dv (qQ (kH (kI (FK (sP .no)) b1)))))),_,bC ha (Oe (He (jV (FK (sP .no)) hz)))}
 |true =>
  rw[hn,DS] at h;have va:=M3 (FK (sP (x:=x) .no)) (j4 aH 'l' hn);have xb:=Co (FK (sP (x:=x) .no)) (Ol aH 'l' hn)
  cases hw:(NK x).all RO with
  |false =>
   have ex:∃d∈(NK x).map D.str,¬∃w,d=.str w/\w∈NK x/\RO w=AG:=by
    rw[MY] at hw;obtain⟨w,Z4,e⟩:=hw;refine{.str w,BZ.mpr {w,Z4,rfl},λ⟨w',e1,_,e2⟩=>?_};cases e1;exact e e2
   obtain⟨c1,c2⟩:=Om (ge:=G9 ZP [(AR 0)]) (gs:=[(AR 0)]) (mx:=qX) (P:=λd=>∃w,d=.str w/\w∈NK x/\RO w=AG) (f:=Bc) (Cm (x:=x) .no) (tQ hl) (λd hd=>by
     obtain⟨w,rfl,Z4,e⟩:=hd
     exact Ee hx hl Z4 e) (λd hd n=>by
     obtain⟨w,Z4,rfl⟩:=BZ.mp hd;have:=R1 (qG Z4)
     have e:RO w=AB:=by
      cases z:RO w with
      |false=>rfl
      |true=>exact absurd {w,rfl,Z4,z} n
     obtain⟨b1,z,hz⟩:=yGW (SX hx (qG Z4)) 'l' e
     exact{kI (ds:=[.str w]) rfl b1,jV (ds:=[.str w]) rfl hz}) ex
   exact{fn_bad (D7 ha (mS (Dv (qQ (Eo va (kH (Xl (kH c1)))))))),_,bC ha (Oe (xS xb va c2))}
  |true =>
   rw[hw,DS] at h;have t:=Wm hn;rw[h] at t;have tup:=Of hx hl hn hw;rw[EK] at hw
   have xc:=yGZ (ge:=G9 ZP [(AR 0)]) (gs:=[(AR 0)]) (mx:=qX) (f:=Bc) (Cm (x:=x) .no) (tQ hl) (λd hd=>by
    obtain⟨w,Z4,rfl⟩:=BZ.mp hd
    exact Ee hx hl Z4 (hw w Z4))
   exact{fn_bad (D7 ha (D7 tup (mS (NW t rfl)))),_,bC ha (yDA (xS xb va xc) tup (Wh t tR))}
def leP(p q:Int×Int):Bool:=HT.lexLe [p.1,p.2] [q.1,q.2]
def after(o:Option (Int×Int))(p:Int×Int):Bool:=match o with|none=>AG|some q=>!leP p q
def rz:Option (Int×Int)->List (Int×Int)->Bool
 |_,[]=>AG
 |o,p::ps=>(decide (p.1≠p.2)&&after o p)&&rz (AA p) ps
theorem yI7(p q:Int×Int):HT.lexLt [q.1,q.2] [p.1,p.2]=!leP p q:=by
 unfold leP;rw[HT.lexLt_cons,HT.lexLt_cons,HT.lexLe_cons,HT.lexLe_cons]
 by_cases h:p.1=q.1
 .rw[if_pos h,if_pos h.symm]
  by_cases h2:p.2=q.2
  .rw[if_pos h2,if_pos h2.symm];rfl
  .rw[if_neg h2,if_neg (λz=>h2 z.symm)]
   by_cases h3:q.2<p.2
   .rw[decide_eq_true h3,decide_eq_false 'l'];rfl
   .rw[decide_eq_false h3,decide_eq_true 'l'];rfl
 .rw[if_neg h,if_neg (λz=>h z.symm)]
  by_cases h3:q.1<p.1
  .rw[decide_eq_true h3,decide_eq_false 'l'];rfl
  .rw[decide_eq_false h3,decide_eq_true 'l'];rfl
theorem Xh(n a:Int)(h:0<=a):bH n (.int a)=decide (a<n):=by
 unfold bH
 by_cases q:a<n
 .simp[h,q]
 .simp[q]
theorem Xg(n:Int):∀(ps:List (Int×Int)) (q:Int×Int),(∀p∈ps,0<=p.1/\0<=p.2)->YW n q (ps.map HB)=(rz (AA q) ps&&ps.all λp=>decide (max p.1 p.2<n))
 |[],q,_=>rfl
 |p::ps,q,h=>by
  have hp:=h p AU;have ih:=Xg n ps p λz hz=>h z (AS _ hz);rw[A1,YW]
  have e:R7 n (HB p)=if(decide (p.1<n)&&(decide (p.2<n)&&decide (p.1≠p.2)))=AG then AA p else AH:=by
   show(if(bH n (.int p.1)&&(bH n (.int p.2)&&decide (p.1≠p.2)))=AG then AA (p.1,p.2) else AH)=_;rw[Xh n p.1 hp.1,Xh n p.2 hp.2]
  rw[e,K1,rz];simp only[after]
  by_cases h1:p.1<n
  .by_cases h2:p.2<n
   .by_cases h3:p.1=p.2
    .simp[h3]
    .rw[if_pos (by simp[h1,h2,h3])]
     show(HT.lexLt [q.1,q.2] [p.1,p.2]&&YW n p (ps.map HB))=_;rw[yI7,ih];have:max p.1 p.2<n:=by lia
     simp[h3,this,Bool.and_assoc]
   .have:¬max p.1 p.2<n:=by lia
    simp[h2,this]
  .have:¬max p.1 p.2<n:=by lia
   simp[h1,this]
theorem yDC(ps:List (Int×Int))(h:∀p∈ps,0<=p.1/\0<=p.2):rz (AA (-1,-1)) ps=rz AH ps:=by
 cases ps with
 |nil=>rfl
 |cons p ps =>
  have hp:=h p AU
  have:leP p (-1,-1)=AB:=by
   unfold leP;rw[HT.lexLe_cons,if_neg (by show ¬p.1=-1;lia)];exact decide_eq_false (by show ¬p.1<=-1;lia)
  show((decide (p.1≠p.2)&&!leP p (-1,-1))&&rz (AA p) ps)=((decide (p.1≠p.2)&&AG)&&rz (AA p) ps);rw[this];rfl
section
variable{u4 u5:Sl}{ps:List (Int×Int)}{w:BL}
abbrev lE(x:BL)(ps:List (Int×Int))(u4 u5:Sl):Ev:=[.val (.str x),.val (.lst (.str (MP x)::(NK x).map D.str)),.val (KN (MP x)),.own AB (.lst (ps.map HB)),u4,u5]
theorem Qd(ps:List (Int×Int)):Pls 1 (ps.map HB):=Pls.of λp _=>Pls.tup (.cons (.int _ _) (.cons (.int _ _) (.nil _)))
def xV:Ev->Out (Bool×Ev):=XG [3] (LU (gB (g2 IU (gN IG [(AR 5)]) (gC (.int 2)))) (LU (gB (g2 VU (gC .non) (AR 5))) (LU (gB (g2 MJ (g2 FG (AR 5) (gC (.int 0))) (g2 FG (AR 5) (gC (.int 1))))) (YK (gB (g2 IU (AR 3) (J8 []))) (gB (g2 nV (gN TH [(AR 5)]) (g2 FG (AR 3) (g1 g7 (gC (.int 1))))))))))
theorem yDD:∀(ps:List (Int×Int)) (q:Int×Int),atI ((ps++[q]).map HB) (-1)=AA (HB q):=λps q=>by
 unfold L2.atI
 have:bJ ((ps++[q]).map HB).length (-1)=AA ps.length:=by
  rw[AK,BI,EB];unfold bJ;rw[if_neg 'd',if_pos 'l']
  congr 1
  lia
 rw[this];simp
theorem yDE(hw:EQ w)(hl:w.length<9000):xV (lE x ps (.val (.str w)) (.val (.lst ((AZ w ">").map KN))))=.ok (!(RO w&&(decide ((N2 w).1≠(N2 w).2)&&after ps.getLast? (N2 w))),lE x ps (.val (.str w)) (.val (.lst ((AZ w ">").map KN)))):=by
 obtain⟨l,hL⟩:∃l,l=AZ w ">":={_,rfl};unfold RO N2;rw[<-hL];clear hw hl hL;obtain⟨E,hE⟩:∃E:Ev,E=[.val (.str x),.val (.lst (.str (MP x)::(NK x).map D.str)),.val (KN (MP x)),.val (.lst (ps.map HB)),.val (.str w),.val (.lst (l.map KN))]:={_,rfl}
 have t1:gB (g2 IU (gN IG [(AR 5)]) (gC (.int 2))) E=.ok (decide (l.length≠2),E):=by
  rw[hE];refine KD (DQ (x:=.int (l.length:Int)) (y:=.int 2) (NS (FK (d:=.lst (l.map KN)) rfl) (sE (by rw[AK]))) rfl ?_);rw[mW]
  by_cases h:l.length=2
  .rw[decide_eq_false 'l',decide_eq_false 'l']
  .rw[decide_eq_true 'l',decide_eq_true 'l']
 have t2:gB (g2 VU (gC .non) (AR 5)) E=.ok (!l.all OH,E):=by
  rw[hE];exact KD (DQ (x:=.non) (y:=.lst (l.map KN)) rfl rfl (yO Df _))
 have fin:∀b,LU (gB (g2 IU (gN IG [(AR 5)]) (gC (.int 2)))) (LU (gB (g2 VU (gC .non) (AR 5))) (LU (gB (g2 MJ (g2 FG (AR 5) (gC (.int 0))) (g2 FG (AR 5) (gC (.int 1))))) (YK (gB (g2 IU (AR 3) (J8 []))) (gB (g2 nV (gN TH [(AR 5)]) (g2 FG (AR 3) (g1 g7 (gC (.int 1))))))))) E=.ok (b,E)->xV (lE x ps (.val (.str w)) (.val (.lst (l.map KN))))=.ok (b,lE x ps (.val (.str w)) (.val (.lst (l.map KN)))):=λb h=>by
  refine cS (E':=E) ?_;rw[<-h,hE]
  rfl
 by_cases h2:l.length=2
 .obtain⟨a,b,rfl⟩:=j3 h2
  dsimp only;have t1:gB (g2 IU (gN IG [(AR 5)]) (gC (.int 2))) E=.ok (AB,E):=t1
  cases z:OH a&&OH b with
  |false =>
   have:[a,b].all OH=AB:=by simpa using z
   rw[this] at t2;exact fin AG (RP t1 (cL t2))
  |true =>
   have:[a,b].all OH=AG:=by simpa using z
   rw[this] at t2;rw[BE] at z;have na:KN a=.int (KQ a):=by unfold KN;rw[if_pos z.1]
   have nb:KN b=.int (KQ b):=by unfold KN;rw[if_pos z.2]
   have eE:E=[.val (.str x),.val (.lst (.str (MP x)::(NK x).map D.str)),.val (KN (MP x)),.val (.lst (ps.map HB)),.val (.str w),.val (.lst [.int (KQ a),.int (KQ b)])]:=by rw[hE,A1,A1,LZ,na,nb]
   have t3:gB (g2 MJ (g2 FG (AR 5) (gC (.int 0))) (g2 FG (AR 5) (gC (.int 1)))) E=.ok (decide (KQ a=KQ b),E):=by
    rw[eE];exact KD (DQ (x:=.int (KQ a)) (y:=.int (KQ b)) (DQ (x:=.lst [.int (KQ a),.int (KQ b)]) (y:=.int 0) rfl rfl (jQ (iD 'd' rfl))) (DQ (x:=.lst [.int (KQ a),.int (KQ b)]) (y:=.int 1) rfl rfl (jQ (iD 'd' rfl))) (qM _ _))
   have t4:gB (g2 IU (AR 3) (J8 [])) E=.ok (!(ps.map HB).isEmpty,E):=by
    rw[eE];exact KD (DQ (x:=.lst (ps.map HB)) (y:=.lst []) rfl (RA bE 'd') (zA (Qd ps)))
   rw[DS]
   by_cases q:KQ a=KQ b
   .rw[decide_eq_true q] at t3
    have:decide (KQ a≠KQ b)=AB:=decide_eq_false λz=>z q;rw[this];exact fin AG (RP t1 (RP t2 (cL t3)))
   .rw[decide_eq_false q] at t3
    have:decide (KQ a≠KQ b)=AG:=decide_eq_true q;rw[this,DS];rcases List.eq_nil_or_concat ps with e|⟨vO,p,e⟩
    .subst e
     exact fin AB (RP t1 (RP t2 (RP t3 (p8 t4))))
    .rw[List.concat_eq_append] at e
     subst e;have t4:gB (g2 IU (AR 3) (J8 [])) E=.ok (AG,E):=by rw[t4];simp
     have t5:gB (g2 nV (gN TH [(AR 5)]) (g2 FG (AR 3) (g1 g7 (gC (.int 1))))) E=.ok (leP (KQ a,KQ b) p,E):=by
      rw[eE];exact KD (DQ (x:=.tup [.int (KQ a),.int (KQ b)]) (y:=HB p) (NS (FK (d:=.lst [.int (KQ a),.int (KQ b)]) rfl) rfl) (DQ (x:=.lst ((vO++[p]).map HB)) (y:=.int (-1)) rfl rfl (jQ (yDD vO p))) rfl)
     rw[ZA];show xV _=.ok (!!leP (KQ a,KQ b) p,_);rw[Bool.not_not];exact fin _ (RP t1 (RP t2 (RP t3 (j6 t4 t5))))
 .rw[decide_eq_true h2] at t1
  have J9:=fin AG (cL t1)
  cases l with
  |nil=>exact J9
  |cons a r =>
   cases r with
   |nil=>exact J9
   |cons b r =>
    cases r with
    |nil=>exact absurd rfl h2
    |cons c r=>exact J9
end
def pO:GS:=E4 (FS (.nm 5) (K8 (MQ (g2 P4 (AR 4) (gC (.str ">")))) 1 [] (.nm 0) JN (G9 ZQ [(AR 0)]))) (E4 (L7 xV (IS (gC .non)) MS) (pS (ZI 3 fG [(gN TH [(AR 5)])])))
theorem yDF{w:BL}(h:RO w=AG):TH [.lst ((AZ w ">").map KN)]=.ok (HB (N2 w)):=by
 unfold RO at h;unfold N2;show Out.ok (D.tup ((AZ w ">").map KN))=_
 revert h
 cases AZ w ">" with
 |nil=>intro h;cases h
 |cons a r=>cases r with
  |nil=>intro h;cases h
  |cons b r=>cases r with
   |nil =>
    intro h;have h:(OH a&&OH b)=AG:=h;rw[BE] at h;show Out.ok (D.tup [KN a,KN b])=Out.ok (HB (KQ a,KQ b));unfold KN;rw[if_pos h.1,if_pos h.2]
    rfl
   |cons c r=>intro h;cases h
theorem zVW{t:Tg}{g:GS}{d:D}{ds:List D}{E:Ev}(h:UA t d E=.ok E1):XF t g (d::ds) E=(g E1).bind λr=>match r with|.nx E2=>XF t g ds E2|.ct E2=>XF t g ds E2|.bk E2=>.ok (.nx E2)|.rt b d E2=>.ok (.rt b d E2):=by
 rw[XF,h];rfl
theorem Sv:∀(ws:List BL) (ps:List (Int×Int)) (u4 u5:Sl),(∀w∈ws,EQ w/\w.length<9000)->ps.length+ws.length<10000 ->
  ((ws.all RO&&rz ps.getLast? (ws.map N2))=AG->∃v4 v5,XF (.nm 4) pO (ws.map D.str) (lE x ps u4 u5)=.ok (.nx (lE x (ps++ws.map N2) v4 v5))) /\
  ((ws.all RO&&rz ps.getLast? (ws.map N2))=AB->∃E',XF (.nm 4) pO (ws.map D.str) (lE x ps u4 u5)=.ok (.rt AB .non E'))
 |[],ps,u4,u5,_,_=>{λ_=>{u4,u5,by rw[show ps++([]:List BL).map N2=ps from EH ps];rfl},λh=>by cases h}
 |w::ws,ps,u4,u5,hw,hl=>by
  obtain⟨aw,lw⟩:=hw w AU
  have hc:=nC (E:=lE x ps (.val (.str w)) u5) (ge:=G9 ZQ [(AR 0)]) (λd=>match d with|.str z=>KN z|_=>.non) (mV (g:=g2 P4 (AR 4) (gC (.str ">"))) (DQ (x:=.str w) (y:=.str ">") (E1:=lE x ps (.val (.str w)) u5) rfl rfl (kG lw (by decide +kernel)))) (qI ">" lw) (λd hd=>by
   obtain⟨z,hz,rfl⟩:=BZ.mp hd;have:=R1 hz
   exact M3 (ds:=[.str z]) rfl (Dh (SX aw hz) 'l'))
  rw[CT] at hc;have a1:FS (.nm 5) (K8 (MQ (g2 P4 (AR 4) (gC (.str ">")))) 1 [] (.nm 0) JN (G9 ZQ [(AR 0)])) (lE x ps (.val (.str w)) u5)=.ok (.nx (lE x ps (.val (.str w)) (.val (.lst ((AZ w ">").map KN))))):=KR hc rfl;have t:=yDE (x:=x) (ps:=ps) (w:=w) aw lw;rw[show(w::ws).map D.str=.str w::ws.map D.str from rfl,zVW (E1:=lE x ps (.val (.str w)) u5) rfl,K1,show(w::ws).map N2=N2 w::ws.map N2 from rfl,rz]
  cases g:RO w&&(decide ((N2 w).1≠(N2 w).2)&&after ps.getLast? (N2 w)) with
  |false =>
   rw[g] at t;have b:pO (lE x ps (.val (.str w)) u5)=.ok (.rt AB .non (lE x ps (.val (.str w)) (.val (.lst ((AZ w ">").map KN))))):=D7 a1 (QB (NW t (KP (d:=.non) rfl)));rw[b];refine{λh=>?_,λ_=>{_,rfl}}
   have:(RO w&&(decide ((N2 w).1≠(N2 w).2)&&after ps.getLast? (N2 w)))=AG:=by
    simp only[BE] at h ⊢;exact{h.1.1,h.2.1}
   rw[this] at g;cases g
  |true =>
   rw[g] at t;rw[BE] at g;have hk:RO w=AG:=g.1
   have ap:fG (ps.map HB) [HB (N2 w)]=.ok (.non,(ps++[N2 w]).map HB):=by
    rw[LG];exact YM (by rw[AK];rw[A0] at hl;lia)
   have b:pO (lE x ps (.val (.str w)) u5)=.ok (.nx (lE x (ps++[N2 w]) (.val (.str w)) (.val (.lst ((AZ w ">").map KN))))) :=
    D7 a1 (D7 (KO t rfl) (Oz (Dn (t:=AB) (t2:=AB) (E1:=lE x ps (.val (.str w)) (.val (.lst ((AZ w ">").map KN)))) rfl (FK (NS (FK (d:=.lst ((AZ w ">").map KN)) rfl) (yDF hk))) rfl ap)))
   rw[b];have ih:=Sv ws (ps++[N2 w]) (.val (.str w)) (.val (.lst ((AZ w ">").map KN))) (λz hz=>hw z (AS _ hz)) (by rw[BI,EB];rw[A0] at hl;lia);rw[ZA] at ih;rw[hk,g.2,DS,DS];rw[DG] at ih;exact ih
def WW(x:BL):D:=if fL x=AG then WT x else .non
theorem zY4(w:BL):0<=(N2 w).1/\0<=(N2 w).2:=by
 unfold N2
 cases AZ w ">" with
 |nil=>exact{HE _,HE _}
 |cons a r=>cases r with
  |nil=>exact{HE _,HE _}
  |cons b r=>cases r with
   |nil=>exact{Qf a,Qf b}
   |cons c r=>exact{HE _,HE _}
def MR(x:BL):List (Int×Int):=(NK x).map N2
theorem yDG:(MR x).length=(NK x).length:=AK ..
theorem Od:WT x=.tup [.int (KQ (MP x)),.tup ((MR x).map HB)]:=by
 unfold WT MR;rw[CT];rfl
theorem Oc:fF (WT x)=(decide (1<=KQ (MP x)/\KQ (MP x)<=24)&&(decide ((MR x).length<=120)&&(rz AH (MR x)&&(MR x).all λp=>decide (max p.1 p.2<KQ (MP x))))):=by
 have hp:∀p∈MR x,0<=p.1/\0<=p.2:=λp hp=>by
  obtain⟨w,_,rfl⟩:=BZ.mp hp;exact zY4 w
 rw[Od];show(decide (1<=KQ (MP x)/\KQ (MP x)<=24)&&(decide (((MR x).map HB).length<=120)&&YW (KQ (MP x)) (-1,-1) ((MR x).map HB)))=_;rw[Xg _ _ _ hp,yDC _ hp,AK]
def yI8:GS:=(E4 (L7 (XG [3] (LU (gB (g2 ZF (AR 2) (gC .non))) (LU (M7 (gB (SV OM OM (gC (.int 1)) (AR 2) (gC (.int 24))))) (gB (g2 YU (gN IG [(AR 3)]) (gC (.int 120)))))))
 (IS (gC .non))
 MS)
 (E4 (L7 (XG [3] (gB (g2 IU (K8 (MQ (AR 3)) 1 [2] (.nm 0) (gB (g2 kQ (gN hG [(AR 0)]) (AR 1))) (AR 0)) (J8 []))))
 (IS (gC .non))
 MS)
 (IS (VL [3] (SU [(AR 2),(gN TH [(AR 3)])])))))
theorem Ti:∀ps:List (Int×Int),pA8 (ps.map HB)=AG
 |[]=>rfl
 |p::ps=>by
  rw[A1,pA8,Ti ps];rfl
theorem yDH(hw:(NK x).all RO=AG)(hr:rz AH (MR x)=AG)(FP:(MR x).length<10000)(v4 v5:Sl):∃E',yI8 (lE x (MR x) v4 v5)=.ok (.rt AB (WW x) E'):=by
 obtain⟨n,hn⟩:∃n,n=KQ (MP x):={_,rfl}
 cases q:OH (MP x) with
 |false =>
  have e:KN (MP x)=.non:=by unfold KN;rw[q];rfl
  have hd:WW x=.non:=by unfold WW fL;rw[q];rfl
  rw[hd];obtain⟨E,hE⟩:∃E:Ev,E=[.val (.str x),.val (.lst (.str (MP x)::(NK x).map D.str)),.val .non,.val (.lst ((MR x).map HB)),WX [3] 4 v4,WX [3] 5 v5]:={_,rfl}
  have hh:hide [3] (lE x (MR x) v4 v5)=E:=by
   rw[hE,<-e];rfl
  have t1:gB (g2 ZF (AR 2) (gC .non)) E=.ok (AG,E):=by rw[hE];rfl
  have c:=cS (is:=[3]) (E:=lE x (MR x) v4 v5) (g:=LU (gB (g2 ZF (AR 2) (gC .non))) (LU (M7 (gB (SV OM OM (gC (.int 1)) (AR 2) (gC (.int 24))))) (gB (g2 YU (gN IG [(AR 3)]) (gC (.int 120)))))) (by rw[hh];exact cL t1);exact{_,QB (NW c (KP (d:=.non) rfl))}
 |true =>
  have e:KN (MP x)=.int n:=by unfold KN;rw[q,hn];rfl
  have hO:fL x=fF (WT x):=by unfold fL;rw[q,hw];rfl
  obtain⟨E,hE⟩:∃E:Ev,E=[.val (.str x),.val (.lst (.str (MP x)::(NK x).map D.str)),.val (.int n),.val (.lst ((MR x).map HB)),WX [3] 4 v4,WX [3] 5 v5]:={_,rfl}
  have hh:hide [3] (lE x (MR x) v4 v5)=E:=by
   rw[hE,<-e];rfl
  have t1:gB (g2 ZF (AR 2) (gC .non)) E=.ok (AB,E):=by rw[hE];rfl
  have t2:gB (SV OM OM (gC (.int 1)) (AR 2) (gC (.int 24))) E=.ok (decide (1<=n/\n<=24),E):=Oq (by rw[hE];rfl)
  have t3:gB (g2 YU (gN IG [(AR 3)]) (gC (.int 120))) E=.ok (!decide ((MR x).length<=120),E):=by
   have:gB (g2 YU (gN IG [(AR 3)]) (gC (.int 120))) E=.ok (decide (((MR x).length:Int)>120),E):=by
    rw[hE];exact KD (DQ (x:=.int ((MR x).length:Int)) (y:=.int 120) (NS (FK (d:=.lst ((MR x).map HB)) rfl) (sE (by rw[AK]))) rfl rfl)
   rw[this]
   by_cases h:(MR x).length<=120
   .rw[decide_eq_true h,decide_eq_false 'l'];rfl
   .rw[decide_eq_false h,decide_eq_true 'l'];rfl
  have t4:gB (g2 IU (K8 (MQ (AR 3)) 1 [2] (.nm 0) (gB (g2 kQ (gN hG [(AR 0)]) (AR 1))) (AR 0)) (J8 [])) E=.ok (!(MR x).all λp=>decide (max p.1 p.2<n),E):=by
   have hc:K8 (MQ (AR 3)) 1 [2] (.nm 0) (gB (g2 kQ (gN hG [(AR 0)]) (AR 1))) (AR 0) E=.ok (.lst (((MR x).map HB).flatMap λd=>match d with|.tup [.int a,.int b]=>if decide (max a b>=n) then[d] else[]|_=>[]),E):=by
    refine mX _ (λEc=>∃u,Ec=[u,.val (.int n)]) (mV (ds:=(MR x).map HB) (by rw[hE];rfl)) {.no,by rw[hE];rfl} (by rw[AK];exact FP) (λd hd Ec Cd=>?_) (λEc Cd=>?_)
    .obtain⟨u,rfl⟩:=Cd
     obtain⟨p,_,rfl⟩:=BZ.mp hd;refine{[.val (HB p),.val (.int n)],rfl,decide (max p.1 p.2>=n),[.val (HB p),.val (.int n)],KD (DQ (x:=.int (max p.1 p.2)) (y:=.int n) (NS (FK (d:=HB p) rfl) rfl) rfl rfl),?_}
     by_cases z:max p.1 p.2>=n
     .rw[decide_eq_true z]
      exact .inl {rfl,HB p,_,rfl,by show(if decide (max p.1 p.2>=n)=AG then[HB p] else[])=_;rw[decide_eq_true z];rfl,_,rfl}
     .rw[decide_eq_false z]
      exact .inr {rfl,by show(if decide (max p.1 p.2>=n)=AG then[HB p] else[])=_;rw[decide_eq_false z];rfl,_,rfl}
    .obtain⟨u,rfl⟩:=Cd
     rw[hE];cases v4<;>cases v5<;>rfl
   have hf:((MR x).map HB).flatMap (λd=>match d with|.tup [.int a,.int b]=>if decide (max a b>=n)=AG then[d] else[]|_=>[])=((MR x).filter λp=>decide (max p.1 p.2>=n)).map HB:=by
    induction MR x with
    |nil=>rfl
    |cons p ps ih =>
     rw[A1,FU,ih,gS];show(if decide (max p.1 p.2>=n)=AG then[HB p] else[])++_=_;cases decide (max p.1 p.2>=n)<;>rfl
   rw[hf] at hc;refine KD (DQ hc (y:=.lst []) (RA bE 'd') ?_);rw[zA (Qd _)]
   congr 2
   rw[gR]
   cases h:(MR x).all λp=>decide (max p.1 p.2<n) with
   |true =>
    rw[EK] at h
    have:(MR x).filter (λp=>decide (max p.1 p.2>=n))=[]:=W5.mpr λp hp=>by
     have:=h p hp;simp at this ⊢;lia
    rw[this];rfl
   |false =>
    rw[MY] at h;obtain⟨p,hp,e⟩:=h;have m:p∈(MR x).filter λp=>decide (max p.1 p.2>=n):=LF.mpr {hp,by simp at e ⊢;lia}
    cases q:(MR x).filter λp=>decide (max p.1 p.2>=n) with
    |nil=>rw[q] at m;cases m
    |cons _ _=>rfl
  rw[Oc,hr,DS,<-hn] at hO
  by_cases c1:1<=n/\n<=24
  .rw[decide_eq_true c1] at t2 hO
   by_cases c2:(MR x).length<=120
   .rw[decide_eq_true c2] at t3 hO
    have c:=cS (is:=[3]) (E:=lE x (MR x) v4 v5) (g:=LU (gB (g2 ZF (AR 2) (gC .non))) (LU (M7 (gB (SV OM OM (gC (.int 1)) (AR 2) (gC (.int 24))))) (gB (g2 YU (gN IG [(AR 3)]) (gC (.int 120)))))) (by rw[hh];exact RP t1 (RP (W0 t2) t3));have d:=cS (is:=[3]) (E:=lE x (MR x) v4 v5) (g:=gB (g2 IU (K8 (MQ (AR 3)) 1 [2] (.nm 0) (gB (g2 kQ (gN hG [(AR 0)]) (AR 1))) (AR 0)) (J8 []))) (by rw[hh];exact t4);rw[DS,DS] at hO
    cases c3:(MR x).all λp=>decide (max p.1 p.2<n) with
    |true =>
     rw[c3] at d hO;have hd:WW x=WT x:=by unfold WW;rw[if_pos hO]
     rw[hd,Od,<-hn];refine{_,D7 (KO c rfl) (D7 (KO d rfl) (KP (j5 (E':=E) ?_ ?_)))}
     .rw[hh]
      exact fQ (OW (d:=.int n) (by rw[hE];rfl) (FK (NS (FK (d:=.lst ((MR x).map HB)) (by rw[hE];rfl)) rfl))) (show 2<10000 by decide)
     .show((!AG||(pA8 [D.int n,D.tup ((MR x).map HB)]))&&(!AB||_))=AG
      rw[pA8,pA8,pA8,D.flat,Ti];rfl
    |false =>
     rw[c3] at d hO;have hd:WW x=.non:=by unfold WW;rw[hO];rfl
     rw[hd];exact{_,D7 (KO c rfl) (QB (NW d (KP (d:=.non) rfl)))}
   .rw[decide_eq_false c2] at t3 hO
    have c:=cS (is:=[3]) (E:=lE x (MR x) v4 v5) (g:=LU (gB (g2 ZF (AR 2) (gC .non))) (LU (M7 (gB (SV OM OM (gC (.int 1)) (AR 2) (gC (.int 24))))) (gB (g2 YU (gN IG [(AR 3)]) (gC (.int 120)))))) (by rw[hh];exact RP t1 (RP (W0 t2) t3));have hd:WW x=.non:=by unfold WW;rw[hO];rfl
    rw[hd];exact{_,QB (NW c (KP (d:=.non) rfl))}
  .rw[decide_eq_false c1] at t2 hO
   have c:=cS (is:=[3]) (E:=lE x (MR x) v4 v5) (g:=LU (gB (g2 ZF (AR 2) (gC .non))) (LU (M7 (gB (SV OM OM (gC (.int 1)) (AR 2) (gC (.int 24))))) (gB (g2 YU (gN IG [(AR 3)]) (gC (.int 120)))))) (by rw[hh];exact RP t1 (cL (W0 t2)));have hd:WW x=.non:=by unfold WW;rw[hO];rfl
   rw[hd];exact{_,QB (NW c (KP (d:=.non) rfl))}
theorem yDI(hx:EQ x)(hl:x.length<9000):nH [.val (.str x)]=.ok (AB,WW x,.non):=by
 have lH:=R1 (x:=x) qH;have hT:=tQ hl;rw[AK] at hT
 have a1:FS (.nm 1) (g2 P4 (AR 0) (gC (.str " "))) [.val (.str x),.no,.no,.no,.no,.no]=.ok (.nx [.val (.str x),.val (.lst (.str (MP x)::(NK x).map D.str)),.no,.no,.no,.no]):=by
  refine KR (DQ (x:=.str x) (y:=.str " ") rfl rfl (kG hl (by decide +kernel))) ?_;rw[tY];rfl
 have a2:FS (.nm 2) (G9 ZQ [(g2 FG (AR 1) (gC (.int 0)))]) [.val (.str x),.val (.lst (.str (MP x)::(NK x).map D.str)),.no,.no,.no,.no]=.ok (.nx [.val (.str x),.val (.lst (.str (MP x)::(NK x).map D.str)),.val (KN (MP x)),.no,.no,.no]) :=
  KR (M3 (FK (DQ (x:=.lst (.str (MP x)::(NK x).map D.str)) (y:=.int 0) rfl rfl (jQ (iD 'd' rfl)))) (Dh (SX hx qH) 'l')) rfl
 have a3:cP 3 (J8 []) [.val (.str x),.val (.lst (.str (MP x)::(NK x).map D.str)),.val (KN (MP x)),.no,.no,.no]=.ok (.nx (lE x [] .no .no)):=tE (RA bE 'd')
 have sl:MQ (OI (AR 1) (AA (gC (.int 1))) AH) (lE x [] .no .no)=.ok ((NK x).map D.str,lE x [] .no .no):=by
  refine mV ?_;refine EM (a:=(.lst (.str (MP x)::(NK x).map D.str),lE x [] .no .no)) rfl (EM (a:=(AA 1,lE x [] .no .no)) rfl (EM (a:=(AH,lE x [] .no .no)) rfl ?_));show Out.ok (D.lst (PF (.str (MP x)::(NK x).map D.str) (AA 1) AH),lE x [] .no .no)=_;rw[Go];rfl
 obtain⟨L1,L2'⟩:=Sv (x:=x) (NK x) [] .no .no (λw hw=>{SX hx (qG hw),by have:=R1 (qG hw);lia}) (by simpa using hT)
 cases g:(NK x).all RO&&rz AH ((NK x).map N2) with
 |false =>
  obtain⟨E',e⟩:=L2' g
  have hd:WW x=.non:=by
   unfold WW;rw[if_neg];intro z;unfold fL at z;rw[Oc] at z;simp only[BE] at z
   have:((NK x).all RO&&rz AH ((NK x).map N2))=AG:=by
    rw[BE];exact{z.2.1,z.2.2.2.2.1}
   rw[this] at g;cases g
  rw[hd];have f:ZG (MQ (OI (AR 1) (AA (gC (.int 1))) AH)) (.nm 4) pO (lE x [] .no .no)=.ok (.rt AB .non E'):=EM sl e;exact K7 (D7 a1 (D7 a2 (D7 a3 (QB f)))) rfl
 |true =>
  obtain⟨v4,v5,e⟩:=L1 g;rw[BE] at g;have f:ZG (MQ (OI (AR 1) (AA (gC (.int 1))) AH)) (.nm 4) pO (lE x [] .no .no)=.ok (.nx (lE x (MR x) v4 v5)):=EM sl e;obtain⟨E',r⟩:=yDH g.1 g.2 (by rw[yDG];exact hT) v4 v5;exact K7 (D7 a1 (D7 a2 (D7 a3 (D7 f r)))) rfl
theorem Ob(n:Nat)(a:Int):zBL (n+1) [.val (.int a),.val (.int a)]=.ok (AB,.bl AG,.non) :=
 K7 (D7 (KO (E1:=[.val (.int a),.val (.int a)]) (cM (qL (d:=.int a) rfl) rfl) rfl) (KP (xU (E1:=[.val (.int a),.val (.int a)]) (yGE (qL (d:=.int a) rfl)) (DQ (x:=.int a) (y:=.int a) rfl rfl (d:=.bl AG) (by rw[qM];simp))))) rfl
theorem zF{ds:List D}(hl:ds.length<10000)(h:∀d∈ds,zBL n [.val d,.val d]=.ok (AB,.bl AG,.non)):zBL (n+1) [.val (.tup ds),.val (.tup ds)]=.ok (AB,.bl AG,.non):=by
 have hc:K8 (nM (AR 0) (AR 1)) 2 [] (.tp [(.nm 0),(.nm 1)]) JN (G9 (zBL n) [(AR 0),(AR 1)]) [.val (.tup ds),.val (.tup ds)]=.ok (.lst ((hU ds ds).flatMap λ_=>[.bl AG]),[.val (.tup ds),.val (.tup ds)]):=by
  refine mX _ (λE=>E.length=2) (gi:=nM (AR 0) (AR 1)) rfl rfl (by simpa[hU] using hl) (λd hd E hE=>?_) λEc _=>qR Ec 2 0 _;obtain⟨x,y,rfl⟩:=Nt hE;obtain⟨⟨p,q⟩,hp,rfl⟩:=BZ.mp hd
  have OP:p=q/\p∈ds:=by
   obtain⟨i,hi⟩:=List.mem_iff_getElem?.mp hp;rw[VC] at hi;obtain⟨a,b⟩:=hi;rw[a] at b;exact{BV b,K5 a}
  obtain⟨rfl,hm⟩:=OP;exact{_,rfl,AG,_,rfl,.inl {rfl,.bl AG,_,M3 (ds:=[p,p]) rfl (h p hm),rfl,rfl}}
 rw[Rr] at hc
 have t1:LU (M7 (P9 (V6 "tuple" (AR 0)))) (gB (g2 IU (gN IG [(AR 0)]) (gN IG [(AR 1)]))) [.val (.tup ds),.val (.tup ds)]=.ok (AB,[.val (.tup ds),.val (.tup ds)]) :=
  RP (W0 (b:=AG) (cM (qL (d:=.tup ds) rfl) rfl)) (KD (DQ (NS (FK (d:=.tup ds) rfl) rfl) (NS (FK (d:=.tup ds) rfl) rfl) (d:=.bl AB) (by rw[mW];simp)))
 exact K7 (QB (NW (E1:=[.val (.tup ds),.val (.tup ds)]) (cM (qL (d:=.tup ds) rfl) rfl) (D7 (KO t1 rfl) (KP (NS (FK hc) (zYT _)))))) rfl
theorem zM(n:Nat){xs:List Int}(hl:xs.length<10000):zBL (n+2) [.val (.tup (xs.map D.int)),.val (.tup (xs.map D.int))]=.ok (AB,.bl AG,.non) :=
 zF (by rw[AK];exact hl) λd hd=>by
  obtain⟨p,_,rfl⟩:=BZ.mp hd;exact Ob n p
def YS(way:Int)(x:BL):Bool:=if way=0 then fL x else if way=1 then SR x else XD x
def YF(way:Int)(x:BL):D:=if way=0 then WT x else if way=1 then .tup ((cI x).map D.int) else nN x
def fE(way:Int)(x:BL):D:=if YS way x=AG then YF way x else .non
noncomputable def kb:List D:=[.bl AB,.bl AB,.bl AB,.bl AB,.bl AB,.bl AB,.bl AG,.bl AB,.bl AB,.bl AB,.bl AG]
theorem yDJ:uF [.val (.int 6)]=.ok (AB,.lst kb,.non):=by rfl
theorem De{m0 m1 m2:Mr}{gb:G}{gs:List G}{E:Ev}{i:Int}{r:Out (D×Ev)}(h:gb E=.ok (.int i,E1))(hi:0<=i/\i<3)(h2:G9 (if i=0 then m0 else if i=1 then m1 else m2) gs E1=r):fM m0 m1 m2 gb gs E=r:=EM h ((if_pos hi).trans h2)
theorem zY5{m0 m1 m2:List D->Out Ev}{gb:G}{gs:List G}{E:Ev}{i:Int}{r:Out Ev}(h:gb E=.ok (.int i,E1))(hi:0<=i/\i<3)(h2:YV gs (if i=0 then m0 else if i=1 then m1 else m2) E1=r):p7 m0 m1 m2 gb gs E=r:=EM h ((if_pos hi).trans h2)
theorem yG1(hw:0<=way/\way<3)(hx:EQ x)(hl:x.length<9000):(if way=0 then nH else if way=1 then cX else nI) [.val (.str x)]=.ok (AB,fE way x,.non):=by
 have e:fE way x=if way=0 then WW x else if way=1 then T6 x else gZ x:=by
  unfold fE YS YF WW T6 gZ
  by_cases h0:way=0
  .simp only[if_pos h0]
  .by_cases h1:way=1
   .simp only[if_neg h0,if_pos h1]
   .simp only[if_neg h0,if_neg h1]
 rw[e]
 by_cases h0:way=0
 .rw[if_pos h0,if_pos h0]
  exact yDI hx hl
 .by_cases h1:way=1
  .rw[if_neg h0,if_pos h1,if_neg h0,if_pos h1]
   exact Oi hx hl
  .rw[if_neg h0,if_neg h1,if_neg h0,if_neg h1]
   exact yC8 hx hl
theorem yI9(hx:EQ x)(hl:x.length<9000)(h:YS way x=AG):(if way=0 then cU else if way=1 then W1 else cW) [.val (.str x)]=.ok (AB,YF way x,.non):=by
 unfold YS at h;unfold YF
 by_cases h0:way=0
 .rw[if_pos h0] at h ⊢
  rw[if_pos h0];exact yC9 hx hl h
 .by_cases h1:way=1
  .rw[if_neg h0,if_pos h1] at h ⊢
   rw[if_neg h0,if_pos h1];exact yP hx hl h
  .rw[if_neg h0,if_neg h1] at h ⊢
   rw[if_neg h0,if_neg h1];exact yGX hx hl h
theorem yJA(hx:EQ x)(hl:x.length<9000)(h:YS way x=AB):(if way=0 then cU else if way=1 then W1 else cW) [.val (.str x)]=.bad/\∃z,(if way=0 then kK else if way=1 then bG else kL) [.str x]=.ok z:=by
 unfold YS at h
 by_cases h0:way=0
 .rw[if_pos h0] at h ⊢
  rw[if_pos h0];exact yDB hx hl h
 .by_cases h1:way=1
  .rw[if_neg h0,if_pos h1] at h ⊢
   rw[if_neg h0,if_pos h1];exact Cn hx hl h
  .rw[if_neg h0,if_neg h1] at h ⊢
   rw[if_neg h0,if_neg h1];exact yGY hx hl h
theorem yG2(hw:0<=way/\way<3)(hx:EQ x)(hl:x.length<9000)(h:YS way x=AG):kJ [.val (.int way),.val (.str x)]=.ok (AB,YF way x,.non):=by
 have r:=yI9 (way:=way) hx hl h
 have a:FS (.nm 2) (fM cU W1 cW (AR 0) [(AR 1)]) [.val (.int way),.val (.str x),.val .non,.val (.lst []),.no]=.ok (.nx [.val (.int way),.val (.str x),.val (YF way x),.val (.lst []),.no]) :=
  KR (De (i:=way) rfl hw (M3 (ds:=[.str x]) rfl r)) rfl
 have t:l6 (FS (.nm 2) (fM cU W1 cW (AR 0) [(AR 1)])) (p7 kK bG kL (AR 0) [(AR 1)]) 3 4 [AB,AB,AB,AB,AB,AB,AG,AB,AB,AB,AG] [.val (.int way),.val (.str x),.val .non,.val (.lst []),.no]=.ok (.nx [.val (.int way),.val (.str x),.val (YF way x),.val (.lst []),.no]):=by
  unfold l6;rw[a]
 exact K7 (D7 (KR (d:=.non) rfl rfl) (D7 (KR (RA bE 'd') rfl) (D7 t (KP (EM (KD (DQ (x:=.lst []) (y:=.lst []) rfl (RA bE 'd') (zYC (Pls.lst (n:=59) (.nil _))))) ((if_pos rfl).trans rfl)))))) rfl
theorem yG3(hw:0<=way/\way<3)(hx:EQ x)(hl:x.length<9000)(h:YS way x=AB):kJ [.val (.int way),.val (.str x)]=.ok (AB,.lst kb,.non):=by
 obtain⟨b1,z,hz⟩:=yJA (way:=way) hx hl h
 have a:FS (.nm 2) (fM cU W1 cW (AR 0) [(AR 1)]) [.val (.int way),.val (.str x),.val .non,.val (.lst []),.no]=.bad :=
  Dv (De (i:=way) rfl hw (kI (ds:=[.str x]) rfl b1))
 have gx:p7 kK bG kL (AR 0) [(AR 1)] [.val (.int way),.val (.str x),.val .non,.val (.lst []),.no]=.ok [.val (.int way),.val (.str x),.val .non,.val (.lst []),.no] :=
  zY5 (i:=way) rfl hw (jV (ds:=[.str x]) rfl hz)
 have t:l6 (FS (.nm 2) (fM cU W1 cW (AR 0) [(AR 1)])) (p7 kK bG kL (AR 0) [(AR 1)]) 3 4 [AB,AB,AB,AB,AB,AB,AG,AB,AB,AB,AG] [.val (.int way),.val (.str x),.val .non,.val (.lst []),.no]=.ok (.nx [.val (.int way),.val (.str x),.val .non,.val (.lst kb),.no]):=by
  unfold l6;rw[a];exact EM gx rfl
 exact K7 (D7 (KR (d:=.non) rfl rfl) (D7 (KR (RA bE 'd') rfl) (D7 t (KP (EM (KD (DQ (x:=.lst kb) (y:=.lst []) (d:=.bl AB) rfl (RA bE 'd') rfl)) ((if_neg BJ).trans rfl)))))) rfl
theorem yG4(hl:x.length<9000)(h:YS way x=AG):zBL 5 [.val (YF way x),.val (YF way x)]=.ok (AB,.bl AG,.non):=by
 have pl:∀(z y:BL),z.length<9000->((AZ z y).map KQ).length<10000:=λz y hz=>by rw[AK];have:=z6 z y;lia
 have pv:∀z:BL,z.length<9000->(cI z).length<10000:=λz hz=>by
  unfold cI;split
  .exact(by decide:0<10000)
  .exact pl z " " hz
 unfold YF;unfold YS at h
 by_cases h0:way=0
 .rw[if_pos h0]
  have hT:=tQ hl;rw[AK] at hT;refine zF (by exact(by decide:2<10000)) λd hd=>?_;rcases A9.mp hd with e|hd
  .rw[e];exact Ob 3 _
  .rw[BW.mp hd]
   refine zF (by rw[AK];exact hT) λd hd=>?_;obtain⟨w,_,rfl⟩:=BZ.mp hd;exact zM 1 (xs:=[(N2 w).1,(N2 w).2]) (by exact(by decide:2<10000))
 .by_cases h1:way=1
  .rw[if_neg h0,if_pos h1]
   exact zM 3 (pv x hl)
  .rw[if_neg h0,if_neg h1]
   rw[if_neg h0,if_neg h1] at h;unfold XD at h;unfold nN
   by_cases h2:(AZ x " / ").length=2
   .obtain⟨a,b,e⟩:=j3 h2
    have la:a.length<=x.length:=R1 (y:=" / ") (by rw[e];simp);have lb:b.length<=x.length:=R1 (y:=" / ") (by rw[e];simp);rw[e];dsimp only[nP];refine zF (by exact(by decide:2<10000)) λd hd=>?_;rcases A9.mp hd with e|hd
    .rw[e];exact zM 2 (pv a 'l')
    .rw[BW.mp hd];exact zM 2 (pv b 'l')
   .rw[yN h2] at h;cases h
section
variable{z:BL}
theorem iF(hx:EQ x)(hy:EQ y):EQ (x++y):=US.mpr λc hc=>by
 have e:(x++y).cps.toList=x.cps.toList++y.cps.toList:=ES;rw[e] at hc;rcases GN.mp hc with h|h
 .exact kE hx h
 .exact kE hy h
theorem fS(x y:BL):(x++y).length=x.length+y.length:=GO
theorem zT(hx:EQ x)(l u:Option Int):EQ (HN x l u):=by
 unfold HN;split
 .exact hx
 .refine US.mpr λc hc=>?_
  obtain⟨i,_,e⟩:=FF.mp hc;exact kE hx (FO.mpr (W7 e))
theorem Rp(hz:EQ z):∀{ys:List BL},(∀y∈ys,EQ y)->EQ (Str.join z ys)
 |[],_=>by show EQ Str.empty;unfold EQ;decide +kernel
 |[y],h=>h y AU
 |y::w::ys,h=>iF (iF (h y AU) hz) (Rp hz λa ha=>h a (AS _ ha))
theorem Ek(hz:EQ z){ys:List BL}(h:∀y∈ys,EQ y):EQ (J5 z ys):=by
 show EQ (V4 z ys);rw[V2];exact Rp hz h
theorem Qc(z:BL)(ys:List BL):(J5 z ys).length<=(ys.map (·.length)).sum+ys.length * z.length:=by
 show(V4 z ys).length<=_;rw[V2];exact StrLaws.join_length_le z ys
theorem Xx{r:Int}(hz:EQ z)(hl:z.length<10000)(h0:0<=r)(h1:r<z.length):∃c,FG (.str z) (.int r)=.ok (.str c)/\EQ c/\c.length=1:=by
 have hi:r.toNat<z.cps.toList.length:=by rw[qJ];lia
 refine{{#[z.cps.toList[r.toNat]]},?_,Di (kE hz (F7 hi)),rfl};have e:L2.atI z.cps.toList r=AA z.cps.toList[r.toNat]:=iD h0 (BU hi);show RS z.length _=_;unfold RS;rw[if_pos hl,e]
theorem Gc{g:G}{lo hi:Option G}{l h:Option Int}{E:Ev}(hg:g E=.ok (.str x,E))(hl:x.length<10000)(h1:ZK lo E=.ok (l,E))(h2:ZK hi E=.ok (h,E)):mT g lo hi E=.ok (.str (HN x l h),E):=by
 unfold mT;rw[hg];simp only[Out.bind,h1,h2,Gd,RS,if_pos hl]
theorem nK(h:x.length+y.length<10000):IH (.str x) (.str y)=.ok (.str (x++y)):=if_pos h
theorem Vf(h:z.length<10000):IG [.str z]=.ok (.int z.length):=if_pos h
noncomputable def sg1:BL:=" !\"#$&'()*+,-./0123456789:;<=>?@ABCDEFGHIJKLMNOPQRSTUVWXYZ[\\]^_`abcdefghijklmnopqrstuvwxyz{|}~\n"
def sg2:BL:=" >0129-/\n"
theorem yDL:EQ sg1:=by unfold EQ;decide +kernel
theorem yDM:EQ sg2:=by unfold EQ;decide +kernel
theorem Oy:sg1.length=95:=by decide +kernel
theorem Ox:sg2.length=9:=by decide +kernel
def bS(d:D)(x:BL)(u4 u5 u6:Sl):Ev:=[.own AG d,.val (.str x),.val (.str sg1),.val (.str sg2),u4,u5,u6]
theorem zY6{d:D}(hx:EQ x)(hl:x.length<4500)(B:Bag k d)(hk:k<700000):∃y d',Aj [.own AG d,.val (.str x)]=.ok (AB,.str y,d')/\EQ y/\y.length<=2 * x.length+1/\Bag (k+20) d':=by
 obtain⟨w,d1,e1,w0,w1,B1⟩:=tk (g:=gC (.int 3)) (E:=bS d x .no .no .no) rfl B 'l' rfl 'l' 'l';obtain⟨i,d2,e2,i0,i1,B2⟩:=tk (g:=gC (.int 95)) (E:=bS d1 x (.val (.int w)) .no .no) rfl B1 'l' rfl 'l' 'l';obtain⟨j,d3,e3,j0,j1,B3⟩:=tk (g:=gC (.int 9)) (E:=bS d2 x (.val (.int w)) .no .no) rfl B2 'l' rfl 'l' 'l';obtain⟨o,d4,e4,o0,o1,B4⟩:=tk (g:=gC (.int 2)) (E:=bS d3 x (.val (.int w)) .no .no) rfl B3 'l' rfl 'l' 'l';obtain⟨c1,hc1,ac1,lc1⟩:=Xx yDL (by rw[Oy];decide) i0 (by rw[Oy];exact i1);obtain⟨c2,Y2,ac2,lc2⟩:=Xx yDM (by rw[Ox];decide) j0 (by rw[Ox];exact j1)
 obtain⟨c,hc,ac,lc⟩:∃c,([D.str c1,.str c2])[o.toNat]?=AA (.str c)/\EQ c/\c.length=1:=by
  have:o=0\/o=1:=by lia
  rcases this with h|h
  .exact{c1,by rw[h];rfl,ac1,lc1}
  .exact{c2,by rw[h];rfl,ac2,lc2}
 have s5:FS (.nm 5) (g2 FG (J8 [(g2 FG (AR 2) (GT HA 0 [(gC (.int 95))])),(g2 FG (AR 3) (GT HA 0 [(gC (.int 9))]))]) (GT HA 0 [(gC (.int 2))])) (bS d1 x (.val (.int w)) .no .no)=.ok (.nx (bS d4 x (.val (.int w)) (.val (.str c)) .no)) :=
  KR (DQ (RA (OW (DQ (x:=.str sg1) rfl e2 hc1) (FK (DQ (x:=.str sg2) rfl e3 Y2))) (show 2<10000 by decide)) e4 (YG (xs:=[]) o0 hc)) rfl
 obtain⟨a,d5,e5,a0,a1,B5⟩:=tk (g:=g2 IH (gN IG [(AR 1)]) (gC (.int 1))) (E:=bS d4 x (.val (.int w)) (.val (.str c)) .no) (n:=x.length+1) rfl B4 'l' (DQ (NS (FK (d:=.str x) rfl) (Vf 'l')) (y:=.int 1) rfl rfl) 'l' 'l';obtain⟨p,d6,e6,p0,p1,B6⟩:=tk (g:=gC (.int 6)) (E:=bS d5 x (.val (.int w)) (.val (.str c)) (.val (.int a))) rfl B5 'l' rfl 'l' 'l'
 have s7:∃(q:Int) (d7:D),L7 (gB (g2 MJ (GT HA 0 [(gC (.int 6))]) (gC (.int 0)))) (FS (.nm 6) (g2 FG (J8 [(gC (.int 0)),(gN IG [(AR 1)])]) (GT HA 0 [(gC (.int 2))]))) MS (bS d5 x (.val (.int w)) (.val (.str c)) (.val (.int a)))=.ok (.nx (bS d7 x (.val (.int w)) (.val (.str c)) (.val (.int q))))/\Bag (k+7) d7:=by
  have t:gB (g2 MJ (GT HA 0 [(gC (.int 6))]) (gC (.int 0))) (bS d5 x (.val (.int w)) (.val (.str c)) (.val (.int a)))=.ok (decide (p=0),bS d6 x (.val (.int w)) (.val (.str c)) (.val (.int a))):=KD (DQ e6 (y:=.int 0) rfl (qM _ _))
  by_cases h:p=0
  .obtain⟨m,d7,e7,m0,m1,B7⟩:=tk (g:=gC (.int 2)) (E:=bS d6 x (.val (.int w)) (.val (.str c)) (.val (.int a))) rfl B6 'l' rfl 'l' 'l'
   obtain⟨q,hq⟩:∃q:Int,([D.int 0,.int x.length])[m.toNat]?=AA (.int q):=by
    have:m=0\/m=1:=by lia
    rcases this with h|h
    .exact{0,by rw[h];rfl}
    .exact{x.length,by rw[h];rfl}
   rw[decide_eq_true h] at t;exact{q,d7,NW t (KR (DQ (RA (OW (d:=.int 0) rfl (FK (NS (FK (d:=.str x) rfl) (Vf 'l')))) (show 2<10000 by decide)) e7 (YG (xs:=[]) m0 hq)) rfl),B7.mono 'l'}
  .rw[decide_eq_false h] at t
   exact{a,d6,KO t rfl,B6.mono 'l'}
 obtain⟨q,d7,e7,B7⟩:=s7;obtain⟨E8,rY⟩:∃E8,E8=bS d7 x (.val (.int w)) (.val (.str c)) (.val (.int q)):={_,rfl};have v1:AR 1 E8=.ok (.str x,E8):=by rw[rY];rfl
 have v4:AR 4 E8=.ok (.int w,E8):=by rw[rY];rfl
 have v5:AR 5 E8=.ok (.str c,E8):=by rw[rY];rfl
 have v6:AR 6 E8=.ok (.int q,E8):=by rw[rY];rfl
 have QG:x.length<10000:=by lia
 have l1:=RH x AH (AA q);have p6:ZK (AA (AR 6)) E8=.ok (AA q,E8):=EM v6 rfl;have Yq:=Gc v1 QG (lo:=AH) (l:=AH) rfl p6;have t:gB (g2 MJ (AR 4) (gC (.int 0))) E8=.ok (decide (w=0),E8):=KD (DQ v4 (y:=.int 0) rfl (qM _ _));rw[<-rY] at e7;have XW:∀y,fin [.own AG d,.val (.str x)] E8 AB (.str y)=.ok (AB,.str y,d7):=λy=>by rw[rY];rfl
 by_cases h:w=0
 .rw[decide_eq_true h] at t
  have l2:=RH x (AA (q+1)) AH;have r:=nK (x:=HN x AH (AA q)) (y:=HN x (AA (q+1)) AH) 'l';refine{_,d7,K7 (E':=E8) (D7 rfl (D7 rfl (D7 (KR e1 rfl) (D7 s5 (D7 (KR e5 rfl) (D7 e7 (QB (NW t (KP (DQ Yq (Gc v1 QG (EM (DQ v6 (y:=.int 1) rfl rfl) rfl) rfl) r)))))))))) (XW _),iF (zT hx _ _) (zT hx _ _),by rw[fS];lia,B7.mono 'l'}
 .rw[decide_eq_false h] at t
  have l2:=RH x (AA (q+w-1)) AH;have r1:=nK (x:=HN x AH (AA q)) (y:=c) 'l';have r:=nK (x:=HN x AH (AA q)++c) (y:=HN x (AA (q+w-1)) AH) (by rw[fS];lia);exact{_,d7,K7 (E':=E8) (D7 rfl (D7 rfl (D7 (KR e1 rfl) (D7 s5 (D7 (KR e5 rfl) (D7 e7 (D7 (KO t rfl) (KP (DQ (DQ Yq v5 r1) (Gc v1 QG (EM (DQ (DQ v6 v4 rfl) (y:=.int 1) rfl rfl) rfl) rfl) r))))))))) (XW _),iF (iF (zT hx _ _) ac) (zT hx _ _),by rw[fS,fS];lia,B7.mono 'l'}
end
theorem Ej(f:α->β)(xs:List α)(lo hi:Option Int):PF (xs.map f) lo hi=(PF xs lo hi).map f:=by
 unfold PF;rw[AK,List.map_take,List.map_drop]
theorem mR{xs:List α}{lo:Option Int}{x:α}(h:x∈PF xs lo hi):x∈xs:=Y8 (Y7 h)
def wt(ys:List BL):Nat:=(ys.map (·.length)).sum+ys.length
theorem bB(y:BL)(ys:List BL):wt (y::ys)=y.length+1+wt ys:=by
 unfold wt;simp only[A1,List.sum_cons,A0];lia
theorem QA:∀xs ys:List BL,wt (xs++ys)=wt xs+wt ys
 |[],ys=>by rw[LD];show _=0+_;lia
 |x::xs,ys=>by rw[NQ,bB,QA xs ys,bB];lia
theorem Ow:∀(n:Nat) (xs:List BL),wt (xs.take n)<=wt xs
 |0,xs=>B0 _
 |n+1,[]=>AO _
 |n+1,x::xs=>by rw[List.take_succ_cons,bB,bB];exact Nat.add_le_add_left (Ow n xs) _
theorem Ov:∀(n:Nat) (xs:List BL),wt (xs.drop n)<=wt xs
 |0,xs=>AO _
 |n+1,[]=>AO _
 |n+1,x::xs=>by rw[aU,bB];exact AV (Ov n xs) (CK _ _)
theorem pX(xs:List BL)(lo hi:Option Int):wt (PF xs lo hi)<=wt xs:=AV (Ow _ _) (Ov _ _)
theorem sO:∀xs:List BL,wt xs.reverse=wt xs
 |[]=>rfl
 |x::xs=>by rw[GR,QA,sO xs,bB,bB];show _+(_+0)=_;lia
theorem yG5{xs:List BL}(h:y∈xs):wt [y]<=wt xs:=by
 obtain⟨a,b,rfl⟩:=List.append_of_mem h;rw[QA,bB,bB];show _+0<=_;lia
theorem Cr(xs:List BL):xs.length<=wt xs:=CK _ _
theorem Gv(E:Ev):∀ds:List D,M6 (ds.map gC) E=.ok (ds,E)
 |[]=>rfl
 |d::ds=>OW (g:=gC d) rfl (Gv E ds)
noncomputable def oddS:List BL:=["","-","/","0","00","24","25","0>1","1>0","1>1","9999999","999999","net","look","gate","lane"]
theorem yDO:∀y∈oddS,EQ y:=by unfold EQ;decide +kernel
theorem yG6:∀y∈oddS,wt [y]<=8:=by decide +kernel
theorem uI{gl:G}{E:Ev}{zs:List BL}(h:gl E=.ok (.lst (zs.map D.str),E'))(hw:wt zs<9000):IS (g2 ZH (gC (.str " ")) gl) E=.ok (.rt AB (.str (J5 " " zs)) E') :=
 KP (DQ (x:=.str " ") rfl h (by
  show(match mO (zs.map D.str) with|some ys=>if((ys:List BL).map (λq:BL=>q.length)).sum+ys.length * (" ":BL).length<9000 then Out.ok (D.str (J5 " " ys)) else .bad|none=>.bad)=_;rw[Td]
  exact if_pos (by
   have:(" ":BL).length=1:=by decide +kernel
   rw[this];unfold wt at hw;lia)))
theorem fD{xs ys:List BL}(h:wt xs+wt ys<10000):IH (.lst (xs.map D.str)) (.lst (ys.map D.str))=.ok (.lst ((xs++ys).map D.str)):=by
 rw[LG];have:=Cr xs;have:=Cr ys;exact YM (by rw[AK,AK];lia)
theorem rJ{ws:List BL}{g:G}{lo hi:Option G}{l h:Option Int}{E:Ev}(hg:g E=.ok (.lst (ws.map D.str),E))(h1:ZK lo E=.ok (l,E))(h2:ZK hi E=.ok (h,E)):OI g lo hi E=.ok (.lst ((PF ws l h).map D.str),E):=by
 rw[<-Ej];exact EM hg (EM h1 (EM h2 rfl))
noncomputable def wE(d:D)(x:BL)(w:Int)(ws:List BL)(a:Int)(o:BL):Ev:=[.own AG d,.val (.str x),.val (.int w),.val (.lst (ws.map D.str)),.val (.int a),.val (.str o),.val (.lst (oddS.map D.str))]
theorem yJC{gb gt:GS}{sl E:Ev}(h0:∀r,gt E=r->gb (sl++DA (n-sl.length) .no)=r)
  (h:∃zs d' E',gt E=.ok (.rt AB (.str (J5 " " zs)) E')/\(∀y,fin sl E' AB (.str y)=.ok (AB,.str y,d'))/\(∀y∈zs,EQ y)/\wt zs<=3 * (x.length+1)+8/\Bag k d') :
  ∃y d',NR n gb sl=.ok (AB,.str y,d')/\EQ y/\y.length<=3 * x.length+12/\Bag k d':=by
 obtain⟨zs,d',E',e,f,ha,hw,B⟩:=h;refine{_,d',K7 (h0 _ e) (f _),Ek (by unfold EQ;decide +kernel) ha,?_,B};have l:=Qc " " zs;have e1:(" ":BL).length=1:=by decide +kernel
 rw[e1] at l;unfold wt at hw;lia
theorem yDP{d:D}(hx:EQ x)(hl:x.length<2900)(B:Bag k d)(hk:k<600000):∃y d',nD [.own AG d,.val (.str x)]=.ok (AB,.str y,d')/\EQ y/\y.length<=3 * x.length+12/\Bag (k+30) d':=by
 unfold nD Fd;obtain⟨w,d1,e1,w0,w1,B1⟩:=tk (g:=gC (.int 9)) (E:=[.own AG d,.val (.str x),.no,.no,.no,.no,.no]) rfl B 'l' rfl 'l' 'l';have t1:gB (g2 T9 (AR 2) (gC (.int 4))) [.own AG d1,.val (.str x),.val (.int w),.no,.no,.no,.no]=.ok (decide (w<4),[.own AG d1,.val (.str x),.val (.int w),.no,.no,.no,.no]):=KD (DQ (x:=.int w) (y:=.int 4) rfl rfl rfl)
 by_cases h4:w<4
 .rw[decide_eq_true h4] at t1
  obtain⟨y,d2,e2,ay,ly,B2⟩:=zY6 hx 'l' B1 'l';exact{y,d2,K7 (D7 (KR e1 rfl) (QB (NW t1 (KP (iG (d0:=d1) (t2:=AG) rfl (FK (d:=.str x) rfl) (t:=AG) (d:=d1) rfl e2))))) rfl,ay,by lia,B2.mono 'l'}
 rw[decide_eq_false h4] at t1;obtain⟨ws,Bw⟩:∃ws,ws=AZ x " ":={_,rfl};have wpos:1<=ws.length:=by rw[Bw];exact PyProof.Rows.split_pos x " "
 have hwt:wt ws<=x.length+1:=by rw[Bw];exact PyProof.Rows.split_weight x " " (by decide +kernel)
 have Bx:=Cr ws;have oN:∀y∈ws,EQ y:=λy hy=>SX hx (Bw▸hy)
 have s3:FS (.nm 3) (g2 P4 (AR 1) (gC (.str " "))) [.own AG d1,.val (.str x),.val (.int w),.no,.no,.no,.no]=.ok (.nx [.own AG d1,.val (.str x),.val (.int w),.val (.lst (ws.map D.str)),.no,.no,.no]):=by
  rw[Bw];exact KR (DQ (x:=.str x) (y:=.str " ") rfl rfl (kG 'l' (by decide +kernel))) rfl
 have ln:∀E:Ev,AR 3 E=.ok (.lst (ws.map D.str),E)->gN IG [(AR 3)] E=.ok (.int ws.length,E):=λE hE=>by
  have e:(D.int ws.length)=.int (ws.map D.str).length:=by rw[AK]
  rw[e];exact NS (FK hE) rfl
 obtain⟨a,d2,e2,a0,a1,B2⟩:=tk (g:=gN IG [(AR 3)]) (E:=[.own AG d1,.val (.str x),.val (.int w),.val (.lst (ws.map D.str)),.no,.no,.no]) rfl B1 'l' (ln _ rfl) 'l' 'l';obtain⟨b,d3,e3,b0,b1,B3⟩:=tk (g:=gN IG [(AR 3)]) (E:=[.own AG d2,.val (.str x),.val (.int w),.val (.lst (ws.map D.str)),.val (.int a),.no,.no]) rfl B2 'l' (ln _ rfl) 'l' 'l';have hb:b.toNat<ws.length:=by lia
 obtain⟨o,ho⟩:∃o,o=ws[b.toNat]:={_,rfl};have om:o∈ws:=by rw[ho];exact F7 hb
 have s5:FS (.nm 5) (g2 FG (AR 3) (GT HA 0 [(gN IG [(AR 3)])])) [.own AG d2,.val (.str x),.val (.int w),.val (.lst (ws.map D.str)),.val (.int a),.no,.no]=.ok (.nx [.own AG d3,.val (.str x),.val (.int w),.val (.lst (ws.map D.str)),.val (.int a),.val (.str o),.no]) :=
  KR (DQ (x:=.lst (ws.map D.str)) rfl e3 (YG (xs:=[]) b0 (by rw[BA,BU hb,ho];rfl))) rfl
 have s6:FS (.nm 6) (J8 [(gC (.str "")),(gC (.str "-")),(gC (.str "/")),(gC (.str "0")),(gC (.str "00")),(gC (.str "24")),(gC (.str "25")),(gC (.str "0>1")),(gC (.str "1>0")),(gC (.str "1>1")),(gC (.str "9999999")),(gC (.str "999999")),(gC (.str "net")),(gC (.str "look")),(gC (.str "gate")),(gC (.str "lane"))]) [.own AG d3,.val (.str x),.val (.int w),.val (.lst (ws.map D.str)),.val (.int a),.val (.str o),.no]=.ok (.nx (wE d3 x w ws a o)) :=
  KR (RA (Gv _ (oddS.map D.str)) (by decide +kernel)) rfl
 obtain⟨E,hE⟩:∃E,E=wE d3 x w ws a o:={_,rfl};have v2:AR 2 E=.ok (.int w,E):=by rw[hE];rfl
 have v3:AR 3 E=.ok (.lst (ws.map D.str),E):=by rw[hE];rfl
 have v4:AR 4 E=.ok (.int a,E):=by rw[hE];rfl
 have v5:AR 5 E=.ok (.str o,E):=by rw[hE];rfl
 have pa:ZK (AA (AR 4)) E=.ok (AA a,E):=EM v4 rfl;have pn:∀n:Int,ZK (AA (g2 IH (AR 4) (gC (.int n)))) E=.ok (AA (a+n),E):=λn=>EM (DQ v4 (y:=.int n) rfl rfl) rfl;have cond:∀c:Int,gB (g2 MJ (AR 2) (gC (.int c))) E=.ok (decide (w=c),E):=λc=>KD (DQ v2 (y:=.int c) rfl (qM _ _));have Iy:=pX ws AH (AA a);have s1:=rJ v3 (lo:=AH) (l:=AH) rfl pa;have sN:∀n:Int,OI (AR 3) (AA (g2 IH (AR 4) (gC (.int n)))) AH E=.ok (.lst ((PF ws (AA (a+n)) AH).map D.str),E):=λn=>rJ v3 (pn n) (hi:=AH) (h:=AH) rfl;rw[<-hE] at s6;refine yJC (x:=x) (λr h=>D7 (KR e1 rfl) (D7 (KO t1 rfl) (D7 s3 (D7 (KR e2 rfl) (D7 s5 (D7 s6 h)))))) ?_;have XW:∀y,fin [.own AG d,.val (.str x)] E AB (.str y)=.ok (AB,.str y,d3):=λy=>by rw[hE];rfl
 have Ck:Bag (k+30) d3:=B3.mono 'l';have nP:=pX ws (AA (a+1)) AH
 have jB:∀{l h l' h':Option Int} {zs:List BL},(∀y∈zs,EQ y)->∀y∈(PF ws l h++zs)++PF ws l' h',EQ y:=λhz y hy=>by
  rcases GN.mp hy with hy|hy
  .rcases GN.mp hy with hy|hy
   .exact oN y (mR hy)
   .exact hz y hy
  .exact oN y (mR hy)
 by_cases c4:w=4
 .have ct:=cond 4
  rw[decide_eq_true c4] at ct
  exact{_,d3,E,QB (NW ct (uI (DQ s1 (sN 1) (fD 'l')) (by rw[QA];lia))),XW,λy hy=>by
   rcases GN.mp hy with hy|hy
   .exact oN y (mR hy)
   .exact oN y (mR hy),by rw[QA];lia,Ck}
 have f4:=cond 4;rw[decide_eq_false c4] at f4
 by_cases c5:w=5
 .have ct:=cond 5
  rw[decide_eq_true c5] at ct;have m1:=pX ws (AA a) (AA (a+1));have m2:=pX ws (AA a) AH;exact{_,d3,E,D7 (KO f4 rfl) (QB (NW ct (uI (DQ (DQ s1 (rJ v3 pa (pn 1)) (fD 'l')) (rJ v3 pa (hi:=AH) (h:=AH) rfl) (fD (by rw[QA];lia))) (by rw[QA,QA];lia)))),XW,jB λy hy=>oN y (mR hy),by rw[QA,QA];lia,Ck}
 have f5:=cond 5;rw[decide_eq_false c5] at f5
 by_cases c6:w=6
 .have ct:=cond 6
  rw[decide_eq_true c6] at ct;have m1:=yG5 om;exact{_,d3,E,D7 (KO f4 rfl) (D7 (KO f5 rfl) (QB (NW ct (uI (DQ (DQ s1 (RA (ds:=[o].map D.str) (FK v5) (show 1<10000 by decide)) (fD 'l')) (sN 1) (fD (by rw[QA];lia))) (by rw[QA,QA];lia))))),XW,jB λy hy=>oN y (BW.mp hy▸om),by rw[QA,QA];lia,Ck}
 have f6:=cond 6;rw[decide_eq_false c6] at f6
 by_cases c7:w=7
 .have ct:=cond 7
  rw[decide_eq_true c7] at ct;have m1:=pX ws (AA a) (AA (a+2));have m2:=pX ws (AA (a+2)) AH
  have rv:Ao (OI (AR 3) (AA (AR 4)) (AA (g2 IH (AR 4) (gC (.int 2))))) (g1 g7 (gC (.int 1))) E=.ok (.lst ((PF ws (AA a) (AA (a+2))).reverse.map D.str),E):=by
   rw[List.map_reverse];exact EM (rJ v3 pa (pn 2)) rfl
  exact{_,d3,E,D7 (KO f4 rfl) (D7 (KO f5 rfl) (D7 (KO f6 rfl) (QB (NW ct (uI (DQ (DQ s1 rv (fD (by rw[sO];lia))) (sN 2) (fD (by rw[QA,sO];lia))) (by rw[QA,QA,sO];lia)))))),XW,jB λy hy=>oN y (mR (List.mem_reverse.mp hy)),by rw[QA,QA,sO];lia,Ck}
 have f7:=cond 7;rw[decide_eq_false c7] at f7;obtain⟨i,d4,e4,i0,i1,B4⟩:=tk (g:=gC (.int 16)) (E:=wE d3 x w ws a o) rfl B3 'l' rfl 'l' 'l';have ho:i.toNat<oddS.length:=by show _<16;lia
 obtain⟨q,hq⟩:∃q,q=oddS[i.toNat]:={_,rfl};have qm:q∈oddS:=by rw[hq];exact F7 ho
 have m1:=yG6 q qm;obtain⟨E9,Z8⟩:∃E9,E9=wE d4 x w ws a o:={_,rfl}
 have lq:J8 [(g2 FG (AR 6) (GT HA 0 [(gC (.int 16))]))] E=.ok (.lst ([q].map D.str),E9):=by
  rw[hE,Z8];exact RA (FK (DQ (x:=.lst (oddS.map D.str)) rfl e4 (YG (xs:=[]) i0 (by rw[BA,BU ho,hq];rfl)))) (show 1<10000 by decide)
 have sL:OI (AR 3) (AA (g2 IH (AR 4) (gC (.int 1)))) AH E9=.ok (.lst ((PF ws (AA (a+1)) AH).map D.str),E9):=by
  have u4:AR 4 E9=.ok (.int a,E9):=by rw[Z8];rfl
  have u3:AR 3 E9=.ok (.lst (ws.map D.str),E9):=by rw[Z8];rfl
  have un:ZK (AA (g2 IH (AR 4) (gC (.int 1)))) E9=.ok (AA (a+1),E9):=EM (DQ u4 (y:=.int 1) rfl rfl) rfl;exact rJ u3 un (hi:=AH) (h:=AH) rfl
 exact{_,d4,E9,D7 (KO f4 rfl) (D7 (KO f5 rfl) (D7 (KO f6 rfl) (D7 (KO f7 rfl) (uI (DQ (DQ s1 lq (fD 'l')) sL (fD (by rw[QA];lia))) (by rw[QA,QA];lia))))),λy=>by rw[Z8];rfl,jB λy hy=>yDO y (BW.mp hy▸qm),by rw[QA,QA];lia,B4.mono 'l'}
def tI(i:Int):BL:=hJ (.int i)
theorem yG8:∀n:Fin 25,EQ (tI (n.val:Int))/\(tI (n.val:Int)).length<=2:=by unfold EQ;decide +kernel
theorem jU{i:Int}(h0:0<=i)(h1:i<25):EQ (tI i)/\(tI i).length<=2:=by
 have:=yG8 {i.toNat,by lia};rw[show(({i.toNat,by lia}:Fin 25).val:Int)=i from cH h0] at this;exact this
theorem yM{i:Int}(h0:0<=i)(h1:i<25):ZE [.int i]=.ok (.str (tI i)):=by
 have:=(jU h0 h1).2;exact if_pos {by simp only[eX,decide_eq_true_eq];exact AL (Nat.log2_le_self _) 'l',by simp[LB],by show(tI i).length<10000;lia}
def fI:D->D
 |.int i=>.str (tI i)
 |d=>d
theorem Wl:∀{xs:List Int},(∀x∈xs,0<=x/\x<25)->wt (xs.map tI)<=3 * xs.length
 |[],_=>B0 _
 |x::xs,h=>by
  have a:=h x AU;have b:=(jU a.1 a.2).2;have c:=Wl (xs:=xs) λy hy=>h y (AS _ hy);rw[A1,bB,A0];lia
theorem Wg{zs:List BL}(hw:wt zs<9000):ZH (.str " ") (.lst (zs.map D.str))=.ok (.str (J5 " " zs)):=by
 have e1:(" ":BL).length=1:=by decide +kernel
 unfold ZH;simp only[Td,e1];exact if_pos (by unfold wt at hw;lia)
theorem Ve(zs:List BL):(J5 " " zs).length<=wt zs:=by
 have l:=Qc " " zs;have e1:(" ":BL).length=1:=by decide +kernel
 rw[e1] at l;unfold wt;lia
theorem Xf:EQ " ":=by unfold EQ;decide +kernel
theorem Fc{xs:List Int}(hl:xs.length<=30)(h:∀x∈xs,0<=x/\x<25):∃y,nJ [.val (.tup (xs.map D.int))]=.ok (AB,.str y,.non)/\EQ y/\y.length<=100:=by
 have hc:K8 (MQ (AR 0)) 1 [] (.nm 0) JN (gN ZE [(AR 0)]) [.val (.tup (xs.map D.int))]=.ok (.lst ((xs.map D.int).map fI),[.val (.tup (xs.map D.int))]):=by
  refine nC fI (Do rfl) (by rw[AK];lia) λq hq=>?_;obtain⟨x,hx,rfl⟩:=BZ.mp hq;exact NS (FK (d:=.int x) rfl) (yM (h x hx).1 (h x hx).2)
 have em:(xs.map D.int).map fI=(xs.map tI).map D.str:=by rw[CT,CT];rfl
 rw[em] at hc;have w:=Wl h;have j:=Ve (xs.map tI);have hj:g2 ZH (gC (.str " ")) (K8 (MQ (AR 0)) 1 [] (.nm 0) JN (gN ZE [(AR 0)])) [.val (.tup (xs.map D.int))]=.ok (.str (J5 " " (xs.map tI)),[.val (.tup (xs.map D.int))]):=DQ (x:=.str " ") rfl hc (Wg 'l')
 by_cases e:(J5 " " (xs.map tI)).length=0
 .exact{"-",K7 (KP (EM hj (if_pos e))) rfl,by unfold EQ;decide +kernel,by decide +kernel}
 .exact{_,K7 (KP (EM hj ((if_neg e).trans (YM 'l')))) rfl,Ek Xf λy hy=>by
   obtain⟨x,hx,rfl⟩:=BZ.mp hy
   exact(jU (h x hx).1 (h x hx).2).1,by lia}
def kO(p:Int×Int):BL:=(tI p.1++">")++tI p.2
theorem Xe{p:Int×Int}(h:0<=p.1/\p.1<25/\0<=p.2/\p.2<25):EQ (kO p)/\(kO p).length<=5:=by
 have a:=jU h.1 h.2.1;have b:=jU h.2.2.1 h.2.2.2;have e1:(">":BL).length=1:=by decide +kernel
 refine{iF (iF a.1 (by unfold EQ;decide +kernel)) b.1,?_};unfold kO;rw[fS,fS,e1];lia
theorem Wf:∀{ps:List (Int×Int)},(∀p∈ps,0<=p.1/\p.1<25/\0<=p.2/\p.2<25)->wt (ps.map kO)<=6 * ps.length
 |[],_=>B0 _
 |x::xs,h=>by
  have b:=(Xe (h x AU)).2;have c:=Wf (ps:=xs) λy hy=>h y (AS _ hy);rw[A1,bB,A0];lia
def fP:D->List D
 |.tup [.int a,.int b]=>[.str (kO (a,b))]
 |_=>[]
theorem Xd:∀ps:List (Int×Int),(ps.map HB).flatMap fP=(ps.map kO).map D.str
 |[]=>rfl
 |p::ps=>by rw[A1,FU,Xd ps];rfl
theorem zSW{ps:List (Int×Int)}(hl:ps.length<=120)(h:∀p∈ps,0<=p.1/\p.1<25/\0<=p.2/\p.2<25):Al [.val (.tup (ps.map HB))]=.ok (AB,.lst ((ps.map kO).map D.str),.non):=by
 have hc:=mX (gi:=MQ (AR 0)) (k:=2) (js:=[]) (t:=.tp [(.nm 0),(.nm 1)]) (tt:=JN) (ge:=g2 IH (g2 IH (gN ZE [(AR 0)]) (gC (.str ">"))) (gN ZE [(AR 1)])) (E:=[.val (.tup (ps.map HB))]) (ds:=ps.map HB) fP (λE=>∃x y,E=[x,y]) (Do rfl) {_,_,rfl} (by rw[AK];lia) (λq hq E hE=>by
  obtain⟨p,hp,rfl⟩:=BZ.mp hq;obtain⟨u,v,rfl⟩:=hE;have r:=h p hp;have a:=jU r.1 r.2.1;have b:=jU r.2.2.1 r.2.2.2;have e1:(">":BL).length=1:=by decide +kernel
  exact{_,rfl,AG,_,rfl,.inl {rfl,_,_,DQ (DQ (NS (FK (d:=.int p.1) rfl) (yM r.1 r.2.1)) (y:=.str ">") rfl (nK 'l')) (NS (FK (d:=.int p.2) rfl) (yM r.2.2.1 r.2.2.2)) (nK (by rw[fS];lia)),rfl,_,_,rfl}}) (λEc _=>qR _ _ _ _)
 rw[Xd] at hc;exact K7 (KP hc) rfl
theorem zY7{ps:List (Int×Int)}(N:Net BD ps):∃y,Am [.val (VH BD ps)]=.ok (AB,.str y,.non)/\EQ y/\y.length<=740:=by
 have m1:=N.m1;have m2:=N.m2
 have hr:∀p∈ps,0<=p.1/\p.1<25/\0<=p.2/\p.2<25:=λp hp=>by
  have:=N.rg p hp;lia
 have sl:=zSW N.len hr;have w:=Wf hr;have t:=jU (i:=BD) 'l' 'l';have hl:=N.len;have w1:wt [tI BD]<=3:=by rw[bB];show _+0<=_;lia
 have j:=Ve ([tI BD]++ps.map kO);rw[QA] at j;refine{_,K7 (KP (DQ (x:=.str " ") rfl (DQ (RA (ds:=[tI BD].map D.str) (FK (NS (FK (DQ (x:=VH BD ps) (y:=.int 0) rfl rfl (d:=.int BD) rfl)) (yM 'l' 'l'))) (show 1<10000 by decide)) (M3 (FK (DQ (x:=VH BD ps) (y:=.int 1) rfl rfl (d:=.tup (ps.map HB)) rfl)) sl) (fD 'l')) (Wg (by rw[QA];lia)))) rfl,Ek Xf λy hy=>?_,by lia};rcases GN.mp hy with hy|hy
 .rw[BW.mp hy];exact t.1
 .obtain⟨p,hp,rfl⟩:=BZ.mp hy
  exact(Xe (hr p hp)).1
theorem zSX{xs ys:List Int}(hx:xs.length<=30)(h:∀x∈xs,0<=x/\x<25)(hy:ys.length<=30)(h':∀x∈ys,0<=x/\x<25):∃y,Ak [.val (.lst [.tup (xs.map D.int),.tup (ys.map D.int)])]=.ok (AB,.str y,.non)/\EQ y/\y.length<=740:=by
 obtain⟨a,ea,aa,la⟩:=Fc hx h;obtain⟨b,eb,ab,lb⟩:=Fc hy h';have e1:(" / ":BL).length=3:=by decide +kernel
 exact{_,K7 (KP (DQ (DQ (M3 (FK (DQ (x:=.lst [.tup (xs.map D.int),.tup (ys.map D.int)]) (y:=.int 0) rfl rfl (d:=.tup (xs.map D.int)) rfl)) ea) (y:=.str " / ") rfl (nK 'l')) (M3 (FK (DQ (x:=.lst [.tup (xs.map D.int),.tup (ys.map D.int)]) (y:=.int 1) rfl rfl (d:=.tup (ys.map D.int)) rfl)) eb) (nK (by rw[fS];lia)))) rfl,iF (iF aa (by unfold EQ;decide +kernel)) ab,by rw[fS,fS];lia}
theorem zY8{ge:G}{t:Tg}{E C0 C1 C2 C3 C4:Ev}{x1 x2 y1 y2:D}(hi:gi E=.ok ([x1,x2],E1))(hC:UL k js E1=C0)(t1:UA t x1 C0=.ok C1)(g1:ge C1=.ok (y1,C2))(t2:UA t x2 C2=.ok C3)(g2:ge C3=.ok (y2,C4)) :
  K8 gi k js t JN ge E=.ok (.lst [y1,y2],dD E1 C4 k js):=by
 refine EM hi (EM (a:=(.lst [y1,y2],C4)) ?_ rfl);rw[hC];refine EM t1 (EM (a:=(AG,C1)) rfl ?_);rw[if_pos rfl];refine EM (a:=(.lst [y1],C2)) (EM g1 rfl) ?_;refine EM t2 (EM (a:=(AG,C3)) rfl ?_);rw[if_pos rfl];exact EM (a:=(.lst [y1,y2],C4)) (EM g2 rfl) rfl
abbrev Yc:G:=OI (gN TH [(GT kM 2 [(rP (g2 FG (AR 1) (gC (.int 0))))])]) AH (AA (GT HA 2 [(gC (.int 25))]))
theorem Ou{ps:List (Int×Int)}{u:Sl}{d:D}(N:Net BD ps)(B:Bag k d)(hk:k<700000) :
  ∃(zs:List Int) (d':D),Yc [u,.val (VH BD ps),.own AG d]=.ok (.tup (zs.map D.int),[u,.val (VH BD ps),.own AG d'])/\zs.length<=30/\(∀x∈zs,0<=x/\x<25)/\Bag (k+30) d':=by
 have m1:=N.m1;have m2:=N.m2;obtain⟨ys,d1,e1,hp,B1⟩:=Pf (xs:=ri BD.toNat) B (by rw[mG];lia) 'l';rw[mG] at B1;obtain⟨r,d2,e2,r0,r1,B2⟩:=Dw (n:=25) B1 'l' 'l' 'l'
 have lr:rP (g2 FG (AR 1) (gC (.int 0))) [u,.val (VH BD ps),.own AG d]=.ok (.lst ((ri BD.toNat).map D.int),[u,.val (VH BD ps),.own AG d]):=by
  refine EM (DQ (x:=VH BD ps) (y:=.int 0) rfl rfl (d:=.int BD) rfl) ?_;simp only[L2.guard];rw[if_pos {by lia,by lia},Cw]
 refine{PF ys AH (AA r),d2,?_,?_,λx hx=>?_,B2.mono 'l'}
 .rw[<-Ej]
  exact EM (NS (FK (iG (t2:=AG) (d0:=d) (t:=AG) (d:=d) rfl (FK lr) rfl e1)) rfl) (EM rfl (EM (EM (iG (t2:=AG) (d0:=d1) (t:=AG) (d:=d1) rfl (FK (d:=.int 25) rfl) rfl e2) rfl) rfl))
 .have:(PF ys AH (AA r)).length<=ys.length:=by unfold PF;rw[IF,NO];lia
  rw[hp.length_eq,mG] at this;lia
 .have:=dB.mp (hp.mem_iff.mp (mR hx))
  lia
theorem zSY{d:D}(B:Bag k d)(hk:k<600000):∃(a b c:BL) (d':D),qZ [.own AG d]=.ok (AB,.lst [.str a,.str b,.str c],d')/\(∀y∈[a,b,c],EQ y/\y.length<=740)/\Bag (k+1100) d':=by
 obtain⟨BD,ps,OQ,d1,e1,N,_,_,_,B1⟩:=yCX (DW:=24) B 'l' 'l' 'l';obtain⟨xs,d2,e2,lx,rx,B2⟩:=Ou (u:=.val (.int 0)) N B1 'l';obtain⟨ys,d3,e3,ly,ry,B3⟩:=Ou (u:=.val (.int 1)) N B2 'l';obtain⟨a,ea,aa,la⟩:=zY7 N;obtain⟨b,eb,ab,lb⟩:=Fc lx rx;obtain⟨c,ec,ac,lc⟩:=zSX lx rx ly ry
 have s1:FS (.tp [(.nm 1),(.nm 2)]) (GT uD 0 [(gC (.int 24))]) [.own AG d,.no,.no,.no]=.ok (.nx [.own AG d1,.val (VH BD ps),.val (.int OQ),.no]) :=
  KR (iG (t2:=AG) (d0:=d) (t:=AG) (d:=d) rfl (FK (d:=.int 24) rfl) rfl e1) rfl
 have s2:FS (.nm 3) (K8 (aZ (gC (.int 2))) 1 [1,0] (.nm 0) JN Yc) [.own AG d1,.val (VH BD ps),.val (.int OQ),.no]=.ok (.nx [.own AG d3,.val (VH BD ps),.val (.int OQ),.val (.lst [.tup (xs.map D.int),.tup (ys.map D.int)])]) :=
  KR (zY8 (gi:=aZ (gC (.int 2))) (E:=[.own AG d1,.val (VH BD ps),.val (.int OQ),.no]) (E1:=[.own AG d1,.val (VH BD ps),.val (.int OQ),.no]) (x1:=.int 0) (x2:=.int 1) (C0:=[.no,.val (VH BD ps),.own AG d1]) (Dp (j:=2) rfl {by decide,by decide}) rfl rfl e2 rfl e3) rfl
 refine{a,b,c,d3,K7 (D7 s1 (D7 s2 (KP (RA (OW (M3 (FK (d:=VH BD ps) rfl) ea) (OW (M3 (FK (DQ (x:=.lst [.tup (xs.map D.int),.tup (ys.map D.int)]) (y:=.int 0) rfl rfl (d:=.tup (xs.map D.int)) rfl)) eb) (FK (M3 (FK (d:=.lst [.tup (xs.map D.int),.tup (ys.map D.int)]) rfl) ec)))) (show 3<10000 by decide))))) rfl,λy hy=>?_,B3.mono 'l'};simp only[A9,D6,or_false] at hy;rcases hy with rfl|rfl|rfl
 .exact{aa,la}
 .exact{ab,by lia}
 .exact{ac,lc}
theorem yDQ(ns:List Int):∃c:Int,qY [.val (.lst (ns.map D.int)),.val (.int 0)]=.ok (AB,.int c,.non):=by
 unfold qY
 cases ns with
 |nil=>exact{0,K7 (D7 (KO (E1:=[.val (.lst []),.val (.int 0)]) (KD (DQ (x:=.int 0) (y:=.int 0) rfl (NS (FK (d:=.lst []) rfl) rfl) rfl)) rfl) (KP (d:=.int 0) rfl)) rfl}
 |cons n ns =>
  refine{n,K7 (QB (E1:=[.val (.lst ((n::ns).map D.int)),.val (.int 0)]) (NW (E1:=[.val (.lst ((n::ns).map D.int)),.val (.int 0)]) (KD (DQ (x:=.int 0) (y:=.int ((n::ns).map D.int).length) rfl (NS (FK (d:=.lst ((n::ns).map D.int)) rfl) rfl) ?_)) (KP (DQ (x:=.lst ((n::ns).map D.int)) (y:=.int 0) rfl rfl (YG (xs:=[]) 'd' rfl))))) rfl};simp only[T9];rw[decide_eq_true (by simp only[A1,A0];lia)]
theorem yJD:IU (.lst kb) (.lst kb)=.ok (.bl AB):=zYD (Pl.mono (Pls.lst (n:=0) (by
 unfold kb
 repeat (first|exact Pls.nil _|refine Pls.cons (Pl.bl _ _) ?_))) 'd')
theorem yDR(h:YS way x=AG):∃ds,YF way x=.tup ds:=by
 unfold YF;unfold YS at h
 by_cases h0:way=0
 .exact{_,by rw[if_pos h0];rfl}
 .by_cases h1:way=1
  .exact{_,by rw[if_neg h0,if_pos h1]}
  .rw[if_neg h0,if_neg h1] at h
   unfold XD at h
   by_cases h2:(AZ x " / ").length=2
   .obtain⟨a,b,e⟩:=j3 h2
    exact{_,by rw[if_neg h0,if_neg h1];unfold nN;rw[e];rfl}
   .rw[yN h2] at h;cases h
noncomputable abbrev qE(sc:D)(n:Int)(w:D)(u3 u4 u5 u6 u7 u8 u9:Sl):Ev:=[.val sc,.val (.int n),.own AB w,u3,u4,u5,u6,u7,u8,u9]
section
variable{sc:D}{n:Int}{u3 u4 u5 u6 u7 u8 u9:Sl}
theorem Ba{c:Int}{w:D}(B:Bag k w)(hk:k<900000)(h1:1<=c)(h2:c<2 ^ 200):∃r w',GT HA 2 [(gC (.int c))] (qE sc n w u3 u4 u5 u6 u7 u8 u9)=.ok (.int r,qE sc n w' u3 u4 u5 u6 u7 u8 u9)/\0<=r/\r<c/\Bag (k+1) w':=by
 obtain⟨r,w',e,r0,r1,B'⟩:=Dw B hk h1 h2;exact{r,w',iG (E1:=qE sc n w u3 u4 u5 u6 u7 u8 u9) (i:=2) (t2:=AB) (t:=AB) rfl (FK (d:=.int c) rfl) rfl e,r0,r1,B'}
abbrev Xw:GS:=(FS (.nm 4) (g2 FG (J8 [(gC (.int 0)),(gC (.int 1)),(gC (.int 1)),(gC (.int 2))]) (GT HA 2 [(gC (.int 4))])))
theorem yJE{w:D}(B:Bag k w)(hk:k<900000):∃(b:Nat) (w':D),b<=2/\Xw (qE sc n w u3 u4 u5 u6 u7 u8 u9)=.ok (.nx (qE sc n w' u3 (.val (.int b)) u5 u6 u7 u8 u9))/\Bag (k+1) w':=by
 obtain⟨r,w',e,r0,r1,B'⟩:=Ba (sc:=sc) (n:=n) (c:=4) (u3:=u3) (u4:=u4) (u5:=u5) (u6:=u6) (u7:=u7) (u8:=u8) (u9:=u9) B hk 'd' 'd'
 have J9:∃b:Nat,b<=2/\([D.int 0,.int 1,.int 1,.int 2])[r.toNat]?=AA (.int b):=by
  have:r=0\/r=1\/r=2\/r=3:=by lia
  rcases this with rfl|rfl|rfl|rfl
  .exact{0,by decide,rfl}
  .exact{1,by decide,rfl}
  .exact{1,by decide,rfl}
  .exact{2,by decide,rfl}
 obtain⟨b,hb,hx⟩:=J9;exact{b,w',hb,KR (DQ (x:=.lst [.int 0,.int 1,.int 1,.int 2]) rfl e (YG (xs:=[]) r0 hx)) rfl,B'}
abbrev Xv:GS:=(FS (.nm 6) (nY (gB (g2 MJ (AR 5) (gC (.int 0)))) (g2 FG (J8 [(gC (.str "")),(gC (.str " ")),(gC (.str "  ")),(gC (.str "-")),(gC (.str " / "))]) (GT HA 2 [(gC (.int 5))])) (g2 FG (GT qZ 2 []) (AR 3))))
def few5:List BL:=[""," ","  ","-"," / "]
theorem yDS:∀y∈few5,EQ y/\y.length<=740:=by unfold EQ;decide +kernel
theorem yJF{w:D}{r:Int}(hw:0<=way/\way<3)(B:Bag k w)(hk:k<500000):∃(x:BL) (w':D),Xv (qE sc n w (.val (.int way)) u4 (.val (.int r)) u6 u7 u8 u9)=.ok (.nx (qE sc n w' (.val (.int way)) u4 (.val (.int r)) (.val (.str x)) u7 u8 u9))/\EQ x/\x.length<=740/\Bag (k+1200) w':=by
 have t:gB (g2 MJ (AR 5) (gC (.int 0))) (qE sc n w (.val (.int way)) u4 (.val (.int r)) u6 u7 u8 u9)=.ok (decide (r=0),qE sc n w (.val (.int way)) u4 (.val (.int r)) u6 u7 u8 u9):=KD (DQ (x:=.int r) (y:=.int 0) rfl rfl (qM _ _))
 by_cases h:r=0
 .rw[decide_eq_true h] at t
  obtain⟨i,w',e,i0,i1,B'⟩:=Ba (sc:=sc) (n:=n) (c:=5) (u3:=.val (.int way)) (u4:=u4) (u5:=.val (.int r)) (u6:=u6) (u7:=u7) (u8:=u8) (u9:=u9) B 'l' 'd' 'd';have hi:i.toNat<few5.length:=by show _<5;lia
  have m:=yDS few5[i.toNat] (F7 hi);exact{few5[i.toNat],w',KR (EM t (DQ (x:=.lst (few5.map D.str)) (RA (Gv _ (few5.map D.str)) (by decide +kernel)) e (YG (xs:=[]) i0 (by rw[BA,BU hi];rfl)))) rfl,m.1,m.2,B'.mono 'l'}
 .rw[decide_eq_false h] at t
  obtain⟨a,b,c,w',e,m,B'⟩:=zSY B 'l';have cw:GT qZ 2 [] (qE sc n w (.val (.int way)) u4 (.val (.int r)) u6 u7 u8 u9)=.ok (.lst [.str a,.str b,.str c],qE sc n w' (.val (.int way)) u4 (.val (.int r)) u6 u7 u8 u9):=iG (E1:=qE sc n w (.val (.int way)) u4 (.val (.int r)) u6 u7 u8 u9) (i:=2) (t2:=AB) (t:=AB) (ds:=[]) rfl rfl rfl e
  obtain⟨x,hx,hm⟩:∃x,([D.str a,.str b,.str c])[way.toNat]?=AA (.str x)/\x∈[a,b,c]:=by
   have:way=0\/way=1\/way=2:=by lia
   rcases this with rfl|rfl|rfl
   .exact{a,rfl,by simp}
   .exact{b,rfl,by simp}
   .exact{c,rfl,by simp}
  have q:=m x hm;exact{x,w',KR (EM t (DQ cw (y:=.int way) rfl (YG (xs:=[]) hw.1 hx))) rfl,q.1,q.2,B'.mono 'l'}
abbrev Xu:GS:=(ZG (aZ (AR 4)) (.nm 7) (FS (.nm 6) (GT nD 2 [(AR 6)])))
theorem yJG{w:D}{b:Nat}(hb:b<=2)(hx:EQ x)(hl:x.length<=740)(B:Bag k w)(hk:k<500000):∃(y:BL) (w':D) (vF:Sl),Xu (qE sc n w u3 (.val (.int b)) u5 (.val (.str x)) u7 u8 u9)=.ok (.nx (qE sc n w' u3 (.val (.int b)) u5 (.val (.str y)) vF u8 u9))/\EQ y/\y.length<9000:=by
 obtain⟨E',e,w',y,vF,rfl,hy,ly,_⟩:=zB (gi:=aZ (AR 4)) (t:=.nm 7) (g:=FS (.nm 6) (GT nD 2 [(AR 6)])) (E:=qE sc n w u3 (.val (.int b)) u5 (.val (.str x)) u7 u8 u9) (E1:=qE sc n w u3 (.val (.int b)) u5 (.val (.str x)) u7 u8 u9) (ds:=UK 0 b)
  (λi E=>∃w y u7,E=qE sc n w u3 (.val (.int b)) u5 (.val (.str y)) u7 u8 u9/\EQ y/\(y.length<=if i=0 then 740 else if i=1 then 2232 else 6708)/\Bag (k+30 * i) w) (Dp (j:=b) rfl {by lia,by lia}) {w,x,u7,rfl,hx,hl,B}
  (λi q E hq hP=>by
   obtain⟨w,y,u7,rfl,hy,ly,B⟩:=hP
   have hi:i<b:=by
    have:=(AX.mp hq).1
    rwa [Cw,AK,mG] at this
   have ly':y.length<=2232:=by
    refine AV ly ?_;split
    .lia
    .rw[if_pos 'l'];lia
   obtain⟨z,w2,e2,az,lz,B2⟩:=yDP hy 'l' B 'l';refine{_,rfl,_,KR (iG (i:=2) (t2:=AB) (t:=AB) rfl (FK (d:=.str y) rfl) rfl e2) rfl,w2,z,_,rfl,az,?_,B2.mono 'l'};rw[if_neg 'l']
   by_cases h0:i=0
   .rw[if_pos h0] at ly
    rw[if_pos 'l'];lia
   .rw[if_neg 'l']
    lia)
 refine{y,w',vF,e,hy,AL ly ?_};split
 .lia
 .split<;>lia
abbrev Xt:GS:=(E4 (FS (.nm 8) (fM nH cX nI (AR 3) [(AR 6)]))
 (E4 (FS (.nm 9) (G9 kJ [(AR 3),(AR 6)]))
 (L7 (LU (YK (gB (g2 ZF (AR 8) (gC .non))) (gB (g2 IU (AR 9) (G9 uF [(gC (.int 6))])))) (YK (gB (g2 sI (AR 8) (gC .non))) (M7 (P9 (G9 (zBL 5) [(AR 9),(AR 8)])))))
 (IS (gC (.bl AB)))
 MS)))
theorem yJH{w:D}(hw:0<=way/\way<3)(hx:EQ x)(hl:x.length<9000):∃v8 v9,Xt (qE sc n w (.val (.int way)) u4 u5 (.val (.str x)) u7 u8 u9)=.ok (.nx (qE sc n w (.val (.int way)) u4 u5 (.val (.str x)) u7 v8 v9)):=by
 have a8:FS (.nm 8) (fM nH cX nI (AR 3) [(AR 6)]) (qE sc n w (.val (.int way)) u4 u5 (.val (.str x)) u7 u8 u9)=.ok (.nx (qE sc n w (.val (.int way)) u4 u5 (.val (.str x)) u7 (.val (fE way x)) u9)) :=
  KR (De (i:=way) rfl hw (M3 (FK (d:=.str x) rfl) (yG1 hw hx hl))) rfl
 by_cases h:YS way x=AG
 .have a9:FS (.nm 9) (G9 kJ [(AR 3),(AR 6)]) (qE sc n w (.val (.int way)) u4 u5 (.val (.str x)) u7 (.val (fE way x)) u9)=.ok (.nx (qE sc n w (.val (.int way)) u4 u5 (.val (.str x)) u7 (.val (fE way x)) (.val (YF way x)))) :=
   KR (M3 (OW (d:=.int way) rfl (FK (d:=.str x) rfl)) (yG2 hw hx hl h)) rfl
  have is:=yG4 hl h;have hd:fE way x=YF way x:=if_pos h;rw[hd] at a8 a9;obtain⟨ds,hv⟩:=yDR h;rw[hv] at a8 a9 is;exact{_,_,D7 a8 (D7 a9 (KO (RP (p8 (KD (DQ (x:=.tup ds) (y:=.non) rfl rfl rfl))) (j6 (KD (DQ (x:=.tup ds) (y:=.non) rfl rfl rfl)) (W0 (b:=AG) (cM (M3 (OW (d:=.tup ds) rfl (FK (d:=.tup ds) rfl)) is) rfl)))) rfl))}
 .have h':YS way x=AB:=by simpa using h
  have a9:FS (.nm 9) (G9 kJ [(AR 3),(AR 6)]) (qE sc n w (.val (.int way)) u4 u5 (.val (.str x)) u7 (.val (fE way x)) u9)=.ok (.nx (qE sc n w (.val (.int way)) u4 u5 (.val (.str x)) u7 (.val (fE way x)) (.val (.lst kb)))) :=
   KR (M3 (OW (d:=.int way) rfl (FK (d:=.str x) rfl)) (yG3 hw hx hl h')) rfl
  have hd:fE way x=.non:=if_neg h;rw[hd] at a8 a9;exact{_,_,D7 a8 (D7 a9 (KO (RP (j6 (KD (DQ (x:=.non) (y:=.non) rfl rfl rfl)) (KD (DQ (x:=.lst kb) rfl (M3 (FK (d:=.int 6) rfl) yDJ) yJD))) (p8 (KD (DQ (x:=.non) (y:=.non) rfl rfl rfl)))) rfl))}
end
theorem law_true:∀ns:List Int,ns.length<=63->∃b d',m_law [.val (.lst (ns.map D.int))]=.ok (b,.bl AG,d'):=by
 intro ns wS;obtain⟨c,ec⟩:=yDQ ns;obtain⟨sc,Zi⟩:∃sc:D,sc=.lst (ns.map D.int):={_,rfl}
 have hcut:(PF ns (AA 1) (AA 20)).length<=63:=by
  unfold PF;rw[IF,NO];lia
 obtain⟨E',e,u1,u2,u3,u4,u5,u6,u7,u8,u9,rfl⟩:=zB (gi:=MQ (g2 IH (J8 [(G9 qY [(AR 0),(gC (.int 0))])]) (OI (AR 0) (AA (gC (.int 1))) (AA (gC (.int 20)))))) (t:=.nm 1)
  (g:=(E4 (cP 2 (p9 qW [(AR 1),(gC (.int 0))])) (E4 (FS (.nm 3) (GT HA 2 [(gC (.int 3))])) (E4 Xw (E4 (FS (.nm 5) (GT HA 2 [(gC (.int 16))])) (E4 Xv (E4 Xu Xt))))))) (E:=[.val sc,.no,.no,.no,.no,.no,.no,.no,.no,.no]) (E1:=[.val sc,.no,.no,.no,.no,.no,.no,.no,.no,.no]) (ds:=(c::PF ns (AA 1) (AA 20)).map D.int)
  (λi E=>∃u1 u2 u3 u4 u5 u6 u7 u8 u9,E=[.val sc,u1,u2,u3,u4,u5,u6,u7,u8,u9])
  (by
   rw[Zi];refine mV (DQ (x:=.lst [.int c]) (y:=.lst ((PF ns (AA 1) (AA 20)).map D.int)) (RA (FK (M3 (ds:=[.lst (ns.map D.int),.int 0]) rfl ec)) (show 1<10000 by decide)) ?_ ?_)
   .rw[<-Ej];rfl
   .exact yIU (by rw[AK];show 1+_<10000;lia) rfl) {_,_,_,_,_,_,_,_,_,rfl}
  (λi x E hx hP=>by
   obtain⟨u1,u2,u3,u4,u5,u6,u7,u8,u9,hE⟩:=hP;subst hE;rw[BA] at hx;obtain⟨n,_,rfl⟩:=DF.mp hx;refine{_,rfl,?_};obtain⟨w,ew,B⟩:=yCW n;have e0:cP 2 (p9 qW [(AR 1),(gC (.int 0))]) [.val sc,.val (.int n),u2,u3,u4,u5,u6,u7,u8,u9]=.ok (.nx (qE sc n w u3 u4 u5 u6 u7 u8 u9)):=tE (E':=[.val sc,.val (.int n),u2,u3,u4,u5,u6,u7,u8,u9]) (zYE (ds:=[.int n,.int 0]) rfl ew);obtain⟨way,w1,e1,y0,y1,B1⟩:=Ba (sc:=sc) (n:=n) (c:=3) (u3:=u3) (u4:=u4) (u5:=u5) (u6:=u6) (u7:=u7) (u8:=u8) (u9:=u9) B 'd' 'd' 'd';obtain⟨b,w2,hb,e2,B2⟩:=yJE (sc:=sc) (n:=n) (u3:=.val (.int way)) (u4:=u4) (u5:=u5) (u6:=u6) (u7:=u7) (u8:=u8) (u9:=u9) B1 'd';obtain⟨r,w3,e3,r0,r1,B3⟩:=Ba (sc:=sc) (n:=n) (c:=16) (u3:=.val (.int way)) (u4:=.val (.int b)) (u5:=u5) (u6:=u6) (u7:=u7) (u8:=u8) (u9:=u9) B2 'd' 'd' 'd';obtain⟨x,w4,e4,ax,lx,B4⟩:=yJF (sc:=sc) (n:=n) (u4:=.val (.int b)) (u6:=u6) (u7:=u7) (u8:=u8) (u9:=u9) (r:=r) {y0,y1} B3 'd';obtain⟨y,w5,vF,e5,ay,ly⟩:=yJG (sc:=sc) (n:=n) (u3:=.val (.int way)) (u5:=.val (.int r)) (u7:=u7) (u8:=u8) (u9:=u9) hb ax lx B4 'd';obtain⟨v8,v9,e6⟩:=yJH (sc:=sc) (n:=n) (w:=w5) (u4:=.val (.int b)) (u5:=.val (.int r)) (u7:=vF) (u8:=u8) (u9:=u9) {y0,y1} ay ly
   exact{_,D7 e0 (D7 (KR e1 rfl) (D7 e2 (D7 (KR e3 rfl) (D7 e4 (D7 e5 e6))))),_,_,_,_,_,_,_,_,_,rfl})
 refine{AB,.non,?_};rw[<-Zi];exact K7 (D7 e (KP (d:=.bl AG) rfl)) rfl
structure FA(K:AC)(x:BL)(st:D5)(f:AQ)(fd:JT):Prop where
 a:BH K BC x=AA (AA (.ref f))
 F:Fun K x x st f fd
section
variable{K:AC}{st:D5}
theorem fa{kV dc:AI}{sl:Array (Option AI)}(a:BH K BC x=AA (AA (.ref f)))(l:K.lookup f=AA {oc,od,.func (FW x x (iE st) (XM st) (JO st) .none kV dc pm an cd ct),sl})(c:LP K cd x=AG)(k:FH K (.ref f)=AG):FA K x st f (FW x x (iE st) (XM st) (JO st) .none kV dc pm an cd ct):={a,Nh l c k}
theorem FA.cal{P:CF}{w:DJ}{mg:BL->Option AI}{base h:D0}{ps:List BL}{k np:Nat}{m:Mr}(A:FA K x st f fd)(X:K.In h)(G:h.Ns BC mg)(o:FnOk P w K mg base LA k f fd ps (MM K np m))(b:Binds K fd ps []):JK P w K mg base x k np m:=Fun.cal A.F o (BR X G A.a) b
abbrev bA(x:BL)(st:D5)(us:List AI)(r:List (BL×AI)):Prop:=∀(kV SZ pm:AI) (an:Option AQ) (GE ct:AI),bindArgs (FW x x (iE st) (XM st) (JO st) .none kV SZ pm an GE ct) {us,[]}=pure r
theorem FA.b1{p:BL}(A:FA K x st f fd)(h:∀u,bA x st [u] [(p,u)]:=by exact λ_ _ _ _ _ _ _=>rfl):Binds K fd [p] []:=A.F.binds λ_ _ _ _ _ _ us hl=>by
 match us,hl with
 |[u],_=>exact h u _ _ _ _ _ _
theorem FA.b2{p q:BL}(A:FA K x st f fd)(h:∀u v,bA x st [u,v] [(p,u),(q,v)]:=by exact λ_ _ _ _ _ _ _ _=>rfl):Binds K fd [p,q] []:=A.F.binds λ_ _ _ _ _ _ us hl=>by
 match us,hl with
 |[u,v],_=>exact h u v _ _ _ _ _ _
end
theorem all_mk{l:RK}{K:AC}{fa f0 f1 f2 f3 f4 f5 f6 f7 f8 f9 f10 f11 f12 f13 f14 f15 f16 f17 f18 f19 f20 f21 f22 f23 f24 f25 f26 f27 f28 Me:AQ}{d0 d1 d2 d3 d4 d5 d6 d7 d8 d9 d10 d11 d12 lM eL d15 d16 d17 d18 d19 Ch Cg d22 Mj pH d25 d26 d27 d28:JT}(X:K.In h)(G:h.Ns BC mg)(hfa:mg "law"=AA (.ref fa))
  (x0:FA K "is_whole" Ey f0 d0)
  (x1:FA K "read_number" Ai f1 d1)
  (x2:FA K "_law_cell" Fj f2 d2)
  (x3:FA K "_law_well" Fi f3 d3)
  (x4:FA K "_law_take" Fh f4 d4)
  (x5:FA K "_law_kinds" Fk f5 d5)
  (x6:FA K "_law_only" Fg f6 d6)
  (x7:FA K "_law_show_places" Fx f7 d7)
  (x8:FA K "_law_show_lanes" Gb f8 d8)
  (x9:FA K "_law_number_read" Fw f9 d9)
  (Ix:FA K "is_place" Ew f10 d10)
  (oB:FA K "read_lane" Af f11 d11)
  (oA:FA K "read_places" Ah f12 d12)
  (Iw:FA K "_law_shuffled" Fu f13 lM)
  (Iv:FA K "_law_show_net" Ft f14 eL)
  (Iu:FA K "_law_show_paper" Ga f15 d15)
  (Ir:FA K "_law_net_read" Fq f16 d16)
  (Iq:FA K "_law_places_read" Fv f17 d17)
  (Ip:FA K "_law_sign_bent" Fp f18 d18)
  (Io:FA K "is_lane" Et f19 d19)
  (n9:FA K "read_paper" Ad f20 Ch)
  (Im:FA K "_law_net" Eu f21 Cg)
  (Il:FA K "_law_paper_read" Fz f22 d22)
  (Ik:FA K "_law_bent" Ff f23 Mj)
  (Ij:FA K "is_net" Ef f24 pH)
  (Ii:FA K "_law_written" Fo f25 d25)
  (n8:FA K "read_net" z8 f26 d26)
  (vD:FA K "_law_is" Es f27 d27)
  (Ih:FA K "_law_told" Fe f28 d28)
  {Jo xQ:Option AQ} {Jg:Array (Option AI)} {Jp wF xL vP xM pL:AI}
  (a29:BH K BC "law"=AA (AA (.ref Me))) (l29:K.lookup Me=AA {Jp,Jo,.func (FW "law" "law" (iE hV) (XM hV) (JO hV) .none wF xL vP xQ pL xM),Jg}) (c29:LP K pL "law"=AG) (k29:FH K (.ref Me)=AG)
  {y0 y1 y2 y3 y4 y5 y6 y7 y8 y9 WA:AQ} (yW:BH K BC "WayError"=AA (AA (.ref WA))) (ya0:BH K BC "NotReached"=AA (AA (.ref y0))) (ya1:BH K BC "NoPaper"=AA (AA (.ref y1))) (ya2:BH K BC "TooMany"=AA (AA (.ref y2))) (ya3:BH K BC "NoSuch"=AA (AA (.ref y3))) (ya4:BH K BC "NoLane"=AA (AA (.ref y4))) (ya5:BH K BC "NoRound"=AA (AA (.ref y5))) (vC:BH K BC "NoText"=AA (AA (.ref y6))) (ya7:BH K BC "NoRow"=AA (AA (.ref y7))) (ya8:BH K BC "NoPlace"=AA (AA (.ref y8))) (ya9:BH K BC "NothingLeft"=AA (AA (.ref y9)))
  (ye0:BN K (.ref y6) (.ref y0)=AA AB) (ye1:BN K (.ref y6) (.ref y1)=AA AB) (ye2:BN K (.ref y6) (.ref y2)=AA AB) (ye3:BN K (.ref y6) (.ref y3)=AA AB) (ye4:BN K (.ref y6) (.ref y4)=AA AB) (ye5:BN K (.ref y6) (.ref y5)=AA AB) (ye6:BN K (.ref y6) (.ref y6)=AA AG) (ye7:BN K (.ref y6) (.ref y7)=AA AB) (ye8:BN K (.ref y6) (.ref y8)=AA AB) (ye9:BN K (.ref y6) (.ref y9)=AA AB) (Ig:BN K (.ref y6) (.type "ValueError")=AA AG) (yx:OD K (.ref y6) (.ref WA)=AA AG) (yz:ExK K y6 [.type "ValueError",.type "Exception",.type "BaseException",.type "object"] "ValueError.__new__")
  {ZV SC UX TQ ZU:b9}
  (ZT:BH K BC "FIGURES"=AA (AA (LY "0123456789" ZV)))
  (R9:BH K BC "MOST_FIGURES"=AA (AA (IA 6 SC)))
  (UV:BH K BC "MOST_LANES"=AA (AA (IA 120 UX)))
  (TN:BH K BC "MOST_PLACES"=AA (AA (IA 24 TQ)))
  (ZS:BH K BC "NOTHING"=AA (AA (LY "-" ZU)))
  (UU:BH K BC "ValueError"=AA AH) (vA:BH K BC "all"=AA AH) (n6:BH K BC "bool"=AA AH) (u0:BH K BC "int"=AA AH) (UT:BH K BC "isinstance"=AA AH) (uZ:BH K BC "len"=AA AH) (nZ:BH K BC "list"=AA AH) (uY:BH K BC "max"=AA AH) (uX:BH K BC "min"=AA AH) (iV:BH K BC "range"=AA AH) (dF:BH K BC "sorted"=AA AH) (uW:BH K BC "str"=AA AH) (iU:BH K BC "tuple"=AA AH) (uV:BH K BC "zip"=AA AH) :
  ∃fd:JT,(∀(s:AN) (v:AI),T4 s fd {[v],[]} [("script",v)])/\∀base:D0,K.In base->base.Ns BC mg->CB K base->FnOk l.prog w K mg base LA 7 fa fd ["script"] (MM K 1 m_law):=by
 have e:=hfa.symm.trans (BR X G a29);cases e;have T:Bt mg:={CQ X G UU,CQ X G vA,CQ X G n6,CQ X G u0,CQ X G UT,CQ X G uZ,CQ X G nZ,CQ X G uY,CQ X G uX,CQ X G iV,CQ X G dF,CQ X G uW,CQ X G iU,CQ X G uV,{_,BR X G ZT},{_,BR X G R9},{_,BR X G UV},{_,BR X G TN},{_,BR X G ZS}};have F29:=Nh (st:=hV) l29 c29 k29;refine{FW "law" "law" (iE hV) (XM hV) (JO hV) .none wF xL vP xQ pL xM,λs v=>.of_eq rfl,λbase _ _ cb=>?_};have q0:=x0.cal X G (zPX (P:=l.prog) (w:=w) (base:=base) x0.F T ) x0.b1;have q1:=x1.cal X G (zKT (P:=l.prog) (w:=w) (base:=base) x1.F T ) x1.b1;have EN:=pAL x1.F (zKU (P:=l.prog) (w:=w) (base:=base) x1.F T  (BR X G vC) yz.ex ) (BR X G x1.a) x1.b1;have q2:=x2.cal X G (zOC (P:=l.prog) (w:=w) (base:=base) x2.F T ) x2.b2;have q3:=x3.cal X G (zOD (P:=l.prog) (w:=w) (base:=base) x3.F T ) x3.b2;have q4:=x4.cal X G (zOE (P:=l.prog) (w:=w) (base:=base) x4.F T ) x4.b2;have ts:TryS l.prog w K mg base y6 WA f5 [AB,AB,AB,AB,AB,AB,AG,AB,AB,AB,AG]:={ku x5.F T x5.b1 yz (BR X G ya0) ye0 (BR X G ya1) ye1 (BR X G ya2) ye2 (BR X G ya3) ye3 (BR X G ya4) ye4 (BR X G ya5) ye5 (BR X G vC) ye6 (BR X G ya7) ye7 (BR X G ya8) ye8 (BR X G ya9) ye9 Ig,BR X G x5.a,x5.F.kp,BR X G yW,yx};have q6:=x6.cal X G (zOF (P:=l.prog) (w:=w) (base:=base) x6.F T ) x6.b1;have q7:=x7.cal X G (zGN (P:=l.prog) (w:=w) (base:=base) x7.F T ) x7.b1;have q8:=x8.cal X G (zHC (P:=l.prog) (w:=w) (base:=base) x8.F T ) x8.b1;have q9:=x9.cal X G (zGO (P:=l.prog) (w:=w) (base:=base) x9.F T ) x9.b1;have q10:=Ix.cal X G (zP1 (P:=l.prog) (w:=w) (base:=base) Ix.F T q0) Ix.b2;have Yv:=oB.cal X G (zOG (P:=l.prog) (w:=w) (base:=base) oB.F T q1) oB.b1;have N4:=pAL oB.F (zOH (P:=l.prog) (w:=w) (base:=base) oB.F T EN (BR X G vC) yz.ex q1) (BR X G oB.a) oB.b1;have Jk:=oA.cal X G (zKV (P:=l.prog) (w:=w) (base:=base) oA.F T q1) oA.b1;have GG:=pAL oA.F (zKW (P:=l.prog) (w:=w) (base:=base) oA.F T EN  q1) (BR X G oA.a) oA.b1;have Yu:=Iw.cal X G (zIZ (P:=l.prog) (w:=w) (base:=base) Iw.F T q4) Iw.b2;have q14:=Iv.cal X G (zI0 (P:=l.prog) (w:=w) (base:=base) Iv.F T q8) Iv.b1;have q15:=Iu.cal X G (zHG (P:=l.prog) (w:=w) (base:=base) Iu.F T q7) Iu.b1;have q16:=Ir.cal X G (zI1 (P:=l.prog) (w:=w) (base:=base) Ir.F T q9) Ir.b1;have Yt:=Iq.cal X G (zGP (P:=l.prog) (w:=w) (base:=base) Iq.F T q9) Iq.b1;have q18:=Ip.cal X G (zH7 (P:=l.prog) (w:=w) (base:=base) Ip.F T q4) Ip.b2;have q19:=Io.cal X G (zST (P:=l.prog) (w:=w) (base:=base) Io.F T q10) Io.b2;have q20:=n9.cal X G (zMS (P:=l.prog) (w:=w) (base:=base) n9.F T Jk) n9.b1;have M9:=pAL n9.F (zMT (P:=l.prog) (w:=w) (base:=base) n9.F T GG (BR X G vC) yz.ex Jk) (BR X G n9.a) n9.b1;have q21:=Im.cal X G (zP2 (P:=l.prog) (w:=w) (base:=base) Im.F T q4 Yu) Im.b2;have q22:=Il.cal X G (zHI (P:=l.prog) (w:=w) (base:=base) Il.F T Yt) Il.b1;have q23:=Ik.cal X G (zOJ (P:=l.prog) (w:=w) (base:=base) Ik.F T q4 q18) Ik.b2;have Ys:=Ij.cal X G (zU4 (P:=l.prog) (w:=w) (base:=base) Ij.F T q0 q19) Ij.b1;have q25:=Ii.cal X G (zKD (P:=l.prog) (w:=w) (base:=base) Ii.F T q21 q14 q7 q15 Yu q4) Ii.b1;have q26:=n8.cal X G (zP3 (P:=l.prog) (w:=w) (base:=base) n8.F T q1 Ys Yv) n8.b1;have OZ:=pAL n8.F (zP4 (P:=l.prog) (w:=w) (base:=base) n8.F T EN N4 (BR X G vC) yz.ex q1 Ys Yv) (BR X G n8.a) n8.b1;have q27:JK l.prog w K mg base "_law_is" 5 2 (zBL 5):=vD.cal X G (Sy vD.F T (BR X G vD.a) vD.b2  5) vD.b2;have q28:=Ih.cal X G (zOK (P:=l.prog) (w:=w) (base:=base) Ih.F T ts OZ GG M9 q26 Jk q20) Ih.b2;exact yGQ F29 T q3 q4 q16 Yt q22 q28 q2 q23 q25 q6 q27
end My
namespace PySem.W.Fast
theorem tw7492818963560787507:True:=trivial
theorem tw14656193327197247045:True:=trivial
theorem tw12445391204653774153:True:=trivial
theorem tw13967990881969151737:True:=trivial
theorem tw4494663034390004160:True:=trivial
theorem tw16531605774178411411:True:=trivial
theorem tw16293710675746833476:True:=trivial
theorem tw8237305101175038588:True:=trivial
theorem tw9560851078776471142:True:=trivial
theorem tw14578424763563938079:True:=trivial
theorem tw3035898107503497398:True:=trivial
theorem tw2653536785717746671:True:=trivial
theorem tw11874926003824510435:True:=trivial
theorem tw1292610250887174681:True:=trivial
theorem tw5882701791320268691:True:=trivial
theorem tw1865485827677327313:True:=trivial
theorem tw11279181811278626087:True:=trivial
theorem tw17282168747499687364:True:=trivial
theorem tw13366652007670301695:True:=trivial
theorem tw13818884865057159453:True:=trivial
theorem tw1473889197580776508:True:=trivial
theorem tw9726963180487738594:True:=trivial
theorem tw11770560714642993834:True:=trivial
theorem tw14532921771959288553:True:=trivial
theorem tw4617587873150868446:True:=trivial
theorem tw1721678661908087821:True:=trivial
theorem tw5612951580626498494:True:=trivial
theorem tw17751361132362964928:True:=trivial
theorem tw8193205219066846082:True:=trivial
theorem tw11757781093099306932:True:=trivial
theorem tw13038038658138840272:True:=trivial
theorem tw7953147837240781457:True:=trivial
theorem tw2837351452158885568:True:=trivial
theorem tw2963190304296610349:True:=trivial
theorem tw885147058984459954:True:=trivial
theorem tw13048081864758308528:True:=trivial
theorem tw17867980550157872925:True:=trivial
theorem tw1224813061356220678:True:=trivial
theorem tw205855987771126040:True:=trivial
theorem tw5916399634805549660:True:=trivial
theorem tw15826716061936128120:True:=trivial
theorem tw7028740349770689476:True:=trivial
theorem tw14744523188037868164:True:=trivial
theorem tw14778026446879696353:True:=trivial
theorem tw11346708282020018041:True:=trivial
theorem tw11259994818610174078:True:=trivial
theorem tw6813228203449631191:True:=trivial
theorem tw4266767087915261495:True:=trivial
theorem tw7216268213751705740:True:=trivial
theorem tw4807703121721385519:True:=trivial
theorem tw10753976012599706509:True:=trivial
theorem tw8504319826270069556:True:=trivial
theorem tw3349600928881674504:True:=trivial
theorem tw818514460457036062:True:=trivial
theorem tw17776734171485200942:True:=trivial
theorem tw2425043367910331442:True:=trivial
theorem tw11339796299801748937:True:=trivial
theorem tw2210944666518164124:True:=trivial
theorem tw16293725235667003280:True:=trivial
theorem tw9060421658659431819:True:=trivial
theorem tw6977383521280517990:True:=trivial
theorem tw10459777914774937048:True:=trivial
theorem tw14653076503156059983:True:=trivial
theorem tw7079479938015695646:True:=trivial
theorem tw16052815628652495579:True:=trivial
theorem tw1060424610654005662:True:=trivial
theorem tw3534341084799782938:True:=trivial
theorem tw10878567143124526595:True:=trivial
theorem tw13068157526723378057:True:=trivial
theorem tw17697815735746453881:True:=trivial
theorem tw418889305598404391:True:=trivial
theorem tw2825554932984082462:True:=trivial
theorem tw16572470198302568351:True:=trivial
theorem tw7680306540887672529:True:=trivial
theorem tw15626127981264441218:True:=trivial
theorem tw17264241123787422650:True:=trivial
theorem tw10767110859305172937:True:=trivial
theorem tw17291384707040561125:True:=trivial
theorem tw4077160729755312821:True:=trivial
theorem tw6426175477358009215:True:=trivial
theorem tw15865886604055082949:True:=trivial
theorem tw13037852675447890041:True:=trivial
theorem tw16407714132354906180:True:=trivial
theorem tw9173427631740462322:True:=trivial
theorem tw2488442963518901948:True:=trivial
theorem tw236738916396032547:True:=trivial
theorem tw10956315973443101193:True:=trivial
theorem tw6895585704914194432:True:=trivial
theorem tw18071572392919836432:True:=trivial
theorem tw4105017546346498051:True:=trivial
theorem tw2115171177725481930:True:=trivial
theorem tw15137406536747234844:True:=trivial
theorem tw13418117554915410721:True:=trivial
theorem tw7866794581715254537:True:=trivial
end PySem.W.Fast
open PySem PySem.W PyProof.Rows
set_option maxRecDepth 100000 in
set_option maxHeartbeats 0 in
theorem PySem.Challenge.cw_waymusts_k23_texts_spoilt_anywhere_holds : PySem.Challenge.rw_waymusts_k23_texts_spoilt_anywhere.Holds := by
 w_on;o_law;k_head;(case hw=>w_witness2)
 k_fill
 refine L2.walk_v (l:=PySem.Challenge.rw_waymusts_k23_texts_spoilt_anywhere) (m:=My.m_law) (lv:=7) rfl rfl {rfl,by decide,by decide,rfl} (λw h Y=>PySem.W.kIn_of Y) ?tK My.law_true ?F
 case tK =>
  intro w;refine' L2.tabs5 ?h1 ?h2 ?h3 ?h4 ?h5 ?ap
  (case h1=>refine' .no ?z;(case z=>k_is))
  (case h2=>refine' .no ?z;(case z=>k_is))
  (case h3=>refine' .no ?z;(case z=>k_is))
  (case h4=>refine' .no ?z;(case z=>k_is))
  (case h5=>refine' L2.TabE.tab (L2.tabIn_of ?a ?l ?e ?m ?r) ?o ?d;(case a=>k_is);(case l=>k_is);(case e=>exact rfl);(case m=>k_is);(case r=>exact rfl);(case o=>kernel_rfl);(case d=>exact rfl))
  (case ap=>decide)
 case F =>
  intro w mg fa h KX G wU;refine' My.all_mk KX G wU ?_ ?_ ?_ ?_ ?_ ?_ ?_ ?_ ?_ ?_ ?_ ?_ ?_ ?_ ?_ ?_ ?_ ?_ ?_ ?_ ?_ ?_ ?_ ?_ ?_ ?_ ?_ ?_ ?_ ?_ ?_ ?_ ?_ ?_ ?_ ?_ ?_ ?_ ?_ ?_ ?_ ?_ ?_ ?_ ?_ ?_ ?_ ?_ ?_ ?_ ?_ ?_ ?_ ?_ ?_ ?_ ?_ ?_ ?_ ?_ ?_ ?_ ?_ ?_ ?_ ?_ ?_ ?_ ?_ ?_ ?_ ?_ ?_ ?_ ?_ ?_
  any_goals (refine' My.fa ?a ?l ?c ?k;(case a=>k_is);(case l=>k_is);(case c=>k_is);(case k=>k_is))
  any_goals k_is
  any_goals kernel_rfl
  any_goals (refine' L2.ExK.mk ?a ?_ ?_ ?_ ?_ ?_ ?_ ?_;(case a=>k_exc);all_goals k_is)
