import PyProof.Rows.All
import Wide.All
import OpenK.AllK
import Wide.FinOn
import Lean
import PyProof.EqAt
import PyProof.EqKinds
import PyProof.TupleCall
import KE.KSortKey
import KE.KDflt
import PyProof.Rows.SortRuns
import PyProof.DictCompW
import KE.KLam
import PyProof.Rows.StrRev
import PyProof.WalksMore
import PyProof.ReprRoads
import PyProof.CallStr
import PyProof.AttrMissHeap
import KE.KDictOf
import KE.KTryMore
import OpenK.KOwn
import PyProof.RulesAs
import PyProof.RulesDel
import KE.KDictList
import PyProof.Rows.SeqMore2
import PyProof.FString
import PyProof.Rows.SetFrom
import PySem.Challenge.RW_waymusts_k08_lanes_that_must_be
set_option autoImplicit false
set_option linter.all false
set_option Elab.async false
set_option maxRecDepth 100000
set_option maxHeartbeats 8000000
local macro_rules (kind:=«term{_}»)|`(«term{_}»|{$x,*})=>`(⟨$x,*⟩)
local macro_rules|`('l')=>`(by lia)
local macro_rules|`('d')=>`(by decide)
local macro_rules|`('s')=>`(by simp)
local macro_rules|`('o')=>`(by omega)
noncomputable section
open Option renaming some→AA,none→AN,map_eq_some_iff→BS,map_some→HI,isSome_map→P6,getD_none→b7
open Bool renaming false→AD,true→AK,false_ne_true→CH,false_eq_true→DT,and_eq_true→EK,not_eq_true'→MG,eq_false_iff→RA,and_eq_true_iff→ZY,or_eq_true→jU,and_false→l8
open PySem renaming wpAny_bind→AB,Value→AI,starEach→AM,Addr→AR,Shared→AT,wpAny→A0,model→A6,mainGlobals→BJ,Str→CN,Program→CO,wpAny_field→CS,Expr→CU,wpAny_setField_rec→CV,wpAny_call_entry→C8,wpAny_callSpecial?_slot→C9,wpAny_mono→DA,rawInt→DC,backTo→DD,Around→DP,wpAny_holding→DQ,wpAny_newObj_type→DU,behindInMarks→DX,World→D2,Heap→D3,foldedSetIterable→D6,Builtin→ES,compareOp→EX,wpAny_rule→E4,Stmt→FC,Spec→FM,letOwnedTupleGo→FP,sizeLine_eq→F7,bootBuiltins→GH,wpAny_attempt→GL,sysModules→GR,cLine→GT,PyData→G1,codeAny→G5,binaryOp→G6,assignEach→HE,wpAny_seqItems→HK,Obj→HL,wpAny_typeNameOfWhole_keyiter→HR,wpAny_Call_Name_kw→HV,wpAny_passesOwn→IF,wpAny_execs_nil→IG,swapsWith→IJ,attributeBase→IK,wpAny_truthy_bool→IP,wpAny_pyIter_list→IQ,mem_of_lookup→IT,wpAny_of_eq→IX,wpAny_typeNameOf_keyiter→JM,wpAny_standAt→JN,FuncData→JO,tupleKind_room_in1→JW,pyNext→JX,DictEntry→J0,standAt→KD,Keyword→KG,IsPair→KH,wpAny_execs_cons→K6,assign→K7,sliceBounds→LF,holding→MA,codeAny_mono→MB,wpAny_newTuple→MR,call_meets→MT,builtinsNs→MU,wpAny_dictEntries→NH,keywordEach→NI,Scope→NJ,wpAny_onRaise→NZ,wpAny_comprehension_free→N0,tupleKind→OF,setField→OG,bindArgs→OH,wpAny_pyIter_rangeiter→O0,pyIter→O1,codeAny_compStart_list→O3,wpAny_isOneOf_keyiter→PR,wpAny_updateSeq_pair→QN,wpAny_setField→QO,wpAny_letGo→QP,wpAny_fieldsOf→QQ,firstArgMember→QS,IsPart→QT,getItem→Q1,codeAmong→Q2,callerA→Q3,wpAny_newList→R1,field→R6,wpAny_pyIter_tuple→S7,wpAny_call→S8,Sem→TC,wpAny_pyIter_slot→UB,wpAny_Assign_Name→UC,valueAt→UD,relabel→UE,concat_meets→UF,backToKw→UG,NameKind→UK,BindsTo→UO,wpAny_isInstance→WD,wpAny_eqBool_int→WE,noFill_tuple_add→WF,isTrue→WG,seqIndex_of→WR,again→WT,IsRangeIter→WZ,wpAny_dictEpoch→XV,Env→XZ,Pos→YA,wpAny_newFunctionEnv_cells→Y0,isSubtype_stop→Y2,compTurn→Y3,closureFor→Y4,atKey→Y5,ReadsAll→Y6,swapsWithSole→aE,swappedStores→aF,strLen_append→aG,seq_tuple_add→aH,rangeSize_one→aI,call→aJ,noteFrame→bS,bindL→bT,bindC→bU,Reads→bV,isCodeTable→bW,PassesOwn→bZ,wpAny_typeOf→eK,wpAny_pyNext_range_end→eM,Tok→eP,Fin→eT,codeAny_call_function→gS,wpAny_pyIter_keyiter→jJ,wpAny_newFunctionEnv→jK,wpAny_mkInt→jL,loadIfAlive→jM,compEnvC→jO,codeAny_call_builtin→jP
open PySem.W renaming Frag→AC,kitOne→BQ,nsIn→BV,mg_none_of→C1,kia_one→DE,mg_of→DL,tabIn→EN,keepIn→E6,fnOf→FL,codeIn→JG,CodeHd→JH,excIn→JZ,hideAll→KE,tabObj→K8,findIn→K9,kitx_dict→LM,cellsFrom_some→MX,kla_obj→M4,exmOne→N2,hideAll_get→OI,callWith_K→O4,methodObj→PU,kitx_list→PV,envX→PX,instObj→RN,OpenLaw→RO,KatTups→RP,lookIn→TD,mroIn→UI,of_hideAll→Y7,kitx_tuple→Y8,codeRec_of→Y9,specialIn→ZR,plainGet→aK,kat_cons→aM,takesIn→bX,kat_yes→bY,kla_fn→eQ,kat_no→eR,kat_go→eS,WalkO→gT
open List renaming getElem?_eq_some_iff→AE,length_map→AJ,map_cons→AU,getElem?_map→AV,mem_cons_of_mem→A1,mem_cons→A2,size_toArray→A4,getElem?_set_ne→A5,getElem?_eq_getElem→A7,mem_singleton→A8,mem_cons_self→BB,length_cons→BC,getElem?_set_self→BF,replicate→BG,take_succ_eq_append_getElem→BK,mem_append_right→BM,length_append→BN,length_set→BW,not_mem_nil→BX,pairwise_iff_getElem→B0,getElem?_append_left→B9,getElem?_append_right→CA,mem_of_getElem?→CC,mem_filter→CF,mem_append→CG,mem_map→CM,length_replicate→C5,range→DB,mem_append_left→DF,append_assoc→DH,getElem?_replicate→DN,find?_cons→DR,pairwise_map→D0,map_map→D7,append_nil→EA,length_take→EB,flatMap_cons→EF,take_length→EJ,replicate_succ→EM,length_filter_le→EQ,any_cons→ER,length_singleton→FI,getElem?_cons_succ→FW,nodup_cons→FZ,getElem_mem→GF,getElem?_zip_eq_some→GP,drop_eq_getElem_cons→GQ,flatten_cons→GV,nodup_nil→G9,any_eq_true→HA,getElem?_drop→HJ,nil_append→HM,map_append→HN,mem_iff_getElem?→HS,length_range→HY,mem_range→IL,getD_eq_getElem?_getD→IM,filter_cons→IR,map_congr_left→IV,filterMap_cons→IW,idxOf_lt_length_iff→I0,of_mem_zip→JB,length_nil→JC,mem_filterMap→JE,take_of_length_le→JR,singleton_append→J5,zipIdx_cons→J9,foldl_cons→KY,getElem_idxOf→LN,nodup_append→MD,any_eq_false→ME,getElem?_take_of_lt→MK,pairwise_mergeSort→M5,lookup_cons→M6,cons_append→M7,map_nil→NK,drop_eq_nil_of_le→NL,forIn_cons→N3,mem_iff_getElem→OO,length→OP,forIn_nil→OQ,mergeSort_perm→PC,getElem?_range→PD,zip_cons_cons→P7,pairwise_cons→P8,getElem_range→P9,take_sublist→Q6,filter_congr→Q7,any_map→Q8,eraseIdxIfInBounds_toArray→RT,length_drop→R9,length_zip→TU,drop_zero→U6,pairwise_singleton→XX,eraseIdx_cons_succ→XY,perm_append_comm→ZA,getElem?_eq_none→ZB,dropLast_eq_take→ZC,pairwise_append→ZU,reverse_append→aN,foldl→b8,filter_append→b9,reverse_cons→eV,find?_append→eW,ext_getElem?→eX,reverse_nil→gX,perm_middle→gY,all_eq_true→gZ,zipIdx_nil→jT
open PySem.Heap renaming get?_push_of_some→AG,get?_push_size→AW,lt_size→A9,SameBut→DM,size_push→FF,get?_push_ne→MF,size_update→M8,get?_update_self→OA,get?_update_ne→PF,get?_update_other→YB,get?_none_of_le→ZW,ExtBut→ZX
open Array renaming getElem_mem→AH,getElem?_eq_some_iff→CK,getElem?_toList→C3,perm_iff_toList_perm→EG,size_push→EH,toList_append→EL,toList_push→FD,mem_toList_iff→GU,mem_push→G7,size_append→HU,size_extract→JD,toList_extract→KJ,length_toList→KZ,forIn_toList→LI,size_setIfInBounds→MH,toList_reverse→OL,toList_setIfInBounds→UP,eraseIdxIfInBounds→WJ,append_empty→aO
open Nat renaming le_refl→AL,lt_of_lt_of_le→AQ,lt_of_le_of_lt→AS,le_trans→AX,le_add_right→A3,add_lt_add_left→BA,zero_le→BY,ne_of_lt→BZ,le_of_lt→CW,le_of_eq→CY,lt_trans→C4,sub_le→C7,lt_succ_self→DG,lt_or_eq_of_le→DJ,le_add_left→DS,add_le_add→EI,zero_add→EV,le_of_not_lt→EZ,ne_of_gt→FS,lt_of_succ_le→FY,lt_irrefl→GE,lt_of_le_of_ne→GJ,lt_succ_of_lt→IA,le_of_lt_succ→IB,lt_trichotomy→JY,le_succ→KR,succ_le_of_lt→MJ,le_max_right→ND,add_sub_cancel_left→NE,min_le_left→N9,add_comm→RS,not_lt→WI,lt_succ_of_le→gW,not_lt_of_le→jR,lt_of_not_le→jS,le_max_left→l0
open PyProof.Rows renaming arrOf→AY,Keyed→BD,wpS_pure→BE,wpS_bind→BI,SortSt→BP,pendingOf→DI,seqObj→D9,slot_tuple_getitem→EC,callWith_type1→EO,SortKind→FH,wpS_forRange→FV,IntsAre→FX,envOfC→G0,pairsOf→HW,wpS_mono→JL,wpS_modify→MQ,step_dedup→MS,wpS_get→NG,AllBare→NN,wpS→NY,listUpdate_at→N1,mirror→O2,wpS_lift→QM,pairsOf_toList→QR,IsTup→UM,seqEpoch_at→WS,get?_update_seq→XW,size_push'→Y1,numOf→bR,subscriptTail_builtinR→eN,listItems_at→eO,failedOf→jN,entry_tuple_getitem→lY
open Option.some renaming inj→BL,injEq→WY
open Or renaming inl→BO,inr→DY
open PySem.Builtin.SmallTypes renaming nextOf→CD,ownedTupleIsFree→C0,ownedTupleHandOut→HF
open Sum renaming inl→CQ,inr→RM
open PySem.PassesOwn renaming never→CT
open PySem.PyData renaming eqv→C2,canLayAll0→FU,depth→F9,depthAll→KL,canLay0→LB,int→PB,eqvAll→U5,tuple→WX
open PySem.Obj renaming mapSeq→C6,data_mapFields→LY,isFreed_of_fields→ZT,cls_mapFields→gU
open PySem.Value renaming ref→DK,none→FK,bool→JA,builtin→J8,int→MV,type→UH,str→WU,isStrOf→lZ
open PySem.Builtin.Range renaming rangeFitsLong→DO,rangeFields→QA,rangeSize→Q9
open PySem.Str renaming ofString→EU,empty→O9
open Ne renaming symm→E7
open PySem.F renaming plainAttrs_list→FT,slot_enumerate_next→F8,slot_range_reversed→KQ,type_list_append→LU,slot_list_append→LW,args_tuple_add_2→LX,entry_tuple_add→MC,slot_tuple_add→MY,slot_dict_get→NC,args_enumerate_next_1→Q4,entry_enumerate_next→RQ,slot_enumerate_iter→R8,plain_reversed_new→TF,slot_list_index→U3,args_dict_get_3→U4,entry_dict_get→WH,type_list_pop→WV,slot_list_pop→WW
open List.Perm renaming refl→GB,swap→HQ,append_left→JK,trans→J6,eq_of_pairwise→LG,append_right→UL
open PySem.Heap.SameBut renaming update→GO
open List.Nodup renaming length_le_of_subset→GW
open Prod renaming snd→G8,fst→Q5,ext→ZS
open False renaming elim→HG
open True renaming intro→HH
open PySem.Builtin.Slice renaming slicePlaces→HP,sliceAdjust→KI,sliceApplied→P3
open Sum.inl renaming inj→HX
open PySem.Builtin.Tuple renaming tupleExact→HZ,tupleItemsOf→P1,tupleIsExact→P2
open Classical renaming byContradiction→IC,propDecidable→TW
open PySem.Builtin.List renaming listTooLong→ID
open Int renaming lt_of_le_of_lt→JI,emod_lt_of_pos→JJ,emod_nonneg→LA,le_of_lt→LH,toNat_natCast→MM,le_trans→N5,toNat_of_nonneg→PY,le_refl→TV,le_antisymm→l6
open Decidable renaming not_not→LC
open PySem.SeqAt renaming eqAt_reads→MW,eqv_refl→jQ
open PySem.Calls renaming callWith_builtin→NF,evalArgs_plain→OK,spliced_cons→PZ,Name_function_global→UN,call_function_entry→U8,spliced_nil→cA
open PySem.Builtin.Dict_items renaming ownsTuple→NM
open List.Pairwise renaming nil→N4,map→U7
open Function renaming comp→OJ
open PySem.Data renaming fields→OR,cell→O5,seq→l7
open Array.Perm renaming refl→QB
open ForInStep renaming yield→QU
open PySem.W.KatTups renaming nil→R7
open PyProof.Rows.IntsAre renaming int_at→TH
open PyProof.Rows.SortSt renaming mk'→TR
open Prod.mk renaming injEq→UJ
open PySem.Shared renaming heap→X9
open PySem.Around renaming frames_deeper→YC
open And renaming intro→YD
open List.cons renaming injEq→ZV
open PySem.NameKind renaming free→eU
open PySem
variable{κ α:Type}{a it dx C f:AR}{h h' h1 base:D3}{items:Array AI}{P prog:CO}{w:D2}{AF:List (AR×HL)}{s s':AT}{t' i j k n:Nat}{ch fp:List AR}{N:List CN}{x name qual:CN}{M:Model}{A:DP}{E Q:AI->AT->Prop}{u cd pm ct oc:AI}{e c tg JQ:CU}{pos OC p XD K5 XG:YA}{es:List CU}{body:List FC}{op:CmpOp}{CI us:List AI}{mA mg:CN->Option AI}{fd:JO}{scope:NJ}{outer:List XZ}{FG:Arguments}{an od:Option AR}{ps:List CN}
namespace L2
open PySem PySem.Spec PyProof.Rows
abbrev Key:=Sum Int CN
noncomputable def mJ:Key->AI->Bool
 |.inl k,v=>Value.isInt k v
 |.inr x,v=>lZ x v
def yHZ(w:D2):Key->Int
 |.inl k=>hashInt k
 |.inr x=>hashStr w x
theorem cP:∀{k:Key} {v:AI},mJ k v=AK->(∃i t,k=CQ i/\v=MV i t)\/(∃x t,k=RM x/\v=WU x t)
 |.inl i,v,h=>by
  obtain⟨t,e⟩:=Value.isInt_shape (k:=i) (v:=v) h;exact .inl {i,t,rfl,e}
 |.inr x,v,h=>by
  obtain⟨t,e⟩:=Value.isStrOf_shape (x:=x) (v:=v) h;exact .inr {x,t,rfl,e}
theorem zP0(i:Int)(t:eP):mJ (.inl i) (.int i t)=AK:=by simp[mJ,Value.isInt]
theorem zP1(x:CN)(t:eP):mJ (.inr x) (.str x t)=AK:=by simp[mJ,lZ]
theorem yBP(a b:Int):decide ((CQ a:Key)=CQ b)=(a==b):=by
 by_cases e:a=b
 .subst e;simp
 .have h:¬(CQ a:Key)=CQ b:=λq=>e (HX q)
  rw[decide_eq_false h];exact(beq_eq_false_iff_ne.mpr e).symm
theorem yBQ(a b:CN):decide ((RM a:Key)=RM b)=decide (a=b):=by
 by_cases e:a=b
 .subst e;simp
 .have h:¬(RM a:Key)=RM b:=λq=>e (Sum.inr.inj q)
  rw[decide_eq_false h,decide_eq_false e]
theorem yBR(a:Int)(b:CN):decide ((CQ a:Key)=RM b)=AD:=decide_eq_false (λq=>nomatch q)
theorem yBS(a:CN)(b:Int):decide ((RM a:Key)=CQ b)=AD:=decide_eq_false (λq=>nomatch q)
def TZ(prog:CO)(w:D2):PySem.KeyKind prog w Key where
 is:=mJ
 hash:=yHZ w
 inj:=λv a b ha hb=>by
  rcases cP ha with⟨i,t,rfl,rfl⟩|⟨x,t,rfl,rfl⟩
  .rcases cP hb with⟨j,u,rfl,e⟩|⟨y,u,rfl,e⟩
   .injection e with e1 _;rw[e1]
   .exact nomatch e
  .rcases cP hb with⟨j,u,rfl,e⟩|⟨y,u,rfl,e⟩
   .exact nomatch e
   .injection e with e1 _;rw[e1]
 byValue:=λk v h=>by
  rcases cP h with⟨i,t,rfl,rfl⟩|⟨x,t,rfl,rfl⟩<;>rfl
 pyHash:=λhv h=>by
  rcases cP hv with⟨i,t,rfl,rfl⟩|⟨x,t,rfl,rfl⟩
  .exact wpAny_pyHash_int h
  .exact wpAny_pyHash_str h
 eqBool:=λhu hv h=>by
  rcases cP hu with⟨i,t,rfl,rfl⟩|⟨x,t,rfl,rfl⟩
  .rcases cP hv with⟨j,u,rfl,rfl⟩|⟨y,u,rfl,rfl⟩
   .rw[yBP] at h;exact WE h
   .rw[yBR] at h;exact SeqAt.EqAt.int_str i t y u _ _ _ _ h
  .rcases cP hv with⟨j,u,rfl,rfl⟩|⟨y,u,rfl,rfl⟩
   .rw[yBS] at h;exact SeqAt.EqAt.str_int x t j u _ _ _ _ h
   .rw[yBQ] at h;exact wpAny_eqBool_str h
 «strs»:=λk x t v h=>by
  rcases cP h with⟨i,u,rfl,e⟩|⟨y,u,rfl,e⟩
  .exact nomatch e
  .injection e with e1 _
   subst e1;cases v<;>rfl
theorem Tz(prog:CO)(w:D2)(k:Key)(v:AI):(TZ prog w).is k v=mJ k v:=rfl
theorem zML(prog:CO)(w:D2)(i:Int)(t:eP):(TZ prog w).is (.inl i) (.int i t)=AK:=zP0 i t
theorem zMM(prog:CO)(w:D2)(x:CN)(t:eP):(TZ prog w).is (.inr x) (.str x t)=AK:=zP1 x t
inductive V where
 |non|bl (b:Bool)|int (i:Int)|str (x:CN)|byt (b:Array UInt8)|flt (b:UInt64)|ref (a:AR)|ty (n:String)
 deriving DecidableEq
def RelV:V->AI->Prop
 |.non,u=>u=FK
 |.bl b,u=>u=JA b
 |.int i,u=>∃t,u=MV i t
 |.str x,u=>∃t,u=WU x t
 |.byt b,u=>∃t,u=Value.bytes b t
 |.flt b,u=>∃t,u=Value.float b t
 |.ref a,u=>u=DK a
 |.ty n,u=>u=UH n
abbrev Vals:List V->List AI->Prop:=Paired RelV
theorem Vals.length{xs:List V}{us:List AI}(r:Vals xs us):xs.length=us.length:=Paired.length r
theorem Vals.get:∀{xs:List V} {us:List AI} {i:Nat} {x:V},Vals xs us->xs[i]?=AA x->∃u,us[i]?=AA u/\RelV x u
 |_,_,_,_,.nil,e=>by simp at e
 |_,_,0,_,.cons r _,e=>by simp at e;subst e;exact{_,rfl,r}
 |_,_,i+1,x,.cons _ t,e=>by
  obtain⟨u,h1,h2⟩:=Vals.get (i:=i) (x:=x) t (by simpa using e);exact{u,by simpa using h1,h2}
theorem Vals.set{x:V}{u:AI}(r:RelV x u):∀{xs:List V} {us:List AI} (i:Nat),Vals xs us->Vals (xs.set i x) (us.set i u)
 |_,_,_,.nil=>.nil
 |_,_,0,.cons _ t=>.cons r t
 |_,_,i+1,.cons q t=>.cons q (Vals.set r i t)
theorem Vals.append:∀{xs ys:List V} {us ws:List AI},Vals xs us->Vals ys ws->Vals (xs++ys) (us++ws)
 |_,_,_,_,.nil,s=>s
 |_,_,_,_,.cons r t,s=>.cons r (Vals.append t s)
theorem Vals.take:∀{xs:List V} {us:List AI} (n:Nat),Vals xs us->Vals (xs.take n) (us.take n)
 |_,_,0,_=>.nil
 |_,_,_+1,.nil=>.nil
 |_,_,n+1,.cons r t=>.cons r (Vals.take n t)
theorem Vals.drop:∀{xs:List V} {us:List AI} (n:Nat),Vals xs us->Vals (xs.drop n) (us.drop n)
 |_,_,0,r=>r
 |_,_,_+1,.nil=>.nil
 |_,_,n+1,.cons _ t=>Vals.drop n t
def RelO:Option V->Option AI->Prop
 |some v,AA u=>RelV v u
 |none,AN=>True
 |_,_=>False
def KV:List (κ×V)->List (κ×AI)->Prop:=Paired λ(p:κ×V) (q:κ×AI)=>p.1=q.1/\RelV p.2 q.2
def kV:Key->V
 |.inl i=>.int i
 |.inr x=>.str x
inductive HO where
 |lst (xs:List V)
 |tup (xs:List V)
 |dK (kvs:List (Key×V))|dT (kvs:List (List Key×V))
 |set (S:Int->Bool) (n:Nat)
 |ins (C dx:AR) (fs:List (CN×V))
 |own (x:AR)
 |xd (fs:List (CN×V))
 |met (f x:AR)
 |rng (lo hi:Int)
 |frz (o:HL) (u:HO)
 |tbl (q:CN) (ps:Array AI)
 |ext (φ:D3->Prop)
abbrev Hp:=AR->Option HO
def D5(H:Hp)(a:AR)(o:HO):Hp:=λb=>if b=a then AA o else H b
variable{H:Hp}{o:HO}
theorem HC:D5 H a o a=AA o:=by unfold D5;rw[if_pos rfl]
theorem EW{b:AR}(h:b≠a):D5 H a o b=H b:=by unfold D5;rw[if_neg h]
theorem yE6{b:AR}{u:HO}(h:H a=AA o)(h':H b=AA u)(d:o≠u):a≠b:=by
 intro e;subst e;rw[h] at h';exact d (BL h')
theorem VL{b:AR}(h:H a=AA o)(h':H b=AN):a≠b:=by
 intro e;subst e;rw[h] at h';cases h'
def IsTupP(h:D3)(a:AR)(items:Array AI):Prop:=∃o,h.get? a=AA o/\o.cls=.type "tuple"/\o.dict=AN/\∃n,o.data=.seq items n
theorem IsTupP.isTup(p:IsTupP h a items):UM h a items:=let ⟨o,e,c,_,n⟩:=p;{o,e,c,n}
theorem IsTupP.new(h:D3)(items:Array AI):IsTupP (h.push { cls:=.type "tuple",data:=.seq items }) h.objs.size items:={_,AW _ rfl,rfl,rfl,_,rfl}
section
variable(P:CO)(w:D2)
def ObjOk(H:Hp)(h:D3)(a:AR):HO->Prop
 |.lst xs=>xs.length<=sizeLine/\∃(CI:List AI) (n:Nat),Vals xs CI/\h.get? a=AA { cls:=.type "list",data:=.seq CI.toArray n }
 |.tup xs=>xs.length<=sizeLine/\∃CI:List AI,Vals xs CI/\IsTupP h a CI.toArray
 |.dK kvs=>kvs.length<=sizeLine/\(a==GR)=AD/\∃vs,KV kvs vs/\h.DictOf (TZ P w) a vs
 |.dT kvs=>kvs.length<=sizeLine/\(a==GR)=AD/\∃xs:List (List Key×AR×AI),
   Paired (λ(p:List Key×V) (q:List Key×AR×AI)=>p.1=q.1/\H q.2.1=AA (.tup (p.1.map kV))/\RelV p.2 q.2.2) kvs xs /\
   ∃o es ep,h.get? a=AA o/\o.ExactDict/\o.data=.dict es ep/\es.toList=xs.map (entryOfKey (OF (TZ P w)))/\(xs.map (·.1)).Nodup
 |.set S n=>h.SetOf (intKind P w) a S n
 |.ins C dx fs=>H dx=AA (.own a)/\fs.length<=1000/\dx≠a/\h.get? a=AA (RN C dx) /\
   ∃mA,h.Ns1 dx mA/\(∀f,RelO (fs.lookup f) (mA f))/\PySem.Within mA (fs.map (·.1))
 |.own _=>∃o,h.get? a=AA o
 |.xd fs=>∃mA,h.Ns1 a mA/\∀f,RelO (fs.lookup f) (mA f)
 |.rng lo hi=>∃t u v,h.get? a=AA { cls:=.type "range",data:=.fields #[.int lo t,.int hi u,.int 1 v] }
 |.frz o u=>h.get? a=AA o/\ObjOk H h a u
 |.tbl q ps=>h.get? a=AA { cls:=.none,data:=.fields ps }/\TriplesOk ps.toList/\∀pos cv,Q2 pos ps.toList=AA cv->∃c' o vs t,cv=.ref c'/\H c'=AA (.frz o (.own c'))/\o.data=.fields vs/\vs[1]?=AA (.str q t)
 |.met f x=>h.get? a=AA (PU (.ref f) (.ref x))
 |.ext φ=>φ h/\(∃o,h.get? a=AA o)/\∀h1 h2:D3,φ h1->(∀o,h1.get? a=AA o->h2.get? a=AA o)->φ h2
def HOk(H:Hp)(h:D3):Prop:=∀a o,H a=AA o->ObjOk P w H h a o
end
variable{H':Hp}
theorem ObjOk.lt(x:ObjOk P w H h a o):a<h.objs.size:=by
 cases o with
 |lst xs=>obtain⟨_,_,_,_,e⟩:=x;exact A9 e
 |tup xs=>obtain⟨_,_,_,p⟩:=x;exact p.isTup.lt
 |dK kvs=>obtain⟨_,_,_,_,o,_,_,e,_⟩:=x;exact A9 e
 |dT kvs=>obtain⟨_,_,_,_,o,_,_,e,_⟩:=x;exact A9 e
 |set S n=>obtain⟨o,_,_,_,e,_⟩:=x;exact A9 e
 |ins C dx fs=>obtain⟨_,_,_,e,_⟩:=x;exact A9 e
 |own y=>obtain⟨_,e⟩:=x;exact A9 e
 |xd fs=>obtain⟨_,⟨_,_,_,e,_⟩,_⟩:=x;exact A9 e
 |rng lo hi=>obtain⟨_,_,_,e⟩:=x;exact A9 e
 |frz ob u=>obtain⟨e,_⟩:=x;exact A9 e
 |tbl q ps=>exact A9 x.1
 |met f y=>exact A9 (show h.get? a=AA _ from x)
 |ext φ=>obtain⟨_,⟨_,e⟩,_⟩:=x;exact A9 e
theorem pA0{α β:Type}{F G:α->β->Prop}:∀{vO:List α} {l₂:List β},Paired F vO l₂->(∀a b,F a b->G a b)->Paired G vO l₂
 |_,_,.nil,_=>.nil
 |_,_,.cons r t,f=>.cons (f _ _ r) (pA0 t f)
theorem ObjOk.stay(x:ObjOk P w H h a o)(k:∀b u,(b=a\/H b=AA (.own a))->h.get? b=AA u->h'.get? b=AA u)
  (ho:∀b,H b=AA (.own a)->H' b=AA (.own a)) (ht:∀b xs,H b=AA (.tup xs)->H' b=AA (.tup xs)) (hf:∀b o x,H b=AA (.frz o (.own x))->H' b=AA (.frz o (.own x))):ObjOk P w H' h' a o:=by
 induction o with
 |lst xs=>obtain⟨z,CI,n,r,e⟩:=x;exact{z,CI,n,r,k _ _ (.inl rfl) e}
 |tup xs=>obtain⟨z,CI,r,ob,e,c⟩:=x;exact{z,CI,r,ob,k _ _ (.inl rfl) e,c}
 |dK kvs=>obtain⟨z,y,vs,r,ob,es,ep,e,c⟩:=x;exact{z,y,vs,r,ob,es,ep,k _ _ (.inl rfl) e,c}
 |dT kvs =>
  obtain⟨z,y,xs,r,ob,es,ep,e,c⟩:=x;exact{z,y,xs,pA0 r λp q z=>{z.1,ht _ _ z.2.1,z.2.2},ob,es,ep,k _ _ (.inl rfl) e,c}
 |set S n=>obtain⟨ob,es,ep,t,e,c⟩:=x;exact{ob,es,ep,t,k _ _ (.inl rfl) e,c}
 |ins C dx fs =>
  obtain⟨d,z,ne,e,mA,⟨od,es,ep,e2,c⟩,r⟩:=x;exact{ho _ d,z,ne,k _ _ (.inl rfl) e,mA,{od,es,ep,k _ _ (.inr d) e2,c},r}
 |own y=>obtain⟨ob,e⟩:=x;exact{ob,k _ _ (.inl rfl) e}
 |xd fs=>obtain⟨mA,⟨od,es,ep,e,c⟩,r⟩:=x;exact{mA,{od,es,ep,k _ _ (.inl rfl) e,c},r}
 |rng lo hi=>obtain⟨t,u,v,e⟩:=x;exact{t,u,v,k _ _ (.inl rfl) e}
 |frz ob u ih=>obtain⟨e,q⟩:=x;exact{k _ _ (.inl rfl) e,ih q}
 |tbl q ps =>
  obtain⟨e,tr,al⟩:=x;refine{k a _ (.inl rfl) e,tr,λpos cv z=>?_};obtain⟨c',o,vs,t,r1,r2,r3⟩:=al pos cv z;exact{c',o,vs,t,r1,hf _ _ _ r2,r3}
 |met f y =>
  have e:h.get? a=AA (PU (.ref f) (.ref y)):=x;show h'.get? a=AA (PU (.ref f) (.ref y));exact k a _ (.inl rfl) e
 |ext φ=>obtain⟨p,⟨o,e⟩,st⟩:=x;exact{st _ _ p λo q=>k _ _ (.inl rfl) q,{o,k _ _ (.inl rfl) e},st}
theorem HOk.lt(x:HOk P w H h)(e:H a=AA o):a<h.objs.size:=(x a o e).lt
theorem HOk.fresh(x:HOk P w H h)(e:h.objs.size<=a):H a=AN:=by
 cases q:H a with
 |none=>rfl
 |some u=>exact absurd (AQ (x.lt q) e) (GE _)
theorem HOk.kept(x:HOk P w H h)(k:∀b u,h.get? b=AA u->h'.get? b=AA u):HOk P w H h':=λa o e =>
 (x a o e).stay (λb u _ q=>k b u q) (λ_ q=>q) (λ_ _ q=>q) λ_ _ _ q=>q
theorem HOk.laid(x:HOk P w H h)(k:∀b u,h.get? b=AA u->h'.get? b=AA u)(hp:h.objs.size<=a)(new:ObjOk P w (D5 H a o) h' a o):HOk P w (D5 H a o) h':=λb u e=>by
 have hn:=x.fresh hp
 by_cases hb:b=a
 .subst hb;rw[HC] at e;cases e;exact new
 .rw[EW hb] at e
  exact(x b u e).stay (λc v _ q=>k c v q) (λc q=>by rw[EW (VL q hn)];exact q) (λc xs q=>by rw[EW (VL q hn)];exact q) λc o x q=>by rw[EW (VL q hn)];exact q
def Rd(H:Hp)(a:AR)(u:HO):Prop:=H a=AA u\/∃o,H a=AA (.frz o u)
theorem Rd.ok{u:HO}(r:Rd H a u)(x:HOk P w H h):ObjOk P w H h a u:=by
 rcases r with r|⟨o,r⟩
 .exact x a u r
 .obtain⟨_,q⟩:=x a _ r
  exact q
def uF:Option HO->Prop
 |some (.lst _)=>True
 |some (.dK _)=>True
 |some (.dT _)=>True
 |some (.set _ _)=>True
 |some (.ins _ _ _)=>True
 |some (.ext _)=>True
 |_=>False
section
variable{x e:AR}{o':HO}
theorem HOk.write(ok:HOk P w H h)(mu:uF (H x))(he:e=x\/H e=AA (.own x))(k:∀b u,b≠e->h.get? b=AA u->h'.get? b=AA u)(rT:∃u,h'.get? e=AA u)
  (new:ObjOk P w (D5 H x o') h' x o'):HOk P w (D5 H x o') h':=λb u q=>by
 have vH:∀c y,H c=AA (.own y)->c≠x:=λc y r z=>by subst z;rw[r] at mu;exact mu
 have Jq:∀c xs,H c=AA (.tup xs)->c≠x:=λc xs r z=>by subst z;rw[r] at mu;exact mu
 have Jr:∀c o y,H c=AA (.frz o (.own y))->c≠x:=λc o y r z=>by subst z;rw[r] at mu;exact mu
 by_cases hb:b=x
 .subst hb;rw[HC] at q;cases q;exact new
 .rw[EW hb] at q
  by_cases oU:b=e
  .have q':H b=AA (.own x):=by
    rcases he with z|z
    .exact absurd (oU.trans z) hb
    .rw[oU];exact z
   rw[q] at q';cases q';obtain⟨v,hv⟩:=rT;exact{v,by rw[oU];exact hv}
  .refine(ok b u q).stay (λc v hc r=>k c v ?_ r) (λc r=>by rw[EW (vH c b r)];exact r) (λc xs r=>by rw[EW (Jq c xs r)];exact r) λc o y r=>by rw[EW (Jr c o y r)];exact r
   rcases hc with rfl|hc
   .exact oU
   .rintro rfl
    rcases he with z|z
    .exact vH c b hc z
    .rw[hc] at z;cases z;exact hb rfl
end
structure Un(fs ex:List AR)(H H':Hp)(h h':D3):Prop where
 keep:∀b o,h.get? b=AA o->H b=AN->b∉fs->b∉ex->h'.get? b=AA o
 slot:∀b o,h.get? b=AA o->H b=AN->b∈fs->b∉ex->∃sl,h'.get? b=AA { o with slots:=sl }
 free:∀b o,h.get? b=AA o->H b=AN->b∉ex->H' b=AN
 there:∀b o,h.get? b=AA o->b∉ex->∃o',h'.get? b=AA o'
 tups:∀b xs,H b=AA (.tup xs)->H' b=AA (.tup xs)
 frzs:∀b o u,H b=AA (.frz o u)->H' b=AA (.frz o u)
 tbls:∀b t ps,H b=AA (.tbl t ps)->∃RH,H' b=AA (.tbl t (ps++RH))
variable{H1 H2:Hp}
section
variable{fs oW ex Zz:List AR}{h2:D3}{x e:AR}
theorem Un.any(u:Un fs ex H H1 h h1){b:AR}{ob:HL}(q:h.get? b=AA ob)(n:H b=AN)(hx:b∉ex):∃sl,h1.get? b=AA { ob with slots:=sl }:=by
 by_cases hb:b∈fs
 .exact u.slot b ob q n hb hx
 .exact{ob.slots,u.keep b ob q n hb hx}
theorem Un.kept(k:∀b u,h.get? b=AA u->h'.get? b=AA u):Un fs ex H H h h' :=
 {λb ob q _ _ _=>k b ob q,λb ob q _ _ _=>{ob.slots,k b ob q},λ_ _ _ n _=>n,λb ob q _=>{ob,k b ob q},λ_ _ q=>q,λ_ _ _ q=>q,λ_ _ ps q=>{#[],by rw[q];simp}}
theorem Un.refl:Un fs ex H H h h:=Un.kept λ_ _ q=>q
theorem Un.laid(k:∀b u,h.get? b=AA u->h'.get? b=AA u)(hp:h.objs.size<=a)(hn:H a=AN):Un fs ex H (D5 H a o) h h' where
 keep:=λb u q _ _ _=>k b u q
 slot:=λb u q _ _ _=>{u.slots,k b u q}
 free:=λb u q n _=>by rw[EW (BZ (AQ (A9 q) hp))];exact n
 there:=λb u q _=>{u,k b u q}
 tups:=λb xs q=>by rw[EW (VL q hn)];exact q
 frzs:=λb u xs q=>by rw[EW (VL q hn)];exact q
 tbls:=λb t ps q=>{#[],by rw[EW (VL q hn),q];simp}
theorem Un.write(mu:uF (H x))(he:e=x\/H e=AA (.own x))(k:∀b u,b≠e->h.get? b=AA u->h'.get? b=AA u)(rT:∃u,h'.get? e=AA u):Un fs ex H (D5 H x o) h h':=by
 have hx:∀b,H b=AN->b≠x:=λb n z=>by subst z;rw[n] at mu;exact mu
 have hb:∀b,H b=AN->b≠e:=λb n z=>by
  subst z;rcases he with r|r
  .exact hx b n r
  .rw[n] at r;cases r
 have hm:∀b u,H b=AA u->¬uF (AA u)->b≠x:=λb u q nm z=>by subst z;rw[q] at mu;exact nm mu
 refine{λb u q n _ _=>k b u (hb b n) q,λb u q n _ _=>{u.slots,k b u (hb b n) q},λb u q n _=>by rw[EW (hx b n)];exact n,λb u q _=>?_,
  λb xs q=>by rw[EW (hm b _ q λz=>z)];exact q,λb u xs q=>by rw[EW (hm b _ q λz=>z)];exact q,λb t ps q=>{#[],by rw[EW (hm b _ q λz=>z),q];simp}}
 by_cases oU:b=e
 .subst oU;exact rT
 .exact{u,k b u oU q}
end
noncomputable def Af(h:D3)(H:Hp):List AR:=(DB h.objs.size).filter λa=>(H a).isSome
def fD(h:D3)(H:Hp):D3:=KE h (Af h H)
theorem zP2(h:D3)(H:Hp):(fD h H).objs.size=h.objs.size:=PySem.W.hideAll_size _ _
theorem zTH{b:AR}{o:HL}(e:h.get? b=AA o)(n:H b=AN):(fD h H).get? b=AA o :=
 OI _ e λhm=>by
  have q:(H b).isSome=AK:=(CF.mp hm).2;rw[n] at q;simp at q
theorem zX4{b:AR}{o:HL}(e:(fD h H).get? b=AA o):h.get? b=AA o/\H b=AN:=by
 have e':h.get? b=AA o:=Y7 (Af h H) e;refine{e',?_}
 cases q:H b with
 |none=>rfl
 |some x =>
  have hm:b∈Af h H:=CF.mpr {IL.mpr (A9 e'),by simp[q]};have z:(fD h H).get? b=AN:=PySem.W.hideAll_none (Af h H) hm;rw[z] at e;cases e
noncomputable def tD(g h:D3)(L:AR):List (AR×HL):=(DB h.objs.size).filterMap λa=>if a=L\/(g.get? a).isSome=AK then AN else(h.get? a).map λo=>(a,o)
theorem zMN{g:D3}{L:AR}{o:HL}(h1:a≠L)(h2:g.get? a=AN)(h3:h.get? a=AA o):(a,o)∈tD g h L :=
 JE.mpr {a,IL.mpr (A9 h3),by simp[h1,h2,h3]}
theorem zHN{g:D3}{L:AR}{p:AR×HL}(hp:p∈tD g h L):p.1≠L/\g.get? p.1=AN/\h.get? p.1=AA p.2:=by
 obtain⟨b,_,e⟩:=JE.mp hp;split at e
 .cases e
 .rename_i hn
  cases q:h.get? b with
  |none=>rw[q] at e;simp at e
  |some u =>
   rw[q] at e;simp only[HI,WY] at e;subst e;refine{λz=>hn (.inl z),?_,q};show g.get? b=AN
   cases r:g.get? b with
   |none=>rfl
   |some v=>exact(hn (.inr (by simp[r]))).elim
def rest(g h:D3)(L d:AR):List (AR×HL):=(tD g h L).filter λp=>decide (p.1≠d)
theorem zTI{g:D3}{L:AR}:News g L h (tD g h L):=λp hp=>let ⟨a,b,c⟩:=zHN hp;{c,a,b}
structure Mod(K:AC)(mg:CN->Option AI)(base:D3):Prop where
 kin:K.In base
 glob:base.Ns BJ mg
 blt:∃mb,base.Ns MU mb/\∀x:CN,x≠"__name__"->mb x=GH x
 nolimit:base.NoLimit
 bmain:∃bm ob,mg "__builtins__"=AA (.ref bm)/\bm≠MU/\base.get? bm=AA ob/\ob.cls=.type "module"/\ob.dict=AA MU/\ob.data=.plain
structure Cx where
 prog:CO
 w:D2
 K:AC
 mg:CN->Option AI
 base:D3
 A:DP
 N:List CN
 s₀:AT
 H₀:Hp
 env:XZ
 outer:List XZ
 stack:List XZ
 ex:List AR
 fn:CN->Bool
 calm:Bool
 pn:List (AR×HL)
 xe:AI->AT->Prop
def SI(l:List XZ):List AR:=l.filterMap (·.frame)
abbrev Cx.fs(X:Cx):List AR:=SI X.outer
def Z8(sc:NJ)(x:CN):Prop:=sc.names.lookup x=AA .local\/sc.names.lookup x=AA .cell\/sc.names.lookup x=AA .free
def Loc(sc:NJ)(x:CN):Prop:=sc.names.lookup x=AA .local\/sc.names.lookup x=AA .cell
def Vv(env:XZ)(h:D3)(m:CN->Option AI)(x:CN)(u:AI):Prop :=
 (env.kindOf x=AA .local/\m x=AA u)\/((env.kindOf x=AA .cell\/env.kindOf x=AA .free)/\∃c,env.cells.lookup x=AA c/\h.IsCell c (AA u))
noncomputable def iM:List CN:=["holders","_law_table","_law_back","_law_kept_right","law"]
def TB(K:AC)(T:AR)(q:CN):Prop:=∃x c,x∈iM/\EN K x=AA (c,T)/\q=x++(".<locals>.<lambda>":CN)
structure Cx.Ok(X:Cx):Prop where
 tab:∀T q,TB X.K T q->∃ps,X.H₀ T=AA (.tbl q ps)
 mod:Mod X.K X.mg X.base
 kind:X.env.scope.kind=.function
 glob:X.env.globals=BJ
 blt:X.env.builtins=MU
 above:X.s₀.heap.objs.size<=X.env.locals
 inj:∀x y c,X.env.cells.lookup x=AA c->X.env.cells.lookup y=AA c->x=y
 has:∀x,(X.env.kindOf x=AA .cell\/X.env.kindOf x=AA .free)->∃c,X.env.cells.lookup x=AA c
 cab:∀x c,X.fn x=AK->X.env.cells.lookup x=AA c->X.s₀.heap.objs.size<=c
 hd:X.calm=AK->X.A.handled=AN
 frames:X.A.frames=AA X.stack
 stk:X.stack=X.outer\/(X.stack=X.env::X.outer/\X.env.frame=AA X.env.locals)
 exf:∀b∈X.ex,b≠X.env.locals/\∀x c,X.env.cells.lookup x=AA c->c≠b
 bs:∀b o,X.base.get? b=AA o->X.s₀.heap.get? b=AA o/\X.H₀ b=AN
 bsz:X.base.objs.size<=X.s₀.heap.objs.size
 noex:∀b o,X.base.get? b=AA o->b∉X.ex
 exfs:∀b∈X.ex,b∉X.fs
 funs:X.s₀.heap.FunFrames X.base X.outer
 frf:∀b∈X.fs,X.H₀ b=AN
structure Inv(X:Cx)(AF:List (AR×HL))(σ:List (Option V))(H:Hp)(s:AT):Prop where
 ok:X.Ok
 os:s.os=X.s₀.os
 bare:NN s.gens
 base:Un X.fs X.ex X.H₀ H X.s₀.heap s.heap
 loc:∃m,s.heap.Ns X.env.locals m/\∀(i:Nat) (x:CN) (v:V),X.N[i]?=AA x->σ[i]?=AA (AA v)->Z8 X.env.scope x->∃u,RelV v u/\Vv X.env s.heap m x u
 cell:∀x c,X.env.cells.lookup x=AA c->∃v,s.heap.IsCell c v
 free:H X.env.locals=AN
 freeC:∀x c,X.env.cells.lookup x=AA c->H c=AN
 pin:∀p∈X.pn++AF,s.heap.get? p.1=AA p.2/\H p.1=AN/\p.1≠X.env.locals/\p.1∉X.fs/\∀v,p.2.data≠.cell v
 hok:HOk X.prog X.w H s.heap
 len:σ.length=X.N.length
variable{X:Cx}{v:V}{σ:List (Option V)}
theorem Cx.Ok.nofr(ok:X.Ok){b:AR}{o:HL}(e:X.base.get? b=AA o):b∉X.fs:=λhb=>by
 have:=(ok.funs.mem hb).1;rw[e] at this;cases this
theorem Inv.bs(I:Inv X AF σ H s):∀b o,X.base.get? b=AA o->s.heap.get? b=AA o/\H b=AN:=λb o e =>
 {I.base.keep b o (I.ok.bs b o e).1 (I.ok.bs b o e).2 (I.ok.nofr e) (I.ok.noex b o e),I.base.free b o (I.ok.bs b o e).1 (I.ok.bs b o e).2 (I.ok.noex b o e)}
theorem Inv.bk(I:Inv X AF σ H s):∀b o,X.base.get? b=AA o->s.heap.get? b=AA o:=λb o e=>(I.bs b o e).1
theorem Inv.tab(I:Inv X AF σ H s):∀T q,TB X.K T q->∃ps,H T=AA (.tbl q ps):=λT q b=>by
 obtain⟨ps,e⟩:=I.ok.tab T q b;obtain⟨m,e'⟩:=I.base.tbls T q ps e;exact{_,e'}
theorem Inv.mod(I:Inv X AF σ H s):Mod X.K X.mg X.base:=I.ok.mod
theorem Inv.kIn(I:Inv X AF σ H s):X.K.In s.heap:=I.ok.mod.kin.keeps I.bk
theorem Inv.nolimit(I:Inv X AF σ H s):s.heap.NoLimit:=I.ok.mod.nolimit.keeps I.bk
theorem Inv.fr(I:Inv X AF σ H s):∃m,Fr X.base X.env.locals s.heap m :=
 let ⟨m,hn,_⟩:=I.loc
 {m,hn,I.bk,AX I.ok.bsz I.ok.above}
theorem Inv.lt(I:Inv X AF σ H s):X.env.locals<s.heap.objs.size:=let ⟨_,hn,_⟩:=I.loc;hn.lt
theorem Inv.sz(I:Inv X AF σ H s):X.s₀.heap.objs.size<=s.heap.objs.size:=AX I.ok.above (CW I.lt)
theorem Inv.nofs(I:Inv X AF σ H s)(h:s.heap.objs.size<=a):a∉X.fs:=λhb=>by
 obtain⟨_,o,ho,_⟩:=I.ok.funs.mem hb;exact absurd (AQ (A9 ho) (AX I.sz h)) (GE _)
theorem Inv.cne(I:Inv X AF σ H s):∀x c,X.env.cells.lookup x=AA c->c≠X.env.locals:=λx c e z=>by
 obtain⟨v,o,ho,hd⟩:=I.cell x c e;obtain⟨m,⟨o',es,ep,gH,wW,_⟩,_⟩:=I.loc;rw[z,gH] at ho;cases ho;rw[wW] at hd;cases hd
theorem Inv.funs(I:Inv X AF σ H s):s.heap.FunFrames X.base X.outer:=by
 have all:∀(l:List XZ),(∀b∈SI l,b∈X.fs)->X.s₀.heap.FunFrames X.base l->s.heap.FunFrames X.base l:=by
  intro l
  induction l with
  |nil=>intro _ _;trivial
  |cons env r ih =>
   intro hs hl;obtain⟨hk,⟨L,o,hf,hn,ho,hd⟩,hr⟩:=hl;have hL:L∈X.fs:=hs L (by unfold SI;rw[IW,hf];exact BB);obtain⟨sl,e⟩:=I.base.slot L o ho (I.ok.frf L hL) hL λz=>I.ok.exfs L z hL;exact{hk,{L,_,hf,hn,e,hd},ih (λb hb=>hs b (by unfold SI;rw[IW,hf];exact A1 _ hb)) hr}
 exact all X.outer (λ_ hb=>hb) I.ok.funs
theorem Inv.stack(I:Inv X AF σ H s):s.heap.FunFrames X.base X.stack:=by
 rcases I.ok.stk with e|⟨e,hf⟩
 .rw[e];exact I.funs
 .rw[e]
  obtain⟨m,hn,_⟩:=I.loc;refine .cons (by rw[I.ok.kind];decide) hf hn ?_ I.funs;exact ZW (AX I.ok.bsz I.ok.above)
theorem Inv.stkSub(I:Inv X AF σ H s):∀b∈SI X.stack,b∈X.env.locals::X.fs:=λb hb=>by
 rcases I.ok.stk with e|⟨e,hf⟩
 .rw[e] at hb;exact A1 _ hb
 .rw[e] at hb
  unfold SI at hb;rw[IW,hf] at hb;exact hb
theorem Inv.stkFree(I:Inv X AF σ H s):∀b∈SI X.stack,H b=AN:=λb hb=>by
 rcases A2.mp (I.stkSub b hb) with e|hb
 .rw[e];exact I.free
 .obtain⟨_,o,ho,_⟩:=I.ok.funs.mem hb
  exact I.base.free b o ho (I.ok.frf b hb) λz=>I.ok.exfs b z hb
theorem Inv.step{g':Array GenState}{d':Drawn}(I:Inv X AF σ H s)
  (gM:∀b∈ch,(b∈X.ex\/X.s₀.heap.objs.size<=b)/\b≠X.env.locals/\(∀x c,X.env.cells.lookup x=AA c->c≠b)/\∀p∈X.pn++AF,p.1≠b)
  (keep:∀b o,b≠X.env.locals->b∉X.fs->b∉ch->s.heap.get? b=AA o->H b=AN->h'.get? b=AA o)
  (slot:∀b o,b≠X.env.locals->b∈X.fs->b∉ch->s.heap.get? b=AA o->H b=AN->∃sl,h'.get? b=AA { o with slots:=sl }) (free:∀b o,b∉ch->s.heap.get? b=AA o->H b=AN->H' b=AN)
  (there:∀b o,b∉ch->s.heap.get? b=AA o->∃o',h'.get? b=AA o')
  (tups:∀b xs,H b=AA (.tup xs)->H' b=AA (.tup xs)) (frzs:∀b o u,H b=AA (.frz o u)->H' b=AA (.frz o u)) (tbls:∀b t ps,H b=AA (.tbl t ps)->∃RH,H' b=AA (.tbl t (ps++RH)))
  (ns:∀m,s.heap.Ns X.env.locals m->h'.Ns X.env.locals m) (hok:HOk X.prog X.w H' h') (hg:NN g') :
  Inv X AF σ H' { s with heap:=h',gens:=g',drawn:=d',toks:=t' }:=by
 have Yn:∀b o,X.s₀.heap.get? b=AA o->b≠X.env.locals:=λb o e=>BZ (AQ (A9 e) I.ok.above)
 have Bb:∀b o,X.s₀.heap.get? b=AA o->b∉X.ex->b∉ch:=λb o e hx hb=>by
  rcases(gM b hb).1 with z|z
  .exact hx z
  .exact absurd (AQ (A9 e) z) (GE _)
 have lW:∀x c,X.env.cells.lookup x=AA c->∀v,s.heap.IsCell c v->h'.IsCell c v:=λx c e v q0=>by
  obtain⟨o,ho,hd⟩:=q0;have vM:c∉ch:=λz=>(gM c z).2.2.1 x c e rfl
  by_cases hc:c∈X.fs
  .obtain⟨sl,q⟩:=slot c o (I.cne x c e) hc vM ho (I.freeC x c e)
   exact{_,q,hd}
  .exact{o,keep c o (I.cne x c e) hc vM ho (I.freeC x c e),hd}
 refine{I.ok,I.os,hg,{λb o e n hb hx=>?_,λb o e n hb hx=>?_,λb o e n hx=>?_,λb o e hx=>?_,λb xs e=>tups b xs (I.base.tups b xs e),λb o xs e=>frzs b o xs (I.base.frzs b o xs e),λb t ps e=>?_},?_,λx c e=>?_,?_,λx c e=>?_,λp hp=>?_,hok,I.len}
 .exact keep b o (Yn b o e) hb (Bb b o e hx) (I.base.keep b o e n hb hx) (I.base.free b o e n hx)
 .obtain⟨sl,e1⟩:=I.base.slot b o e n hb hx
  obtain⟨uT,e2⟩:=slot b _ (Yn b o e) hb (Bb b o e hx) e1 (I.base.free b o e n hx);exact{uT,e2}
 .obtain⟨o',e1⟩:=I.base.there b o e hx
  exact free b o' (Bb b o e hx) e1 (I.base.free b o e n hx)
 .obtain⟨o',e1⟩:=I.base.there b o e hx
  exact there b o' (Bb b o e hx) e1
 .obtain⟨m1,e1⟩:=I.base.tbls b t ps e
  obtain⟨m2,e2⟩:=tbls b t _ e1;exact{m1++m2,by rw[e2,Array.append_assoc]}
 .obtain⟨m,hn,hl⟩:=I.loc
  refine{m,ns m hn,λi x v e1 e2 e3=>?_};obtain⟨u,r,l⟩:=hl i x v e1 e2 e3;refine{u,r,?_};rcases l with l|⟨k,c,e,z⟩
  .exact .inl l
  .exact .inr {k,c,e,lW x c e _ z}
 .obtain⟨v,z⟩:=I.cell x c e
  exact{v,lW x c e v z}
 .obtain⟨m,⟨o,_,_,ho,_⟩,_⟩:=I.loc
  exact free _ o (λz=>(gM _ z).2.1 rfl) ho I.free
 .obtain⟨v,o,ho,hd⟩:=I.cell x c e
  exact free c o (λz=>(gM c z).2.2.1 x c e rfl) ho (I.freeC x c e)
 .obtain⟨e,n,ne,nf,d⟩:=I.pin p hp
  have vM:p.1∉ch:=λz=>(gM p.1 z).2.2.2 p hp rfl;exact{keep p.1 p.2 ne nf vM e n,free p.1 p.2 vM e n,ne,nf,d}
theorem Inv.un(I:Inv X AF σ H s)(u:Un X.fs [] H H' s.heap h')(hok:HOk X.prog X.w H' h'):Inv X AF σ H' { s with heap:=h',toks:=t' }:=by
 obtain⟨m,⟨o,es,ep,ho,r⟩,_⟩:=id I.loc;obtain⟨sl,hL⟩:=u.any ho I.free 's'
 exact I.step (g':=s.gens) (d':=s.drawn) (ch:=[]) (λ_ z=>nomatch z) (λb o _ hb _ e n=>u.keep b o e n hb 's') (λb o _ hb _ e n=>u.slot b o e n hb 's') (λb o _ e n=>u.free b o e n 's') (λb o _ e=>u.there b o e 's') u.tups u.frzs u.tbls (λm' hm=>by
  obtain⟨o',lQ,lR,gH,r'⟩:=hm;rw[ho] at gH;cases gH
  exact{_,lQ,lR,hL,r'}) hok I.bare
theorem Inv.call{g':Array GenState}{d':Drawn}(I:Inv X AF σ H s)(u:Un (SI X.stack) ch H H' s.heap h')(hok:HOk X.prog X.w H' h')(hg:NN g')
  (gM:∀b∈ch,(b∈X.ex\/X.s₀.heap.objs.size<=b)/\b≠X.env.locals/\(∀x c,X.env.cells.lookup x=AA c->c≠b)/\∀p∈X.pn++AF,p.1≠b) :
  Inv X AF σ H' { s with heap:=h',gens:=g',drawn:=d',toks:=t' }:=by
 obtain⟨m,⟨o,es,ep,ho,r⟩,_⟩:=id I.loc;obtain⟨sl,hL⟩:=u.any ho I.free λz=>(gM _ z).2.1 rfl
 exact I.step (ch:=ch) gM (λb o hL hb hc e n=>u.keep b o e n (λz=>(A2.mp (I.stkSub b z)).elim hL hb) hc) (λb o _ _ hc e n=>u.any e n hc) (λb o hc e n=>u.free b o e n hc) (λb o hc e=>u.there b o e hc) u.tups u.frzs u.tbls (λm' hm=>by
  obtain⟨o',lQ,lR,gH,r'⟩:=hm;rw[ho] at gH;cases gH
  exact{_,lQ,lR,hL,r'}) hok hg
theorem Inv.turned(I:Inv X AF σ H s)(k:∀b o,b≠it->s.heap.get? b=AA o->h'.get? b=AA o)(hn:H it=AN)(hL:it≠X.env.locals)
  (h1:it∈X.ex\/X.s₀.heap.objs.size<=it) (h2:∀x c,X.env.cells.lookup x=AA c->c≠it) (h3:∀p∈X.pn++AF,p.1≠it):Inv X AF σ H { s with heap:=h',toks:=t' }:=by
 have vL:∀b u,H b=AA u->b≠it:=λb u e z=>by rw[z,hn] at e;cases e
 refine I.step (g':=s.gens) (d':=s.drawn) (ch:=[it]) (λb hb=>?_) (λb o _ _ hc e _=>k b o (λz=>hc (by simp[z])) e) (λb o _ _ hc e _=>{o.slots,k b o (λz=>hc (by simp[z])) e}) (λ_ _ _ _ n=>n)
  (λb o hc e=>{o,k b o (λz=>hc (by simp[z])) e}) (λ_ _ e=>e) (λ_ _ _ e=>e) (λb t ps e=>{#[],by rw[e];simp}) (λm hm=>?_) (λb u e=>?_) I.bare
 .have e:b=it:=by simpa using hb
  subst e;exact{h1,hL,h2,h3}
 .obtain⟨o,es,ep,ho,r⟩:=hm
  exact{o,es,ep,k _ o (E7 hL) ho,r}
 .refine(I.hok b u e).stay (λc v hc q=>k c v ?_ q) (λ_ q=>q) (λ_ _ q=>q) λ_ _ _ q=>q
  rcases hc with z|z
  .rw[z];exact vL b u e
  .exact vL c _ z
theorem Inv.tok(I:Inv X AF σ H s)(t:Nat):Inv X AF σ H { s with toks:=t }:=I.un (h':=s.heap) (t':=t) Un.refl I.hok
theorem Inv.kept{t':Nat}(I:Inv X AF σ H s)(k:∀b u,s.heap.get? b=AA u->h'.get? b=AA u):Inv X AF σ H { s with heap:=h',toks:=t' }:=I.un (Un.kept k) (I.hok.kept k)
theorem Inv.laid{a:AR}{o:HO}{t':Nat}(I:Inv X AF σ H s)(k:∀b u,s.heap.get? b=AA u->h'.get? b=AA u)(hp:s.heap.objs.size<=a)(new:ObjOk X.prog X.w (D5 H a o) h' a o) :
  Inv X AF σ (D5 H a o) { s with heap:=h',toks:=t' }:=I.un (Un.laid k hp (I.hok.fresh hp)) (I.hok.laid k hp new)
theorem Inv.write{x e:AR}{o:HO}{t':Nat}(I:Inv X AF σ H s)(mu:uF (H x))(he:e=x\/H e=AA (.own x))(k:∀b u,b≠e->s.heap.get? b=AA u->h'.get? b=AA u)(rT:∃u,h'.get? e=AA u)
  (new:ObjOk X.prog X.w (D5 H x o) h' x o):Inv X AF σ (D5 H x o) { s with heap:=h',toks:=t' }:=I.un (Un.write mu he k rT) (I.hok.write mu he k rT new)
theorem Inv.weak{σ':List (Option V)}(I:Inv X AF σ H s)(hl:σ'.length=σ.length)(w:∀(i:Nat) v,σ'[i]?=AA (AA v)->σ[i]?=AA (AA v)):Inv X AF σ' H s :=
 {I.ok,I.os,I.bare,I.base,let ⟨m,hn,lG⟩:=I.loc;{m,hn,λi x v e1 e2 e3=>lG i x v e1 (w i v e2) e3},I.cell,I.free,I.freeC,I.pin,I.hok,hl.trans I.len}
theorem Inv.pins_of{pins':List (AR×HL)}(I:Inv X AF σ H s)(h:∀p∈pins',s.heap.get? p.1=AA p.2/\H p.1=AN/\p.1≠X.env.locals/\p.1∉X.fs/\∀v,p.2.data≠.cell v):Inv X pins' σ H s :=
 {I.ok,I.os,I.bare,I.base,I.loc,I.cell,I.free,I.freeC,λp hp=>(CG.mp hp).elim (λz=>I.pin p (DF _ z)) (h p),I.hok,I.len}
theorem zH(hN:N.Nodup)(a:N[i]?=AA x)(b:N[j]?=AA x):i=j:=by
 obtain⟨h1,e1⟩:=AE.mp a;obtain⟨h2,e2⟩:=AE.mp b;exact(List.getElem_inj hN).mp (e1.trans e2.symm)
theorem Ff{Q:Unit->AT->Prop}(I:Inv X AF σ H s)(hN:X.N.Nodup)(hi:X.N[i]?=AA x)(hx:Loc X.env.scope x)(r:RelV v u)
  (h:∀s',Inv X AF (σ.set i (AA v)) H s'->(∃a,DM a s.heap s'.heap/\(a=X.env.locals\/X.env.cells.lookup x=AA a))->Q () s') (hf:X.fn x=AK\/X.env.scope.names.lookup x=AA .local:=by first|exact .inl rfl|exact .inr rfl|assumption):A0 M A (storeName X.env x u) Q E s:=by
 obtain⟨m,hn,hl⟩:=id I.loc;have Lw:(X.env.scope.kind==.class||(X.env.scope.kind==.module&&X.env.locals != X.env.globals))=AD:=by rw[I.ok.kind];rfl
 have hiσ:i < σ.length:=by rw[I.len];exact(AE.mp hi).1
 have Mo:=I.cne
 have V1:∀{a:AR} {h':D3},(∃o,s.heap.get? a=AA o/\H a=AN)->DM a s.heap h'->HOk X.prog X.w H h':=λ{a h'} ha hs b ob e=>by
  obtain⟨_,_,lL⟩:=ha;refine(I.hok b ob e).stay (λc w' hc q=>(hs.2 c ?_).trans q) (λ_ q=>q) (λ_ _ q=>q) λ_ _ _ q=>q;rintro rfl;rcases hc with rfl|hc
  .rw[lL] at e;cases e
  .rw[lL] at hc;cases hc
 rcases hx with hk|hk
 .refine wpAny_storeName_local hk hn (λh' wG hs=>?_) Lw
  obtain⟨oL,_,_,lF,_⟩:=id hn;refine h _ {I.ok,I.os,I.bare,{λb o e n hb hx=>?_,λb o e n hb hx=>?_,I.base.free,λb o e hx=>?_,I.base.tups,I.base.frzs,I.base.tbls},{_,wG,λj y v' e1 e2 e3=>?_},λy c e=>?_,I.free,I.freeC,λp hp=>?_,V1 {oL,lF,I.free} hs,by simpa using I.len} {_,hs,.inl rfl}
  .exact(hs.2 b (BZ (AQ (A9 e) I.ok.above))).trans (I.base.keep b o e n hb hx)
  .obtain⟨sl,e1⟩:=I.base.slot b o e n hb hx
   exact{sl,(hs.2 b (BZ (AQ (A9 e) I.ok.above))).trans e1}
  .obtain⟨o',e1⟩:=I.base.there b o e hx
   exact{o',(hs.2 b (BZ (AQ (A9 e) I.ok.above))).trans e1}
  .by_cases hj:j=i
   .subst hj
    rw[hi] at e1;cases e1;rw[BF hiσ] at e2;cases e2;exact{u,r,.inl {hk,by simp}}
   .rw[A5 (E7 hj)] at e2
    obtain⟨u',r',q⟩:=hl j y v' e1 e2 e3;refine{u',r',?_};rcases q with⟨k,e⟩|⟨k,c,e,z⟩
    .refine .inl {k,?_}
     have:y≠x:=λe=>hj (zH hN e1 (e▸hi));simp[this,e]
    .exact .inr {k,c,e,z.sameBut hs (Mo y c e)}
  .obtain⟨w',z⟩:=I.cell y c e
   exact{w',z.sameBut hs (Mo y c e)}
  .obtain⟨e,n,ne,nf,d⟩:=I.pin p hp
   exact{(hs.2 p.1 ne).trans e,n,ne,nf,d}
 .have Bm:X.fn x=AK:=by
   rcases hf with z|z
   .exact z
   .rw[z] at hk;cases hk
  obtain⟨c,hc⟩:=I.ok.has x (.inl hk);obtain⟨w',z⟩:=I.cell x c hc;refine wpAny_storeName_cell I.ok.kind hk hc z (λh' bQ hs=>?_);obtain⟨oc,jD,Kq⟩:=id z;refine h { s with heap:=h' } {I.ok,I.os,I.bare,{λb o e n hb hx=>?_,λb o e n hb hx=>?_,I.base.free,λb o e hx=>?_,I.base.tups,I.base.frzs,I.base.tbls},{m,hn.sameBut hs (E7 (Mo x c hc)),λj y v' e1 e2 e3=>?_},λy c' e=>?_,I.free,I.freeC,λp hp=>?_,V1 {oc,jD,I.freeC x c hc} hs,by simpa using I.len} {c,hs,.inr hc}
  .exact(hs.2 b (BZ (AQ (A9 e) (I.ok.cab x c Bm hc)))).trans (I.base.keep b o e n hb hx)
  .obtain⟨sl,e1⟩:=I.base.slot b o e n hb hx
   exact{sl,(hs.2 b (BZ (AQ (A9 e) (I.ok.cab x c Bm hc)))).trans e1}
  .obtain⟨o',e1⟩:=I.base.there b o e hx
   exact{o',(hs.2 b (BZ (AQ (A9 e) (I.ok.cab x c Bm hc)))).trans e1}
  .by_cases hj:j=i
   .subst hj
    rw[hi] at e1;cases e1;rw[BF hiσ] at e2;cases e2;exact{u,r,.inr {.inl hk,c,hc,bQ}}
   .rw[A5 (E7 hj)] at e2
    obtain⟨u',r',q⟩:=hl j y v' e1 e2 e3;refine{u',r',?_};rcases q with q|⟨k,c',e,z'⟩
    .exact .inl q
    .refine .inr {k,c',e,z'.sameBut hs ?_}
     rintro rfl;exact hj (zH hN e1 (I.ok.inj _ _ _ e hc▸hi))
  .by_cases Bn:c'=c
   .subst Bn;exact{_,bQ}
   .obtain⟨w2,z2⟩:=I.cell y c' e
    exact{w2,z2.sameBut hs Bn}
  .obtain⟨e,n,ne,nf,d⟩:=I.pin p hp
   refine{(hs.2 p.1 ?_).trans e,n,ne,nf,d};intro q;rw[q,jD] at e;have q':oc=p.2:=BL e;exact d w' (by rw[<-q'];exact Kq)
theorem zG{Q:Unit->AT->Prop}(I:Inv X AF σ H s)(hN:X.N.Nodup)(hi:X.N[i]?=AA x)(hx:Loc X.env.scope x)(r:RelV v u)
  (h:∀s',Inv X AF (σ.set i (AA v)) H s'->Q () s') (hf:X.fn x=AK\/X.env.scope.names.lookup x=AA .local:=by first|exact .inl rfl|exact .inr rfl|assumption):A0 M A (storeName X.env x u) Q E s :=
 Ff I hN hi hx r (λs' I' _=>h s' I') hf
theorem Inv.call'(I:Inv X AF σ H s)(ho:s'.os=s.os)(u:Un (SI X.stack) ch H H' s.heap s'.heap)(hok:HOk X.prog X.w H' s'.heap)(hg:NN s'.gens)
  (gM:∀b∈ch,(b∈X.ex\/X.s₀.heap.objs.size<=b)/\b≠X.env.locals/\(∀x c,X.env.cells.lookup x=AA c->c≠b)/\∀p∈X.pn++AF,p.1≠b):Inv X AF σ H' s':=by
 obtain⟨h',g',d',t',o'⟩:=s';have e:o'=s.os:=ho;subst e;exact I.call (g':=g') (t':=t') (d':=d') u hok hg gM
abbrev XK:=AI->Option AR->Hp->Prop
abbrev St:=List (Option V)
abbrev VK:=V->Hp->Prop
abbrev TE:=St->Hp->VK->Prop
abbrev TT:=St->Hp->(Bool->Hp->Prop)->Prop
abbrev TA:=St->Hp->(List V->Hp->Prop)->Prop
structure Ends where
 nx:St->Hp->Prop
 rt:VK
 bk:St->Hp->Prop:=λ_ _=>False
 ct:St->Hp->Prop:=λ_ _=>False
abbrev TS:=Ends->St->Hp->Prop
def EP(X:Cx)(AF:List (AR×HL))(σ:St)(Q:VK)(u:AI)(s':AT):Prop:=∃v H',Inv X AF σ H' s'/\RelV v u/\Q v H'
def TP(X:Cx)(AF:List (AR×HL))(σ:St)(Q:Bool->Hp->Prop)(b:Bool)(s':AT):Prop:=∃H',Inv X AF σ H' s'/\Q b H'
def AP(X:Cx)(AF:List (AR×HL))(σ:St)(Q:List V->Hp->Prop)(us:List AI)(s':AT):Prop:=∃vs H',Inv X AF σ H' s'/\Vals vs us/\Q vs H'
def SP(X:Cx)(AF:List (AR×HL))(D:Ends)(f:Flow)(s':AT):Prop :=
 match f with
 |.next=>∃σ' H',Inv X AF σ' H' s'/\D.nx σ' H'
 |.brk=>∃σ' H',Inv X AF σ' H' s'/\D.bk σ' H'
 |.cont=>∃σ' H',Inv X AF σ' H' s'/\D.ct σ' H'
 |.ret u=>∃v σ' H',Inv X AF σ' H' s'/\RelV v u/\D.rt v H'
def PE(X:Cx)(e:CU)(t:TE):Prop :=
 ∀(AF:List (AR×HL)) (s:AT) (σ:St) (H:Hp) (Q:VK),Inv X AF σ H s->t σ H Q->A0 (A6 X.prog X.w) X.A (eval e X.env) (EP X AF σ Q) X.xe s
def PT(X:Cx)(e:CU)(t:TT):Prop :=
 ∀(AF:List (AR×HL)) (s:AT) (σ:St) (H:Hp) (Q:Bool->Hp->Prop),Inv X AF σ H s->t σ H Q->A0 (A6 X.prog X.w) X.A (WG e X.env (eval e X.env)) (TP X AF σ Q) X.xe s
def PW(X:Cx)(e:CU)(t:TT):Prop :=
 ∀(SJ:TC AI) (AF:List (AR×HL)) (s:AT) (σ:St) (H:Hp) (Q:Bool->Hp->Prop),Inv X AF σ H s->t σ H Q->A0 (A6 X.prog X.w) X.A (WG e X.env SJ) (TP X AF σ Q) X.xe s
theorem PW.pt{t:TT}(h:PW X e t):PT X e t:=h _
def PA(X:Cx)(es:List CU)(t:TA):Prop :=
 ∀(pos:YA) (AF:List (AR×HL)) (s:AT) (σ:St) (H:Hp) (Q:List V->Hp->Prop),Inv X AF σ H s->t σ H Q->A0 (A6 X.prog X.w) X.A (spliced (DD pos (AM es X.env))) (AP X AF σ Q) X.xe s
def PS(X:Cx)(st:FC)(t:TS):Prop :=
 ∀(AF:List (AR×HL)) (s:AT) (σ:St) (H:Hp) (D:Ends),Inv X AF σ H s->t D σ H->A0 (A6 X.prog X.w) X.A (exec st X.env) (SP X AF D) X.xe s
def PSs(X:Cx)(st:List FC)(t:TS):Prop :=
 ∀(AF:List (AR×HL)) (s:AT) (σ:St) (H:Hp) (D:Ends),Inv X AF σ H s->t D σ H->A0 (A6 X.prog X.w) X.A (execs st X.env) (SP X AF D) X.xe s
theorem GY{t:TC α}{Q Q':α->AT->Prop}(h:A0 M A t Q E s)(hQ:∀a s,Q a s->Q' a s):A0 M A t Q' E s:=DA h hQ λ_ _ x=>x
variable{σ:St}{ta:TE}{tb:TE}
section
def aU(i:Nat):TE:=λσ H Q=>∃v,σ[i]?=AA (AA v)/\Q v H
def tC(v:V):TE:=λ_ H Q=>Q v H
theorem iI(hN:X.N[i]?=AA x)(hv:Z8 X.env.scope x)(hd:(x==("__debug__":CN))=AD:=by decide)(L9:(x==("__classdict__":CN))=AD:=by decide):PE X (.Name x pos) (aU i):=by
 intro AF s σ H Q I h;obtain⟨v,e,h⟩:=h;obtain⟨m,hn,hl⟩:=I.loc;obtain⟨u,r,l⟩:=hl i x v hN e hv;have fin:EP X AF σ Q u s:={v,H,I,r,h};rcases l with⟨hk,hm⟩|⟨hk,c,hc,lM⟩
 .exact wpAny_Name (wpAny_loadName_local I.ok.kind hk hn hm fin) hd
 .rcases hk with hk|hk
  .exact wpAny_Name (wpAny_loadName_cell I.ok.kind hk hc lM fin) hd
  .exact wpAny_Name (wpAny_loadName_free I.ok.kind hk hc lM fin L9) hd
theorem nI{i j pos}:PE X (.Constant (.int i) j pos) (tC (.int i)):=λ_ _ _ H _ I h=>wpAny_Constant_int {.int i,H,I.tok _,{_,rfl},h}
theorem t8{b j pos}:PE X (.Constant (.bool b) j pos) (tC (.bl b)):=λ_ _ _ H _ I h=>Constant_bool {.bl b,H,I,rfl,h}
theorem nH{j pos}:PE X (.Constant .none j pos) (tC .non):=λ_ _ _ H _ I h=>Constant_none {.non,H,I,rfl,h}
def Gl(X:Cx)(x:CN):Prop:=X.env.kindOf x=AA .globalImplicit
theorem pW(I:Inv X AF σ H s)(hg:Gl X x)(hm:X.mg x=AA u)(h:Q u s)
  (hd:(x==("__debug__":CN))=AD:=by decide):A0 (A6 X.prog X.w) X.A (eval (.Name x pos) X.env) Q E s :=
 UN I.ok.kind hg (Calls.loadGlobal_global (by rw[I.ok.glob];exact I.mod.glob.keeps I.bk) hm h) hd
theorem iH(I:Inv X AF σ H s)(hg:Gl X x)(hm:X.mg x=AN)(hv:GH x=AA u)(h:Q u s)
  (hn:x≠"__name__":=by decide) (hd:(x==("__debug__":CN))=AD:=by decide):A0 (A6 X.prog X.w) X.A (eval (.Name x pos) X.env) Q E s:=by
 obtain⟨mb,h1,h2⟩:=I.mod.blt;exact UN I.ok.kind hg (Calls.loadGlobal_builtin (by rw[I.ok.glob];exact I.mod.glob.keeps I.bk) hm (by rw[I.ok.blt];exact h1.keeps I.bk) ((h2 x hn).trans hv) h) hd
theorem fN(hg:Gl X x)(hm:X.mg x=AA u)(r:RelV v u)(hd:(x==("__debug__":CN))=AD:=by decide):PE X (.Name x pos) (tC v) :=
 λ_ _ _ H _ I h=>pW I hg hm {v,H,I,r,h} hd
theorem Qi(hg:Gl X x)(hm:X.mg x=AN)(hv:GH x=AA u)(r:RelV v u)(hn:x≠"__name__":=by decide)(hd:(x==("__debug__":CN))=AD:=by decide):PE X (.Name x pos) (tC v) :=
 λ_ _ _ H _ I h=>iH I hg hm hv {v,H,I,r,h} hn hd
variable{a b:CU}{tA Aw:TT}{rest:List CU}
def yH0(t u:TT):TT:=λσ H Q=>t σ H λc H1=>if c=AK then u σ H1 Q else Q AD H1
def tOr(t u:TT):TT:=λσ H Q=>t σ H λc H1=>if c=AK then Q AK H1 else u σ H1 Q
def yH1(t:TT):TT:=λσ H Q=>t σ H λc H1=>Q (!c) H1
theorem zX5(ha:PT X a tA):PW X (.BoolOp .And [a] pos) tA:=by
 intro wh AF s σ H Q I h;refine isTrue_and (GY (ha AF s σ H Q I h) λc s1 e=>?_)
 cases c with
 |true=>exact isTrue_and_nil e
 |false=>exact e
theorem yBT(ha:PT X a tA):PW X (.BoolOp .Or [a] pos) tA:=by
 intro wh AF s σ H Q I h;refine isTrue_or (GY (ha AF s σ H Q I h) λc s1 e=>?_)
 cases c with
 |false=>exact isTrue_or_nil e
 |true=>exact e
theorem yBU(ha:PT X a tA)(hb:PW X (.BoolOp .And (b::rest) pos) Aw):PW X (.BoolOp .And (a::b::rest) pos) (yH0 tA Aw):=by
 intro wh AF s σ H Q I h;refine isTrue_and (GY (ha AF s σ H _ I h) λc s1 ⟨H1,I1,q1⟩=>?_)
 cases c with
 |true=>exact hb wh AF s1 σ H1 Q I1 q1
 |false=>exact{H1,I1,q1}
theorem yE7(ha:PT X a tA)(hb:PW X (.BoolOp .Or (b::rest) pos) Aw):PW X (.BoolOp .Or (a::b::rest) pos) (tOr tA Aw):=by
 intro wh AF s σ H Q I h;refine isTrue_or (GY (ha AF s σ H _ I h) λc s1 ⟨H1,I1,q1⟩=>?_)
 cases c with
 |true=>exact{H1,I1,q1}
 |false=>exact hb wh AF s1 σ H1 Q I1 q1
theorem yBV(ha:PT X a tA):PT X (.UnaryOp .Not a pos) (yH1 tA):=by
 intro AF s σ H Q I h;exact isTrue_not (ha AF s σ H (λc H1=>Q (!c) H1) I h)
def yE8(ta tb:TE):TE:=λσ H Q=>ta σ H λx H1=>∃c,x=.bl c/\if c=AK then tb σ H1 Q else Q (.bl AD) H1
def yH2(ta tb:TE):TE:=λσ H Q=>ta σ H λx H1=>∃c,x=.bl c/\if c=AK then Q (.bl AK) H1 else tb σ H1 Q
def yE9(ta:TE):TE:=λσ H Q=>ta σ H λx H1=>∃c,x=.bl c/\Q (.bl (!c)) H1
theorem yBW{op}{t:TE}(h:PE X a t):PE X (.BoolOp op [a] pos) t:=λAF s σ H Q I hw=>BoolOp_one (h AF s σ H Q I hw)
theorem yBX(ha:PE X a ta)(hb:PE X (.BoolOp .And (b::rest) pos) tb):PE X (.BoolOp .And (a::b::rest) pos) (yE8 ta tb):=by
 intro AF s σ H Q I h;refine BoolOp_and (GY (ha AF s σ H _ I h) λv s1 ⟨x,H1,I1,r1,q1⟩=>?_);obtain⟨c,rfl,q1⟩:=q1;cases r1;refine IP ?_
 cases c with
 |true=>exact hb AF s1 σ H1 Q I1 q1
 |false=>exact{.bl AD,H1,I1,rfl,q1}
theorem yFA(ha:PE X a ta)(hb:PE X (.BoolOp .Or (b::rest) pos) tb):PE X (.BoolOp .Or (a::b::rest) pos) (yH2 ta tb):=by
 intro AF s σ H Q I h;refine BoolOp_or (GY (ha AF s σ H _ I h) λv s1 ⟨x,H1,I1,r1,q1⟩=>?_);obtain⟨c,rfl,q1⟩:=q1;cases r1;refine IP ?_
 cases c with
 |false=>exact hb AF s1 σ H1 Q I1 q1
 |true=>exact{.bl AK,H1,I1,rfl,q1}
theorem yBY(ha:PE X a ta):PE X (.UnaryOp .Not a pos) (yE9 ta):=by
 intro AF s σ H Q I h;refine UnaryOp_ (GY (ha AF s σ H _ I h) λv s1 ⟨x,H1,I1,r1,q1⟩=>?_);obtain⟨c,rfl,q1⟩:=q1;cases r1;exact not_of (IP {.bl (!c),H1,I1,rfl,q1})
def tIf(t:TT)(ta tb:TE):TE:=λσ H Q=>t σ H λc H1=>if c=AK then ta σ H1 Q else tb σ H1 Q
theorem Ri(hc:PT X c tA)(ha:PE X a ta)(hb:PE X b tb):PE X (.IfExp c a b pos) (tIf tA ta tb):=by
 intro AF s σ H Q I h;refine wpAny_IfExp (GY (hc AF s σ H _ I h) λd s1 ⟨H1,I1,q1⟩=>?_)
 cases d with
 |true=>exact ha AF s1 σ H1 Q I1 q1
 |false=>exact hb AF s1 σ H1 Q I1 q1
end
def SqL(K:AC)(H:Hp)(a:AR)(xs:List V):Prop :=
 Rd H a (.lst xs) \/
  ∃(o:HL) (CI:Array AI) (n:Nat),K.lookup a=AA o/\o.cls=.type "list"/\o.dict=AN/\o.data=.seq CI n/\CI.size<=sizeLine/\Vals xs CI.toList
def SqT(K:AC)(H:Hp)(a:AR)(xs:List V):Prop :=
 Rd H a (.tup xs) \/
  ∃(o:HL) (CI:Array AI) (n:Nat),K.lookup a=AA o/\o.cls=.type "tuple"/\o.data=.seq CI n/\CI.size<=sizeLine/\Vals xs CI.toList
noncomputable def yH3:AI->Option V
 |.none=>AA .non
 |.bool b=>AA (.bl b)
 |.int i _=>AA (.int i)
 |.str x _=>AA (.str x)
 |.bytes b _=>AA (.byt b)
 |.float b _=>AA (.flt b)
 |.ref a=>AA (.ref a)
 |.type n=>AA (.ty n)
 |_=>AN
theorem RelV.abs{x:V}(r:RelV x u):yH3 u=AA x:=by
 cases x with
 |non=>cases r;rfl
 |bl _=>cases r;rfl
 |int _=>obtain⟨t,rfl⟩:=r;rfl
 |str _=>obtain⟨t,rfl⟩:=r;rfl
 |byt _=>obtain⟨t,rfl⟩:=r;rfl
 |flt _=>obtain⟨t,rfl⟩:=r;rfl
 |ref _=>cases r;rfl
 |ty _=>cases r;rfl
theorem RelV.inj{x y:V}{u:AI}(r:RelV x u)(q:RelV y u):x=y:=BL (r.abs.symm.trans q.abs)
theorem Vals.inj:∀{xs ys:List V} {us:List AI},Vals xs us->Vals ys us->xs=ys
 |_,_,_,.nil,.nil=>rfl
 |_,_,_,.cons r t,.cons r' t'=>by rw[r.inj r',Vals.inj t t']
variable{xs ys:List V}
theorem SqL.of{K:AC}(h:H a=AA (.lst xs)):SqL K H a xs:=.inl (.inl h)
theorem SqT.of{K:AC}(h:H a=AA (.tup xs)):SqT K H a xs:=.inl (.inl h)
theorem Inv.list(I:Inv X AF σ H s)(h:SqL X.K H a xs):∃CI:List AI,Vals xs CI/\PlainL s.heap a CI.toArray/\xs.length<=sizeLine:=by
 rcases h with h|⟨o,CI,n,hk,hc,hd,hs,hz,r⟩
 .obtain⟨z,CI,n,r,e⟩:=h.ok I.hok
  exact{CI,r,{_,n,e,rfl,rfl,rfl},z}
 .refine{CI.toList,r,{o,n,I.kIn a o hk,hc,hd,by simpa using hs},?_}
  have e:=r.length;simp only[KZ] at e;exact AX (CY e) hz
theorem Inv.tuple(I:Inv X AF σ H s)(h:SqT X.K H a xs):∃CI:List AI,Vals xs CI/\UM s.heap a CI.toArray/\xs.length<=sizeLine:=by
 rcases h with h|⟨o,CI,n,hk,hc,hs,hz,r⟩
 .obtain⟨z,CI,r,p⟩:=h.ok I.hok
  exact{CI,r,p.isTup,z}
 .refine{CI.toList,r,{o,I.kIn a o hk,hc,n,by simpa using hs},?_}
  have e:=r.length;simp only[KZ] at e;exact AX (CY e) hz
theorem Inv.list_inj(I:Inv X AF σ H s)(h:SqL X.K H a xs)(h':SqL X.K H a ys):xs=ys:=by
 obtain⟨CI,r,⟨o,n,e,_,_,d⟩,_⟩:=I.list h;obtain⟨OD,r',⟨o',n',e',_,_,d'⟩,_⟩:=I.list h';rw[e] at e';cases e';rw[d] at d';injection d' with d1 _;have:CI=OD:=by simpa using congrArg Array.toList d1
 subst this;exact r.inj r'
theorem Inv.tuple_inj(I:Inv X AF σ H s)(h:SqT X.K H a xs)(h':SqT X.K H a ys):xs=ys:=by
 obtain⟨CI,r,⟨o,e,_,n,d⟩,_⟩:=I.tuple h;obtain⟨OD,r',⟨o',e',_,n',d'⟩,_⟩:=I.tuple h';rw[e] at e';cases e';rw[d] at d';injection d' with d1 _;have:CI=OD:=by simpa using congrArg Array.toList d1
 subst this;exact r.inj r'
abbrev Cx.wish(X:Cx)(E:AI->AT->Prop):Cx:={ X with xe:=E }
abbrev Cx.nox(X:Cx):Cx:=X.wish λ_ _=>False
theorem Cx.Ok.wish{X:Cx}(ok:X.Ok)(E:AI->AT->Prop):(X.wish E).Ok :=
 {ok.tab,ok.mod,ok.kind,ok.glob,ok.blt,ok.above,ok.inj,ok.has,ok.cab,ok.hd,ok.frames,ok.stk,ok.exf,ok.bs,ok.bsz,ok.noex,ok.exfs,ok.funs,ok.frf}
theorem Cx.Ok.unwish(ok:(X.wish E).Ok):X.Ok :=
 {ok.tab,ok.mod,ok.kind,ok.glob,ok.blt,ok.above,ok.inj,ok.has,ok.cab,ok.hd,ok.frames,ok.stk,ok.exf,ok.bs,ok.bsz,ok.noex,ok.exfs,ok.funs,ok.frf}
theorem Inv.wish(I:Inv X AF σ H s)(E:AI->AT->Prop):Inv (X.wish E) AF σ H s:={I.ok.wish E,I.os,I.bare,I.base,I.loc,I.cell,I.free,I.freeC,I.pin,I.hok,I.len}
theorem Inv.unwish(I:Inv (X.wish E) AF σ H s):Inv X AF σ H s:={I.ok.unwish,I.os,I.bare,I.base,I.loc,I.cell,I.free,I.freeC,I.pin,I.hok,I.len}
theorem SP.unwish{D:Ends}{f:Flow}{s':AT}(h:SP (X.wish E) AF D f s'):SP X AF D f s':=by
 cases f with
 |next=>obtain⟨σ',H',I,q⟩:=h;exact{σ',H',I.unwish,q}
 |brk=>obtain⟨σ',H',I,q⟩:=h;exact{σ',H',I.unwish,q}
 |cont=>obtain⟨σ',H',I,q⟩:=h;exact{σ',H',I.unwish,q}
 |ret u=>obtain⟨v,σ',H',I,r,q⟩:=h;exact{v,σ',H',I.unwish,r,q}
theorem PSs.nox{st:List FC}{t:TS}(h:PSs X.nox st t):PSs X st t:=λAF s σ H D I hw =>
 DA (h AF s σ H D (I.wish _) hw) (λ_ _ q=>q.unwish) λ_ _ z=>HG z
variable{te:TE}
section
variable{st:FC}{rest:List FC}{t u:TS}
def Wt:TS:=λD σ H=>D.nx σ H
def mE(t u:TS):TS:=λD σ H=>t { D with nx:=u D } σ H
theorem VM:PSs X [] Wt:=λ_ _ σ H _ I h=>IG {σ,H,I,h}
theorem bF(h1:PS X st t)(h2:PSs X rest u):PSs X (st::rest) (mE t u):=by
 intro AF s σ H D I h;refine K6 (GY (h1 AF s σ H { D with nx:=u D } I h) λf s1 q=>?_)
 cases f with
 |next =>
  obtain⟨σ',H',I',q⟩:=q;exact h2 AF s1 σ' H' D I' q
 |ret v=>exact q
 |brk=>exact q
 |cont=>exact q
theorem kQ(h1:PS X st t):PSs X [st] t:=by
 intro AF s σ H D I h;refine K6 (GY (h1 AF s σ H D I h) λf s1 q=>?_)
 cases f with
 |next=>exact IG q
 |ret v=>exact q
 |brk=>exact q
 |cont=>exact q
theorem Inv.quiet(I:Inv X AF σ H s):interactive X.env=AD:=by simp[interactive,I.ok.kind]
def Wu(te:TE):TS:=λD σ H=>te σ H λ_ H1=>D.nx σ H1
theorem Dy(he:PE X e te)(hs:IJ e AN pos.line X.env=pure AD:=by rfl):PS X (.Expr e pos) (Wu te):=by
 intro AF s σ H D I h;exact wpAny_Expr_any (GY (he AF s σ H _ I h) (λv s1 q0=>by obtain⟨x,H1,I1,r1,q1⟩:=q0;exact{σ,H1,I1,q1})) I.quiet hs
def Vu(te:TE):TS:=λD σ H=>te σ H D.rt
theorem yF(he:PE X e te):PS X (.Return (AA e) pos) (Vu te):=by
 intro AF s σ H D I h;exact wpAny_Return_some (GY (he AF s σ H _ I h) (λv s1 q0=>by obtain⟨x,H1,I1,r1,q1⟩:=q0;exact{x,σ,H1,I1,r1,q1}))
def Vt(c:TT)(t u:TS):TS:=λD σ H=>c σ H λb H1=>if b=AK then t D σ H1 else u D σ H1
theorem Ck{a b:List FC}{tc:TT}(hc:PT X c tc)(ha:PSs X a t)(hb:PSs X b u):PS X (.If c a b pos) (Vt tc t u):=by
 intro AF s σ H D I h;refine wpAny_If (GY (hc AF s σ H _ I h) λd s1 ⟨H1,I1,q1⟩=>?_)
 cases d with
 |true=>exact ha AF s1 σ H1 D I1 q1
 |false=>exact hb AF s1 σ H1 D I1 q1
def Oi:TS:=λ_ _ _=>False
theorem cR:PS X st Oi:=λ_ _ _ _ _ _ h=>h.elim
theorem Sw{sts:List FC}:PSs X sts Oi:=λ_ _ _ _ _ _ h=>h.elim
end
abbrev TG:=V->St->Hp->(St->Hp->Prop)->Prop
abbrev iV:=List V->St->Hp->(St->Hp->Prop)->Prop
def PG(X:Cx)(QI:CU)(t:TG):Prop :=
 ∀(AF:List (AR×HL)) (s:AT) (σ:St) (H:Hp) (v:V) (u:AI) (Q:St->Hp->Prop),Inv X AF σ H s->RelV v u->t v σ H Q ->
  A0 (A6 X.prog X.w) X.A (K7 QI X.env u) (λ_ s'=>∃σ' H',Inv X AF σ' H' s'/\Q σ' H') X.xe s
def PGs(X:Cx)(ts:List CU)(t:iV):Prop :=
 ∀(AF:List (AR×HL)) (s:AT) (σ:St) (H:Hp) (vs:List V) (us:List AI) (Q:St->Hp->Prop),Inv X AF σ H s->Vals vs us->t vs σ H Q ->
  A0 (A6 X.prog X.w) X.A (assignInOrder ((HE ts X.env).map (·.2)) us) (λ_ s'=>∃σ' H',Inv X AF σ' H' s'/\Q σ' H') X.xe s
abbrev Gx:=V->V->V->Hp->(Hp->Prop)->Prop
def Vs(X:Cx)(t:Gx):Prop :=
 ∀(AF:List (AR×HL)) (s:AT) (σ:St) (H:Hp) (o i v:V) (ov iv u:AI) (Q:Hp->Prop),Inv X AF σ H s->RelV o ov->RelV i iv->RelV v u->t o i v H Q ->
  A0 (A6 X.prog X.w) X.A (setItem ov iv u) (λ_ s'=>∃H',Inv X AF σ H' s'/\Q H') X.xe s
def bB(i:Nat):TG:=λv σ H Q=>Q (σ.set i (AA v)) H
theorem iL(hN:X.N.Nodup)(hi:X.N[i]?=AA x)(hx:Loc X.env.scope x)(hf:X.fn x=AK\/X.env.scope.names.lookup x=AA .local:=by first|exact .inl rfl|exact .inr rfl|assumption):PG X (.Name x pos) (bB i):=by
 intro AF s σ H v u Q I r h;exact wpAny_assign_Name (zG I hN hi hx r (λs' I'=>{_,H,I',h}) hf)
def yH4:iV:=λvs σ H Q=>vs=[]/\Q σ H
def yFC(t:TG)(u:iV):iV:=λvs σ H Q=>∃v r,vs=v::r/\t v σ H λσ' H'=>u r σ' H' Q
theorem VN:PGs X [] yH4:=by
 intro AF s σ H vs us Q I r h;obtain⟨e,h⟩:=h;subst e;cases r;exact assignInOrder_nil {σ,H,I,h}
theorem tJ{t:TG}{u:iV}(h1:PG X e t)(h2:PGs X es u)
  (hs:(HE (e::es) X.env).map (·.2)=K7 e X.env::(HE es X.env).map (·.2):=by rfl):PGs X (e::es) (yFC t u):=by
 intro AF s σ H vs us Q I r h;obtain⟨v,vr,e1,h⟩:=h;subst e1
 cases r with
 |cons r rr =>
  rw[hs];refine assignInOrder_cons (GY (h1 AF s σ H _ _ _ I r h) λ_ s1 ⟨σ1,H1,I1,q1⟩=>?_);exact h2 AF s1 σ1 H1 _ _ Q I1 rr q1
def yH5(K:AC)(n:Nat)(t:iV):TG:=λv σ H Q=>∃a xs,v=.ref a/\SqT K H a xs/\xs.length=n/\t xs σ H Q
theorem Dg{t:iV}(hc:X.calm=AK)(h:PGs X es t)
  (hn:(HE es X.env).length=n:=by rfl) (gD:(HE es X.env).findIdx? (·.1)=AN:=by rfl):PG X (.Tuple es k pos) (yH5 X.K n t):=by
 intro AF s σ H v u Q I r hw;obtain⟨a,xs,e1,hq,hl,hw⟩:=hw;subst e1;cases r;obtain⟨CI,rv,ht,hz⟩:=I.tuple hq;refine assign_Tuple_tuple (I.ok.hd hc) ht (by simp[hn,<-hl,rv.length]) gD λh' hx=>?_;have I1:Inv X AF σ H { s with heap:=h' }:=I.kept (t':=s.toks) λb o e=>hx b o (BZ (A9 e)) e;exact h AF _ σ H xs _ Q I1 (by simpa using rv) hw
def yH6(to ti:TE)(t:Gx):TG:=λv σ H Q=>to σ H λo H1=>ti σ H1 λi H2=>t o i v H2 λH3=>Q σ H3
theorem yB1{o i:CU}{to ti:TE}{t:Gx}(ho:PE X o to)(hi:PE X i ti)(hs:Vs X t)
  (ha:∀v,K7 (.Subscript o i pos) X.env v=(do
   let ov <-MA [v] (eval o X.env)
   let iv <-MA [v,ov] (eval i X.env)
   KD pos
   MA [v,ov,iv] (setItem ov iv v)
   release [v,ov,iv] []):=by intro _;rfl):PG X (.Subscript o i pos) (yH6 to ti t):=by
 intro AF s σ H v u Q I r h;rw[ha];refine AB (DQ (GY (ho AF s σ H _ I h) λov s1 ⟨x,H1,I1,r1,q1⟩=>?_));refine AB (DQ (GY (hi AF s1 σ H1 _ I1 q1) λiv s2 ⟨y,H2,I2,r2,q2⟩=>?_));refine AB (JN (AB (DQ (GY (hs AF s2 σ H2 x y v ov iv u _ I2 r1 r2 r q2) λ_ s3 ⟨H3,I3,q3⟩=>?_))));exact wpAny_release {σ,H3,I3,q3}
def j2(te:TE)(g:TG):TS:=λD σ H=>te σ H λx H1=>g x σ H1 D.nx
theorem Df{g:TG}(he:PE X e te)(hg:PG X tg g)(hs:aE [tg] e pos.line X.env=pure AD:=by rfl)(hw:aF [tg] e X.env=pure AN:=by rfl)
  (h1:(HE [tg] X.env).map (·.2)=[K7 tg X.env]:=by rfl):PS X (.Assign [tg] e pos) (j2 te g):=by
 intro AF s σ H D I h;refine wpAny_Assign_stores (GY (he AF s σ H _ I h) λv s1 ⟨x,H1,I1,r1,q1⟩=>?_) hs hw;rw[h1];exact GY (hg AF s1 σ H1 x v _ I1 r1 q1) λ_ s2 q=>q
theorem sT(hN:X.N.Nodup)(hi:X.N[i]?=AA x)(hx:Loc X.env.scope x)(he:PE X e te)(hs:IJ e (AA (.Name x OC)) pos.line X.env=pure AD:=by rfl)(hf:X.fn x=AK\/X.env.scope.names.lookup x=AA .local:=by first|exact .inl rfl|exact .inr rfl|assumption) :
  PS X (.Assign [.Name x OC] e pos) (j2 te (bB i)):=by
 intro AF s σ H D I h;refine UC (GY (he AF s σ H _ I h) λv s1 ⟨y,H1,I1,r1,q1⟩=>?_) hs;exact zG I1 hN hi hx r1 (λs2 I2=>{_,H1,I2,q1}) hf
variable{tb:TS}
def yB2(c:TT)(tb:TS):TS:=λD σ H=>∃W:Nat->St->Hp->Prop,(∃m,W m σ H)/\∀m σ H,W m σ H ->
 c σ H λb H1=>if b=AK then ∃N:St->Hp->Prop,(∀σ' H',N σ' H'->∃m',m'<m/\W m' σ' H')/\tb { D with nx:=N,ct:=N,bk:=D.nx } σ H1 else D.nx σ H1
theorem zTJ{tc:TT}(hp:bZ (A6 X.prog X.w) X.A X.env X.xe)(hc:PT X c tc)(hb:PSs X body tb):PS X (.While c body [] pos) (yB2 tc tb):=by
 intro AF s σ H D I h;obtain⟨W,⟨m0,w0⟩,turn⟩:=h;refine wpAny_While (codeAny_whileLoop (λn s'=>∃σ' H',Inv X AF σ' H' s'/\W n σ' H') ?_ m0 {σ,H,I,w0});rintro n s1 ⟨σ1,H1,I1,w1⟩;refine IF hp (GY (hc AF s1 σ1 H1 _ I1 (turn n σ1 H1 w1)) λb s2 ⟨H2,I2,q2⟩=>?_)
 cases b with
 |true =>
  obtain⟨N,hN,q2⟩:=q2;rw[if_pos rfl];refine IF hp (GY (hb AF s2 σ1 H2 _ I2 q2) λf s3 q3=>?_)
  cases f with
  |next =>
   obtain⟨σ3,H3,I3,n3⟩:=q3;obtain⟨m',hm,w3⟩:=hN σ3 H3 n3;exact{m',hm,σ3,H3,I3,w3}
  |cont =>
   obtain⟨σ3,H3,I3,n3⟩:=q3;obtain⟨m',hm,w3⟩:=hN σ3 H3 n3;exact{m',hm,σ3,H3,I3,w3}
  |brk=>exact q3
  |ret v=>exact q3
 |false =>
  rw[if_neg CH];exact IG {σ1,H2,I2,q2}
structure It where
 go:Nat->Hp->Prop
 yld:Nat->Hp->V->Hp->Prop
 stop:Nat->Hp->Prop
def FpOk(X:Cx)(AF:List (AR×HL))(H:Hp)(b:AR):Prop :=
 H b=AN/\b≠X.env.locals/\b∉X.fs/\(b∈X.ex\/X.s₀.heap.objs.size<=b)/\(∀x c,X.env.cells.lookup x=AA c->c≠b)/\∀p∈X.pn++AF,p.1≠b
theorem Inv.fpOk{b:AR}(I:Inv X AF σ H s)(hb:s.heap.objs.size<=b)(hn:H' b=AN):FpOk X AF H' b:=by
 refine{hn,FS (AQ I.lt hb),I.nofs hb,.inr (AX I.sz hb),λx c e z=>?_,λp hp z=>?_}
 .obtain⟨v,q⟩:=I.cell x c e
  exact absurd (AQ q.lt (by rw[z];exact hb)) (GE _)
 .exact absurd (AQ (A9 (I.pin p hp).1) (by rw[z];exact hb)) (GE _)
structure Turn(P:CO)(w:D2)(K:AC)(tg:CU)(J:It)(fp:List AR)(it:AR)(tn:Nat->D3->Prop):Prop where
 mem:it∈fp
 obj:∀i h,tn i h->∀b∈fp,∃o,h.get? b=AA o/\∀v,o.data≠.cell v
 keep:∀i h h',tn i h->(∀b∈fp,∀o,h.get? b=AA o->h'.get? b=AA o)->tn i h'
 item:∀(X:Cx),X.prog=P->X.w=w->X.K=K->X.calm=AK->∀(i:Nat) (AF:List (AR×HL)) (s:AT) (σ:St) (H:Hp) (E:AI->AT->Prop),Inv X AF σ H s->(∀b∈fp,FpOk X AF H b)->tn i s.heap->J.go i H ->
  A0 (A6 P w) X.A (JX (.ref it)) (λr s1=>∃u,r=AA u /\
   A0 (A6 P w) X.A (FP tg (.ref it) u) (λ_ s2=>∃x H',Inv X AF σ H' s2/\RelV x u/\J.yld i H x H'/\tn (i+1) s2.heap/\∀b∈fp,H' b=AN) E s1) E s
 done:∀(X:Cx),X.prog=P->X.w=w->X.K=K->X.calm=AK->∀(i:Nat) (AF:List (AR×HL)) (s:AT) (σ:St) (H:Hp) (E:AI->AT->Prop),Inv X AF σ H s->(∀b∈fp,FpOk X AF H b)->tn i s.heap->J.stop i H ->
  A0 (A6 P w) X.A (JX (.ref it)) (λr s1=>r=AN/\Inv X AF σ H s1) E s
 self:∀(A:DP) (i:Nat) (s:AT) (Q:AI->AT->Prop) (E:AI->AT->Prop),tn i s.heap->Q (.ref it) s->A0 (A6 P w) A (O1 (.ref it)) Q E s
abbrev TI:=St->Hp->(It->Hp->Prop)->Prop
def Xk(X:Cx)(AF:List (AR×HL))(σ:St)(tg:CU)(R:It->Hp->Prop)(rN:AI)(s2:AT):Prop :=
 ∃(it:AR) (fp:List AR) (tn:Nat->D3->Prop) (J:It) (H':Hp),rN=.ref it/\Inv X AF σ H' s2/\Turn X.prog X.w X.K tg J fp it tn/\tn 0 s2.heap/\(∀b∈fp,FpOk X AF H' b)/\R J H'
def PI(X:Cx)(tg iter:CU)(wi:TI):Prop :=
 ∀(AF:List (AR×HL)) (s:AT) (σ:St) (H:Hp) (R:It->Hp->Prop),Inv X AF σ H s->wi σ H R ->
  A0 (A6 X.prog X.w) X.A (eval iter X.env) (λv s1=>A0 (A6 X.prog X.w) X.A (O1 v) (Xk X AF σ tg R) X.xe s1) X.xe s
theorem pJ{E:AI → AT → Prop}{o:HL}{n:String}{vs:Array AI}{Q:Unit → AT → Prop}(ho : s.heap.get? it = AA o)(hc : o.cls = .type n)(hd : o.data = .fields vs)
    (hn : ["enumerate", "zip", "dict_itemiterator", "dict_reverseitemiterator", "odict_iterator", "itertools.zip_longest", "itertools.pairwise"].contains n = AD) (hQ : Q () s) : A0 M A (FP tg (.ref it) u) Q E s := by
  unfold FP
  cases tg <;> first
    | exact wpAny_pure hQ
    | (cases u <;> first
        | exact wpAny_pure hQ
        | (
          refine AB (wpAny_load ho ?_);rw [hc, hd];show A0 M A (if (["enumerate", "zip", "dict_itemiterator", "dict_reverseitemiterator", "odict_iterator", "itertools.zip_longest", "itertools.pairwise"].contains n && vs[0]? == AA (DC _)) = AK then _ else _) Q E s;rw [if_neg (by intro h; rw [hn, Bool.false_and] at h; cases h)]
          exact wpAny_pure hQ))
noncomputable def rD(K:AC)(a:AR):It :=
 {λi H=>∃xs x,SqL K H a xs/\xs[i]?=AA x,λi H x H'=>H'=H/\∀xs,SqL K H a xs->xs[i]?=AA x,λi H=>∃xs,SqL K H a xs/\xs.length<=i}
noncomputable def rB(K:AC)(a:AR):It :=
 {λi H=>∃xs x,SqT K H a xs/\xs[i]?=AA x,λi H x H'=>H'=H/\∀xs,SqT K H a xs->xs[i]?=AA x,λi H=>∃xs,SqT K H a xs/\xs.length<=i}
noncomputable def rC(lo:Int)(n:Nat):It:={λi _=>i<n,λi H x H'=>H'=H/\x=.int (lo+i),λi _=>n<=i}
theorem zP6{K:AC}(a it:AR):Turn P w K tg (rD K a) [it] it (λi h=>h.IsListIter it a i) where
 mem:=by simp
 obj:=λi h st b hb=>by
  have e:b=it:=by simpa using hb
  subst e;obtain⟨o,e,c,d⟩:=st;exact{o,e,λv z=>by rw[d] at z;cases z}
 keep:=λi h h' st k=>st.at λo e=>k it 's' o e
 item:=by
  intro X hP hw hK hc i AF s σ H E I hf st hg;subst hP hw hK;obtain⟨xs,x,hq,hx⟩:=hg;obtain⟨CI,rv,p,hz⟩:=I.list hq;obtain⟨u,hu,ru⟩:=rv.get hx;obtain⟨f0,f1,f2,f3,f4,f5⟩:=hf it 's';refine wpAny_pyNext_list_item st p.isList (x:=u) (by simpa using hu) λh' CP sb=>?_;have I1:Inv X AF σ H { s with heap:=h' }:=I.turned (t':=s.toks) (λb o hb e=>(sb.2 b hb).trans e) f0 f1 f3 f4 f5;obtain⟨o,e,c,d⟩:=id CP;exact{u,rfl,pJ (s:={ s with heap:=h' }) e c d 'd' {x,H,I1,ru,{rfl,λys hy=>by rw[I.list_inj hy hq];exact hx},CP,λb hb=>(hf b hb).1}}
 done:=by
  intro X hP hw hK hc i AF s σ H E I hf st hg;subst hP hw hK;obtain⟨xs,hq,hx⟩:=hg;obtain⟨CI,rv,p,hz⟩:=I.list hq;obtain⟨f0,f1,f2,f3,f4,f5⟩:=hf it 's';have hl:=rv.length;exact wpAny_pyNext_list_end (I.ok.hd hc) st p.isList (by simp;lia) λh' eb=>{rfl,I.turned (t':=s.toks) (λb o hb e=>eb b o hb e) f0 f1 f3 f4 f5}
 self:=λ_ _ _ _ _ st h=>wpAny_pyIter_listiter st h
theorem zOX{K:AC}(a it:AR):Turn P w K tg (rB K a) [it] it (λi h=>h.IsTupleIter it a i) where
 mem:=by simp
 obj:=λi h st b hb=>by
  have e:b=it:=by simpa using hb
  subst e;obtain⟨o,e,c,d⟩:=st;exact{o,e,λv z=>by rw[d] at z;cases z}
 keep:=λi h h' st k=>st.at λo e=>k it 's' o e
 item:=by
  intro X hP hw hK hc i AF s σ H E I hf st hg;subst hP hw hK;obtain⟨xs,x,hq,hx⟩:=hg;obtain⟨CI,rv,p,hz⟩:=I.tuple hq;obtain⟨u,hu,ru⟩:=rv.get hx;obtain⟨f0,f1,f2,f3,f4,f5⟩:=hf it 's';refine wpAny_pyNext_tuple_item st (show s.heap.IsTuple a CI.toArray from p) (x:=u) (by simpa using hu) λh' CP sb=>?_;have I1:Inv X AF σ H { s with heap:=h' }:=I.turned (t':=s.toks) (λb o hb e=>(sb.2 b hb).trans e) f0 f1 f3 f4 f5;obtain⟨o,e,c,d⟩:=id CP;exact{u,rfl,pJ (s:={ s with heap:=h' }) e c d 'd' {x,H,I1,ru,{rfl,λys hy=>by rw[I.tuple_inj hy hq];exact hx},CP,λb hb=>(hf b hb).1}}
 done:=by
  intro X hP hw hK hc i AF s σ H E I hf st hg;subst hP hw hK;obtain⟨xs,hq,hx⟩:=hg;obtain⟨CI,rv,p,hz⟩:=I.tuple hq;obtain⟨f0,f1,f2,f3,f4,f5⟩:=hf it 's';have hl:=rv.length;exact wpAny_pyNext_tuple_end (I.ok.hd hc) st (show s.heap.IsTuple a CI.toArray from p) (by simp;lia) λh' eb=>{rfl,I.turned (t':=s.toks) (λb o hb e=>eb b o hb e) f0 f1 f3 f4 f5}
 self:=λ_ _ _ _ _ st h=>wpAny_pyIter_tupleiter st h
theorem zOY{K:AC}(it:AR)(lo:Int)(n:Nat):Turn P w K tg (rC lo n) [it] it (λi h=>WZ h it (lo+(i:Nat) * 1) ((n:Int)-(i:Nat)) 1) where
 mem:=by simp
 obj:=λi h st b hb=>by
  have e:b=it:=by simpa using hb
  subst e
  exact{_,st,λv z=>by
   have z':OR _=O5 v:=z
   cases z'}
 keep:=λi h h' st k=>k it 's' _ st
 item:=by
  intro X hP hw hK hc i AF s σ H E I hf st hg;subst hP hw hK;obtain⟨f0,f1,f2,f3,f4,f5⟩:=hf it 's';have W:=Walks.range (prog:=X.prog) (w:=X.w) (I.ok.hd hc) it lo 1 n;refine W.item i s _ _ hg st λv h' tk hv CP kk=>?_;obtain⟨t,rfl⟩:=hv;have I1:Inv X AF σ H { s with heap:=h',toks:=tk }:=I.turned (λb o hb e=>kk b o (by simpa using hb) e) f0 f1 f3 f4 f5;refine{_,rfl,pJ (s:={ s with heap:=h',toks:=tk }) (n:="range_iterator") CP rfl rfl 'd' {.int (lo+i),H,I1,{t,?_},{rfl,rfl},CP,λb hb=>(hf b hb).1}};rw[Int.mul_one]
 done:=by
  intro X hP hw hK hc i AF s σ H E I hf st hg;subst hP hw hK;obtain⟨f0,f1,f2,f3,f4,f5⟩:=hf it 's';exact eM (I.ok.hd hc) st (by have:n<=i:=hg;lia) λh' eb=>{rfl,I.turned (t':=s.toks) (λb o hb e=>eb b o hb e) f0 f1 f3 f4 f5}
 self:=λ_ _ _ _ _ st h=>O0 st h
variable{tl:TE}{wi:TI}
def yFD(K:AC)(tl:TE):TI:=λσ H R=>tl σ H λx H1=>∃a,x=.ref a/\(∃xs,SqL K H1 a xs)/\R (rD K a) H1
def yH7(K:AC)(tl:TE):TI:=λσ H R=>tl σ H λx H1=>∃a,x=.ref a/\(∃xs,SqT K H1 a xs)/\R (rB K a) H1
theorem zX8{l:CU}(hl:PE X l tl):PI X tg l (yFD X.K tl):=by
 intro AF s σ H R I h;refine GY (hl AF s σ H _ I h) λv s1 q0=>?_;obtain⟨x,H1,I1,r1,q1⟩:=q0;obtain⟨a,e,⟨xs,hq⟩,q⟩:=q1;subst e;cases r1;obtain⟨CI,rv,p,hz⟩:=I1.list hq;refine IQ p.isList ?_;refine{s1.heap.objs.size,[s1.heap.objs.size],_,_,H1,rfl,I1.kept (t':=s1.toks) λb o e=>AG _ e,zP6 a _,{_,AW _ rfl,rfl,rfl},λb hb=>?_,q};have e:b=s1.heap.objs.size:=by simpa using hb
 subst e;exact I1.fpOk (AL _) (I1.hok.fresh (AL _))
theorem Oh{l:CU}(hl:PE X l tl):PI X tg l (yH7 X.K tl):=by
 intro AF s σ H R I h;refine GY (hl AF s σ H _ I h) λv s1 q0=>?_;obtain⟨x,H1,I1,r1,q1⟩:=q0;obtain⟨a,e,⟨xs,hq⟩,q⟩:=q1;subst e;cases r1;obtain⟨CI,rv,p,hz⟩:=I1.tuple hq;refine S7 (show s1.heap.IsTuple a CI.toArray from p) ?_;refine{s1.heap.objs.size,[s1.heap.objs.size],_,_,H1,rfl,I1.kept (t':=s1.toks) λb o e=>AG _ e,zOX a _,{_,AW _ rfl,rfl,rfl},λb hb=>?_,q};have e:b=s1.heap.objs.size:=by simpa using hb
 subst e;exact I1.fpOk (AL _) (I1.hok.fresh (AL _))
theorem Rh{R:It->Hp->Prop}{lo hi:Int}{t u v:eP}{tk:Nat}(I:Inv X AF σ H s)(h1:-(2 ^ 62)<=lo)(h2:lo<2 ^ 62)(h3:-(2 ^ 62)<=hi)(h4:hi<2 ^ 62)
  (q:R (rC lo (hi-lo).toNat) H):A0 (A6 X.prog X.w) X.A (O1 (.ref s.heap.objs.size)) (Xk X AF σ tg R) E { s with heap:=s.heap.push { cls:=.type "range",data:=.fields #[.int lo t,.int hi u,.int 1 v] },toks:=tk }:=by
 refine wpAny_pyIter_range (IsRange.new ..) (small_one h1 h2 h3 h4) ?_;have I1:Inv X AF σ H { s with heap:=s.heap.push { cls:=.type "range",data:=.fields #[.int lo t,.int hi u,.int 1 v] },toks:=tk }:=I.kept λb o e=>AG _ e
 refine{(s.heap.push { cls:=.type "range",data:=.fields #[.int lo t,.int hi u,.int 1 v] }).objs.size,[(s.heap.push { cls:=.type "range",data:=.fields #[.int lo t,.int hi u,.int 1 v] }).objs.size],_,_,H,rfl,
  I1.kept (t':=tk) λb o e=>AG _ e,zOY _ lo (hi-lo).toNat,?_,λb hb=>?_,q}
 .have e1:lo+((0:Nat):Int) * 1=lo:=by simp
  have e2:(((hi-lo).toNat:Nat):Int)-((0:Nat):Int)=Q9 lo hi 1:=by rw[aI];split<;>lia
  show WZ _ _ (lo+((0:Nat):Int) * 1) ((((hi-lo).toNat:Nat):Int)-((0:Nat):Int)) 1;rw[e1,e2];exact AW _ rfl
 .have e:b=(s.heap.push { cls:=.type "range",data:=.fields #[.int lo t,.int hi u,.int 1 v] }).objs.size:=by simpa using hb
  subst e;exact I1.fpOk (AL _) (I1.hok.fresh (AL _))
def yFE(ta:TA):TI:=λσ H R=>ta σ H λvs H1=>∃j:Int,vs=[.int j]/\-(2 ^ 62)<=j/\j<2 ^ 62/\R (rC 0 j.toNat) H1
def yFF(ta:TA):TI:=λσ H R=>ta σ H λvs H1=>∃i j:Int,vs=[.int i,.int j]/\(-(2 ^ 62)<=i/\i<2 ^ 62/\-(2 ^ 62)<=j/\j<2 ^ 62)/\R (rC i (j-i).toNat) H1
theorem Sv{a:CU}{ta:TA}(hg:Gl X "range")(hm:X.mg "range"=AN)(ha:PA X [a] ta)(hs:AM [a] X.env=[(AD,eval a X.env)]:=by rfl):PI X tg (.Call (.Name "range" p) [a] [] pos) (yFE ta):=by
 intro AF s σ H R I h;refine Call_ (iH I hg hm boot_range (EO (GY (ha pos AF s σ H _ I h) λus s1 ⟨vs,H1,I1,r1,q1⟩=>?_) hs rfl));obtain⟨j,e,q1,q2,q⟩:=q1;subst e
 cases r1 with
 |cons r rr =>
  cases rr;obtain⟨t,rfl⟩:=r;exact call_range_1 (Rh I1 'l' 'l' q1 q2 (by simpa using q))
theorem zP7{a b:CU}{ta:TA}(hg:Gl X "range")(hm:X.mg "range"=AN)(ha:PA X [a,b] ta)(hs:AM [a,b] X.env=[(AD,eval a X.env),(AD,eval b X.env)]:=by rfl)(NB:AM [b] X.env=[(AD,eval b X.env)]:=by rfl) :
  PI X tg (.Call (.Name "range" p) [a,b] [] pos) (yFF ta):=by
 intro AF s σ H R I h;refine Call_ (iH I hg hm boot_range (EO (GY (ha pos AF s σ H _ I h) λus s1 ⟨vs,H1,I1,r1,q1⟩=>?_) (by rw[hs,NB]) (by rw[NB];rfl)));obtain⟨i,j,e,⟨q1,q2,q3,q4⟩,q⟩:=q1;subst e
 cases r1 with
 |cons r rr =>
  cases rr with
  |cons r' rr =>
   cases rr;obtain⟨t,rfl⟩:=r;obtain⟨t',rfl⟩:=r';exact call_range_2 (Rh I1 q1 q2 q3 q4 q)
def z6(wi:TI)(g:TG)(tb:TS):TS:=λD σ H=>wi σ H λJ H1=>∃W:Nat->Nat->St->Hp->Prop,(∃m,W 0 m σ H1)/\∀i m σ H,W i m σ H ->
 (J.stop i H/\D.nx σ H)\/(J.go i H/\∃N:St->Hp->Prop,(∀σ' H',N σ' H'->∃m',m'<m/\W (i+1) m' σ' H')/\∀x H',J.yld i H x H'->g x σ H' λσ2 H2=>tb { D with nx:=N,ct:=N,bk:=D.nx } σ2 H2)
noncomputable def sS(fp:List AR)(h:D3):List (AR×HL):=fp.filterMap λb=>(h.get? b).map λo=>(b,o)
theorem zO{b:AR}{o:HL}(hb:b∈fp)(e:h.get? b=AA o):(b,o)∈sS fp h:=JE.mpr {b,hb,by rw[e];rfl}
theorem zP8{p:AR×HL}(hp:p∈sS fp h):p.1∈fp/\h.get? p.1=AA p.2:=by
 obtain⟨b,hb,e⟩:=JE.mp hp
 cases q:h.get? b with
 |none=>rw[q] at e;cases e
 |some o =>
  rw[q] at e;have e':(b,o)=p:=BL e;subst e';exact{hb,q}
theorem Inv.pinned(I:Inv X AF σ H s)(hf:∀b∈fp,FpOk X AF H b)(ho:∀b∈fp,∃o,s.heap.get? b=AA o/\∀v,o.data≠.cell v):Inv X (AF++sS fp s.heap) σ H s :=
 I.pins_of λp hp=>(CG.mp hp).elim (λz=>I.pin p (BM _ z)) λz=>by
  obtain⟨hb,e⟩:=zP8 z;obtain⟨f0,f1,f2,_⟩:=hf p.1 hb;obtain⟨o,e',d⟩:=ho p.1 hb;rw[e] at e';cases e';exact{e,f0,f1,f2,d}
theorem Inv.unpinned{pl:List (AR×HL)}(I:Inv X (AF++pl) σ H s):Inv X AF σ H s:=I.pins_of λp hp=>I.pin p (BM _ (DF _ hp))
theorem sR{iter:CU}{g:TG}(hp:bZ (A6 X.prog X.w) X.A X.env X.xe)(hc:X.calm=AK)(hi:PI X tg iter wi)(hg:PG X tg g)(hb:PSs X body tb)
  (hs:∀x,D6 iter X.env x=pure x:=by intro _;rfl):PS X (.For tg iter body [] pos) (z6 wi g tb):=by
 intro AF s σ H D I h;refine wpAny_For (GY (hi AF s σ H _ I h) λv s1 h1=>GY h1 λrN s2 h2=>?_) hs;obtain⟨it,fp,tn,J,H2,e,I2,T,st2,f2,W,⟨m0,w0⟩,turn⟩:=h2;subst e
 -- what stays AK of the iterator's objects through the nU
 have V3:∀{H':Hp},(∀b∈fp,H' b=AN)->∀b∈fp,FpOk X AF H' b:=λhn b hb=>{hn b hb,(f2 b hb).2};refine codeAny_forLoop_any (λn s'=>∃i σ' H',Inv X AF σ' H' s'/\tn i s'.heap/\(∀b∈fp,H' b=AN)/\W i n σ' H') ?_ m0 {0,σ,H2,I2,st2,λb hb=>(f2 b hb).1,w0};rintro n s3 ⟨i,σ3,H3,I3,KW,xB,w3⟩;rcases turn i n σ3 H3 w3 with⟨stop,qn⟩|⟨go,N,hN,step⟩
 .refine IF hp (GY (T.done X rfl rfl rfl hc i AF s3 σ3 H3 X.xe I3 (V3 xB) KW stop) λr s4 ⟨hr,I4⟩=>?_)
  subst hr;exact IG {σ3,H3,I4,qn}
 .refine IF hp (GY (T.item X rfl rfl rfl hc i AF s3 σ3 H3 X.xe I3 (V3 xB) KW go) λr s4 ⟨u,hr,h4⟩=>?_)
  subst hr;refine IF hp (GY h4 λ_ s5 ⟨x,H5,I5,r5,y5,i5,Md⟩=>?_);have Mt:=I5.pinned (V3 Md) (T.obj _ _ i5);refine IF hp (GY (hg _ s5 σ3 H5 x u _ Mt r5 (step x H5 y5)) λ_ s6 ⟨σ6,H6,I6,q6⟩=>?_);refine IF hp (GY (hb _ s6 σ6 H6 _ I6 q6) λf s7 q7=>?_)
  have WT:∀{σ7:St} {H7:Hp},Inv X (AF++sS fp s5.heap) σ7 H7 s7->N σ7 H7->∃m,m<n/\∃i σ' H',Inv X AF σ' H' s7/\tn i s7.heap/\(∀b∈fp,H' b=AN)/\W i m σ' H':=λ{σ7 H7} I7 n7=>by
   obtain⟨m',hm,w7⟩:=hN σ7 H7 n7;refine{m',hm,i+1,σ7,H7,I7.unpinned,T.keep _ _ _ i5 λb hb o e=>(I7.pin (b,o) (BM _ (BM _ (zO hb e)))).1,λb hb=>?_,w7};obtain⟨o,e,d⟩:=T.obj _ _ i5 b hb;exact(I7.pin (b,o) (BM _ (BM _ (zO hb e)))).2.1
  cases f with
  |next=>obtain⟨σ7,H7,I7,n7⟩:=q7;exact WT I7 n7
  |cont=>obtain⟨σ7,H7,I7,n7⟩:=q7;exact WT I7 n7
  |brk=>obtain⟨σ7,H7,I7,q7⟩:=q7;exact{σ7,H7,I7.unpinned,q7}
  |ret v=>obtain⟨x7,σ7,H7,I7,r7,q7⟩:=q7;exact{x7,σ7,H7,I7.unpinned,r7,q7}
theorem yEU{K:AC}{g:TG}{D:Ends}(Pv:Nat->St->Hp->Prop)(h0:Pv 0 σ H)(hl:∀i σ H,i<=xs.length->Pv i σ H->SqL K H a xs)
  (hs:∀i x σ H,xs[i]?=AA x->Pv i σ H->g x σ H λσ2 H2=>tb { D with nx:=Pv (i+1),ct:=Pv (i+1),bk:=D.nx } σ2 H2) (hd:∀σ H,Pv xs.length σ H->D.nx σ H) :
  ∃W:Nat->Nat->St->Hp->Prop,(∃m,W 0 m σ H)/\∀i m σ H,W i m σ H ->
   ((rD K a).stop i H/\D.nx σ H)\/((rD K a).go i H/\∃N:St->Hp->Prop,(∀σ' H',N σ' H'->∃m',m'<m/\W (i+1) m' σ' H')/\∀x H',(rD K a).yld i H x H'->g x σ H' λσ2 H2=>tb { D with nx:=N,ct:=N,bk:=D.nx } σ2 H2):=by
 refine{λi m σ H=>m=xs.length-i/\i<=xs.length/\Pv i σ H,{xs.length,by simp,BY _,h0},?_};rintro i m σ H ⟨rfl,hi,p⟩;have q:=hl i σ H hi p
 by_cases IU:i<xs.length
 .refine .inr {{xs,xs[i],q,by simp[IU]},Pv (i+1),λσ' H' p'=>{xs.length-(i+1),by lia,rfl,IU,p'},λx H' y=>?_}
  obtain⟨e,y⟩:=y;subst e;exact hs i x σ _ (y xs q) p
 .have e:i=xs.length:=by lia
  subst e;exact .inl {{xs,q,AL _},hd σ H p}
theorem zX9{K:AC}{g:TG}{D:Ends}(Pv:Nat->St->Hp->Prop)(h0:Pv 0 σ H)(hl:∀i σ H,i<=xs.length->Pv i σ H->SqT K H a xs)
  (hs:∀i x σ H,xs[i]?=AA x->Pv i σ H->g x σ H λσ2 H2=>tb { D with nx:=Pv (i+1),ct:=Pv (i+1),bk:=D.nx } σ2 H2) (hd:∀σ H,Pv xs.length σ H->D.nx σ H) :
  ∃W:Nat->Nat->St->Hp->Prop,(∃m,W 0 m σ H)/\∀i m σ H,W i m σ H ->
   ((rB K a).stop i H/\D.nx σ H)\/((rB K a).go i H/\∃N:St->Hp->Prop,(∀σ' H',N σ' H'->∃m',m'<m/\W (i+1) m' σ' H')/\∀x H',(rB K a).yld i H x H'->g x σ H' λσ2 H2=>tb { D with nx:=N,ct:=N,bk:=D.nx } σ2 H2):=by
 refine{λi m σ H=>m=xs.length-i/\i<=xs.length/\Pv i σ H,{xs.length,by simp,BY _,h0},?_};rintro i m σ H ⟨rfl,hi,p⟩;have q:=hl i σ H hi p
 by_cases IU:i<xs.length
 .refine .inr {{xs,xs[i],q,by simp[IU]},Pv (i+1),λσ' H' p'=>{xs.length-(i+1),by lia,rfl,IU,p'},λx H' y=>?_}
  obtain⟨e,y⟩:=y;subst e;exact hs i x σ _ (y xs q) p
 .have e:i=xs.length:=by lia
  subst e;exact .inl {{xs,q,AL _},hd σ H p}
abbrev R2:=V->V->Hp->VK->Prop
def OpR(X:Cx)(f:AI->AI->TC AI)(r:R2):Prop :=
 ∀(AF:List (AR×HL)) (s:AT) (σ:St) (H:Hp) (x y:V) (v u:AI) (Q:VK),Inv X AF σ H s->RelV x v->RelV y u->r x y H Q ->
  A0 (A6 X.prog X.w) X.A (f v u) (EP X AF σ Q) X.xe s
def Ap(X:Cx)(f:AI->TC AI)(r:V->Hp->VK->Prop):Prop :=
 ∀(AF:List (AR×HL)) (s:AT) (σ:St) (H:Hp) (x:V) (v:AI) (Q:VK),Inv X AF σ H s->RelV x v->r x H Q ->
  A0 (A6 X.prog X.w) X.A (f v) (EP X AF σ Q) X.xe s
def CallR(X:Cx)(f:AI)(r:List V->Hp->VK->Prop):Prop :=
 ∀(AF:List (AR×HL)) (s:AT) (σ:St) (H:Hp) (xs:List V) (us:List AI) (Q:VK),Inv X AF σ H s->Vals xs us->r xs H Q ->
  A0 (A6 X.prog X.w) X.A (call f us) (EP X AF σ Q) X.xe s
def yH8(X:Cx)(r:V->Hp->(Bool->Hp->Prop)->Prop):Prop :=
 ∀(AF:List (AR×HL)) (s:AT) (σ:St) (H:Hp) (x:V) (v:AI) (Q:Bool->Hp->Prop),Inv X AF σ H s->RelV x v->r x H Q ->
  A0 (A6 X.prog X.w) X.A (truthy v) (TP X AF σ Q) X.xe s
def kU(r:R2)(ta tb:TE):TE:=λσ H Q=>ta σ H λx H1=>tb σ H1 λy H2=>r x y H2 Q
def Ww(r:V->Hp->VK->Prop)(ta:TE):TE:=λσ H Q=>ta σ H λx H1=>r x H1 Q
def rI(C:Int->Int->Prop)(g:Int->Int->V):R2:=λx y H Q=>∃i j,x=.int i/\y=.int j/\C i j/\Q (g i j) H
def cQ(g:Int->Int->V):R2:=λx y H Q=>∃i j,x=.int i/\y=.int j/\Q (g i j) H
def rU(g:Int->V):V->Hp->VK->Prop:=λx H Q=>∃i,x=.int i/\Q (g i) H
section
variable{a b:CU}{tb tc:TE}
theorem Gw(ha:PE X a ta)(hb:PE X b tb){R:V->V->Hp->Prop}(I:Inv X AF σ H s)
  (h:ta σ H λx H1=>tb σ H1 λy H2=>R x y H2) {Q:AI->AT->Prop} {f:AI->AI->TC AI}
  (hf:∀v u s2 x y H2,Inv X AF σ H2 s2->RelV x v->RelV y u->R x y H2->A0 (A6 X.prog X.w) X.A (f v u) Q X.xe s2) :
  A0 (A6 X.prog X.w) X.A (eval a X.env) (λv EY=>A0 (A6 X.prog X.w) X.A (eval b X.env) (λu RF=>A0 (A6 X.prog X.w) X.A (f v u) Q X.xe RF) X.xe EY) X.xe s:=by
 refine GY (ha AF s σ H _ I h) λv s1 q0=>?_;obtain⟨x,H1,I1,r1,q1⟩:=q0;refine GY (hb AF s1 σ H1 _ I1 q1) λu s2 q0=>?_;obtain⟨y,H2,I2,r2,q2⟩:=q0;exact hf v u s2 x y H2 I2 r1 r2 q2
theorem yA{op:Operator}{r:R2}(ho:OpR X (G6 op) r)(ha:PE X a ta)(hb:PE X b tb):PE X (.BinOp a op b pos) (kU r ta tb):=by
 intro AF s σ H Q I h;exact wpAny_BinOp (Gw ha hb I h λv u s2 x y H2 I2 rx ry q=>ho AF s2 σ H2 x y v u Q I2 rx ry q)
theorem yFH{op:UnaryOp}{r:V->Hp->VK->Prop}(ho:Ap X (unaryOp op) r)(ha:PE X a ta):PE X (.UnaryOp op a pos) (Ww r ta):=by
 intro AF s σ H Q I h;exact UnaryOp_ (GY (ha AF s σ H _ I h) (λv s1 q0=>by obtain⟨x,H1,I1,r1,q1⟩:=q0;exact ho AF s1 σ H1 x v Q I1 r1 q1))
theorem Ai{f:AI->AI->TC AI}{C:Int->Int->Prop}{g:Int->Int->Int}
  (rule:∀(i j:Int) (t u:eP) (s:AT) (Q:AI->AT->Prop) (E:AI->AT->Prop),C i j->Q (.int (g i j) s.toks) { s with toks:=s.toks+1 }->A0 (A6 X.prog X.w) X.A (f (.int i t) (.int j u)) Q E s) :
  OpR X f (rI C λi j=>.int (g i j)):=by
 intro AF s σ H x y v u Q I rx ry h;obtain⟨i,j,rfl,rfl,hc,q⟩:=h;obtain⟨t,rfl⟩:=rx;obtain⟨t',rfl⟩:=ry;exact rule i j t t' s _ _ hc {.int (g i j),H,I.tok _,{_,rfl},q}
theorem Vr{f:AI->AI->TC AI}{g:Int->Int->Int}
  (rule:∀(i j:Int) (t u:eP) (s:AT) (Q:AI->AT->Prop) (E:AI->AT->Prop),Q (.int (g i j) s.toks) { s with toks:=s.toks+1 }->A0 (A6 X.prog X.w) X.A (f (.int i t) (.int j u)) Q E s) :
  OpR X f (cQ λi j=>.int (g i j)):=by
 intro AF s σ H x y v u Q I rx ry h;obtain⟨i,j,rfl,rfl,q⟩:=h;obtain⟨t,rfl⟩:=rx;obtain⟨t',rfl⟩:=ry;exact rule i j t t' s _ _ {.int (g i j),H,I.tok _,{_,rfl},q}
theorem Gv{f:AI->AI->TC AI}{g:Int->Int->Bool}
  (rule:∀(i j:Int) (t u:eP) (s:AT) (Q:AI->AT->Prop) (E:AI->AT->Prop),Q (.bool (g i j)) s->A0 (A6 X.prog X.w) X.A (f (.int i t) (.int j u)) Q E s) :
  OpR X f (cQ λi j=>.bl (g i j)):=by
 intro AF s σ H x y v u Q I rx ry h;obtain⟨i,j,rfl,rfl,q⟩:=h;obtain⟨t,rfl⟩:=rx;obtain⟨t',rfl⟩:=ry;exact rule i j t t' s _ _ {.bl (g i j),H,I,rfl,q}
def Vq(i j:Int):Prop:=0<=j/\j<=1000000/\i.natAbs<2 ^ 64
def CMul(i j:Int):Prop:=(-(2 ^ 64)<i/\i<2 ^ 64)\/(-(2 ^ 64)<j/\j<2 ^ 64)
theorem CMul.ok{i j:Int}(h:CMul i j):IntMulOk i j:=by
 rcases h with⟨h1,h2⟩|⟨h1,h2⟩
 .exact .of_left (intBits_le_64 h1 h2)
 .exact .of_right (intBits_le_64 h1 h2)
theorem nJ:OpR X (G6 .Add) (cQ λi j=>.int (i+j)):=Vr λ_ _ _ _ _ _ _ q=>add_int q
theorem yB3:OpR X (G6 .Sub) (cQ λi j=>.int (i-j)):=Vr λ_ _ _ _ _ _ _ q=>sub_int q
theorem yB4:OpR X (G6 .Mult) (rI CMul λi j=>.int (i * j)):=Ai λ_ _ _ _ _ _ _ hc q=>mul_int q hc.ok
theorem yB5:OpR X (G6 .Mod) (rI (λ_ j=>0<j) λi j=>.int (i % j)):=Ai λi j _ _ _ _ _ hc q=>by
 have h1:(0:Int)<j:=hc;exact mod_int' (Int.ne_of_gt hc) (by rw[Int.fmod_eq_emod_of_nonneg i (LH hc)];exact q)
theorem yB6:OpR X (G6 .Pow) (rI Vq λi j=>.int (i ^ j.toNat)):=Ai λ_ _ _ _ _ _ _ hc q=>pow_int_small hc.1 hc.2.1 hc.2.2 q
theorem unI{f:AI->TC AI}{g:Int->Int}
  (rule:∀(i:Int) (t:eP) (s:AT) (Q:AI->AT->Prop) (E:AI->AT->Prop),Q (.int (g i) s.toks) { s with toks:=s.toks+1 }->A0 (A6 X.prog X.w) X.A (f (.int i t)) Q E s) :
  Ap X f (rU λi=>.int (g i)):=by
 intro AF s σ H x v Q I rx h;obtain⟨i,rfl,q⟩:=h;obtain⟨t,rfl⟩:=rx;exact rule i t s _ _ {.int (g i),H,I.tok _,{_,rfl},q}
theorem yB7:Ap X (unaryOp .USub) (rU λi=>.int (-i)):=unI λ_ _ _ _ _ q=>neg_int q
end
variable{y:V}
section
variable{a b:CU}{tb tc:TE}
theorem Og{Q:VK}{k k':Bool}(I:Inv X AF σ H s)(q:Q (.bl k) H)(e:k=k'):EP X AF σ Q (.bool k') s:=by
 subst e;exact{.bl k,H,I,rfl,q}
theorem uA:OpR X (EX .Lt) (cQ λi j=>.bl (decide (i<j))):=Gv λ_ _ _ _ _ _ _ q=>lt_int q
theorem yFJ:OpR X (EX .Gt) (cQ λi j=>.bl (decide (j<i))):=Gv λ_ _ _ _ _ _ _ q=>gt_int q
theorem yFK:OpR X (EX .GtE) (cQ λi j=>.bl (decide (j<=i))):=Gv λ_ _ _ _ _ _ _ q=>ge_int q
theorem yB8:OpR X (EX .Is) (λx y H Q=>y=.non/\Q (.bl (decide (x=.non))) H):=by
 intro AF s σ H x y v u Q I rx ry h;obtain⟨rfl,q⟩:=h;cases ry;refine is_none_gen (Og I q ?_)
 cases x<;>first
  |(cases rx;rfl)
  |(obtain⟨t,rfl⟩:=rx;rfl)
theorem zYA:OpR X (EX .IsNot) (λx y H Q=>y=.non/\Q (.bl (!decide (x=.non))) H):=by
 intro AF s σ H x y v u Q I rx ry h;obtain⟨rfl,q⟩:=h;cases ry;refine isnot_none_gen (Og I q ?_)
 cases x<;>first
  |(cases rx;rfl)
  |(obtain⟨t,rfl⟩:=rx;rfl)
theorem OpR.or{f:AI->AI->TC AI}{r r':R2}(h:OpR X f r)(h':OpR X f r'):OpR X f (λx y H Q=>r x y H Q\/r' x y H Q):=by
 intro AF s σ H x y v u Q I rx ry q;rcases q with q|q
 .exact h AF s σ H x y v u Q I rx ry q
 .exact h' AF s σ H x y v u Q I rx ry q
theorem yG8(b:CU)(h:op≠.In:=by decide)(h2:op≠.NotIn:=by decide):DX op b=AD:=by
 have e1:(op==CmpOp.In)=AD:=by cases op<;>first|rfl|exact absurd rfl h
 have e2:(op==CmpOp.NotIn)=AD:=by cases op<;>first|rfl|exact absurd rfl h2
 cases b<;>simp[DX,e1,e2]
theorem zYB{r:R2}(ho:OpR X (EX op) r)(ha:PE X a ta)(hb:PE X b tb)(hm:DX op b=AD):PE X (.Compare a [op] [b] pos) (kU r ta tb):=by
 intro AF s σ H Q I h;exact wpAny_Compare1 (Gw ha hb I h λv u s2 x y H2 I2 rx ry q=>ho AF s2 σ H2 x y v u Q I2 rx ry q) hm
def yFL(t:TE):TT:=λσ H Q=>t σ H λx H'=>∃k,x=.bl k/\Q k H'
theorem zYC{r:R2}(ho:OpR X (EX op) r)(ha:PE X a ta)(hb:PE X b tb)(hm:DX op b=AD):PT X (.Compare a [op] [b] pos) (yFL (kU r ta tb)):=by
 intro AF s σ H Q I h
 refine wpAny_isTrue_Compare1 (GY (ha AF s σ H _ I h) λv s1 ⟨x,H1,I1,r1,q1⟩=>GY (hb AF s1 σ H1 _ I1 q1) λu s2 ⟨y,H2,I2,r2,q2⟩ =>
  GY (ho AF s2 σ H2 x y v u _ I2 r1 r2 q2) λc s3 ⟨z,H3,I3,r3,k,e,q3⟩=>?_) hm
 subst e;cases r3;exact IP {H3,I3,q3}
def Vp(K:AC)(x:V)(H:Hp)(k:Bool):Prop :=
 match x with
 |.non=>k=AD
 |.bl b=>k=b
 |.int i=>k=(i != 0)
 |.str y=>y.length<=sizeLine/\k=((y.length:Int) != 0)
 |.byt y=>y.size<=sizeLine/\k=((y.size:Int) != 0)
 |.ref p=>(∃xs,SqL K H p xs/\k=!xs.isEmpty)\/(∃xs,SqT K H p xs/\k=!xs.isEmpty)\/∃kvs,H p=AA (.dK kvs)/\k=!kvs.isEmpty
 |_=>False
theorem zOZ{kvs:List (κ×V)}{vs:List (κ×AI)}(r:KV kvs vs):(!vs.isEmpty)=!kvs.isEmpty:=by
 cases r<;>rfl
theorem Tx(r:Vals xs CI):(!CI.toArray.isEmpty)=!xs.isEmpty:=by
 cases r<;>simp
theorem kL:(sizeLine:Nat)<2 ^ 63:=by rw[F7];decide
theorem yB9:yH8 X (λx H Q=>∃k,Vp X.K x H k/\Q k H):=by
 intro AF s σ H x v Q I rx h;obtain⟨k,e,q⟩:=h;have hl:=kL;have hs:sizeLine=16777216:=F7
 cases x with
 |non =>
  cases rx;have e':k=AD:=e;subst e';exact truthy_none {H,I,q}
 |bl b =>
  cases rx;have e':k=b:=e;subst e';exact IP {H,I,q}
 |int i =>
  obtain⟨t,rfl⟩:=rx;have e':k=(i != 0):=e;subst e';exact PySem.P.truthy_int {H,I,q}
 |str y =>
  obtain⟨t,rfl⟩:=rx;obtain⟨hy,e'⟩:y.length<=sizeLine/\k=((y.length:Int) != 0):=e;subst e';exact PySem.P.truthy_str 'l' {H,I.tok _,q}
 |byt y =>
  obtain⟨t,rfl⟩:=rx;obtain⟨hy,e'⟩:y.size<=sizeLine/\k=((y.size:Int) != 0):=e;subst e';exact PySem.W.truthy_bytes 'l' {H,I.tok _,q}
 |ref p =>
  cases rx;have e':(∃xs,SqL X.K H p xs/\k=!xs.isEmpty)\/(∃xs,SqT X.K H p xs/\k=!xs.isEmpty)\/∃kvs,H p=AA (.dK kvs)/\k=!kvs.isEmpty:=e;rcases e' with⟨xs,hx,e'⟩|⟨xs,hx,e'⟩|⟨kvs,hx,e'⟩
  .subst e'
   obtain⟨CI,r,pl,hz⟩:=I.list hx;have ET:=r.length;exact wpAny_truthy_list pl.isList (by simp only[A4];lia) {H,I.tok _,by rw[Tx r];exact q}
  .subst e'
   obtain⟨CI,r,pl,hz⟩:=I.tuple hx;have ET:=r.length;exact truthy_tuple pl (by simp only[A4];lia) {H,I.tok _,by rw[Tx r];exact q}
  .subst e'
   obtain⟨hz,hS,vs,r,m⟩:kvs.length<=sizeLine/\(p==GR)=AD/\∃vs,KV kvs vs/\s.heap.DictOf (TZ X.prog X.w) p vs:=I.hok p _ hx;have ET:kvs.length=vs.length:=Paired.length r;exact wpAny_truthy_dict hS m 'l' {H,I.tok _,by rw[zOZ r];exact q}
 |_=>exact(show False from e).elim
theorem zTL(ha:PE X a ta)(he:∀SJ,WG a X.env SJ=(do let v <-SJ;KD a.pos;MA [v] (truthy v))) :
  PT X a (λσ H Q=>ta σ H λx H'=>∃k,Vp X.K x H' k/\Q k H'):=by
 intro AF s σ H Q I h;exact isTrue_plain (GY (ha AF s σ H _ I h) (λv s1 q0=>by obtain⟨x,H1,I1,r1,q1⟩:=q0;exact yB9 AF s1 σ H1 x v Q I1 r1 q1)) (he _)
theorem zO0:OpR X (G6 .Add) (λx y H Q=>∃i j,x=.str i/\y=.str j/\i.length+j.length<=sizeLine/\Q (.str (i++j)) H):=by
 intro AF s σ H x y v u Q I rx ry h;obtain⟨i,j,rfl,rfl,hz,q⟩:=h;obtain⟨t,rfl⟩:=rx;obtain⟨t',rfl⟩:=ry;exact add_str (λt' tk=>{.str (i++j),H,I.tok _,{_,rfl},q}) hz
theorem W5{x:V}(r:Vals [x] us):∃u,us=[u]/\RelV x u:=by
 cases r with
 |cons r1 r2=>cases r2;exact{_,rfl,r1}
theorem yFM{x:V}(r:Vals [x,y] us):∃u w',us=[u,w']/\RelV x u/\RelV y w':=by
 cases r with
 |cons r1 r2 =>
  cases r2 with
  |cons r3 r4=>cases r4;exact{_,_,rfl,r1,r3}
theorem zP9(hc:X.calm=AK):CallR X (.builtin "min") (λxs H Q=>∃i j,xs=[.int i,.int j]/\Q (.int (if j<i then j else i)) H):=by
 intro AF s σ H xs us Q I r h;obtain⟨i,j,rfl,q⟩:=h;obtain⟨u,w',rfl,⟨t,rfl⟩,⟨t',rfl⟩⟩:=yFM r;refine min_two_ints (I.ok.hd hc) λh' tk k=>{_,H,I.kept k,?_,q}
 by_cases hj:j<i
 .rw[if_pos hj,if_pos hj];exact{_,rfl}
 .rw[if_neg hj,if_neg hj];exact{_,rfl}
end
structure ObjM(h:D3)(x dx C:AR)(mA:CN->Option AI):Prop where
 obj:h.get? x=AA (RN C dx)
 ns:h.Ns1 dx mA
 ne:dx≠x
theorem zQA(n:h.Ns1 dx mA):∃od,h.get? dx=AA od/\∀name,TD name od=AA (mA name):=by
 obtain⟨o,es,ep,ho,hd,hk,_,hm⟩:=n;refine{o,ho,λname=>?_};have e:=hm name;unfold nsFind findBy at e;rw[<-Array.find?_toList] at e;unfold TD;rw[hd];dsimp only;split
 .rename_i y q
  rw[q] at e;exact congrArg AA e
 .rename_i q
  rw[q] at e
  have a:es.toList.any (·.refKey)=AD:=by
   rw[ME];intro y hy;obtain⟨z,t,PN⟩:=hk y (GU.mp hy);simp[DictEntry.refKey,PN]
  have a':¬es.toList.any (·.refKey)=AK:=by rw[a];exact CH
  rw[if_neg a'];exact congrArg AA e
theorem ObjM.look{x:AR}(I:ObjM h x dx C mA):∃od,PySem.W.InstAt h x (RN C dx) C (AA od)/\∀name,TD name od=AA (mA name) :=
 let ⟨od,ho,hl⟩:=zQA I.ns
 {od,{I.obj,rfl,rfl,ho},hl}
section
variable{K:AC}{x:AR}{v:AI}
end
theorem RelO.some_of{o:Option AI}(r:RelO (AA v) o):∃u,o=AA u/\RelV v u:=by
 cases o with
 |none=>exact(show False from r).elim
 |some u=>exact{u,rfl,r}
section
variable{fs oW:List (CN×V)}
theorem zYD(hok:HOk P w H h)(e:H a=AA (.ins C dx fs)):∃mA,ObjM h a dx C mA/\(∀f,RelO (fs.lookup f) (mA f))/\PySem.Within mA (fs.map (·.1))/\fs.length<=1000/\H dx=AA (.own a):=by
 obtain⟨d,z,ne,ob,mA,n,r,q⟩:=(show ObjOk P w H h a (.ins C dx fs) from hok a _ e);exact{mA,{ob,n,ne},r,q,z,d}
end
structure Cls(K:AC)(C:AR):Prop where
 pg:aK K C O9=AK
 hd:PySem.W.hasDictIn K C=AK
 po:PySem.W.plainOver K C=AK
 sa:K9 K (.ref C) "__setattr__"=AA (AA (.builtin "object.__setattr__"))
theorem Cls.get{K:AC}(c:Cls K C)(f:CN):aK K C f=AK:=c.pg
section
variable{fs:List (CN×V)}{f:CN}
end
variable{tv:TE}
section
variable{o:CU}{f:CN}
end
section
variable{c:AI}{b:Bool}
inductive TyOf(K:AC)(H:Hp):V->AI->Prop where
 |non:TyOf K H .non (.type "NoneType")
 |bl (x:Bool):TyOf K H (.bl x) (.type "bool")
 |int (i:Int):TyOf K H (.int i) (.type "int")
 |str (x:CN):TyOf K H (.str x) (.type "str")
 |flt (x:UInt64):TyOf K H (.flt x) (.type "float")
 |lst {a:AR} {xs:List V} (e:H a=AA (.lst xs)):TyOf K H (.ref a) (.type "list")
 |frz {a:AR} {o:HL} {xs:List V} (e:H a=AA (.frz o (.lst xs))):TyOf K H (.ref a) (.type "list")
 |tup {a:AR} {xs:List V} (e:H a=AA (.tup xs)):TyOf K H (.ref a) (.type "tuple")
 |dK {a:AR} {kvs:List (Key×V)} (e:H a=AA (.dK kvs)):TyOf K H (.ref a) (.type "dict")
 |dT {a:AR} {kvs:List (List Key×V)} (e:H a=AA (.dT kvs)):TyOf K H (.ref a) (.type "dict")
 |ins {a C dx:AR} {fs:List (CN×V)} (e:H a=AA (.ins C dx fs)) (cl:Cls K C) (ha:K9 K (.ref C) "__class__"=AA (AA (.builtin "object.__class__")))
   (hn:ZR K (.builtin "object.__class__") "__get__"=AA (AA (.builtin "getset_descriptor.__get__"))) (nZ:bX K (.builtin "object.__class__")=AA AK)
   (hm:UI K C (.type "object")=AA AK):TyOf K H (.ref a) (.ref C)
theorem zL{x:V}{t:AI}(I:Inv X AF σ H s)(rx:RelV x u)(ty:TyOf X.K H x t)(e:BQ X.K t c=AA b)(h:∀tk,Q (.bool b) { s with toks:=tk }) :
  A0 (A6 X.prog X.w) A (call (.builtin "isinstance") [u,c]) Q E s:=by
 cases ty with
 |non=>cases(show u=FK from rx);exact DE PySem.W.kitx_none I.kIn HH e (λz=>nomatch z) h
 |bl y=>cases(show u=JA y from rx);exact DE PySem.W.kitx_bool I.kIn HH e (λz=>nomatch z) h
 |int i=>obtain⟨t,q⟩:=(show ∃t,u=MV i t from rx);cases q;exact DE PySem.W.kitx_int I.kIn HH e (λz=>nomatch z) h
 |str y=>obtain⟨t,q⟩:=(show ∃t,u=WU y t from rx);cases q;exact DE PySem.W.kitx_str I.kIn HH e (λz=>nomatch z) h
 |flt y=>obtain⟨t,q⟩:=(show ∃t,u=Value.float y t from rx);cases q;exact DE PySem.W.kitx_float I.kIn HH e (λz=>nomatch z) h
 |@lst a xs ea =>
  cases(show u=DK a from rx);obtain⟨_,_,n,_,h1⟩:=(show ObjOk X.prog X.w H s.heap a (.lst xs) from I.hok a _ ea);exact DE PV I.kIn {_,h1,rfl} e (λz=>nomatch z) h
 |@frz a ob xs ea =>
  cases(show u=DK a from rx);obtain⟨_,_,_,n,_,h1⟩:=(show ObjOk X.prog X.w H s.heap a (.frz ob (.lst xs)) from I.hok a _ ea);exact DE PV I.kIn {_,h1,rfl} e (λz=>nomatch z) h
 |@tup a xs ea =>
  cases(show u=DK a from rx);obtain⟨_,_,_,p⟩:=(show ObjOk X.prog X.w H s.heap a (.tup xs) from I.hok a _ ea);obtain⟨o,h1,h2,_⟩:=p;exact DE Y8 I.kIn {o,h1,h2} e (λz=>nomatch z) h
 |@dK a kvs ea =>
  cases(show u=DK a from rx);obtain⟨_,_,vs,_,p⟩:=(show ObjOk X.prog X.w H s.heap a (.dK kvs) from I.hok a _ ea);obtain⟨o,es,ep,h1,h2,_⟩:=p;exact DE LM I.kIn {o,h1,h2.1} e (λz=>nomatch z) h
 |@dT a kvs ea =>
  cases(show u=DK a from rx);obtain⟨_,_,xs,_,o,es,ep,h1,h2,_⟩:=(show ObjOk X.prog X.w H s.heap a (.dT kvs) from I.hok a _ ea);exact DE LM I.kIn {o,h1,h2.1} e (λz=>nomatch z) h
 |@ins a C dx fs ea cl ha hn nZ hm =>
  cases(show u=DK a from rx);obtain⟨mA,O,_⟩:=zYD I.hok ea;obtain⟨od,J,_⟩:=O.look;exact DE (PySem.W.kitx_own (cl.get _) cl.hd ha hn nZ hm) I.kIn J e (λz=>nomatch z) h
end
structure Room(k:Nat)(A:DP):Prop where
 hd:A.handled=AN
 dp:A.depth+3 * k+5<recursionLimit
 un:A.units+16 * k+200<GT
 gd:A.guards=AA []
theorem Room.mono(r:Room k A)(h:j<=k):Room j A:={r.hd,by have:=r.dp;lia,by have:=r.un;lia,r.gd}
theorem Room.deeper{k:Nat}{A:DP}(r:Room (k+1) A)(env:XZ):Room k (A.deeper env) :=
 {r.hd,by have:=r.dp;show A.depth+1+3 * k+5<_;lia,by have:=r.un;show A.units+3+16 * k+200<_;lia,r.gd}
theorem Room.in1{k:Nat}{A:DP}(r:Room (k+1) A):Room k A.in1 :=
 {r.hd,by have:=r.dp;show A.depth+3 * k+5<_;lia,by have:=r.un;show A.units+1+16 * k+200<_;lia,r.gd}
theorem Room.depth{k:Nat}{A:DP}(r:Room k A):A.depth<recursionLimit:=by have:=r.dp;lia
theorem Room.units{k:Nat}{A:DP}(r:Room k A):A.units+64<GT:=by have:=r.un;lia
def zZ:TA:=λ_ H Q=>Q [] H
def sI(ta:TE)(tr:TA):TA:=λσ H Q=>ta σ H λx H1=>tr σ H1 λxs H2=>Q (x::xs) H2
section
variable{t:TA}
theorem GG:PA X [] zZ:=λ_ _ _ _ H Q I h=>cA {[],H,I,.nil,h}
theorem QY(ha:PE X e te)(hr:PA X es t)(hs:AM (e::es) X.env=(AD,eval e X.env)::AM es X.env:=by rfl):PA X (e::es) (sI te t):=by
 intro pos AF s σ H Q I h;rw[hs];show A0 _ _ (spliced ((AD,eval e X.env)::DD pos (AM es X.env))) _ _ s;refine PZ (GY (ha AF s σ H _ I h) λu s1 ⟨x,H1,I1,r1,q1⟩=>?_);exact GY (hr pos AF s1 σ H1 _ I1 q1) (λus s2 q0=>by obtain⟨xs,H2,I2,r2,q2⟩:=q0;exact{x::xs,H2,I2,.cons r1 r2,q2})
def yH9(t:TA):TE:=λσ H Q=>t σ H λxs H1=>xs.length<=sizeLine/\∀p,H1 p=AN->Q (.ref p) (D5 H1 p (.tup xs))
def qY(t:TA):TE:=λσ H Q=>t σ H λxs H1=>xs.length<=sizeLine/\∀p,H1 p=AN->Q (.ref p) (D5 H1 p (.lst xs))
theorem yCA{x1}(h:PA X es t):PE X (.Tuple es x1 pos) (yH9 t):=by
 intro AF s σ H Q I hq;refine wpAny_Tuple_spliced (GY (h pos AF s σ H _ I hq) λus s1 ⟨xs,H1,I1,r,z,q⟩=>{by rw[<-r.length];exact z,?_});have hf:H1 s1.heap.objs.size=AN:=I1.hok.fresh (AL _);refine{.ref s1.heap.objs.size,D5 H1 s1.heap.objs.size (.tup xs),I1.laid (t':=s1.toks) (λb u e=>AG _ e) (AL _) ?_,rfl,q _ hf};exact{z,us,r,{_,AW _ rfl,rfl,rfl,_,rfl}}
theorem mT(h:PA X es t):PE X (.List es pos) (qY t):=by
 intro AF s σ H Q I hq;refine wpAny_List_spliced (GY (h pos AF s σ H _ I hq) λus s1 ⟨xs,H1,I1,r,z,q⟩=>{by rw[<-r.length];exact z,?_});have hf:H1 s1.heap.objs.size=AN:=I1.hok.fresh (AL _);refine{.ref s1.heap.objs.size,D5 H1 s1.heap.objs.size (.lst xs),I1.laid (t':=s1.toks) (λb u e=>AG _ e) (AL _) ?_,rfl,q _ hf};exact{z,us,0,r,AW _ rfl}
end
abbrev Sp:=List V->Hp->VK->XK->Prop
abbrev CXT:=List XZ->Hp->AT->XK->AI->AT->Prop
structure Env0(P:CO)(w:D2)(K:AC)(mg:CN->Option AI)(base:D3)(A:DP)(outer:List XZ)(s:AT)(H:Hp):Prop where
 tab:∀T q,TB K T q->∃ps,H T=AA (.tbl q ps)
 frames:A.frames=AA outer
 mod:Mod K mg base
 bs:∀b o,base.get? b=AA o->s.heap.get? b=AA o/\H b=AN
 bsz:base.objs.size<=s.heap.objs.size
 funs:s.heap.FunFrames base outer
 frf:∀b∈SI outer,H b=AN
 hok:HOk P w H s.heap
 bare:NN s.gens
def CE(outer:List XZ)(P:CO)(w:D2)(H:Hp)(s:AT)(Q:VK)(u:AI)(s':AT):Prop :=
 ∃v H',s'.os=s.os/\NN s'.gens/\Un (SI outer) [] H H' s.heap s'.heap/\HOk P w H' s'.heap/\RelV v u/\Q v H'
def CR(CX:CXT)(outer:List XZ)(P:CO)(w:D2)(H:Hp)(s:AT)(Q:VK)(E:XK)(r:Result)(s':AT):Prop :=
 match r with
 |.ok (.ret u)=>CE outer P w H s Q u s'
 |.ok _=>False
 |.error e=>CX outer H s E e s'
structure FnOk(P:CO)(w:D2)(K:AC)(mg:CN->Option AI)(base:D3)(CX:CXT)(k:Nat)(f:AR)(fd:JO)(ps:List CN)(sp:Sp):Prop where
 len:∀vs H Q E,sp vs H Q E->vs.length=ps.length
 run:∀(A:DP) (outer:List XZ) (s:AT) (H:Hp) (args:Args) (us:List AI) (vs:List V) (Q:VK) (E:XK),Room k A->Env0 P w K mg base A outer s H->UO s fd args (ps.zip us)->Vals vs us->sp vs H Q E ->
  G5 (A6 P w) A (.call (.ref f) args) (CR CX outer P w H s Q E) s
variable{CX:CXT}{sp:Sp}
theorem FnOk.imp{K:AC}{Ya:Sp}(F:FnOk P w K mg base CX k f fd ps sp)
  (h:∀vs H Q E,Ya vs H Q E->sp vs H Q E):FnOk P w K mg base CX k f fd ps Ya :=
 {λvs H Q E q=>F.len vs H Q E (h _ _ _ _ q),λA outer s H args us vs Q E hr he hb hv hs=>F.run A outer s H args us vs Q E hr he hb hv (h _ _ _ _ hs)}
theorem Inv.env0(I:Inv X AF σ H s):Env0 X.prog X.w X.K X.mg X.base X.A X.stack s H :=
 {I.tab,I.ok.frames,I.ok.mod,I.bs,AX I.ok.bsz I.sz,I.stack,I.stkFree,I.hok,I.bare}
theorem Inv.after{Q:VK}(I:Inv X AF σ H s)(h:CE X.stack X.prog X.w H s Q u s'):EP X AF σ Q u s':=by
 obtain⟨v,H',os,bare,un,hok,r,q⟩:=h;obtain⟨hh,g,d,t,Je⟩:=s';obtain rfl:Je=s.os:=os;exact{v,H',I.call (h':=hh) (g':=g) (d':=d) (t':=t) (ch:=[]) un hok bare (λb z=>absurd z 's'),r,q}
def sH(sp:Sp)(lS:List V)(E:XK)(t:TA):TE:=λσ H Q=>t σ H λvs H1=>sp (vs++lS) H1 Q E
def Binds(K:AC)(fd:JO)(ps:List CN)(ds:List AI):Prop :=
 ∀(s:AT) (us:List AI),K.In s.heap->(us++ds).length=ps.length->UO s fd {us,[]} (ps.zip (us++ds))
theorem Binds.all{K:AC}(h:∀us:List AI,us.length=ps.length->OH fd {us,[]}=pure (ps.zip us)):Binds K fd ps []:=λs us _ hl=>by
 rw[EA] at hl ⊢;exact .of_eq (h us hl)
def Db(CX:CXT)(X:Cx)(E:XK):Prop:=∀(AF:List (AR×HL)) (σ:St) (H:Hp) (s:AT) (e:AI) (s':AT),Inv X AF σ H s->CX X.stack H s E e s'->X.xe e s'
variable{vs:List V}
section
variable{lS:List V}{ds:List AI}{E:XK}{m:CN}{o:CU}{t:TA}
theorem yCB{Q:VK}(F:FnOk X.prog X.w X.K X.mg X.base CX k f fd ps sp)(hr:Room k X.A)(hb:Binds X.K fd ps ds)(hd:Vals lS ds)(hx:Db CX X E)
  (I:Inv X AF σ H s) (r:Vals vs us) (h:sp (vs++lS) H Q E):A0 (A6 X.prog X.w) X.A (call (.ref f) us) (EP X AF σ Q) X.xe s:=by
 have r2:Vals (vs++lS) (us++ds):=r.append hd;have hl:(us++ds).length=ps.length:=by rw[<-r2.length];exact F.len _ _ _ _ h
 refine S8 (MB (F.run X.A X.stack s H {us,[]} (us++ds) (vs++lS) Q E hr I.env0 (hb s us I.kIn hl) r2 h) λr s' hq=>?_)
 cases r with
 |error e=>exact hx AF σ H s e s' I hq
 |ok fl =>
  cases fl with
  |ret u=>exact I.after hq
  |next=>exact HG hq
  |brk=>exact HG hq
  |cont=>exact HG hq
theorem yU(F:FnOk X.prog X.w X.K X.mg X.base CX k f fd ps sp)(hr:Room k X.A)(hg:Gl X x)(hm:X.mg x=AA (.ref f))(hk:E6 X.K (.ref f)=AK)(hb:Binds X.K fd ps ds)(hd:Vals lS ds)(hx:Db CX X E)
  (ha:PA X (e::es) t) (UA:(x==("__debug__":CN))=AD:=by decide) (he:AM (e::es) X.env=(AD,eval e X.env)::AM es X.env:=by rfl) (JV:(DD pos (AM es X.env)).any (·.1)=AD:=by rfl) :
  PE X (.Call (.Name x p) (e::es) [] pos) (sH sp lS E t):=by
 intro AF s σ H Q I h;refine HV (pW I hg hm ?_ UA);refine O4 (h₀:=X.base) I.ok.mod.kin hk (GY (ha pos AF s σ H _ I h) λus s1 ⟨vs,H1,I1,r,q⟩=>{I1.kIn,?_}) he JV;exact yCB F hr hb hd hx I1 r q
end
section
variable{ks:List CN}{E:XK}{m:CN}{o:CU}{kws:List KG}{t tk:TA}{nm:Option CN}{g:List AI->List AI->List AI}{gV:List V->List V->List V}
end
structure FnScope(N P:List CN)(sc:NJ):Prop where
 kind:sc.kind=.function
 co:sc.isCoroutine=AD
 gen:sc.isGenerator=AD
 nd:N.Nodup
 pre:N.take P.length=P
 par:∀x∈P,sc.names.lookup x=AA .local\/sc.names.lookup x=AA .cell
 nofree:∀y∈sc.names,y.2≠.free
theorem Su{kindOf:CN->Option UK}{x:CN}:∀{XU:List (CN×AI)} {m:CN->Option AI},(∀v,(x,v)∉XU)->bT kindOf XU m x=m x
 |[],_,_=>rfl
 |(n,v)::r,m,h=>by
  unfold bT;rw[Su λw hw=>h w (A1 _ hw)];split
  .have:x≠n:=by rintro rfl;exact h v BB
   simp[this]
  .rfl
theorem Ss{kindOf:CN->Option UK}{x:CN}:∀{XU:List (CN×AI)} {m:CN->Option AI},(∀v,(x,v)∉XU)->bU kindOf XU m x=m x
 |[],_,_=>rfl
 |(n,v)::r,m,h=>by
  unfold bU;rw[Ss λw hw=>h w (A1 _ hw)];split
  .rfl
  .have:x≠n:=by rintro rfl;exact h v BB
   simp[this]
theorem Sr{kindOf:CN->Option UK}{x:CN}{v:AI}:∀{P:List CN} {vs:List AI} {i:Nat} {m:CN->Option AI},P.Nodup->P[i]?=AA x->vs[i]?=AA v->kindOf x=AA .local ->
  bT kindOf (P.zip vs) m x=AA v
 |[],_,_,_,_,h,_,_=>by simp at h
 |_::_,[],_,_,_,_,h,_=>by simp at h
 |p::P,w::vs,0,m,nd,h1,h2,hk=>by
  simp at h1 h2;subst h1;subst h2;show bT kindOf ((p,w)::P.zip vs) m p=_;unfold bT;rw[Su λv hv=>(FZ.mp nd).1 (JB hv).1,if_pos hk];simp
 |p::P,w::vs,i+1,m,nd,h1,h2,hk=>by
  show bT kindOf ((p,w)::P.zip vs) m x=_;unfold bT;exact Sr (i:=i) (FZ.mp nd).2 (by simpa using h1) (by simpa using h2) hk
theorem Sq{kindOf:CN->Option UK}{x:CN}{v:AI}:∀{P:List CN} {vs:List AI} {i:Nat} {m:CN->Option AI},P.Nodup->P[i]?=AA x->vs[i]?=AA v->kindOf x≠AA .local ->
  bU kindOf (P.zip vs) m x=AA v
 |[],_,_,_,_,h,_,_=>by simp at h
 |_::_,[],_,_,_,_,h,_=>by simp at h
 |p::P,w::vs,0,m,nd,h1,h2,hk=>by
  simp at h1 h2;subst h1;subst h2;show bU kindOf ((p,w)::P.zip vs) m p=_;unfold bU;rw[Ss λv hv=>(FZ.mp nd).1 (JB hv).1,if_neg hk];simp
 |p::P,w::vs,i+1,m,nd,h1,h2,hk=>by
  show bU kindOf ((p,w)::P.zip vs) m x=_;unfold bU;exact Sq (i:=i) (FZ.mp nd).2 (by simpa using h1) (by simpa using h2) hk
noncomputable def start(N:List CN)(vs:List V):St:=vs.map AA++BG (N.length-vs.length) AN
noncomputable def TK(CX:CXT)(P:CO)(w:D2)(K:AC)(mg:CN->Option AI)(base:D3)(N:List CN)(qual:CN)(scope:NJ)(f:AR)(cd:AI)(A:DP)(outer:List XZ)(s:AT)(H:Hp)(E:XK):Cx where
 prog:=P
 w:=w
 K:=K
 mg:=mg
 base:=base
 A:=A.deeper (G0 qual scope s.heap.objs.size f cd)
 N:=N
 s₀:=s
 H₀:=H
 env:=G0 qual scope s.heap.objs.size f cd
 outer:=outer
 stack:=G0 qual scope s.heap.objs.size f cd::outer
 ex:=[]
 calm:=AK
 fn:=λ_=>AK
 pn:=[]
 xe:=λe s'=>A0 (A6 P w) (A.deeper (G0 qual scope s.heap.objs.size f cd)) (leaving (G0 qual scope s.heap.objs.size f cd) e) (λ_ fY=>CX outer H s E e fY) (λe' fY=>CX outer H s E e' fY) s'
theorem Rf{sc:NJ}(h:sc.names.lookup x=AA .cell):∃c,(cellsFrom n sc.names []).lookup x=AA c:=by
 have q:=MX sc.names n [] (.inl h);exact Option.isSome_iff_exists.mp q
theorem So{K:AC}{s1:AT}{E:XK}
  (S:FnScope N ps scope) (hd:A.handled=AN) (e0:Env0 P w K mg base A outer s H) (hl:vs.length=ps.length) (r:Vals vs us)
  (x:InCallC s s.heap.objs.size (bT (G0 qual scope s.heap.objs.size f cd).kindOf (ps.zip us) λ_=>AN) (cellsFrom (s.heap.objs.size+1) scope.names []) (bU (G0 qual scope s.heap.objs.size f cd).kindOf (ps.zip us) λ_=>AN) s1) :
  Inv (TK CX P w K mg base N qual scope f cd A outer s H E) [] (start N vs) H s1:=by
 have JV:ps.length<=N.length:=by have:=congrArg OP S.pre;rw[EB] at this;lia
 obtain⟨h1,tk,rfl,hk⟩:=x.done;have vK:∀b:AR,b∉(TK CX P w K mg base N qual scope f cd A outer s H E).ex:=λb z=>absurd (show b∈([]:List AR) from z) 's'
 refine{{e0.tab,e0.mod,S.kind,rfl,rfl,AL _,λy z c h1 h2=>?_,λy hy=>?_,λy c _ h=>?_,λ_=>hd,YC e0.frames,.inr {rfl,rfl},λb z=>absurd z (vK b),e0.bs,e0.bsz,λb _ _=>vK b,λb z=>absurd z (vK b),e0.funs,e0.frf},
  rfl,e0.bare,Un.kept hk,{_,x.toInCall.ns,λi y v h1 h2 h3=>?_},λy c h=>{_,x.cell y c h},e0.hok.fresh (AL _),λy c h=>?_,λp hp=>absurd (show p∈([]:List (AR×HL)) from hp) 's',e0.hok.kept hk,?_}
 .exact name_of_addr x.apart (IT h1) (IT h2)
 .have hy:scope.names.lookup y=AA .cell\/scope.names.lookup y=AA .free:=hy
  rcases hy with hy|hy
  .exact Rf hy
  .exact absurd rfl (S.nofree _ (IT hy))
 .exact CW (x.above y c (IT h))
 .have hi:i<vs.length:=by
   unfold start at h2
   by_cases hi:i<vs.length
   .exact hi
   .rw[CA (by simpa using hi)] at h2
    rw[DN] at h2;split at h2<;>cases h2
  have ha:vs[i]?=AA v:=by
   unfold start at h2;rw[B9 (by simpa using hi),AV] at h2
   cases e:vs[i]? with
   |none=>rw[e] at h2;cases h2
   |some a=>rw[e] at h2;cases h2;rfl
  obtain⟨u,hu,rv⟩:=r.get ha
  have hp:ps[i]?=AA y:=by
   rw[<-S.pre,MK (AQ hi (CY hl))];exact h1
  have Yo:ps.Nodup:=by rw[<-S.pre];exact S.nd.sublist (Q6 _ _)
  refine{u,rv,?_};rcases S.par y (CC hp) with k|k
  .exact .inl {k,Sr Yo hp hu k}
  .obtain⟨c,e⟩:=Rf (n:=s.heap.objs.size+1) k
   refine .inr {.inl k,c,e,?_};have q:=x.cell y c e;rw[Sq Yo hp hu (by show scope.names.lookup y≠_;rw[k];decide)] at q;exact q
 .exact e0.hok.fresh (CW (x.above y c (IT h)))
 .unfold start
  show _=N.length;rw[BN,AJ,C5];lia
theorem Cf{K:AC}{dV kV SY G3:AI}
  {Z9:Array (Option AI)} {N ps:List CN} {sp:Sp} (lk:K.lookup f=AA {oc,od,.func (FL name qual FG body scope dV kV SY pm an G3 ct),Z9}) (L9:JG K G3 qual=AK) (S:FnScope N ps scope)
  (len:∀vs H Q E,sp vs H Q E->vs.length=ps.length)
  (K4:∀(A:DP) (outer:List XZ) (s:AT) (H:Hp) (vs:List V) (Q:VK) (E:XK),Room k (A.deeper (G0 qual scope s.heap.objs.size f G3))->sp vs H Q E ->
   ∃t,PSs (TK CX P w K mg base N qual scope f G3 A outer s H E) body t/\t { nx:=λ_ H'=>Q .non H',rt:=Q } (start N vs) H) :
  FnOk P w K mg base CX (k+1) f (FL name qual FG body scope dV kV SY pm an G3 ct) ps sp:=by
 refine{len,λA outer s H args us vs Q E hr e0 hb r X3=>?_};have hl:=len _ _ _ _ X3;have KX:K.In s.heap:=e0.mod.kin.keeps λb o e=>(e0.bs b o e).1;have Js:s.heap.NoLimit:=e0.mod.nolimit.keeps λb o e=>(e0.bs b o e).1
 have wM:∀y∈ps.zip us,scope.names.lookup y.1=AA .local\/(scope.names.lookup y.1=AA .cell/\((cellsFrom (s.heap.objs.size+1) scope.names []).lookup y.1).isSome=AK):=λ⟨n,v⟩ hy=>by
  rcases S.par n (JB hy).1 with q|q
  .exact .inl q
  .exact .inr {q,MX _ _ _ (.inl q)}
 refine gS hr.depth (KX _ _ lk) rfl S.co S.gen rfl (Y9 KX L9) (hb _ _ _ _ ?_);refine Y0 S.kind wM λenv he s1 x=>?_;subst he;refine{Js.keeps x.toInCall.keep,codeAny_func ?_};obtain⟨t,ht,hq⟩:=K4 A outer s H vs Q E (hr.deeper _) X3;have I:Inv (TK CX P w K mg base N qual scope f G3 A outer s H E) [] (start N vs) H s1:=So S hr.hd e0 hl r x;refine DA (ht [] s1 (start N vs) H _ I hq) (λfl s' hs=>?_) λe s' hs=>hs
 have fin:∀{σ':St} {H':Hp} {v:V} {u:AI},Inv (TK CX P w K mg base N qual scope f G3 A outer s H E) [] σ' H' s'->RelV v u->Q v H'->CE outer P w H s Q u s' :=
  λ{σ' H' v u} J rv q=>{v,H',J.os,J.bare,J.base,J.hok,rv,q}
 cases fl with
 |ret u =>
  obtain⟨v,σ',H',J,rv,q⟩:=hs;exact fin J rv q
 |next =>
  obtain⟨σ',H',J,q⟩:=hs;exact fin (v:=V.non) (u:=FK) J rfl q
 |brk =>
  obtain⟨_,_,_,q⟩:=hs;exact HG q
 |cont =>
  obtain⟨_,_,_,q⟩:=hs;exact HG q
variable{r:List V->Hp->VK->Prop}
section
variable{t:TA}{id T:String}
def Ag(r:List V->Hp->VK->Prop)(t:TA):TE:=λσ H Q=>t σ H λvs H1=>r vs H1 Q
theorem tO(hc:CallR X (.builtin id) r)(hg:Gl X x)(hm:X.mg x=AN)(hv:GH x=AA (.builtin id))(ha:PA X (e::es) t)(hn:x≠"__name__":=by decide)(UA:(x==("__debug__":CN))=AD:=by decide)
  (he:AM (e::es) X.env=(AD,eval e X.env)::AM es X.env:=by rfl) (JV:(DD pos (AM es X.env)).any (·.1)=AD:=by rfl):PE X (.Call (.Name x p) (e::es) [] pos) (Ag r t):=by
 intro AF s σ H Q I h;refine HV (iH I hg hm hv ?_ hn UA);exact PyProof.Rows.callWith_builtin1 (GY (ha pos AF s σ H _ I h) (λus s1 q0=>by obtain⟨vs,H1,I1,r1,q1⟩:=q0;exact hc AF s1 σ H1 vs us Q I1 r1 q1)) he JV
theorem qC(hc:CallR X (.type T) r)(hg:Gl X x)(hm:X.mg x=AN)(hv:GH x=AA (.type T))(ha:PA X (e::es) t)(hn:x≠"__name__":=by decide)(UA:(x==("__debug__":CN))=AD:=by decide)
  (he:AM (e::es) X.env=(AD,eval e X.env)::AM es X.env:=by rfl) (JV:(DD pos (AM es X.env)).any (·.1)=AD:=by rfl):PE X (.Call (.Name x p) (e::es) [] pos) (Ag r t):=by
 intro AF s σ H Q I h;refine HV (iH I hg hm hv ?_ hn UA);exact EO (GY (ha pos AF s σ H _ I h) (λus s1 q0=>by obtain⟨vs,H1,I1,r1,q1⟩:=q0;exact hc AF s1 σ H1 vs us Q I1 r1 q1)) he JV
end
end L2
variable{l:AR}{ns:List Int}{ws:List AI}{vl vu:AI}{hi:Option Int}
namespace HT
open PySem PyProof.Rows
noncomputable def lexLt:List Int->List Int->Bool
 |[],[]=>AD
 |[],_::_=>AK
 |_::_,[]=>AD
 |x::xs,y::ys=>if x=y then lexLt xs ys else decide (x<y)
theorem zO1(x y:Int)(xs ys:List Int):lexLt (x::xs) (y::ys)=if x=y then lexLt xs ys else decide (x<y):=rfl
theorem zIW:lexLt [] []=AD:=rfl
theorem zHO(y:Int)(ys:List Int):lexLt [] (y::ys)=AK:=rfl
theorem zHP(x:Int)(xs:List Int):lexLt (x::xs) []=AD:=rfl
theorem zTM(A:DP)(s:AT)(a:Int)(t:eP)(c:Int)(u:eP):∃e,SeqAt.EqAt A s (.int a t) (.int c u) e/\(e=AK↔a=c) :=
 {(a==c),SeqAt.EqAt.int_int a t c u,by simp}
theorem zTN(A:DP)(s:AT)(a:Int)(t:eP)(c:Int)(u:eP)(prog:CO)(w:D2)(E:AI->AT->Prop)(Q:AI->AT->Prop)(h:Q (.bool (decide (a<c))) s) :
  A0 (A6 prog w) A (richCompare .Lt (.int a t) (.int c u)) Q E s :=
 (PyProof.Rows.lt_int h:A0 (A6 prog w) A (EX .Lt (.int a t) (.int c u)) Q E s)
section
open PySem.SeqAt
open PySem.AutoSeq1 (wpAny_loadPart')
open PySem.MeetsSeq PySem.MeetsSeq2 PySem.MeetsSeq3
theorem zIX(l b:AR)(items LR:Array AI)(n n2:Nat)(dd lU:Option AR)(sl k6:Array (Option AI))(ns ms:List Int)(hi:FX items.toList ns)(hj:FX LR.toList ms) :
  Meets (ES.«tuple.__lt__» {[.ref l,.ref b],[]})
   (λ_ R s=>s.heap.get? l=AA { cls:=.type "tuple",dict:=dd,data:=.seq items n,slots:=sl }/\s.heap.get? b=AA { cls:=.type "tuple",dict:=lU,data:=.seq LR n2,slots:=k6 } /\
    R (.ok (.ret (.bool (lexLt ns ms)))) s) :=
 .of_wp λprog w A R s h=>by
  obtain⟨hp,g,d,tk,os⟩:=s;obtain⟨hl,hb,h⟩:=h;have f2:=AutoSeq1.sub_tuple_tuple;have z1:items.size=ns.length:=by rw[<-hi.length];simp
  have z2:LR.size=ms.length:=by rw[<-hj.length];simp
  wp_walk using wpAny_loadPart' hl,wpAny_loadPart' hb,wpAny_forIn_list _ (λrest b s'=>b.1=AN/\s'={hp,g,d,tk,os}/\∃(vs ws:List AI) (rK rM:List Int),rest=vs.zip ws /\
   FX vs rK/\FX ws rM/\rK.length+LR.size=rM.length+items.size/\R (.ok (.ret (.bool (lexLt rK rM)))) {hp,g,d,tk,os}) _
  case turn =>
   rintro⟨y,x⟩ rest b s' ⟨jH,rfl,vs,ws,rK,rM,hz,Kb,Be,ET,hR⟩
   cases Kb with
   |nil=>rw[List.zip_nil_left] at hz;cases hz
   |cons a t hvi' =>
    cases Be with
    |nil=>rw[List.zip_nil_right] at hz;cases hz
    |cons c u hwi' =>
     rw[P7] at hz;injection hz with hyx hrest;injection hyx with hy hx;subst hy hx;rw[zO1] at hR;simp only[BC] at ET;obtain⟨e,he,wR⟩:=zTM A.in1 {hp,g,d,tk,os} a t c u;refine AB (he prog w _ _ ?_)
     cases e with
     |true =>
      rw[if_pos (wR.mp rfl)] at hR
      wp_walk
      exact{rfl,rfl,_,_,_,_,hrest,hvi',hwi',by lia,hR}
     |false =>
      rw[if_neg (λq=>absurd (wR.mpr q) CH)] at hR;have hri:=zTN A.in1 {hp,g,d,tk,os} a t c u prog w
      wp_walk using hri
      exact{_,rfl,by simpa using hR}
  case fin =>
   rintro⟨b1,b2⟩ s' ⟨jH,rfl,vs,ws,rK,rM,hz,Kb,Be,ET,hR⟩;simp only at jH;subst jH
   have hv:lexLt rK rM=decide (items.size<LR.size):=by
    cases Kb with
    |nil =>
     cases Be with
     |nil =>
      simp only[JC] at ET;rw[zIW];exact(decide_eq_false 'l').symm
     |cons c u hw =>
      simp only[JC,BC] at ET;rw[zHO];exact(decide_eq_true 'l').symm
    |cons a t hv =>
     cases Be with
     |nil =>
      simp only[JC,BC] at ET;rw[zHP];exact(decide_eq_false 'l').symm
     |cons c u hw =>
      rw[P7] at hz;cases hz
   rw[hv] at hR
   wp_walk
   exact{_,rfl,by simpa[Builtin.Tuple.tupleCompareSizes] using hR}
  case h =>
   exact{rfl,rfl,items.toList,LR.toList,ns,ms,rfl,hi,hj,by lia,h}
end
theorem lt_tupInts{b:AR}{LR:Array AI}{ms:List Int}(hl:UM s.heap l items)(hb:UM s.heap b LR)(hi:FX items.toList ns)(hj:FX LR.toList ms)
  (hu:A.units<GT) (h:Q (.bool (lexLt ns ms)) s):A0 (A6 prog w) A (EX .Lt (.ref l) (.ref b)) Q E s:=by
 obtain⟨⟨cls,dd,data,sl⟩,ho,hc,n,hd⟩:=id hl;obtain⟨⟨xJ,lU,data2,k6⟩,ZM,eA,n2,gK⟩:=id hb;simp only at hc hd eA gK;subst hc hd eA gK
 exact richCompare_meets_room (op:=.Lt) {_,ho,rfl} {_,ZM,rfl} PySem.F.slot_tuple_lt PySem.F.entry_tuple_lt (PySem.F.args_tuple_lt_2 _ _) (zIX l b items LR n n2 dd lU sl k6 ns ms hi hj)
  {ho,ZM,show JA (lexLt ns ms)≠Value.notImplemented/\Q (.bool (lexLt ns ms)) s from{(λx=>nomatch x),h}} hu
theorem cat_tup{t b:AR}{vs:List AI}(ht:UM s.heap t vs.toArray)(hb:UM s.heap b ws.toArray)(hv:vs≠[])
  (h1:ws=[]->Q (.ref t) s) (h2:ws≠[]->Q (.ref s.heap.objs.size) { s with heap:=s.heap.push { cls:=.type "tuple",data:=.seq (vs++ws).toArray } })
  (hsz:vs.length+ws.length<=sizeLine):A0 (A6 prog w) A (G6 .Add (.ref t) (.ref b)) Q E s:=by
 obtain⟨⟨cls,dd,data,sl⟩,ho,hc,n,hd⟩:=id ht;obtain⟨⟨xJ,lU,data2,k6⟩,ZM,eA,n2,gK⟩:=id hb;simp only at hc hd eA gK;subst hc hd eA gK;have e:vs.toArray++ws.toArray=(vs++ws).toArray:=by simp
 by_cases hw:ws=[]
 .exact UF {_,ho,rfl} {_,ZM,rfl} WF aH MY MC (LX _ _)
   (tuple_addW1 t b vs.toArray ws.toArray n n2 dd lU sl k6 (by simpa using hv) (by simp[hw])) {ho,ZM,h1 hw}
 .refine UF {_,ho,rfl} {_,ZM,rfl} WF aH MY MC (LX _ _)
   (tuple_addW2 t b vs.toArray ws.toArray n n2 dd lU sl k6 (by simpa using hv) (by simpa using hw) (by rw[A4,A4];exact hsz)) {ho,ZM,?_}
  rw[e];exact h2 hw
noncomputable def sIx(n d:Nat):Option Int->Nat
 |none=>d
 |some v=>if v<0 then(v+(n:Int)).toNat else min v.toNat n
theorem yCC(n d:Nat)(hd:d<=n)(o:Option Int):sIx n d o<=n:=by
 cases o with
 |none=>exact hd
 |some v =>
  show(if v<0 then(v+(n:Int)).toNat else min v.toNat n)<=n
  by_cases hv:v<0
  .rw[if_pos hv];lia
  .rw[if_neg hv];exact Nat.min_le_right _ _
theorem Qe(v:Int)(n d:Nat):(if v<0 then max (v+(n:Int)) 0 else min v (n:Int))=((sIx n d (AA v):Nat):Int):=by
 show(if v<0 then max (v+(n:Int)) 0 else min v (n:Int))=(((if v<0 then(v+(n:Int)).toNat else min v.toNat n):Nat):Int)
 by_cases hv:v<0
 .simp only[if_pos hv];lia
 .simp only[if_neg hv];lia
theorem zO2(lo hi:Option Int)(n:Nat):KI lo hi 1 (n:Int)=(((sIx n 0 lo:Nat):Int),((sIx n n hi:Nat):Int)):=by
 have h1:¬((1:Int)<0):=by lia
 unfold KI;simp only[h1,if_false];refine ZS ?_ ?_
 .cases lo with
  |none=>rfl
  |some v=>exact Qe v n 0
 .cases hi with
  |none=>rfl
  |some v=>exact Qe v n n
theorem zO3(i j:Nat):HP (i:Int) (j:Int) 1=j-i:=by
 unfold HP;have h1:(1:Int)>0:=by lia
 simp only[h1,if_true,Int.ediv_one];split<;>lia
theorem Tw{v:AI}{o:Option Int}{Q:Option Int->AT->Prop}(p:QT v o)(h:Q o s):A0 (A6 prog w) A (Builtin.Slice.slicePartIndex v) Q E s:=by
 cases p with
 |none=>exact slicePart_none h
 |int i t=>exact slicePart_int h
theorem sliceApplied_gen{sl:AR}{lo:Option Int}{Q:Int×Int×Nat->AT->Prop}(hs:s.heap.IsSliceOf sl vl vu .none)(pl:QT vl lo)(pu:QT vu hi)
  (h:Q (((sIx n 0 lo:Nat):Int),1,sIx n n hi-sIx n 0 lo) s):A0 (A6 prog w) A (P3 (.ref sl) (pure (n:Int))) Q E s:=by
 obtain⟨os,oI,dY,YW⟩:=id hs;unfold P3 Builtin.Slice.sliceFields;refine AB (AB (CS oI YW (x:=vl) rfl (AB (CS oI YW (x:=vu) rfl (AB (CS oI YW (x:=.none) rfl (wpAny_pure ?_)))))));refine AB (slicePart_none ?_);show A0 _ _ (if((1:Int)==0)=AK then _ else _) _ _ s;rw[if_neg 'd'];refine AB (Tw pl (AB (Tw pu (AB (wpAny_pure ?_)))));show A0 _ _ (match KI lo hi 1 (n:Int) with|(lo,hi)=>pure (lo,(1:Int),HP lo hi 1)) _ _ s;rw[zO2 lo hi n];show A0 _ _ (pure (((sIx n 0 lo:Nat):Int),(1:Int),HP ((sIx n 0 lo:Nat):Int) ((sIx n n hi:Nat):Int) 1)) _ _ s;rw[zO3];exact wpAny_pure h
theorem zTO(xs:Array AI)(i k:Nat):((DB k).filterMap λ(m:Nat)=>xs[((i:Int)+(m:Int) * 1).toNat]?).toArray=((xs.toList.drop i).take k).toArray:=by
 have e:(λ(m:Nat)=>xs[((i:Int)+(m:Int) * 1).toNat]?)=λm=>xs[i+m]?:=by
  funext m
  have:((i:Int)+(m:Int) * 1).toNat=i+m:=by lia
  rw[this]
 rw[e];have:=pick_run xs i k;rw[List.filterMap_map] at this;have e2:((λx=>xs[x]?)∘λx=>i+x)=λm=>xs[i+m]?:=rfl;rw[e2] at this;rw[this]
theorem getItem_tuple_cut{t sl:AR}{lo:Option Int}(ht:UM s.heap t items)(hs:s.heap.IsSliceOf sl vl vu .none)(pl:QT vl lo)(pu:QT vu hi)
  (hw:¬(sIx items.size 0 lo=0/\sIx items.size items.size hi=items.size))
  (h:Q (.ref s.heap.objs.size) { s with heap:=s.heap.push { cls:=.type "tuple",data:=.seq ((items.toList.drop (sIx items.size 0 lo)).take (sIx items.size items.size hi-sIx items.size 0 lo)).toArray } })
  (hsz:items.size<=sizeLine):A0 (A6 prog w) A (Q1 (.ref t) (.ref sl)) Q E s:=by
 have ZL:sizeOk (.seq ((items.toList.drop (sIx items.size 0 lo)).take (sIx items.size items.size hi-sIx items.size 0 lo)).toArray):=by
  show((items.toList.drop (sIx items.size 0 lo)).take (sIx items.size items.size hi-sIx items.size 0 lo)).toArray.size<=sizeLine;rw[A4,EB,R9,KZ];lia
 have hj:sIx items.size items.size hi<=items.size:=yCC _ _ (AL _) hi;obtain⟨os,oI,dY,YW⟩:=id hs;have Ma:s.TypeIs (.ref sl) "slice":={os,oI,dY};unfold Q1
 try with_reducible refine DQ ?_
 first|refine AB (wpAny_pure ?_)|skip
 refine AB (wpAny_sequenceKey ht.typeIs 'd' ?_)
 refine AB (C9 (name:=EU "__getitem__") ht.typeIs EC
  (C8 EC ht.typeIs lY ?_ (args_tuple_getitem _ _)))
 show A0 _ _ (P1 (.ref t) >>= _) _ _ s;refine AB (tupleItemsOf_ ht ?_);refine AB (eK Ma ?_);rw[if_pos 'd'];refine AB (sliceApplied_gen hs pl pu ?_)
 have hno:¬((((sIx items.size 0 lo:Nat):Int)==0&&(1:Int)==1&&(sIx items.size items.size hi-sIx items.size 0 lo)==items.size)=AK):=by
  intro q;rw[EK,EK] at q;have q1:((sIx items.size 0 lo:Nat):Int)=0:=eq_of_beq q.1.1;have q2:sIx items.size items.size hi-sIx items.size 0 lo=items.size:=eq_of_beq q.2;exact hw {by lia,by lia}
 show A0 _ _ (if(((sIx items.size 0 lo:Nat):Int)==0&&(1:Int)==1&&(sIx items.size items.size hi-sIx items.size 0 lo)==items.size)=AK then _ else _) _ _ s;rw[if_neg hno,zTO]
 first
  |exact AB (m:=HZ _) (DU (wpAny_pure {_,rfl,wpAny_pure h}) ZL)
  |exact AB (m:=HZ _) (DU (AB (wpAny_pure (wpAny_pure {_,rfl,wpAny_pure h}))) ZL)
  |exact AB (AB (m:=HZ _) (DU (wpAny_pure (wpAny_pure {_,rfl,wpAny_pure h})) ZL))
  |exact AB (AB (m:=HZ _) (DU (wpAny_pure {_,rfl,wpAny_pure h}) ZL))
end HT
variable{X:L2.Cx}{te ta tv:L2.TE}{p2 FQ:YA}{xs ys zs:List L2.V}{σ:L2.St}{H H':L2.Hp}{r:List L2.V->L2.Hp->L2.VK->Prop}{y v:L2.V}{kvs:List (List L2.Key×L2.V)}{kZ:List (L2.TE×L2.TE)}{tb:L2.TE}
namespace L2
open PySem PySem.Spec PyProof.Rows
abbrev TO:=St->Hp->(Option Int->Hp->Prop)->Prop
def PO(X:Cx)(e:Option CU)(t:TO):Prop :=
 ∀(AF:List (AR×HL)) (s:AT) (σ:St) (H:Hp) (Q:Option Int->Hp->Prop),Inv X AF σ H s->t σ H Q ->
  A0 (A6 X.prog X.w) X.A (evalPart e X.env) (λu s'=>∃o H',Inv X AF σ H' s'/\QT u o/\Q o H') X.xe s
def zYF:TO:=λ_ H Q=>Q AN H
def yFN(t:TE):TO:=λσ H Q=>t σ H λx H1=>∃i,x=.int i/\Q (AA i) H1
theorem iN:∀{us:List AI},Vals (ns.map V.int) us->FX us ns:=by
 induction ns with
 |nil=>intro us r;rw[NK] at r;cases r;exact .nil
 |cons n ns ih =>
  intro us r;rw[AU] at r
  cases r with
  |cons r1 r2 =>
   obtain⟨t,e⟩:=r1;subst e;exact .cons n t (ih r2)
section
variable{lo hi:Option CU}{tl th:TO}
theorem iR:PO X AN zYF:=by
 intro AF s σ H Q I h;rw[evalPart_none];exact wpAny_pure {AN,H,I,.none,h}
theorem zYG(h:PE X e te):PO X (AA e) (yFN te):=by
 intro AF s σ H Q I hw;rw[evalPart_some];refine GY (h AF s σ H _ I hw) λu s1 q0=>?_;obtain⟨x,H1,I1,r1,q1⟩:=q0;obtain⟨i,rfl,q⟩:=q1;obtain⟨t,rfl⟩:=r1;exact{AA i,H1,I1,.int i t,q}
def SlR(X:Cx)(r:V->Option Int->Option Int->Hp->VK->Prop):Prop :=
 ∀(AF:List (AR×HL)) (s:AT) (σ:St) (H:Hp) (x:V) (v vl vu:AI) (lo hi:Option Int) (sl:AR) (Q:VK),Inv X AF σ H s->RelV x v->s.heap.IsSliceOf sl vl vu .none->QT vl lo->QT vu hi->r x lo hi H Q ->
  ∃T id,typeLookup (.type T) "__getitem__"=pure (AA (.builtin id))/\s.TypeIs v T/\A0 (A6 X.prog X.w) X.A (Q1 v (.ref sl)) (EP X AF σ Q) X.xe s
theorem SlR.or{r r':V->Option Int->Option Int->Hp->VK->Prop}(h:SlR X r)(h':SlR X r'):SlR X (λx lo hi H Q=>r x lo hi H Q\/r' x lo hi H Q):=by
 intro AF s σ H x v vl vu lo hi sl Q I rx hs pl pu q;rcases q with q|q
 .exact h AF s σ H x v vl vu lo hi sl Q I rx hs pl pu q
 .exact h' AF s σ H x v vl vu lo hi sl Q I rx hs pl pu q
def tSl(r:V->Option Int->Option Int->Hp->VK->Prop)(te:TE)(tl th:TO):TE:=λσ H Q=>te σ H λx H1=>tl σ H1 λl H2=>th σ H2 λu H3=>r x l u H3 Q
theorem zTP{r:V->Option Int->Option Int->Hp->VK->Prop}(hr:SlR X r)(he:PE X e te)(hl:PO X lo tl)(hu:PO X hi th):PE X (.Subscript e (.Slice lo hi AN p2) pos) (tSl r te tl th):=by
 intro AF s σ H Q I h;refine Subscript_ (GY (he AF s σ H _ I h) λv s1 ⟨x,H1,I1,r1,q1⟩=>?_);refine wpAny_Slice (GY (hl AF s1 σ H1 _ I1 q1) λvl s2 ⟨l,H2,I2,pl,q2⟩=>GY (hu AF s2 σ H2 _ I2 q2) λvu s3 ⟨u,H3,I3,pu,q3⟩=>?_);rw[evalPart_none];refine wpAny_pure ?_;have I4:Inv X AF σ H3 { s3 with heap:=s3.heap.push { cls:=.type "slice",data:=.fields #[vl,vu,.none] } }:=I3.kept (t':=s3.toks) λb ob q=>AG _ q;obtain⟨T,id,hT,ht,hg⟩:=hr AF { s3 with heap:=s3.heap.push { cls:=.type "slice",data:=.fields #[vl,vu,.none] } } σ H3 x v vl vu l u s3.heap.objs.size Q I4 r1 (Heap.IsSliceOf.new ..) pl pu q3;show A0 (A6 X.prog X.w) X.A (subscriptTail e (.Slice lo hi AN p2) v (.ref s3.heap.objs.size)) (EP X AF σ Q) X.xe { s3 with heap:=s3.heap.push { cls:=.type "slice",data:=.fields #[vl,vu,.none] } };exact tail_any (ops:=[.ref s3.heap.objs.size,v]) ht hT hg (by with_unfolding_all rfl)
noncomputable def ZD(xs:List V)(lo hi:Option Int):List V:=(xs.drop (HT.sIx xs.length 0 lo)).take (HT.sIx xs.length xs.length hi-HT.sIx xs.length 0 lo)
theorem Ud(xs:List V)(lo hi:Option Int):(ZD xs lo hi).length<=xs.length:=by
 unfold ZD;rw[EB,R9];lia
def yIA(K:AC):V->Option Int->Option Int->Hp->VK->Prop:=λx lo hi H Q=>∃a xs,x=.ref a/\SqT K H a xs /\
 ¬(HT.sIx xs.length 0 lo=0/\HT.sIx xs.length xs.length hi=xs.length)/\∀p,H p=AN->Q (.ref p) (D5 H p (.tup (ZD xs lo hi)))
theorem yCD:SlR X (yIA X.K):=by
 intro AF s σ H x v vl vu lo hi sl Q I rx hs pl pu h;obtain⟨a,xs,rfl,hx,hw,q⟩:=h;cases rx;obtain⟨CI,r,ht,hz⟩:=I.tuple hx;have ET:CI.toArray.size=xs.length:=by rw[A4];exact r.length.symm
 refine{"tuple",_,EC.lookup,ht.typeIs,?_};refine HT.getItem_tuple_cut ht hs pl pu (by rw[ET];exact hw) ?_ (by rw[ET];exact hz);rw[ET];refine{.ref s.heap.objs.size,_,I.laid (t':=s.toks) (o:=.tup (ZD xs lo hi)) (λb ob q=>AG _ q) (AL _) ?_,rfl,q _ (I.hok.fresh (AL _))};exact{AX (Ud xs lo hi) hz,_,(r.drop (HT.sIx xs.length 0 lo)).take (HT.sIx xs.length xs.length hi-HT.sIx xs.length 0 lo),IsTupP.new _ _}
def Vo(K:AC):R2:=λx y H Q=>∃a b ns ms,x=.ref a/\y=.ref b/\SqT K H a (ns.map V.int)/\SqT K H b (ms.map V.int)/\Q (.bl (HT.lexLt ns ms)) H
theorem yCE(hu:X.A.units<GT):OpR X (EX .Lt) (Vo X.K):=by
 intro AF s σ H x y v u Q I rx ry h;obtain⟨a,b,ns,ms,rfl,rfl,ha,hb,q⟩:=h;cases rx;cases ry;obtain⟨CI,r1,p1,_⟩:=I.tuple ha;obtain⟨L8,r2,p2,_⟩:=I.tuple hb;have i1:FX CI.toArray.toList ns:=iN r1;have i2:FX L8.toArray.toList ms:=iN r2;exact HT.lt_tupInts p1 p2 i1 i2 hu {.bl (HT.lexLt ns ms),H,I,rfl,q}
theorem Vals.nil_iff(r:Vals xs us):us=[]↔xs=[]:=by
 cases r with
 |nil=>simp
 |cons _ _=>simp
end
noncomputable def YH(n:Nat)(i:Int):Option Nat:=if 0<=i then(if i<n then AA i.toNat else AN) else if -(n:Int)<=i then AA (i+n).toNat else AN
def atI(xs:List α)(i:Int):Option α:=(YH xs.length i).bind λj=>xs[j]?
theorem Qd{i:Int}(h:YH n i=AA j):seqIndex? i n=AA j/\j<n/\-(n:Int)<=i/\i<n:=by
 unfold YH at h
 by_cases h0:0<=i
 .rw[if_pos h0] at h
  by_cases h1:i<n
  .rw[if_pos h1] at h
   have e:i.toNat=j:=BL h;exact{by rw[WR h0 h1,e],by lia,by lia,h1}
  .rw[if_neg h1] at h;cases h
 .rw[if_neg h0] at h
  by_cases h1:-(n:Int)<=i
  .rw[if_pos h1] at h
   have e:(i+n).toNat=j:=BL h;exact{by rw[seqIndex_neg 'l' h1,e],by lia,h1,by lia}
  .rw[if_neg h1] at h;cases h
theorem Dx{xs:List α}{i:Int}{v:α}(h:atI xs i=AA v):∃j,seqIndex? i xs.length=AA j/\xs[j]?=AA v/\j<xs.length/\-(xs.length:Int)<=i/\i<xs.length:=by
 unfold atI at h
 cases e:YH xs.length i with
 |none=>rw[e] at h;cases h
 |some j =>
  rw[e] at h;obtain⟨h1,h2,h3,h4⟩:=Qd e;exact{j,h1,h,h2,h3,h4}
theorem Qc{xs:List α}{v:α}(h:xs[j]?=AA v):atI xs (j:Int)=AA v:=by
 have hj:j<xs.length:=(AE.mp h).1
 have e:YH xs.length (j:Int)=AA j:=by
  unfold YH;rw[if_pos (Int.natCast_nonneg _),if_pos 'l'];simp
 unfold atI;rw[e];exact h
def Qb(b:CU):Prop:=∀o i,subscripted b AD o i=operate [o,i] (Q1 o i)
def IxR(X:Cx)(r:R2):Prop :=
 ∀(JQ PL:CU) (AF:List (AR×HL)) (s:AT) (σ:St) (H:Hp) (x y:V) (v u:AI) (Q:VK),Inv X AF σ H s->RelV x v->RelV y u->r x y H Q ->
  subscripted PL AD v u=operate [v,u] (Q1 v u)->A0 (A6 X.prog X.w) X.A (subscriptTail JQ PL v u) (EP X AF σ Q) X.xe s
def Ar(X:Cx)(id:String)(r:V->List V->Hp->VK->Prop):Prop :=
 ∀(AF:List (AR×HL)) (s:AT) (σ:St) (H:Hp) (x:V) (xs:List V) (v:AI) (us:List AI) (Q:VK),Inv X AF σ H s->RelV x v->Vals xs us->r x xs H Q ->
  A0 (A6 X.prog X.w) X.A (call (.builtin id) (v::us)) (EP X AF σ Q) X.xe s
section
variable{a b:CU}
theorem IxR.or{r r':R2}(h:IxR X r)(h':IxR X r'):IxR X (λx y H Q=>r x y H Q\/r' x y H Q):=by
 intro JQ PL AF s σ H x y v u Q I rx ry q hs;rcases q with q|q
 .exact h JQ PL AF s σ H x y v u Q I rx ry q hs
 .exact h' JQ PL AF s σ H x y v u Q I rx ry q hs
theorem Ce{r:R2}(hr:IxR X r)(ha:PE X a ta)(hb:PE X b tb)(hs:Qb b):PE X (.Subscript a b pos) (kU r ta tb):=by
 intro AF s σ H Q I h;exact Subscript_ (Gw ha hb I h λv u s2 x y H2 I2 rx ry q=>hr a b AF s2 σ H2 x y v u Q I2 rx ry q (hs _ _))
def Vn(K:AC):R2:=λx y H Q=>∃p xs i v,x=.ref p/\y=.int i/\SqL K H p xs/\atI xs i=AA v/\Q v H
def Vm(K:AC):R2:=λx y H Q=>∃p xs i v,x=.ref p/\y=.int i/\SqT K H p xs/\atI xs i=AA v/\Q v H
def Vl:R2:=λx y H Q=>∃z i c,x=.str z/\y=.int i/\z.length<=sizeLine/\atI z.cps.toList i=AA c/\Q (.str {#[c]}) H
theorem ZI:IxR X (Vn X.K):=by
 intro JQ PL AF s σ H x y v u Q I rx ry h hs;obtain⟨p,xs,i,z,rfl,rfl,hq,he,q⟩:=h;cases rx;obtain⟨t,rfl⟩:=ry;obtain⟨CI,r,pl,hz⟩:=I.list hq;obtain⟨j,h1,h2,h3,h4,h5⟩:=Dx he;obtain⟨w,ew,KO⟩:=r.get h2;have hl:=r.length;have hn:=kL;have fin:EP X AF σ Q w s:={z,H,I,KO,q}
 by_cases h0:0<=i
 .have hj:i.toNat=j:=by
   rw[WR h0 h5] at h1;exact BL h1
  exact item_listR pl.isList h0 'l' (by rw[hj];simpa using ew) fin hs
 .have hj:(i+(CI.toArray.size:Int)).toNat=j:=by
   rw[seqIndex_neg 'l' h4] at h1;rw[A4,<-hl];exact BL h1
  exact eN (x:=w) pl.isList.typeIs slot_list_getitem.lookup
   (wpAny_getItem_list_neg (Q:=λr s'=>r=w/\EP X AF σ Q r s') pl.isList 'l' (by rw[A4]<;>lia) 'l' (by rw[hj];simpa using ew) {rfl,fin}) hs
theorem nK:IxR X (Vm X.K):=by
 intro JQ PL AF s σ H x y v u Q I rx ry h hs;obtain⟨p,xs,i,z,rfl,rfl,hq,he,q⟩:=h;cases rx;obtain⟨t,rfl⟩:=ry;obtain⟨CI,r,pl,hz⟩:=I.tuple hq;obtain⟨j,h1,h2,h3,h4,h5⟩:=Dx he;obtain⟨w,ew,KO⟩:=r.get h2;have hl:=r.length;have hn:=kL;have fin:EP X AF σ Q w s:={z,H,I,KO,q}
 exact eN (x:=w) pl.typeIs slot_tuple_getitem.lookup
  (getItem_tuple (j:=j) (Q:=λr s'=>r=w/\EP X AF σ Q r s') pl 'l' 'l' (by rw[A4,<-hl];exact h1) (by simpa using ew) {rfl,fin}) hs
theorem yCF:IxR X Vl:=by
 intro JQ PL AF s σ H x y v u Q I rx ry h hs;obtain⟨z,i,c,rfl,rfl,hz,he,q⟩:=h;obtain⟨t,rfl⟩:=rx;obtain⟨t',rfl⟩:=ry;obtain⟨j,h1,h2,h3,h4,h5⟩:=Dx he;have hl:z.cps.toList.length=z.length:=by simp[Str.length]
 rw[hl] at h1 h4 h5;have hn:=kL
 exact tail_any (typeIs_str s z t) slot_str_getitem.lookup (getItem_str (c:=c) (by
  have e1:decide (i < -(2 ^ 63:Int))=AD:=decide_eq_false 'l';have e2:decide (i>=2 ^ 63)=AD:=decide_eq_false 'l'
  rw[e1,e2,Bool.or_false]) (by rw[h1];simpa using h2) {.str {#[c]},H,I.tok _,{_,rfl},q}) hs
def Xa(K:AC):R2:=λx y H Q=>Vn K x y H Q\/Vm K x y H Q\/Vl x y H Q
theorem nL:IxR X (Xa X.K):=ZI.or (nK.or yCF)
theorem zO4(CI:List AI)(n j:Nat)(u:AI):C6 (·.setIfInBounds j u) { cls:=.type "list",data:=.seq CI.toArray n }={ cls:=.type "list",data:=.seq (CI.set j u).toArray n }:=by
 simp[C6]
theorem Inv.lst{AF:List (AR×HL)}{σ:St}{H:Hp}{s:AT}{p:AR}{xs:List V}(I:Inv X AF σ H s)(h:H p=AA (.lst xs)) :
  ∃(CI:List AI) (n:Nat),Vals xs CI/\s.heap.get? p=AA { cls:=.type "list",data:=.seq CI.toArray n }/\xs.length<=sizeLine:=by
 obtain⟨z,CI,n,r,e⟩:=I.hok p _ h;exact{CI,n,r,e,z}
theorem Inv.lstUpd{p:AR}{OD:List AI}{n':Nat}{f:HL->HL}(I:Inv X AF σ H s)(h:H p=AA (.lst xs))
  (ho:s.heap.get? p=AA { cls:=.type "list",data:=.seq CI.toArray n }) (hf:f { cls:=.type "list",data:=.seq CI.toArray n }={ cls:=.type "list",data:=.seq OD.toArray n' }) (r:Vals ys OD) (hz:ys.length<=sizeLine) (t:Nat) :
  Inv X AF σ (D5 H p (.lst ys)) { s with heap:=s.heap.update p f,toks:=t }:=by
 have e:(s.heap.update p f).get? p=AA { cls:=.type "list",data:=.seq OD.toArray n' }:=by
  rw[OA f ho (by rw[hf]<;>rfl),hf]
 refine I.write (x:=p) (e:=p) (by rw[h];trivial) (.inl rfl) (λb u hb q=>(YB _ _ (E7 hb)).trans q) {_,e} ?_;exact{hz,OD,n',r,e}
def yFO:V->V->V->Hp->(Hp->Prop)->Prop:=λo i v H Q=>∃p xs k j,o=.ref p/\i=.int k/\H p=AA (.lst xs)/\YH xs.length k=AA j/\Q (D5 H p (.lst (xs.set j v)))
theorem zTQ:Vs X yFO:=by
 intro AF s σ H o i v ov iv u Q I ro ri rv h;obtain⟨p,xs,k,j,rfl,rfl,hp,hj,q⟩:=h;cases ro;obtain⟨t,rfl⟩:=ri;obtain⟨CI,n,r,ho,hz⟩:=I.lst hp;obtain⟨h1,h2,h3,h4⟩:=Qd hj;have hl:=r.length;have hn:=kL
 have I':Inv X AF σ (D5 H p (.lst (xs.set j v))) { s with heap:=s.heap.update p (C6 (·.setIfInBounds j u)) } :=
  I.lstUpd hp ho (zO4 CI n j u) (r.set rv j) (by rw[BW];exact hz) s.toks
 by_cases h0:0<=k
 .have hk:k.toNat=j:=by
   rw[WR h0 h4] at h1;exact BL h1
  exact PySem.W.ki_setAt ho h0 'l' (by rw[A4,<-hl];exact h4) (by rw[hk];exact{_,I',q})
 .have hk:(k+(CI.toArray.size:Int)).toNat=j:=by
   rw[seqIndex_neg 'l' h3] at h1;rw[A4,<-hl];exact BL h1
  exact PySem.W.ki_setBack ho 'l' (by rw[A4,<-hl];exact h3) 'l' (by rw[hk];exact{_,I',q})
theorem zKU(lo hi:Option Int)(n:Nat):(LF lo hi AN n).1=((HT.sIx n 0 lo:Nat):Int)/\(LF lo hi AN n).2.1=((HT.sIx n n hi:Nat):Int)/\(LF lo hi AN n).2.2=1:=by
 refine{?_,?_,rfl}
 .cases lo with
  |none=>simp[LF,HT.sIx]
  |some i =>
   simp only[LF,HT.sIx,b7,show(1:Int)>0 by decide,if_true]
   by_cases h:i<0
   .simp only[h,if_true]<;>lia
   .simp only[h,if_false]<;>lia
 .cases hi with
  |none=>simp[LF,HT.sIx]
  |some i =>
   simp only[LF,HT.sIx,b7,show(1:Int)>0 by decide,if_true]
   by_cases h:i<0
   .simp only[h,if_true]<;>lia
   .simp only[h,if_false]<;>lia
theorem zIY(CI:List AI)(lo hi:Option Int):slicePick CI.toArray lo hi AN=((CI.drop (HT.sIx CI.length 0 lo)).take (HT.sIx CI.length CI.length hi-HT.sIx CI.length 0 lo)).toArray:=by
 obtain⟨h1,h2,h3⟩:=zKU lo hi CI.toArray.size;unfold slicePick;rw[h1,h2,h3];simp only[sliceRange_one,pick_run,A4]<;>rfl
def yIB(K:AC):V->Option Int->Option Int->Hp->VK->Prop:=λx lo hi H Q=>∃a xs,x=.ref a/\SqL K H a xs/\∀p,H p=AN->Q (.ref p) (D5 H p (.lst (ZD xs lo hi)))
theorem zYI:SlR X (yIB X.K):=by
 intro AF s σ H x v vl vu lo hi sl Q I rx hs pl pu h;obtain⟨a,xs,rfl,hx,q⟩:=h;cases rx;obtain⟨CI,r,ht,hz⟩:=I.list hx;have ET:=r.length;refine{"list",_,slot_list_getitem.lookup,ht.isList.typeIs,?_};refine wpAny_getItem_list_slice ht.isList hs pl pu .none 's' ?_ (by rw[A4]<;>lia);rw[zIY,<-ET];refine{.ref s.heap.objs.size,_,I.laid (t':=s.toks) (o:=.lst (ZD xs lo hi)) (λb ob q=>AG _ q) (AL _) ?_,rfl,q _ (I.hok.fresh (AL _))};exact{AX (Ud xs lo hi) hz,_,0,(r.drop (HT.sIx xs.length 0 lo)).take (HT.sIx xs.length xs.length hi-HT.sIx xs.length 0 lo),AW _ rfl}
theorem VY:CallR X (.builtin "len") (λxs H Q=>∃p ys,xs=[.ref p]/\(SqL X.K H p ys\/SqT X.K H p ys)/\Q (.int ys.length) H):=by
 intro AF s σ H xs us Q I r h;obtain⟨p,ys,rfl,hq,q⟩:=h;obtain⟨u,rfl,rx⟩:=W5 r;cases rx;have hn:=kL;rcases hq with hq|hq
 .obtain⟨CI,r',pl,hz⟩:=I.list hq
  have ET:=r'.length;exact Calls.call_len_list pl.isList (by simp only[A4]<;>lia) {.int ys.length,H,I.tok _,{s.toks+1,by rw[A4,ET]},q}
 .obtain⟨CI,r',pl,hz⟩:=I.tuple hq
  have ET:=r'.length;exact len_tuple pl (by simp only[A4]<;>lia) {.int ys.length,H,I.tok _,{s.toks+1,by rw[A4,ET]},q}
theorem VX:CallR X (.builtin "len") (λxs H Q=>∃z,xs=[.str z]/\z.length<=sizeLine/\Q (.int z.length) H):=by
 intro AF s σ H xs us Q I r h;obtain⟨z,rfl,hz,q⟩:=h;obtain⟨u,rfl,t,rfl⟩:=W5 r;have hn:=kL;exact len_str 'l' {.int z.length,H,I.tok _,{_,rfl},q}
theorem CallR.or{f:AI}{r':List V->Hp->VK->Prop}(h:CallR X f r)(h':CallR X f r'):CallR X f (λxs H Q=>r xs H Q\/r' xs H Q):=by
 intro AF s σ H xs us Q I rs q;rcases q with q|q
 .exact h AF s σ H xs us Q I rs q
 .exact h' AF s σ H xs us Q I rs q
theorem VU:CallR X (.type "list") (λxs H Q=>∃p ys,xs=[.ref p]/\(SqL X.K H p ys\/SqT X.K H p ys)/\∀l,H l=AN->Q (.ref l) (D5 H l (.lst ys))):=by
 intro AF s σ H xs us Q I r h;obtain⟨p,ys,rfl,hq,q⟩:=h;obtain⟨u,rfl,rx⟩:=W5 r;cases rx
 have fin:∀(CI:List AI),Vals ys CI->ys.length<=sizeLine->∀(h':D3) (c':Nat),(∀b o',s.heap.get? b=AA o'->h'.get? b=AA o') ->
   h'.get? s.heap.objs.size=AA { cls:=.type "list",dict:=AN,data:=.seq CI.toArray c',slots:=#[] }->EP X AF σ Q (.ref s.heap.objs.size) { s with heap:=h' }:=λCI r' hz h' c' kp e =>
  {.ref s.heap.objs.size,_,I.laid (t':=s.toks) kp (AL _) (show ObjOk X.prog X.w _ h' _ (.lst ys) from{hz,CI,c',r',e}),rfl,q _ (I.hok.fresh (AL _))}
 rcases hq with hq|hq
 .obtain⟨CI,r',pl,hz⟩:=I.list hq
  have ET:=r'.length;obtain⟨o,ho,hc,n,hd⟩:=pl.isList;exact call_list_seq p (.inl rfl) ho hc hd (λh' c' kp e=>fin CI r' hz h' c' kp e) (by simp only[A4]<;>lia)
 .obtain⟨CI,r',pl,hz⟩:=I.tuple hq
  have ET:=r'.length;obtain⟨o,ho,hc,n,hd⟩:=pl;exact call_list_seq p (.inr rfl) ho hc hd (λh' c' kp e=>fin CI r' hz h' c' kp e) (by simp only[A4]<;>lia)
theorem zIZ:CallR X (.type "tuple") (λxs H Q=>∃p ys,xs=[.ref p]/\((SqL X.K H p ys/\∀l,H l=AN->Q (.ref l) (D5 H l (.tup ys)))\/(SqT X.K H p ys/\Q (.ref p) H))):=by
 intro AF s σ H xs us Q I r h;obtain⟨p,ys,rfl,h⟩:=h;obtain⟨u,rfl,rx⟩:=W5 r;cases rx;rcases h with⟨hq,q⟩|⟨hq,q⟩
 .obtain⟨CI,r',pl,hz⟩:=I.list hq
  have ET:=r'.length;refine call_tuple_list pl.isList (λh' kp=>?_) (by simp only[A4]<;>lia);have I1:Inv X AF σ H { s with heap:=h' }:=I.kept (t':=s.toks) kp
  have I2:Inv X AF σ (D5 H h'.objs.size (.tup ys)) { s with heap:=h'.push { cls:=.type "tuple",data:=.seq CI.toArray } } :=
   I1.laid (t':=s.toks) (λb o e=>AG _ e) (AL _) (show ObjOk X.prog X.w _ _ _ (.tup ys) from{hz,CI,r',IsTupP.new _ _})
  exact{.ref h'.objs.size,_,I2,rfl,q _ (I1.hok.fresh (AL _))}
 .obtain⟨CI,r',pl,hz⟩:=I.tuple hq
  exact call_tuple_same pl {.ref p,H,I,rfl,q}
def Ad(K:AC)(T:String)(x:V)(H:Hp):Prop:=match x with
 |.str _=>T="str"
 |.int _=>T="int"
 |.ref p=>(T="list"/\∃xs,SqL K H p xs)\/(T="tuple"/\∃o,K.lookup p=AA o/\o.cls=.type "tuple"/\o.dict=AN) \/
   (T="dict"/\((∃kvs,H p=AA (.dK kvs))\/∃kvs,H p=AA (.dT kvs)))\/(T="set"/\∃S n,H p=AA (.set S n))
 |_=>False
theorem Of{T:String}{x:V}{v:AI}(I:Inv X AF σ H s)(r:RelV x v)(ty:Ad X.K T x H) :
  s.TypeIs v T/\∀a,v=.ref a->∃ob,s.heap.get? a=AA ob/\ob.dict=AN:=by
 cases x with
 |str z =>
  obtain⟨t,rfl⟩:=r;cases(show T="str" from ty);exact{typeIs_str s z t,λ_ e=>nomatch e}
 |int i =>
  obtain⟨t,rfl⟩:=r;cases(show T="int" from ty);exact{typeIs_int s i t,λ_ e=>nomatch e}
 |ref p =>
  cases r;rcases ty with⟨rfl,xs,hq⟩|⟨rfl,o,hk,hc,hd⟩|⟨rfl,hk⟩|⟨rfl,S,n,hk⟩
  .obtain⟨CI,_,pl,_⟩:=I.list hq
   refine{pl.isList.typeIs,λa e=>?_};cases e;obtain⟨o,n,e,c,hd,_⟩:=pl;exact{o,e,hd}
  .refine{{o,I.kIn p o hk,hc},λa e=>?_}
   cases e;exact{o,I.kIn _ o hk,hd}
  .have z:∃o,s.heap.get? p=AA o/\o.ExactDict:=by
    rcases hk with⟨kvs,hk⟩|⟨kvs,hk⟩
    .obtain⟨_,_,_,_,o,_,_,e,ex,_⟩:=I.hok p _ hk
     exact{o,e,ex}
    .obtain⟨_,_,_,_,o,_,_,e,ex,_⟩:=I.hok p _ hk
     exact{o,e,ex}
   obtain⟨o,e,ex⟩:=z;refine{{o,e,ex.1},λa e2=>?_};cases e2;exact{o,e,ex.2.1}
  .obtain⟨o,_,_,_,e,ex,_⟩:=I.hok p _ hk
   refine{{o,e,ex.1},λa e2=>?_};cases e2;exact{o,e,ex.2.1}
 |_=>exact HG ty
def yIC(K:AC)(T:String)(r:V->List V->Hp->VK->Prop)(to:TE):TE:=λσ H Q=>to σ H λx H1=>Ad K T x H1/\r x [] H1 Q
def Wz(K:AC)(T:String)(r:V->List V->Hp->VK->Prop)(to:TE)(t:TA):TE:=λσ H Q=>to σ H λx H1=>Ad K T x H1/\t σ H1 λxs H2=>r x xs H2 Q
variable{o:CU}{to:TE}{t:TA}{T id:String}{r:V->List V->Hp->VK->Prop}
theorem yCG(pa:PlainAttrs T)(slot:Slot T name id)(Ke:typeOf (.builtin id)=pure (.type "method_descriptor"))(hm:Ar X id r)(ho:PE X o to)
  (NT:IK o name X.env (eval o X.env)=eval o X.env:=by rfl) (NS:(K5.endLine==FQ.line)=AK:=by rfl):PE X (.Call (.Attribute o name K5) [] [] FQ) (yIC X.K T r to):=by
 intro AF s σ H Q I h;refine wpAny_Call_method0_late NT NS (GY (ho AF s σ H _ I h) λv s1 ⟨x,H1,I1,r1,ty,q1⟩=>?_);obtain⟨h1,h2⟩:=Of I1 r1 ty;exact{T,id,pa,slot,Ke,h1,h2,NF rfl (PySem.evalArgs_none (hm AF s1 σ H1 x [] v [] Q I1 r1 .nil q1))}
theorem sG(pa:PlainAttrs T)(slot:Slot T name id)(Ke:typeOf (.builtin id)=pure (.type "method_descriptor"))(hm:Ar X id r)(ho:PE X o to)(ha:PA X (e::es) t)
  (NT:IK o name X.env (eval o X.env)=eval o X.env:=by rfl)
  (YV:((DD FQ (AM (e::es) X.env)).all (λx=>!x.1)&&(UG FQ (NI [] X.env)).all (λx=>x.1.isSome)
   && decide ((e::es).length+([]:List KG).length+(if([]:List KG).isEmpty then 0 else 1)<30))=AK:=by rfl)
  (NS:(K5.endLine==FQ.line)=AK:=by rfl) (hs:AM (e::es) X.env=(AD,eval e X.env)::AM es X.env:=by rfl) (OZ:(DD FQ (AM es X.env)).any (·.1)=AD:=by rfl) :
  PE X (.Call (.Attribute o name K5) (e::es) [] FQ) (Wz X.K T r to t):=by
 intro AF s σ H Q I h;refine wpAny_Call_method_late NT YV NS rfl (GY (ho AF s σ H _ I h) λv s1 ⟨x,H1,I1,r1,ty,q1⟩=>?_);obtain⟨h1,h2⟩:=Of I1 r1 ty;refine{T,id,pa,slot,Ke,h1,h2,?_};have hA:=ha FQ AF s1 σ H1 _ I1 q1;rw[hs] at hA ⊢;refine NF (by show(AD||(DD FQ (AM es X.env)).any (·.1))=AD;rw[OZ]<;>rfl) (OK ?_);exact GY hA (λus s2 q0=>by obtain⟨vs,H2,I2,r2,q2⟩:=q0;exact hm AF s2 σ H2 x vs v us Q I2 r1 r2 q2)
/- xs.append(e),list.index on a module's tuple .. are Ar facts of 06m -/
end
def As(X:Cx)(id:String)(r:V->List V->Hp->VK->Prop):Prop :=
 ∀(AF:List (AR×HL)) (s:AT) (σ:St) (H:Hp) (x:V) (xs:List V) (v:AI) (us:List AI) (Q:VK),Inv X AF σ H s->RelV x v->Vals xs us->r x xs H Q ->
  A0 (A6 X.prog X.w) X.A (call (.builtin id) (v::us)) (EP X AF σ Q) X.xe s
theorem Vals.one:∀{x:V} {us:List AI},Vals [x] us->∃u,us=[u]/\RelV x u
 |_,_,.cons r .nil=>{_,rfl,r}
theorem Vals.zero:∀{us:List AI},Vals [] us->us=[]
 |_,.nil=>rfl
theorem Vals.dropLast{xs:List V}{us:List AI}(h:Vals xs us):Vals xs.dropLast us.dropLast:=by
 induction h with
 |nil=>exact .nil
 |cons r t ih =>
  cases t with
  |nil=>exact .nil
  |cons q t'=>exact .cons r ih
theorem Vals.eraseIdx:∀{xs:List V} {us:List AI} (i:Nat),Vals xs us->Vals (xs.eraseIdx i) (us.eraseIdx i)
 |_,_,_,.nil=>.nil
 |_,_,0,.cons _ t=>t
 |_,_,i+1,.cons r t=>.cons r (Vals.eraseIdx i t)
theorem Vals.rep{xs:List V}{us:List AI}(h:Vals xs us):∀k:Nat,Vals (BG k xs).flatten (BG k us).flatten
 |0=>.nil
 |k+1=>by
  rw[EM,EM,GV,GV];exact Vals.append h (Vals.rep h k)
theorem zO5(l:List α):l.eraseIdx (l.length-1)=l.dropLast:=by
 induction l with
 |nil=>rfl
 |cons a r ih =>
  cases r with
  |nil=>rfl
  |cons b r =>
   have e:(a::b::r).length-1=((b::r).length-1)+1:=by
    have h1:(a::b::r).length=r.length+2:=rfl;have h2:(b::r).length=r.length+1:=rfl;lia
   rw[e,XY,ih]
   all_goals rfl
theorem Sn{α:Type}:∀(l:List α) (i:Nat),(l.eraseIdx i).length<=l.length
 |[],_=>AL _
 |_::_,0=>KR _
 |_::r,i+1=>Nat.succ_le_succ (Sn r i)
theorem Sk(CI:List AI):∀(k:Nat) (acc:List AI),
  b8 (λx1 x2=>x1++x2) acc.toArray (BG k CI.toArray)=(acc++(BG k CI).flatten).toArray
 |0,acc=>by simp
 |k+1,acc=>by
  have e:acc.toArray++CI.toArray=(acc++CI).toArray:=by simp
  have e2:(acc++CI)++(BG k CI).flatten=acc++(BG (k+1) CI).flatten:=by
   rw[EM,GV,DH]
  rw[<-e2,<-Sk CI k (acc++CI),<-e,EM,KY]
section
variable{b:AR}
theorem Inv.lset{OD:List AI}{f:Array AI->Array AI}(I:Inv X AF σ H s)(hH:H l=AA (.lst xs))
  (e:s.heap.get? l=AA { cls:=.type "list",data:=.seq CI.toArray n }) (hf:f CI.toArray=OD.toArray) (hv:Vals ys OD) (hz:ys.length<=sizeLine) :
  Inv X AF σ (D5 H l (.lst ys)) { s with heap:=s.heap.update l (C6 f),toks:=t' }:=by
 have q:=PySem.IsL.update e f;rw[hf] at q;refine I.write (x:=l) (e:=l) (by rw[hH];exact trivial) (.inl rfl) (λb' u hb hu=>(YB s.heap (C6 f) (E7 hb)).trans hu) {_,q} ?_;exact{hz,OD,_,hv,q}
theorem Inv.lnew(I:Inv X AF σ H s)(hv:Vals ys CI)(hz:ys.length<=sizeLine) :
  Inv X AF σ (D5 H s.heap.objs.size (.lst ys)) { s with heap:=s.heap.push { cls:=.type "list",data:=.seq CI.toArray },toks:=t' } :=
 I.laid (λ_ _ q=>AG _ q) (AL _) {hz,CI,0,hv,AW _ rfl}
theorem Inv.fresh(I:Inv X AF σ H s):H s.heap.objs.size=AN:=I.hok.fresh (AL _)
theorem Inv.lstM(I:Inv X AF σ H s)(hH:H l=AA (.lst xs)):xs.length<=sizeLine/\∃(CI:List AI) (n:Nat),Vals xs CI/\xs.length=CI.length/\s.heap.get? l=AA { cls:=.type "list",data:=.seq CI.toArray n }:=by
 obtain⟨z,CI,n,r,e⟩:=I.hok l _ hH;exact{z,CI,n,r,r.length,e}
theorem Re(h:n<=sizeLine):ID n=AD:=by
 unfold ID;exact decide_eq_false (jR h)
end
def Dw:V->List V->Hp->VK->Prop:=λx vs H Q=>∃l xs y,x=.ref l/\vs=[y]/\H l=AA (.lst xs)/\xs.length<sizeLine/\Q .non (D5 H l (.lst (xs++[y])))
theorem zK:As X "list.append" Dw:=by
 intro AF s σ H x vs v us Q I rx rv h;obtain⟨l,xs,y,rfl,rfl,hH,hz,q⟩:=h;cases rx;obtain⟨u,rfl,ru⟩:=rv.one;obtain⟨z,CI,n,r,hl,e⟩:=I.lstM hH;refine MT F.slot_list_append {_,e,rfl} F.entry_list_append (F.args_list_append_2 _ _) (PySem.list_append l CI.toArray n u (by rw[A4];lia)) {e,?_};refine{.non,_,I.lset (OD:=CI++[u]) hH e 's' (r.append (.cons ru .nil)) ?_,rfl,q};rw[BN,FI];exact MJ hz
def zYJ:V->List V->Hp->VK->Prop:=λx vs H Q=>∃l b xs zs,x=.ref l/\vs=[.ref b]/\H l=AA (.lst xs)/\H b=AA (.lst zs)/\xs.length+zs.length<=sizeLine/\Q .non (D5 H l (.lst (xs++zs)))
theorem yCH:As X "list.extend" zYJ:=by
 intro AF s σ H x vs v us Q I rx rv h;obtain⟨l,b,xs,zs,rfl,rfl,hH,hB,hz,q⟩:=h;cases rx;obtain⟨u,rfl,ru⟩:=rv.one;cases ru;obtain⟨z,CI,n,r,hl,e⟩:=I.lstM hH;obtain⟨z2,L8,n2,r2,bN,e2⟩:=I.lstM hB;have hsz:CI.toArray.size+L8.toArray.size<=sizeLine:=by rw[A4,A4];lia
 have dQ:¬(!CI.toArray.isEmpty&&ID (CI.toArray.size+L8.toArray.size))=AK:=by
  rw[Re hsz,l8];exact CH
 refine MT F.slot_list_extend {_,e,rfl} F.entry_list_extend (F.args_list_extend_2 _ _)
  (AutoSeq1.list_extend_list_list_0 l CI.toArray n b L8.toArray n2 dQ (by rw[A4];lia) (AX hsz (A3 _ _))) {e,e2,?_}
 refine{.non,_,I.lset (OD:=CI++L8) hH e 's' (r.append r2) ?_,rfl,q};rw[BN];exact hz
def Vk:V->List V->Hp->VK->Prop:=λx vs H Q=>∃l xs y,x=.ref l/\vs=[]/\H l=AA (.lst xs)/\xs[xs.length-1]?=AA y/\Q y (D5 H l (.lst xs.dropLast))
theorem yCI:As X "list.pop" Vk:=by
 intro AF s σ H x vs v us Q I rx rv h;obtain⟨l,xs,y,rfl,rfl,hH,hy,q⟩:=h;cases rx;have hus:=rv.zero;subst hus;obtain⟨z,CI,n,r,hl,e⟩:=I.lstM hH;obtain⟨u,hu,ru⟩:=r.get hy
 have hy':CI.toArray[CI.toArray.size-1]?=AA u:=by
  show CI.toArray[CI.length-1]?=AA u;rw[<-C3,<-hl];exact hu
 refine MT F.slot_list_pop {_,e,rfl} F.entry_list_pop (F.args_list_pop_1 _) (MeetsSeq.list_pop_last l CI.toArray n u hy' (by rw[A4];lia)) {e,?_};refine{y,_,I.lset (OD:=CI.dropLast) hH e ?_ r.dropLast ?_,ru,q}
 .show CI.toArray.eraseIdxIfInBounds (CI.toArray.size-1)=CI.dropLast.toArray
  rw[A4,RT,zO5]
 .rw[List.length_dropLast]
  exact AX (C7 _ _) z
def Oe:V->List V->Hp->VK->Prop:=λx vs H Q=>∃l xs i k y,x=.ref l/\vs=[.int i]/\H l=AA (.lst xs)/\-(2 ^ 63)<=i/\i<2 ^ 63/\seqIndex? i xs.length=AA k/\xs[k]?=AA y/\Q y (D5 H l (.lst (xs.eraseIdx k)))
theorem zTR:As X "list.pop" Oe:=by
 intro AF s σ H x vs v us Q I rx rv h;obtain⟨l,xs,i,k,y,rfl,rfl,hH,h1,h2,hk,hy,q⟩:=h;cases rx;obtain⟨u,rfl,ru⟩:=rv.one;obtain⟨t,rfl⟩:=ru;obtain⟨z,CI,n,r,hl,e⟩:=I.lstM hH;obtain⟨w,hw,KO⟩:=r.get hy
 refine MT F.slot_list_pop {_,e,rfl} F.entry_list_pop (F.args_list_pop_2 _ _)
  (MeetsSeq.list_pop_at l CI.toArray n i t k w (fitsIndex_both h1 h2) (by rw[A4,<-hl];exact hk) (by rw[<-C3];exact hw) (by rw[A4];lia)) {e,?_}
 refine{y,_,I.lset (OD:=CI.eraseIdx k) hH e ?_ (r.eraseIdx k) ?_,KO,q}
 .show CI.toArray.eraseIdxIfInBounds k=(CI.eraseIdx k).toArray
  rw[RT]
 .have:=Sn xs k
  exact AX this z
def Gu:R2:=λx y H Q=>∃l b xs zs,x=.ref l/\y=.ref b/\H l=AA (.lst xs)/\H b=AA (.lst zs)/\xs.length+zs.length<=sizeLine/\∀p,H p=AN->Q (.ref p) (D5 H p (.lst (xs++zs)))
theorem Od:OpR X (G6 .Add) Gu:=by
 intro AF s σ H x y v u Q I rx ry h;obtain⟨l,b,xs,zs,rfl,rfl,hH,hB,hz,q⟩:=h;cases rx;cases ry;obtain⟨z,CI,n,r,hl,e⟩:=I.lstM hH;obtain⟨z2,L8,n2,r2,bN,e2⟩:=I.lstM hB;refine PySem.P.add_list e e2 ?_ (by rw[A4,A4];lia);have ea:CI.toArray++L8.toArray=(CI++L8).toArray:=by simp
 rw[ea];exact{.ref _,_,I.lnew (t':=s.toks) (r.append r2) (by rw[BN];lia),rfl,q _ I.fresh}
def yID:R2:=λx y H Q=>∃l k xs,x=.ref l/\y=.int k/\H l=AA (.lst xs)/\-(2 ^ 63)<=k/\k<2 ^ 63/\xs.length * k.toNat<=sizeLine /\
 ∀p,H p=AN->Q (.ref p) (D5 H p (.lst (BG k.toNat xs).flatten))
theorem zYK(xs:List α)(k:Nat):(BG k xs).flatten.length=k * xs.length:=by
 induction k with
 |zero=>simp
 |succ k ih=>rw[EM,GV,BN,ih,Nat.succ_mul,RS]
theorem yCJ:OpR X (G6 .Mult) yID:=by
 intro AF s σ H x y v u Q I rx ry h;obtain⟨l,k,xs,rfl,rfl,hH,h1,h2,hz,q⟩:=h;cases rx;obtain⟨t,rfl⟩:=ry;obtain⟨z,CI,n,r,hl,e⟩:=I.lstM hH;have ET:CI.toArray.size * k.toNat<=sizeLine:=by rw[A4,<-hl];exact hz
 have oS:¬CI.toArray.size * k.toNat>(2 ^ 63-1) / 8:=by
  have:(sizeLine:Nat)<=(2 ^ 63-1) / 8:=by decide
  exact jR (AX ET this)
 have Lk:¬(!Builtin.List.listFitsIndex k)=AK:=by
  rw[fitsIndex_both h1 h2];exact CH
 have dQ:¬ID (CI.toArray.size * k.toNat)=AK:=by
  rw[Re ET];exact CH
 have oK:b8 (λx1 x2=>x1++x2) #[] (BG (if CI.toArray.isEmpty=AK then 0 else k.toNat) CI.toArray)=(BG k.toNat CI).flatten.toArray:=by
  have f0:∀m:Nat,b8 (λx1 x2=>x1++x2) #[] (BG m CI.toArray)=(BG m CI).flatten.toArray:=λm=>by
   have:=Sk CI m [];rw[HM] at this;exact this
  rw[f0]
  cases CI with
  |nil=>simp
  |cons a r'=>rw[if_neg 's']
 refine wpAny_binaryOp_repeat_ref (T:="list") (U:="int") 'd' {_,e,rfl} (λs'=>typeIs_int s' k t) noFill_list_mul F.fills_int_mul F.slot_int_rmul repeat_list F.slot_int_index.lookup
  (MT F.slot_int_rmul (typeIs_int s k t) F.entry_int_rmul (F.args_int_rmul_2 _ _) (int___rmul___int_list k t l CI.toArray n)
   {e,rfl,{_,e,rfl},MT F.slot_list_mul {_,e,rfl} F.entry_list_mul (F.args_list_mul_2 _ _) (AutoListH.list___mul___list_int_3 l CI.toArray n k t Lk oS dQ) {e,?_}})
 rw[oK];exact{.ref _,_,I.lnew (t':=s.toks) (r.rep k.toNat) (by rw[zYK,Nat.mul_comm];exact hz),rfl,q _ I.fresh}
section
variable[DecidableEq κ]
noncomputable def QW(kvs:List (κ×V))(k:κ):Option V:=(kvs.find? λkv=>decide (kv.1=k)).map (·.2)
noncomputable def TJ(kvs:List (κ×V))(k:κ)(v:V):List (κ×V) :=
 if(kvs.any λkv=>decide (kv.1=k))=AK then kvs.map (λkv=>if kv.1=k then(kv.1,v) else kv) else kvs++[(k,v)]
theorem Ez{p:κ×V}{r:List (κ×V)}{k:κ}(e:p.1=k):QW (p::r) k=AA p.2:=by simp[QW,DR,e]
theorem Ey{p:κ×V}{r:List (κ×V)}{k:κ}(e:¬p.1=k):QW (p::r) k=QW r k:=by simp[QW,DR,e]
theorem Rb(k:κ):∀kvs:List (κ×V),(kvs.any λkv=>decide (kv.1=k))=(QW kvs k).isSome
 |[]=>rfl
 |p::r=>by
  rw[ER]
  by_cases e:p.1=k
  .simp only[Ez e,decide_eq_true e,Bool.true_or,Option.isSome_some]
  .rw[Ey e,decide_eq_false e,Bool.false_or];exact Rb k r
theorem Fz(kvs:List (κ×V))(k:κ)(v:V):(TJ kvs k v).length<=kvs.length+1:=by
 unfold TJ;split
 .rw[AJ];lia
 .rw[BN,BC,JC];lia
theorem RelO.isSome_eq{o:Option V}{u:Option AI}(r:RelO o u):o.isSome=u.isSome:=by
 cases o with
 |none=>cases u with
  |none=>rfl
  |some _=>exact(show False from r).elim
 |some _=>cases u with
  |none=>exact(show False from r).elim
  |some _=>rfl
theorem RelO.getD{o:Option V}{u:Option AI}{d:V}{d':AI}(r:RelO o u)(rd:RelV d d'):RelV (o.getD d) (u.getD d'):=by
 cases o with
 |none=>cases u with
  |none=>exact rd
  |some _=>exact(show False from r).elim
 |some _=>cases u with
  |none=>exact(show False from r).elim
  |some _=>exact r
theorem KV.val{kvs:List (κ×V)}{vs:List (κ×AI)}(r:KV kvs vs)(k:κ):RelO (QW kvs k) (UD vs k):=by
 unfold KV at r
 induction r with
 |nil=>exact HH
 |@cons p q ps qs h t ih =>
  obtain⟨h1,h2⟩:=h
  by_cases e:p.1=k
  .have e':q.1=k:=h1.symm.trans e
   have b:UD (q::qs) k=AA q.2:=by simp[UD,DR,e']
   rw[Ez e,b];exact h2
  .have e':¬q.1=k:=λz=>e (h1.trans z)
   have b:UD (q::qs) k=UD qs k:=by simp[UD,DR,e']
   rw[Ey e,b];exact ih
theorem KV.any{kvs:List (κ×V)}{vs:List (κ×AI)}(r:KV kvs vs)(k:κ):(kvs.any λkv=>decide (kv.1=k))=vs.any λkv=>decide (kv.1=k):=by
 unfold KV at r
 induction r with
 |nil=>rfl
 |cons h t ih=>rw[ER,ER,ih,h.1]
theorem KV.repl{kvs:List (κ×V)}{vs:List (κ×AI)}(r:KV kvs vs)(k:κ)(ry:RelV y u) :
  KV (kvs.map λkv=>if kv.1=k then(kv.1,y) else kv) (vs.map λkv=>if kv.1=k then(kv.1,u) else kv):=by
 unfold KV at r ⊢
 induction r with
 |nil=>exact .nil
 |@cons p q ps qs h t ih =>
  rw[AU,AU];refine .cons ?_ ih;obtain⟨h1,h2⟩:=h
  by_cases e:p.1=k
  .rw[if_pos e,if_pos (h1.symm.trans e)];exact{h1,ry}
  .rw[if_neg e,if_neg (λz=>e (h1.trans z))];exact{h1,h2}
theorem KV.put{kvs:List (κ×V)}{vs:List (κ×AI)}(r:KV kvs vs)(k:κ)(ry:RelV y u):KV (TJ kvs k y) (stored vs k u):=by
 unfold TJ stored;rw[r.any k]
 by_cases e:(vs.any λkv=>decide (kv.1=k))=AK
 .rw[if_pos e,if_pos e];exact r.repl k ry
 .rw[if_neg e,if_neg e];exact Paired.snoc r {rfl,ry}
theorem KV.keys{kvs:List (κ×V)}{vs:List (κ×AI)}(r:KV kvs vs):kvs.map (·.1)=vs.map (·.1):=by
 unfold KV at r
 induction r with
 |nil=>rfl
 |cons h t ih=>rw[AU,AU,ih,h.1]
theorem KV.length{kvs:List (κ×V)}{vs:List (κ×AI)}(r:KV kvs vs):kvs.length=vs.length:=Paired.length r
end
theorem mI{k:Key}(r:RelV (kV k) u):(TZ P w).is k u=AK:=by
 cases k with
 |inl i=>obtain⟨t,e⟩:=(show ∃t,u=MV i t from r);subst e;exact zML P w i t
 |inr x=>obtain⟨t,e⟩:=(show ∃t,u=WU x t from r);subst e;exact zMM P w x t
theorem Sj{P:CO}{w:D2}:∀{ks:List Key} {us:List AI},Vals (ks.map kV) us->ItemsAre (TZ P w) ks us
 |[],_,r=>by rw[NK] at r;cases r;exact .nil
 |k::ks,_,r=>by
  rw[AU] at r
  cases r with
  |cons h t=>exact .cons (mI h) (Sj t)
abbrev KT(H:Hp):List (List Key×V)->List (List Key×AR×AI)->Prop:=Paired λp q=>p.1=q.1/\H q.2.1=AA (.tup (p.1.map kV))/\RelV p.2 q.2.2
theorem KT.val{xs:List (List Key×AR×AI)}(r:KT H kvs xs)(k:List Key):RelO (QW kvs k) ((Y5 xs k).map (·.2)):=by
 induction r with
 |nil=>exact HH
 |@cons p q ps qs h t ih =>
  obtain⟨h1,_,h2⟩:=h
  by_cases e:p.1=k
  .have e':q.1=k:=h1.symm.trans e
   have b:Y5 (q::qs) k=AA q.2:=by simp[Y5,DR,e']
   rw[Ez e,b];exact h2
  .have e':¬q.1=k:=λz=>e (h1.trans z)
   have b:Y5 (q::qs) k=Y5 qs k:=by simp[Y5,DR,e']
   rw[Ey e,b];exact ih
theorem KT.repl{xs:List (List Key×AR×AI)}(r:KT H kvs xs)(k:List Key)(ry:RelV y u) :
  KT H (kvs.map λkv=>if kv.1=k then(kv.1,y) else kv) (xs.map (putAt k u)):=by
 induction r with
 |nil=>exact .nil
 |@cons p q ps qs h t ih =>
  rw[AU,AU];refine .cons ?_ ih;obtain⟨h1,h2,h3⟩:=h;unfold putAt
  by_cases e:p.1=k
  .rw[if_pos e,if_pos (h1.symm.trans e)];exact{h1,h2,ry}
  .rw[if_neg e,if_neg (λz=>e (h1.trans z))];exact{h1,h2,h3}
theorem KT.put{xs:List (List Key×AR×AI)}(r:KT H kvs xs)(k:List Key){b:AR}(hb:H b=AA (.tup (k.map kV)))(ry:RelV y u) :
  KT H (TJ kvs k y) (storedH xs k b u):=by
 have e:(kvs.any λkv=>decide (kv.1=k))=(Y5 xs k).isSome:=by
  rw[Rb,(r.val k).isSome_eq,P6]
 unfold TJ storedH;rw[e]
 by_cases q:(Y5 xs k).isSome=AK
 .rw[if_pos q,if_pos q];exact r.repl k ry
 .rw[if_neg q,if_neg q];exact Paired.snoc r {rfl,hb,ry}
theorem KT.keeps{xs:List (List Key×AR×AI)}(r:KT H kvs xs)(ht:∀b ys,H b=AA (.tup ys)->H' b=AA (.tup ys)):KT H' kvs xs :=
 pA0 r λ_ _ z=>{z.1,ht _ _ z.2.1,z.2.2}
theorem Wq{u:HO}(ok:HOk P w H h)(e:Rd H a u):ObjOk P w H h a u:=e.ok ok
theorem iG{kvs:List (Key×V)}(ok:HOk P w H h)(e:Rd H a (.dK kvs)):kvs.length<=sizeLine/\(a==GR)=AD/\∃vs,KV kvs vs/\h.DictOf (TZ P w) a vs :=
 show ObjOk P w H h a (.dK kvs) from Wq ok e
theorem Wp{kvs:List (Key×V)}(ok:HOk P w H h)(e:H a=AA (.dK kvs)):kvs.length<=sizeLine/\(a==GR)=AD/\∃vs,KV kvs vs/\h.DictOf (TZ P w) a vs:=iG ok (.inl e)
theorem pS{ks:List Key}(ok:HOk P w H h)(e:H a=AA (.tup (ks.map kV))):(OF (TZ P w)).is h ks a:=by
 obtain⟨_,CI,r,o,h1,h2,_,n,h3⟩:=(show ObjOk P w H h a (.tup (ks.map kV)) from ok a _ e);exact{o,CI.toArray,n,h1,h2,h3,by simpa using Sj r}
theorem mH(ok:HOk P w H h)(e:Rd H a (.dT kvs)):kvs.length<=sizeLine/\(a==GR)=AD /\
  ∃xs,KT H kvs xs/\h.DictOfH (OF (TZ P w)) a xs:=by
 obtain⟨z,y,xs,r,o,es,ep,h1,h2,h3,h4,h5⟩:=(show ObjOk P w H h a (.dT kvs) from Wq ok e);refine{z,y,xs,r,o,es,ep,h1,h2,h3,h4,λx hx=>?_,h5}
 have all:∀{l:List (List Key×V)} {m:List (List Key×AR×AI)},KT H l m->∀x∈m,(OF (TZ P w)).is h x.1 x.2.1:=by
  intro l m q
  induction q with
  |nil=>intro x hx;exact nomatch hx
  |@cons p q ps qs hq t ih =>
   intro x hx;rcases A2.mp hx with e|hx
   .subst e
    exact pS ok (by rw[<-hq.1];exact hq.2.1)
   .exact ih x hx
 exact all r x hx
theorem yFQ(ok:HOk P w H h)(e:H a=AA (.dT kvs)):kvs.length<=sizeLine/\(a==GR)=AD /\
  ∃xs,KT H kvs xs/\h.DictOfH (OF (TZ P w)) a xs:=mH ok (.inl e)
def hV(H:Hp)(a:AR)(y:V)(r:Option V):Prop :=
 (∃kvs k,Rd H a (.dK kvs)/\y=kV k/\r=QW kvs k)\/∃kvs k b,Rd H a (.dT kvs)/\y=.ref b/\H b=AA (.tup (k.map kV))/\r=QW kvs k
def DPut(H:Hp)(a:AR)(y v:V)(H':Hp):Prop :=
 (∃kvs k,H a=AA (.dK kvs)/\y=kV k/\kvs.length<sizeLine/\H'=D5 H a (.dK (TJ kvs k v))) \/
 ∃kvs k b,H a=AA (.dT kvs)/\y=.ref b/\H b=AA (.tup (k.map kV))/\kvs.length<sizeLine/\H'=D5 H a (.dT (TJ kvs k v))
theorem DPut.kk{kvs:List (Key×V)}{k:Key}(e:H a=AA (.dK kvs))(hl:kvs.length<sizeLine):DPut H a (kV k) v (D5 H a (.dK (TJ kvs k v))):=.inl {kvs,k,e,rfl,hl,rfl}
theorem DPut.t{b:AR}{k:List Key}(e:H a=AA (.dT kvs))(eb:H b=AA (.tup (k.map kV)))(hl:kvs.length<sizeLine) :
  DPut H a (.ref b) v (D5 H a (.dT (TJ kvs k v))):=.inr {kvs,k,b,e,rfl,eb,hl,rfl}
section
variable{r:AI}{o:Option V}
theorem Inv.big(I:Inv X AF σ H s):GR<s.heap.objs.size:=by
 have h:BJ<s.heap.objs.size:=(I.mod.glob.keeps I.bk).lt;exact C4 'd' h
theorem zQJ(hu:A.units+1<GT)(I:Inv X AF σ H s)(g:hV H a y (AA v))(ry:RelV y u)(h:∀w' s',Inv X AF σ H s'->RelV v w'->Q w' s') :
  A0 (A6 X.prog X.w) A (Q1 (.ref a) u) Q E s:=by
 rcases g with⟨kvs,k,e,ey,l⟩|⟨kvs,k,b,e,ey,eb,l⟩
 .subst ey
  obtain⟨z,hd,vs,OB,dd⟩:=iG I.hok e;obtain⟨w',hw,KO⟩:=RelO.some_of (v:=v) (o:=UD vs k) (by rw[l];exact OB.val k);exact wpAny_getItem_of (mI ry) dd.mapOf hw (h w' _ (I.tok _) KO)
 .subst ey
  cases(show u=DK b from ry);obtain⟨z,hd,xs,OB,dd⟩:=mH I.hok e;obtain⟨w',hw,KO⟩:=RelO.some_of (v:=v) (o:=(Y5 xs k).map (·.2)) (by rw[l];exact OB.val k);obtain⟨p,hp,YT⟩:=BS.mp hw;refine wpAny_getItem_heap (JW hu) (pS I.hok eb) dd hp ?_;rw[YT];exact h w' _ (I.tok _) KO
theorem yIE(hu:A.units+1<GT)(I:Inv X AF σ H s)(g:hV H a y o)(ry:RelV y u)(h:∀s',Inv X AF σ H s'->Q (.bool o.isSome) s') :
  A0 (A6 X.prog X.w) A (EX .In u (.ref a)) Q E s:=by
 rcases g with⟨kvs,k,e,ey,l⟩|⟨kvs,k,b,e,ey,eb,l⟩
 .subst ey
  obtain⟨z,hd,vs,OB,dd⟩:=iG I.hok e;refine wpAny_in_of (mI ry) hd dd.mapOf ?_;rw[<-(OB.val k).isSome_eq,<-l];exact h _ (I.tok _)
 .subst ey
  cases(show u=DK b from ry);obtain⟨z,hd,xs,OB,dd⟩:=mH I.hok e;refine wpAny_in_heap (JW hu) (pS I.hok eb) hd dd ?_;have q:=(OB.val k).isSome_eq;rw[P6] at q;rw[<-q,<-l];exact h _ (I.tok _)
theorem zYL(hu:A.units+1<GT)(I:Inv X AF σ H s)(g:hV H a y o)(ry:RelV y u)(h:∀s',Inv X AF σ H s'->Q (.bool (!o.isSome)) s') :
  A0 (A6 X.prog X.w) A (EX .NotIn u (.ref a)) Q E s:=by
 rcases g with⟨kvs,k,e,ey,l⟩|⟨kvs,k,b,e,ey,eb,l⟩
 .subst ey
  obtain⟨z,hd,vs,OB,dd⟩:=iG I.hok e;refine wpAny_notIn_of (mI ry) hd dd.mapOf ?_;rw[<-(OB.val k).isSome_eq,<-l];exact h _ (I.tok _)
 .subst ey
  cases(show u=DK b from ry);obtain⟨z,hd,xs,OB,dd⟩:=mH I.hok e;refine wpAny_notIn_heap (JW hu) (pS I.hok eb) hd dd ?_;have q:=(OB.val k).isSome_eq;rw[P6] at q;rw[<-q,<-l];exact h _ (I.tok _)
theorem Dv{ob:HO}(I:Inv X AF σ H s)(mu:uF (H a))(hs:DM a s.heap h')(he:∃q,h'.get? a=AA q)(new:ObjOk X.prog X.w (D5 H a ob) h' a ob) :
  Inv X AF σ (D5 H a ob) { s with heap:=h',toks:=t' } :=
 I.write (x:=a) (e:=a) mu (.inl rfl) (λb q hb z=>(hs.2 b hb).trans z) he new
theorem Oc{kvs:List (Key×V)}{vs:List (Key×AI)}(z:kvs.length<=sizeLine)(hd:(a==GR)=AD)(OB:KV kvs vs)(dd:h'.DictOf (TZ P w) a vs) :
  ObjOk P w H' h' a (.dK kvs):={z,hd,vs,OB,dd}
theorem zQK{Q:Unit->AT->Prop}(hu:A.units+1<GT)(I:Inv X AF σ H s)(g:DPut H a y v H')(ry:RelV y u)(rv:RelV v r)(h:∀s',Inv X AF σ H' s'->Q () s') :
  A0 (A6 X.prog X.w) A (setItem (.ref a) u r) Q E s:=by
 rcases g with⟨kvs,k,e,ey,l,eH⟩|⟨kvs,k,b,e,ey,eb,l,eH⟩
 .subst ey eH
  obtain⟨z,hd,vs,OB,dd⟩:=Wp I.hok e;have hz:vs.length<=sizeLine:=by rw[<-OB.length];exact z
  have hl:(TJ kvs k v).length<=sizeLine:=by have:=Fz kvs k v;lia
  refine wpAny_setItem_pairs (hsz:=hz) (mI ry) dd λh' pC hs=>h _ ?_;have he:∃q,h'.get? a=AA q:=let ⟨q,_,_,hq,_⟩:=pC;{q,hq};exact Dv I (by rw[e];exact HH) hs he (Oc hl hd (OB.put k rv) pC)
 .subst ey eH
  cases(show u=DK b from ry);obtain⟨z,hd,xs,OB,dd⟩:=yFQ I.hok e;have hz:xs.length<=sizeLine:=by rw[<-Paired.length OB];exact z
  have hl:(TJ kvs k v).length<=sizeLine:=by have:=Fz kvs k v;lia
  refine wpAny_setItem_heap (hsz:=hz) (JW hu) (pS I.hok eb) dd λh' pC hs=>h _ ?_;obtain⟨q,es,ep,hq,h2,h3,h4,_,h5⟩:=pC;refine Dv I (by rw[e];exact HH) hs {q,hq} {hl,hd,_,(OB.put k eb rv).keeps λc ys ec=>?_,q,es,ep,hq,h2,h3,h4,h5};rw[EW (yE6 ec e (λz=>nomatch z))];exact ec
end
section
variable{kvs:List (Key×V)}{k:Key}
theorem yFR(I:Inv X AF σ H s)(e:Rd H a (.dK kvs))(h:∀t s',Inv X AF σ H s'->Q (.int kvs.length t) s'):A0 (A6 X.prog X.w) A (call (.builtin "len") [.ref a]) Q E s:=by
 obtain⟨z,hd,vs,OB,dd⟩:=iG I.hok e;refine call_len_dict hd dd (by rw[<-OB.length];rw[F7] at z;lia) ?_;rw[<-OB.length];exact h _ _ (I.tok _)
end
theorem zMU{o:Option V}(I:Inv X AF σ H s)(g:hV H a y o):s.TypeIs (.ref a) "dict":=by
 rcases g with⟨kvs,k,e,_,_⟩|⟨kvs,k,b,e,_,_,_⟩
 .obtain⟨_,_,vs,_,dd⟩:=iG I.hok e
  exact dd.typeIs
 .obtain⟨_,_,xs,_,dd⟩:=mH I.hok e
  exact dd.typeIs
def Wo(td ty tv:TE):TS:=λD σ H=>tv σ H λv H1=>td σ H1 λx H2=>ty σ H2 λy H3=>∃a H4,x=.ref a/\DPut H3 a y v H4/\D.nx σ H4
section
variable{o i:CU}{td ty:TE}
theorem Du(hu:X.A.units+1<GT)(ho:PE X o td)(hi:PE X i ty)(hv:PE X JQ tv)(hs:IJ JQ (AA (.Subscript o i OC)) pos.line X.env=pure AD) :
  PS X (.Assign [.Subscript o i OC] JQ pos) (Wo td ty tv):=by
 intro AF s σ H D I h;refine wpAny_Assign_Subscript (GY (hv AF s σ H _ I h) λr s1 ⟨v,H1,I1,rv,q1⟩=>GY (ho AF s1 σ H1 _ I1 q1) λu s2 ⟨x,H2,I2,rx,q2⟩=>GY (hi AF s2 σ H2 _ I2 q2) λiv s3 ⟨y,H3,I3,ry,a,H4,ex,g,q3⟩=>?_) hs;subst ex;obtain rfl:u=DK a:=rx;exact zQK hu I3 g ry rv λs4 I4=>{σ,H4,I4,q3}
end
theorem Rr(h:D3)(hb:GR<h.objs.size):ObjOk P w H (h.push { cls:=.type "dict",data:=.dict #[] }) h.objs.size (.dK []) :=
 {BY _,beq_eq_false_iff_ne.mpr (E7 (BZ hb)),[],.nil,Heap.DictOf.new h}
theorem zTT(h:D3)(hb:GR<h.objs.size):ObjOk P w H (h.push { cls:=.type "dict",data:=.dict #[] }) h.objs.size (.dT []) :=
 {BY _,beq_eq_false_iff_ne.mpr (E7 (BZ hb)),[],.nil,_,#[],0,AW _ rfl,{rfl,rfl,rfl},rfl,rfl,G9}
def yCN:TE:=λ_ H Q=>∀p,H p=AN->Q (.ref p) (D5 H p (.dK []))
def yCO:TE:=λ_ H Q=>∀p,H p=AN->Q (.ref p) (D5 H p (.dT []))
theorem cT:PE X (.Dict [] [] pos) yCN:=λAF s σ H Q I h =>
 wpAny_Dict_empty {.ref s.heap.objs.size,_,I.laid (a:=s.heap.objs.size) (o:=.dK []) (t':=s.toks) (λ_ _ q=>AG _ q) (AL _) (Rr s.heap I.big),rfl,h _ (I.hok.fresh (AL _))}
theorem cS:PE X (.Dict [] [] pos) yCO:=λAF s σ H Q I h =>
 wpAny_Dict_empty {.ref s.heap.objs.size,_,I.laid (a:=s.heap.objs.size) (o:=.dT []) (t':=s.toks) (λ_ _ q=>AG _ q) (AL _) (zTT s.heap I.big),rfl,h _ (I.hok.fresh (AL _))}
def Da:List (TE×TE)->St->Hp->(List (V×V)->Hp->Prop)->Prop
 |[],_,H,Q=>Q [] H
 |(tk,tv)::r,σ,H,Q=>tk σ H λx H1=>tv σ H1 λy H2=>Da r σ H2 λps H3=>Q ((x,y)::ps) H3
abbrev VV:List (V×V)->List (AI×AI)->Prop:=Paired λp q=>RelV p.1 q.1/\RelV p.2 q.2
def Aq(X:Cx)(pos:YA)(XH:List (Option CU))(SK:List CU)(kZ:List (TE×TE)):Prop :=
 ∀(AF:List (AR×HL)) (s:AT) (σ:St) (H:Hp) (Q:List (V×V)->Hp->Prop),Inv X AF σ H s->Da kZ σ H Q ->
  A0 (A6 X.prog X.w) X.A (evalPairs (pairTrees XH SK X.env pos)) (λvs s'=>∃ps H',Inv X AF σ H' s'/\VV ps vs/\Q ps H') X.xe s
theorem zYM:Aq X pos [] [] []:=λAF s σ H Q I h=>pairTrees_nil_walk {[],H,I,.nil,h}
theorem zTU{k v:CU}{ks:List (Option CU)}{vs:List CU}{tk:TE}(hk:PE X k tk)(hv:PE X v tv)(hr:Aq X pos ks vs kZ) :
  Aq X pos (AA k::ks) (v::vs) ((tk,tv)::kZ):=λAF s σ H Q I h =>
 pairTrees_cons_walk (GY (hk AF s σ H _ I h) λu s1 ⟨x,H1,I1,rx,q1⟩=>GY (hv AF s1 σ H1 _ I1 q1) λw2 s2 ⟨y,H2,I2,ry,q2⟩ =>
  GY (hr AF s2 σ H2 _ I2 q2) (λws s3 q0=>by obtain⟨ps,H3,I3,OB,q3⟩:=q0;exact{(x,y)::ps,H3,I3,.cons {rx,ry} OB,q3}))
def sQ(kvs RH:List (Key×V)):List (Key×V):=RH.foldl (λacc kv=>TJ acc kv.1 kv.2) kvs
theorem KV.merge:∀{RH:List (Key×V)} {rs:List (Key×AI)} {kvs:List (Key×V)} {vs:List (Key×AI)},KV RH rs->KV kvs vs->KV (sQ kvs RH) (merged vs rs):=by
 intro RH rs kvs vs r;unfold KV at r
 induction r generalizing kvs vs with
 |nil=>intro q;exact q
 |@cons p q ps qs h t ih =>
  intro r0
  have e:KV (TJ kvs p.1 p.2) (stored vs q.1 q.2):=by
   have:=r0.put p.1 h.2;rw[<-h.1];exact this
  exact ih e
theorem Uo:∀(RH kvs:List (Key×V)),(sQ kvs RH).length<=kvs.length+RH.length
 |[],kvs=>by show kvs.length<=kvs.length+0;lia
 |p::r,kvs=>by
  have h1:=Uo r (TJ kvs p.1 p.2);have h2:=Fz kvs p.1 p.2;show(sQ (TJ kvs p.1 p.2) r).length<=_;rw[BC];lia
theorem Tv{P:CO}{w:D2}:∀{kvs:List (Key×V)} {ws:List (AI×AI)},VV (kvs.map λkv=>(kV kv.1,kv.2)) ws->∃rs,Carries (TZ P w) ws rs/\KV kvs rs
 |[],_,r=>by rw[NK] at r;cases r;exact{[],HH,.nil}
 |p::kvs,_,r=>by
  rw[AU] at r
  cases r with
  |@cons a b as bs h t =>
   obtain⟨rs,c,q⟩:=Tv (P:=P) (w:=w) t;obtain⟨b1,b2⟩:=b;exact{(p.1,b2)::rs,{mI h.1,rfl,c},.cons {rfl,h.2} q}
def yFS(kZ:List (TE×TE)):TE:=λσ H Q=>∀p,H p=AN->Da kZ σ (D5 H p (.dK [])) λps H2=>H2 p=AA (.dK [])/\∃kvs:List (Key×V),ps=kvs.map (λkv=>(kV kv.1,kv.2))/\kvs.length<=15/\Q (.ref p) (D5 H2 p (.dK (sQ [] kvs)))
theorem zYN{XH:List (Option CU)}{SK:List CU}(h:Aq X pos XH SK kZ)(QK:XH.all (·.isSome)=AK)(hl:XH.length=SK.length)(h0:XH≠[])
  (h15:XH.length<=15):PE X (.Dict XH SK pos) (yFS kZ):=by
 intro AF s σ H Q I q;have hn:=I.hok.fresh (AL s.heap.objs.size);have I1:=I.laid (a:=s.heap.objs.size) (o:=.dK []) (h':=s.heap.push { cls:=.type "dict",data:=.dict #[] }) (t':=s.toks) (λ_ _ q=>AG _ q) (AL _) (Rr s.heap I.big);refine wpAny_Dict_walk (knd:=TZ X.prog X.w) QK hl h0 h15 (GY (h AF _ σ _ _ I1 (q _ hn)) λws s2 ⟨ps,H2,I2,OB,e,kvs,ep,lk,q2⟩=>?_);subst ep;obtain⟨rs,c,rk⟩:=Tv (P:=X.prog) (w:=X.w) OB;obtain⟨z,hd,Xt,r0,dd⟩:=Wp I2.hok e;cases r0;refine{rs,c,dd,λh' pC hs=>{.ref s.heap.objs.size,_,?_,rfl,q2}}
 have hz:(sQ [] kvs).length<=sizeLine:=by
  have h1:=Uo kvs [];rw[JC] at h1;rw[F7];lia
 have he:∃q,h'.get? s.heap.objs.size=AA q:=let ⟨q,_,_,hq,_⟩:=pC;{q,hq};exact Dv I2 (by rw[e];exact HH) hs he (Oc hz hd (rk.merge .nil) pC)
structure M1(X:Cx)(o:CU)(m:CN)(K5:YA)(e:CU)(FQ:YA):Prop where
 base:IK o m X.env (eval o X.env)=eval o X.env
 few:((DD FQ (AM [e] X.env)).all (λx=>!x.1)&&(UG FQ (NI [] X.env)).all (λx=>x.1.isSome)
  && decide (([e]:List CU).length+([]:List KG).length+(if([]:List KG).isEmpty then 0 else 1)<30))=AK
 line:(K5.endLine==FQ.line)=AK
 trees:DD FQ (AM [e] X.env)=[(AD,eval e X.env)]
structure M2(X:Cx)(o:CU)(m:CN)(K5:YA)(e f:CU)(FQ:YA):Prop where
 base:IK o m X.env (eval o X.env)=eval o X.env
 few:((DD FQ (AM [e,f] X.env)).all (λx=>!x.1)&&(UG FQ (NI [] X.env)).all (λx=>x.1.isSome)
  && decide (([e,f]:List CU).length+([]:List KG).length+(if([]:List KG).isEmpty then 0 else 1)<30))=AK
 line:(K5.endLine==FQ.line)=AK
 trees:DD FQ (AM [e,f] X.env)=[(AD,eval e X.env),(AD,eval f X.env)]
def Ib(H:Hp)(a:AR):Prop:=(∃kvs,Rd H a (.dK kvs))\/∃kvs,Rd H a (.dT kvs)
theorem yCP(I:Inv X AF σ H s)(d:Ib H a) :
  s.TypeIs (.ref a) "dict"/\(∀b,DK a=.ref b->∃ob,s.heap.get? b=AA ob/\ob.dict=AN)/\(a==GR)=AD:=by
 rcases d with⟨kvs,e⟩|⟨kvs,e⟩
 .obtain⟨_,hd,vs,_,dd⟩:=iG I.hok e
  refine{dd.typeIs,λb q=>?_,hd};cases q;obtain⟨ob,_,_,h1,h2,_⟩:=dd;exact{ob,h1,h2.2.1}
 .obtain⟨_,hd,xs,_,dd⟩:=mH I.hok e
  refine{dd.typeIs,λb q=>?_,hd};cases q;obtain⟨ob,_,_,h1,h2,_⟩:=dd;exact{ob,h1,h2.2.1}
section
variable{d:V}{r:AI}{o:Option V}
theorem yCQ(hu:A.units+1<GT)(I:Inv X AF σ H s)(g:hV H a y o)(ry:RelV y u)(rd:RelV d r)(h:∀w' s',Inv X AF σ H s'->RelV (o.getD d) w'->Q w' s') :
  A0 (A6 X.prog X.w) A (call (.builtin "dict.get") [.ref a,u,r]) Q E s:=by
 rcases g with⟨kvs,k,e,ey,l⟩|⟨kvs,k,b,e,ey,eb,l⟩
 .subst ey
  obtain⟨z,hd,vs,OB,dd⟩:=iG I.hok e;refine call_meetsIn NC dd.typeIs WH (U4 _ _ _) (meets_dict_get_default (TZ X.prog X.w) a (mI ry) hd r) {_,dd.mapOf,h _ _ (I.tok _) ?_};rw[l];exact(OB.val k).getD rd
 .subst ey
  cases(show u=DK b from ry);obtain⟨z,hd,xs,OB,dd⟩:=mH I.hok e;refine call_meetsIn NC dd.typeIs WH (U4 _ _ _) (meetsH_dict_get_default (OF (TZ X.prog X.w)) a b hd r) {JW hu,k,xs,pS I.hok eb,dd,h _ _ (I.tok _) ?_};rw[l];exact(OB.val k).getD rd
end
def yCR(td ty tx:TE):TE:=λσ H Q=>td σ H λx H1=>∃a,x=.ref a/\Ib H1 a/\ty σ H1 λy H2=>tx σ H2 λz H3=>∃o,hV H3 a y o/\Q (o.getD z) H3
section
variable{o f:CU}{td ty tx:TE}
theorem zTV(hu:X.A.units+1<GT)(ho:PE X o td)(he:PE X e ty)(hf:PE X f tx)(m:M2 X o "get" K5 e f FQ):PE X (.Call (.Attribute o "get" K5) [e,f] [] FQ) (yCR td ty tx):=by
 intro AF s σ H Q I h;refine wpAny_Call_method m.base m.few m.line PySem.F.plainAttrs_dict NC PySem.F.type_dict_get (GY (ho AF s σ H _ I h) λu s1 ⟨x,H1,I1,rx,a,ex,d,q1⟩=>?_);subst ex;obtain rfl:u=DK a:=rx;obtain⟨t1,t2,_⟩:=yCP I1 d;refine{t1,t2,?_};rw[m.trees]
 refine NF rfl (OK (PZ (GY (he AF s1 σ H1 _ I1 q1) λiv s2 ⟨y,H2,I2,ry,q2⟩ =>
  PZ (GY (hf AF s2 σ H2 _ I2 q2) λfv s3 ⟨z,H3,I3,rz,ov,g,q3⟩=>cA ?_))))
 exact yCQ hu I3 g ry rz λw' s4 I4 KO=>{_,H3,I4,KO,q3}
end
section
variable{kvs:List (Key×V)}
end
end L2
variable{ZK:List CN}{XP:(CN->Option AI)->D3->Prop}{YP:D2->D3->Prop}{q:CO}
namespace Att
open PySem PySem.W PySem.Calls PyProof.Rows
theorem zGO{P:Params}:∀(ns:List Int) (vs:List AI),WellAll P h vs (ns.map WData.int)->FX vs ns:=by
 intro ns
 induction ns with
 |nil =>
  intro vs w;rw[NK] at w;cases w;exact .nil
 |cons n ns ih =>
  intro vs w;rw[AU] at w
  cases w with
  |cons a b =>
   cases a;exact .cons _ _ (ih _ b)
theorem zQM{l:OpenLaw}(hn:l.most=AA n){P:Params}{args:List WData}{nQ:List AI}
  (jC:l.row.toRowW.claim.pre args=AK) (Bd:WellAll P h nQ args) :
  ∃a vs ns,nQ=[DK a]/\args=[WData.list (ns.map WData.int)]/\h.get? a=AA { cls:=.type "list",data:=.seq vs.toArray }/\FX vs ns/\ns.length<=n:=by
 have hsh:WShape.hasAll [] args [.list .int]=AK:=(pre_splitW jC).1;have hc:l.pre.holds [] { args:=args }=AK:=(pre_splitW jC).2;obtain⟨d,r,rfl,h1,h2⟩:=hasAllW_cons hsh;obtain rfl:=hasAllW_nil h2;obtain⟨xs,rfl,h3⟩:=hasW_list h1;obtain⟨ns,rfl⟩:=items_int h3
 have ET:ns.length<=n:=by
  unfold OpenLaw.pre at hc
  have h4:(WTm.not (.lt (.lit (.int (n:Int))) (.len (.arg 0)))).holds [] { args:=[.list (ns.map .int)] }=AK:=by
   have h4:=(holds_andW hc).1;rw[hn] at h4;exact h4
  have h5:=condW_of h4 (w_not (w_lt w_lit (w_len_list (w_arg rfl))));rw[AJ] at h5;refine EZ λq=>?_;have q':(n:Int)<((ns.length:Nat):Int):=by lia
  first
   |(rw[decide_eq_true q'] at h5;exact absurd h5 'd')
   |(simp at h5;lia)
 cases Bd with
 |cons w1 w2 =>
  cases w2
  cases w1 with
  |list ho QK=>exact{_,_,ns,rfl,rfl,ho,zGO ns _ QK,ET}
theorem zQN(l:OpenLaw)(args:List WData):l.row.toRowW.claim.post args (.bool AK) args=AK :=
 postW_of (r:=l.row.toRowW) (X:=(AK==AK))
  (show WShape.has [] (.bool AK) .bool=AK by first|rfl|decide|simp[WShape.has,WShape.arms,WShape.armsAll])
  (show(WTm.eq .res (.lit (.bool AK))).value [] { args:=args,res:=AA (.bool AK),after:=args }=AA (.bool (AK==AK)) from w_eq_bool (w_res rfl) w_lit) rfl
theorem attach_call{l:OpenLaw}{d:DefRec}
  (hn:l.most=AA n) (wV:d.params.defaults=[])
  (call:∀(w:D2) (s₀ EY:AT) (mg mb:CN->Option AI) (fa:AR) (o:HL) (pm cd SY:AI) (a:AR) (vs:List AI) (ns:List Int),
   Ground q ZK [] XP w s₀ mg mb EY.heap->YP w EY.heap ->
   EY.heap.get? fa=AA o->o.data=.func (docDef d.name d.params d.body d.scope pm cd SY)->EY.heap.CodeRec cd d.name->mg d.name=AA (.ref fa) ->
   EY.heap.get? a=AA { cls:=.type "list",data:=.seq vs.toArray }->FX vs ns->ns.length<=n->EY.gens=#[] ->
   G5 (A6 l.prog w) Q3 (.call (.ref fa) {[.ref a],[]}) (λr s'=>r=.ok (.ret (.bool AK))/\OldK EY.heap s'.heap/\s'.os=EY.os/\NN s'.gens) EY) :
  WalkO q ZK XP YP l.row.toRowW d [] (λf vs=>aJ f vs):=by
 intro w s₀ EY mg mb G Y fa o pm cd SY dV kV ho hd L9 hD wI hg args nQ as jC hlay hrd Bd hlo;obtain rfl:dV=.none:=Dflts.none hD wV;obtain rfl:kV=.none:=Dflts.noKw hD;obtain⟨a,vs,ns,rfl,rfl,dP,dU,ET⟩:=zQM hn jC Bd;refine enter_call (MB (call w s₀ EY mg mb fa o pm cd SY a vs ns G Y ho (fd_plain hd) L9 wI dP dU ET hg) λr s' hq=>?_);obtain⟨rfl,h2,h3,h4⟩:=hq;exact{.inl {.bool AK,.bool AK,[],rfl,λ_=>rfl,.bool AK,zQN l _,λ_=>{N4,λ_ hm=>(nomatch hm)}},h2,h3,h4}
section
variable{K:Frag}
noncomputable def yHF(h:D3)(L d:AR):List (AR×HL):=(DB h.objs.size).filterMap λa=>if a=L\/a=d then AN else(h.get? a).map λo=>(a,o)
end
end Att
variable{CX:L2.CXT}{sp:L2.Sp}{B:Prop}
namespace L2
open PySem PySem.Spec PyProof.Rows
theorem Si:∀{vs:List AI} {ns:List Int},FX vs ns->Vals (ns.map V.int) vs
 |_,_,.nil=>.nil
 |_,_,.cons n t h=>.cons {t,rfl} (Si h)
def Gs(H:Hp):Prop:=∀b,H b=AN\/(∃o xs,H b=AA (.frz o (.lst xs)))\/∃q,H b=AA (.tbl q #[])
structure Tabs(K:AC)(q:CO):Prop where
 rcs:∀x∈iM,∀c T,EN K x=AA (c,T)->∃d,(PyProof.Rows.recsOf q).find? (λe=>e.name==x)=AA d
 out:∀x∈iM,∀c T,EN K x=AA (c,T)->K.lookup T=AN
 uni:∀x∈iM,∀y∈iM,∀c c' T,EN K x=AA (c,T)->EN K y=AA (c',T)->x=y
def CB(K:AC)(base:D3):Prop:=∀x∈iM,∀c T,EN K x=AA (c,T)->JH base c T
theorem Tabs.uq{K:AC}(t:Tabs K q){T:AR}{u v:CN}(a:TB K T u)(b:TB K T v):u=v:=by
 obtain⟨x,c,h1,h2,rfl⟩:=a;obtain⟨y,c',g1,g2,rfl⟩:=b;rw[t.uni x h1 y g1 c c' T h2 g2]
open Classical in
noncomputable def kF(K:AC)(H:Hp):Hp:=λb=>if h:∃q,TB K b q then AA (.tbl h.choose #[]) else H b
theorem zYO{K:AC}(t:Tabs K q){T:AR}{u:CN}(a:TB K T u):kF K H T=AA (.tbl u #[]):=by
 have h:∃q,TB K T q:={u,a};unfold kF;rw[dif_pos h,t.uq h.choose_spec a]
theorem zYP{K:AC}{b:AR}(a:∀q,¬TB K b q):kF K H b=H b:=by
 unfold kF;rw[dif_neg (λq0=>by obtain⟨q,z⟩:=q0;exact a q z)]
theorem zTW{K:AC}{mb:CN->Option AI}{fa:AR}{EY:AT}{vs:List AI}
  (KX:K.In EY.heap) (jE:EY.heap.Ns BJ mg) (hb:EY.heap.Ns MU mb) (hbb:∀x:CN,x≠"__name__"->mb x=GH x) (Kv:EY.heap.NoLimit) (Bo:∃bm ob,mg "__builtins__"=AA (.ref bm)/\bm≠MU/\EY.heap.get? bm=AA ob/\ob.cls=.type "module"/\ob.dict=AA MU/\ob.data=.plain) (hg:EY.gens=#[])
  (tK:Tabs K q) (tT:∀x∈iM,∀c T,EN K x=AA (c,T)->JH EY.heap c T/\EY.heap.get? T=AA (K8 #[]))
  (ha:EY.heap.get? a=AA { cls:=.type "list",data:=.seq vs.toArray }) (hi:FX vs ns) (hl:ns.length<=sizeLine) (hr:Room k Q3)
  (F:∀base:D3,K.In base->base.Ns BJ mg->CB K base->FnOk P w K mg base CX k fa fd [x] sp) (PQ:∀(s:AT) (u:AI),UO s fd {[u],[]} [(x,u)])
  (X3:∀H:Hp,Gs H->SqL K H a (ns.map V.int)->sp [.ref a] H (λv _=>v=.bl AK) λ_ _ _=>False)
  (Mb:∀H e s',CX [] H EY (λ_ _ _=>False) e s'->False) :
  G5 (A6 P w) Q3 (.call (.ref fa) {[.ref a],[]}) (λr s'=>r=.ok (.ret (.bool AK))/\OldK EY.heap s'.heap/\s'.os=EY.os/\NN s'.gens) EY:=by
 have rv:=Si hi;have Jt:=hi.length
 have XE:∀{T u},TB K T u->EY.heap.get? T=AA (K8 #[])/\bW EY.heap T/\K.lookup T=AN:=λ{T u} h=>by
  obtain⟨x,c,h1,h2,_⟩:=h;obtain⟨z1,z2⟩:=tT x h1 c T h2;exact{z2,(z1.tab z2).isCodeTable,tK.out x h1 c T h2}
 have rF:∀{u},¬TB K a u:=λ{u} h=>by
  have e:=(XE h).1;rw[ha] at e;cases e
 -- from an abstract heap in which nothing but the script and the tables is V1
 have xH:∀H0:Hp,(∀b,H0 b=AN\/∃o xs,H0 b=AA (.frz o (.lst xs)))->SqL K H0 a (ns.map V.int)->HOk P w H0 EY.heap->(∀b,H0 b≠AN->b=a)->(H0 a≠AN->K.lookup a=AN) ->
   G5 (A6 P w) Q3 (.call (.ref fa) {[.ref a],[]}) (λr s'=>r=.ok (.ret (.bool AK))/\OldK EY.heap s'.heap/\s'.os=EY.os/\NN s'.gens) EY:=by
  intro H0 Zt hS0 Ko Zv hK0;have hT:∀{T u},TB K T u->kF K H0 T=AA (.tbl u #[]):=λh=>zYO tK h;have hN:∀b,(∀u,¬TB K b u)->kF K H0 b=H0 b:=λb h=>zYP h
  have gr:∀b u,H0 b=AA u->kF K H0 b=AA u:=λb u e=>by
   have:b=a:=Zv b (by rw[e];simp);rw[hN b λu=>by rw[this];exact rF,e]
  generalize hH:kF K H0=H at hT hN gr
  have hO:Gs H:=λb=>by
   by_cases h:∃u,TB K b u
   .obtain⟨u,h⟩:=h;exact .inr (.inr {u,hT h})
   .rw[hN b λu z=>h {u,z}]
    exact(Zt b).imp_right .inl
  have hS:SqL K H a (ns.map V.int):=hS0.imp (λz=>z.imp (gr _ _) (λq0=>by obtain⟨o,z⟩:=q0;exact{o,gr _ _ z})) id
  have hok:HOk P w H EY.heap:=λb u e=>by
   by_cases h:∃u,TB K b u
   .obtain⟨v,h⟩:=h
    rw[hT h] at e;cases e;exact{(XE h).1,trivial,λpos cv z=>by cases z}
   .rw[hN b λu z=>h {u,z}] at e
    refine(Ko b u e).stay (λc v _ q=>q) (λc q=>gr _ _ q) (λc xs q=>gr _ _ q) λc o x q=>gr _ _ q
  have hA:∀b,H b≠AN->b=a\/∃u,TB K b u:=λb z=>by
   by_cases h:∃u,TB K b u
   .exact .inr h
   .rw[hN b λu z=>h {u,z}] at z
    exact .inl (Zv b z)
  have hK:H a≠AN->K.lookup a=AN:=λz=>hK0 (by rw[<-hN a λu=>rF];exact z);have R0:∀{b:AR} {o:HL},EY.heap.get? b=AA o->H b=AN->(fD EY.heap H).get? b=AA o:=λe n=>zTH e n
  have vK:∀{b:AR} {o:HL} {es:Array J0} {ep:Nat},EY.heap.get? b=AA o->o.data=.dict es ep->H b=AN:=λ{b o es ep} e d=>by
   cases q:H b with
   |none=>rfl
   |some u =>
    rcases hA b (by rw[q];simp) with e'|⟨v,h⟩
    .subst e'
     rw[ha] at e;cases e;have d':l7 vs.toArray _=Data.dict es ep:=d;cases d'
    .rw[(XE h).1] at e;cases e
     have d':OR #[]=Data.dict es ep:=d;cases d'
  have Az:∀{b:AR} {m:CN->Option AI},EY.heap.Ns b m->(fD EY.heap H).Ns b m:=λ{b m} ⟨o,es,ep,e,d,r⟩=>{o,es,ep,R0 e (vK e d),d,r}
  have Zu:K.In (fD EY.heap H):=λb o e=>R0 (KX b o e) (by
   cases q:H b with
   |none=>rfl
   |some u =>
    rcases hA b (by rw[q];simp) with e'|⟨v,h⟩
    .subst e'
     rw[hK (by rw[q];simp)] at e;cases e
    .rw[(XE h).2.2] at e;cases e)
  have hM:Mod K mg (fD EY.heap H):={Zu,Az jE,{mb,Az hb,hbb},let ⟨mc,h1,h2⟩:=Kv;{mc,Az h1,h2},by
   obtain⟨bm,ob,b1,b2,b3,b4,b5,b6⟩:=Bo;refine{bm,ob,b1,b2,R0 b3 ?_,b4,b5,b6}
   cases q:H bm with
   |none=>rfl
   |some u =>
    rcases hA bm (by rw[q];simp) with e'|⟨v,h⟩
    .subst e';rw[ha] at b3;cases b3;injection b4 with z;exact absurd z 'd'
    .rw[(XE h).1] at b3;cases b3;cases b4}
  have e0:Env0 P w K mg (fD EY.heap H) Q3 [] EY H:={λT u h=>{_,hT h},rfl,hM,λb o e=>zX4 e,CY (zP2 _ _),trivial,λb hb=>absurd (show b∈([]:List AR) from hb) 's',hok,.of_eq hg}
  have hCB:CB K (fD EY.heap H):=λx hx c T e=>by
   obtain⟨⟨o,kY,Mf,tf,xC,tg,inF,Iq,tt,e1,e2,r⟩,_⟩:=tT x hx c T e;refine{o,kY,Mf,tf,xC,tg,inF,Iq,tt,R0 e1 ?_,e2,r}
   cases q:H c with
   |none=>rfl
   |some u =>
    rcases hA c (by rw[q];simp) with e'|⟨v,h⟩
    .subst e';rw[ha] at e1;cases e1;injection e2 with z;exact absurd z 'd'
    .rw[(XE h).1] at e1;cases e1;cases e2
  refine MB ((F _ Zu (Az jE) hCB).run Q3 [] EY H {[.ref a],[]} [.ref a] [.ref a] _ _ hr e0 (PQ EY (.ref a)) (.cons rfl .nil) (X3 H hO hS)) λr s' h=>?_
  cases r with
  |error e=>exact(Mb H e s' h).elim
  |ok fl =>
   cases fl with
   |next=>exact HG h
   |brk=>exact HG h
   |cont=>exact HG h
   |ret u =>
    obtain⟨v,H',os,bare,un,wE,r',q⟩:=h;have q':v=.bl AK:=q;subst q';obtain rfl:u=JA AK:=r'
    have II:∀b o,EY.heap.get? b=AA o->s'.heap.get? b=AA o\/(bW EY.heap b/\o=K8 #[]/\∃ps,s'.heap.get? b=AA (K8 ps)):=λb o e=>by
     cases q:H b with
     |none=>exact .inl (un.keep b o e q (by intro z;exact absurd (show b∈([]:List AR) from z) 's') 's')
     |some u =>
      rcases hO b with z|⟨ob,xs,z⟩|⟨v,z⟩
      .rw[q] at z;cases z
      .have z2:=un.frzs b ob _ z
       obtain⟨e1,_⟩:=hok b _ z;obtain⟨e2,_⟩:=wE b _ z2;rw[e] at e1;cases e1;exact .inl e2
      .obtain⟨m,z2⟩:=un.tbls b v _ z
       obtain⟨e2,_⟩:=wE b _ z2
       by_cases h:∃u,TB K b u
       .obtain⟨w',h⟩:=h
        rw[(XE h).1] at e;cases e;exact .inr {(XE h).2.1,rfl,_,e2}
       .rw[hN b λu z=>h {u,z}] at z
        rcases Zt b with y|⟨ob,xs,y⟩
        .rw[z] at y;cases y
        .rw[z] at y;cases y
    refine{rfl,{λb o e=>?_,λb o e=>?_},os,bare}
    .rcases II b o e with z|⟨ht,rfl,ps,hP⟩
     .exact .inl z
     .exact .inr (.inl {ht,rfl,#[],ps,rfl,by rw[Array.empty_append];exact hP})
    .rcases II b o e with z|⟨_,_,ps,hP⟩
     .exact{o,z}
     .exact{_,hP}
 cases hk:K.lookup a with
 |some o =>
  -- the script is KC of the module's own objects
  have e:=KX a o hk;rw[ha] at e;cases e;refine xH (λ_=>AN) (λ_=>.inl rfl) (.inr {_,vs.toArray,_,hk,rfl,rfl,rfl,by rw[A4,Jt];exact hl,by simpa using rv}) (λb u z=>by have z':(AN:Option HO)=AA u:=z;cases z') (λb z=>absurd rfl z) λz=>absurd rfl z
 |none =>
  refine xH (λb=>if b=a then AA (.frz { cls:=.type "list",data:=.seq vs.toArray } (.lst (ns.map V.int))) else AN) (λb=>?_) (.inl (.inr {{ cls:=.type "list",data:=.seq vs.toArray },if_pos rfl})) (λb u z=>?_) (λb z=>?_) λ_=>hk
  .by_cases hb:b=a
   .exact .inr {_,_,if_pos hb}
   .exact .inl (if_neg hb)
  .by_cases hb:b=a
   .have z':=(if_pos hb).symm.trans z
    cases z';subst hb;exact{ha,by rw[AJ];exact hl,vs,_,rv,ha}
   .have z':=(if_neg hb).symm.trans z
    cases z'
  .by_cases hb:b=a
   .exact hb
   .exact absurd (if_neg hb) z
theorem walk_of{l:RO}{d:DefRec}{K:Params->AC}{CX:D2->CXT}{sp:D2->Sp}
  (hn:l.most=AA n) (aB:n<=sizeLine) (wV:d.params.defaults=[]) (hr:Room k Q3)
  (hY:∀(w:D2) (h:D3),YP w h->(K w.params).In h) (tK:∀w:D2,Tabs (K w.params) q)
  (F:∀(w:D2) (mg:CN->Option AI) (fa:AR) (h:D3),(K w.params).In h->h.Ns BJ mg->mg d.name=AA (.ref fa) ->
   ∃fd:JO,(∀(s:AT) (u:AI),UO s fd {[u],[]} [(x,u)]) /\
    ∀base:D3,(K w.params).In base->base.Ns BJ mg->CB (K w.params) base->FnOk l.prog w (K w.params) mg base (CX w) k fa fd [x] (sp w))
  (X3:∀(w:D2) (H:Hp) (a:AR) (ns:List Int),ns.length<=n->Gs H->SqL (K w.params) H a (ns.map V.int)->sp w [.ref a] H (λv _=>v=.bl AK) λ_ _ _=>False)
  (Mb:∀(w:D2) (H:Hp) (s:AT) (e:AI) (s':AT),CX w [] H s (λ_ _ _=>False) e s'->False) :
  gT q ZK XP YP l.row.toRowW d [] (λf vs=>aJ f vs):=by
 refine Att.attach_call hn wV λw s₀ EY mg mb fa o pm cd SY a vs ns G Y ho hd L9 wI dP dU ET hg=>?_;have KX:=hY w _ Y;obtain⟨fd,hb,hF⟩:=F w mg fa _ KX G.T.g wI;exact zTW KX G.T.g G.T.b G.T.builtins G.T.nolimit G.T.bmain hg (tK w) (λx hx c T e=>let ⟨d,hd⟩:=(tK w).rcs x hx c T e;PySem.W.tab_of G.T KX hd e) dP dU (AX ET aB) hr hF hb (λH hO hS=>X3 w H a ns ET hO hS) λH e s'=>Mb w H EY e s'
noncomputable def fM(s:FC):Arguments:=match s with
 |.FunctionDef _ a _ _ _ _ _ _ _ _=>a
 |_=>{ posonlyargs:=[],args:=[],vararg:=AN,kwonlyargs:=[],kw_defaults:=[],kwarg:=AN,defaults:=[] }
noncomputable def W7(s:FC):List FC:=match s with
 |.FunctionDef _ _ b _ _ _ _ _ _ _=>b
 |_=>[]
noncomputable def J7(s:FC):NJ:=match s with
 |.FunctionDef _ _ _ _ _ _ sc _ _ _=>sc
 |_=>{ kind:=.function,names:=[],isGenerator:=AD,isCoroutine:=AD }
abbrev L6:CXT:=λ_ _ _ _ _ _=>False
abbrev E0:XK:=λ_ _ _=>False
theorem xZ:Db L6 X E0:=λ_ _ _ _ _ _ _ h=>h.elim
structure Fun(K:AC)(x qual:CN)(st:FC)(f:AR)(fd:JO):Prop where
 ex:∃(oc:AI) (od:Option AR) (kV SY pm:AI) (an:Option AR) (G3 ct:AI) (Z9:Array (Option AI)),
  fd=FL x qual (fM st) (W7 st) (J7 st) .none kV SY pm an G3 ct/\K.lookup f=AA {oc,od,.func fd,Z9}/\JG K G3 qual=AK
 kp:E6 K (.ref f)=AK
section
variable{K:AC}
theorem Fun.ok{st:FC}(F:Fun K x qual st f fd)(S:FnScope N ps (J7 st))(len:∀vs H Q E,sp vs H Q E->vs.length=ps.length)
  (K4:∀(G3:AI) (A:DP) (outer:List XZ) (s:AT) (H:Hp) (vs:List V) (Q:VK) (E:XK),Room k (A.deeper (G0 qual (J7 st) s.heap.objs.size f G3))->sp vs H Q E ->
   ∃t,PSs (TK L6 P w K mg base N qual (J7 st) f G3 A outer s H E).nox (W7 st) t/\t { nx:=λ_ H'=>Q .non H',rt:=Q } (start N vs) H):FnOk P w K mg base L6 (k+1) f fd ps sp:=by
 obtain⟨oc,od,kV,SY,pm,an,G3,ct,Z9,rfl,lk,L9⟩:=F.ex;refine Cf lk L9 S len λA outer s H vs Q E hr X3=>?_;obtain⟨t,h,q⟩:=K4 G3 A outer s H vs Q E hr X3;exact{t,h.nox,q}
theorem Fun.binds{st:FC}(F:Fun K x qual st f fd)
  (h:∀(kV SY pm:AI) (an:Option AR) (G3 ct:AI) (us:List AI),us.length=ps.length->OH (FL x qual (fM st) (W7 st) (J7 st) .none kV SY pm an G3 ct) {us,[]}=pure (ps.zip us)):Binds K fd ps []:=by
 obtain⟨oc,od,kV,SY,pm,an,G3,ct,Z9,rfl,lk,L9⟩:=F.ex;exact .all (h kV SY pm an G3 ct)
theorem Cz{st:FC}{Z9:Array (Option AI)}{kV SY G3:AI}(l:K.lookup f=AA {oc,od,.func (FL x qual (fM st) (W7 st) (J7 st) .none kV SY pm an G3 ct),Z9})
  (c:JG K G3 qual=AK) (k:E6 K (.ref f)=AK):Fun K x qual st f (FL x qual (fM st) (W7 st) (J7 st) .none kV SY pm an G3 ct):={{oc,od,kV,SY,pm,an,G3,ct,Z9,rfl,l,c},k}
end
theorem Fe(h:n<=1000):n<sizeLine:=AS h 'd'
theorem pv(i:Nat)(hN:X.N[i]?=AA x:=by rfl)(hv:Z8 X.env.scope x:=by first|exact BO rfl|exact DY (BO rfl)|exact DY (DY rfl))(hd:(x==("__debug__":CN))=AD:=by decide)
  (L9:(x==("__classdict__":CN))=AD:=by decide):PE X (.Name x pos) (aU i):=iI hN hv hd L9
theorem Vj{A:Prop}(h:B):if AD=AK then A else B:=by
 rw[if_neg CH];exact h
theorem Vi{A:Prop}(h:A):if AK=AK then A else B:=by
 rw[if_pos rfl];exact h
end L2
namespace TS
open PySem PyProof.Rows
section
variable{prog:CO}{w:D2}{A:DP}{E:AI->AT->Prop}{s:AT}{BU:Array BD}{kd:FH}
structure SB(BU:Array BD)(kd:FH)(st:BP):Prop where
 perm:(AY st).Perm BU
 kind:kindOf st=kd
 failed:jN st=AN
theorem SB.size{st:BP}(h:SB BU kd st):(AY st).size=BU.size:=h.perm.size_eq
theorem SB.setArr{st:BP}(h:SB BU kd st){xs:Array BD}(hp:xs.Perm (AY st)):SB BU kd (setArr st xs):={hp.trans h.perm,h.kind,h.failed}
theorem SB.mem{st:BP}(h:SB BU kd st){i:Nat}(hi:i<(AY st).size):(AY st)[i]∈BU:=h.perm.mem_iff.mp (AH hi)
theorem p9{st:BP}{G4:Array BD}{i:Nat}{Q:BD->BP->Prop}(hi:i<G4.size)(h:Q G4[i] st):NY (A6 prog w) A E s (elem' G4 i) Q st:=by
 rw[elem'_eq,getElem?_pos G4 i hi];exact BE h
theorem LP{α:Type}{c:Prop}[Decidable c]{x y:StateT BP TC α}{Q:α->BP->Prop}{st:BP}(h1:c->NY (A6 prog w) A E s x Q st)(h2:¬c->NY (A6 prog w) A E s y Q st) :
  NY (A6 prog w) A E s (if c then x else y) Q st:=by
 by_cases h:c
 .rw[if_pos h];exact h1 h
 .rw[if_neg h];exact h2 h
end
section
variable{prog:CO}{w:D2}{A:DP}{E:AI->AT->Prop}{s:AT}{BU:Array BD}{kd:FH}
theorem yY{st:BP}{i j:Nat}{Q:PUnit->BP->Prop}(h:Q ⟨⟩ (setArr st (O2 (AY st) i j ((j-i) / 2)))):NY (A6 prog w) A E s (reverseSlice' i j) Q st:=by
 rw[reverseSlice'_eq];exact MQ h
def Kp(BU:Array BD)(kd:FH)(st CP:BP):Prop:=SB BU kd CP/\DI CP=DI st
theorem Kp.rev{st CP:BP}{i j d:Nat}(h:Kp BU kd st CP):Kp BU kd st (setArr CP (O2 (AY CP) i j d)):={h.1.setArr (mirror_perm _ _ _ _),h.2}
end
noncomputable def tB:Bool->BD->Array BD->Nat->Nat->Nat->StateT BP TC (Option Nat):=sortPriv% PySem.Builtin.gallop
section
variable{prog:CO}{w:D2}{A:DP}{E:AI->AT->Prop}{s:AT}{BU:Array BD}{kd:FH}
end
noncomputable def Gb:Nat->StateT BP TC Unit:=sortPriv% PySem.Builtin.setMinGallop
abbrev sV(st:BP)(g:Nat):BP:=TR (kindOf st) (AY st) (DI st) g (jN st)
theorem zF2(g:Nat):Gb g=modify λs=>sV s g:=rfl
noncomputable def zTY:Array BD->Array BD->StateT BP TC (Array BD):=sortPriv% PySem.Builtin.mergeLo
noncomputable def zTZ:Array BD->Array BD->StateT BP TC (Array BD):=sortPriv% PySem.Builtin.mergeHi
structure Mid(a b out:Array BD)(ia ib:Nat):Prop where
 perm:(out.toList++a.toList.drop ia++b.toList.drop ib).Perm (a.toList++b.toList)
 la:ia<=a.size
 lb:ib<=b.size
 sz:out.size=ia+ib
theorem Mid.pushB{a b out:Array BD}{ia ib:Nat}(m:Mid a b out ia ib)(h:ib<b.size):Mid a b (out.push b[ib]) ia (ib+1):=by
 refine{?_,m.la,h,by rw[EH,m.sz];lia}
 have e:b.toList.drop ib=b[ib]::b.toList.drop (ib+1):=by
  rw[GQ (by simpa using h)];simp
 have p:=m.perm;rw[e] at p;refine J6 ?_ p;rw[FD];simp only[DH,J5];exact JK _ (gY.symm)
theorem Mid.pushA{a b out:Array BD}{ia ib:Nat}(m:Mid a b out ia ib)(h:ia<a.size):Mid a b (out.push a[ia]) (ia+1) ib:=by
 refine{?_,h,m.lb,by rw[EH,m.sz];lia}
 have e:a.toList.drop ia=a[ia]::a.toList.drop (ia+1):=by
  rw[GQ (by simpa using h)];simp
 have p:=m.perm;rw[e] at p;refine J6 ?_ p;rw[FD];simp only[DH,J5,M7];exact GB _
theorem Qa(a:Array BD)(i:Nat):(a.extract i a.size).toList=a.toList.drop i:=by
 rw[KJ];exact JR 's'
theorem Mid.done{a b out:Array BD}{ia ib:Nat}(m:Mid a b out ia ib):(out++a.extract ia a.size++b.extract ib b.size).Perm (a++b):=by
 rw[EG];simp only[EL,Qa];exact m.perm
theorem Mid.lastA{a b out:Array BD}{ia ib:Nat}(m:Mid a b out ia ib):(out++b.extract ib b.size++a.extract ia a.size).Perm (a++b):=by
 rw[EG];simp only[EL,Qa];refine J6 ?_ m.perm;simp only[DH];exact JK _ ZA
section
variable{prog:CO}{w:D2}{A:DP}{E:AI->AT->Prop}{s:AT}{BU:Array BD}{kd:FH}
def Gal(st CP:BP):Prop:=∃g,CP=sV st g
theorem Gal.refl(st:BP):Gal st st:={gallopOf st,rfl}
theorem Gal.set{st CP:BP}(h:Gal st CP)(g:Nat):Gal st (sV CP g):=by
 obtain⟨g',rfl⟩:=h;exact{g,rfl}
theorem Gal.kind{st CP:BP}(h:Gal st CP)(hk:kindOf st=kd):kindOf CP=kd:=by
 obtain⟨g',rfl⟩:=h;exact hk
theorem zYQ{st:BP}{g:Nat}{Q:Unit->BP->Prop}(h:Q () (sV st g)):NY (A6 prog w) A E s (Gb g) Q st:=by
 rw[zF2];exact MQ h
end
structure MidH(a b out:Array BD)(na nb:Nat):Prop where
 perm:(a.toList.take na++b.toList.take nb++out.toList.reverse).Perm (a.toList++b.toList)
 la:na<=a.size
 lb:nb<=b.size
 sz:out.size+na+nb=a.size+b.size
theorem Ta(a:Array BD)(n:Nat)(h:n-1<a.size)(h0:1<=n):a.toList.take n=a.toList.take (n-1)++[a[n-1]]:=by
 obtain⟨m,rfl⟩:∃m,n=m+1:={n-1,by lia};have h':m<a.toList.length:=by simpa using h
 simp only[Nat.add_sub_cancel];rw[BK h'];simp
theorem MidH.pushA{a b out:Array BD}{na nb:Nat}(m:MidH a b out na nb)(h0:1<=na)(h:na-1<a.size):MidH a b (out.push a[na-1]) (na-1) nb:=by
 refine{?_,CW h,m.lb,by rw[EH];have:=m.sz;lia};have p:=m.perm;rw[Ta a na h h0] at p;refine J6 ?_ p;rw[FD,aN];simp only[DH,J5,eV,gX,HM,M7];exact JK _ gY
theorem MidH.pushB{a b out:Array BD}{na nb:Nat}(m:MidH a b out na nb)(h0:1<=nb)(h:nb-1<b.size):MidH a b (out.push b[nb-1]) na (nb-1):=by
 refine{?_,m.la,CW h,by rw[EH];have:=m.sz;lia};have p:=m.perm;rw[Ta b nb h h0] at p;rw[FD,aN];simpa only[DH,J5,eV,gX,HM,M7] using p
theorem Dt(a:Array BD)(i n:Nat)(h:i<=n):a.toList.take i++(a.extract i n).toList=a.toList.take n:=by
 rw[KJ];show a.toList.take i++(a.toList.drop i).take (n-i)=_
 conv=>rhs;rw[show n=i+(n-i) by lia]
 rw[List.take_add]
theorem Rq(a:Array BD)(i:Nat):(a.extract 0 i).toList=a.toList.take i:=by
 have:=Dt a 0 i (BY _);simpa using this
theorem MidH.done{a b out:Array BD}{na nb:Nat}(m:MidH a b out na nb):(a.extract 0 na++b.extract 0 nb++out.reverse).Perm (a++b):=by
 rw[EG];simp only[EL,Rq,OL];exact m.perm
theorem MidH.firstB{a b out:Array BD}{na nb:Nat}(m:MidH a b out na nb):(b.extract 0 nb++a.extract 0 na++out.reverse).Perm (a++b):=by
 rw[EG];simp only[EL,Rq,OL];refine J6 ?_ m.perm;exact UL _ ZA
section
variable{prog:CO}{w:D2}{A:DP}{E:AI->AT->Prop}{s:AT}{BU:Array BD}{kd:FH}
end
theorem Pz(c:List BD):∀(a:Array BD) (sa k:Nat),sa+k+c.length<=a.size ->
  ((c.zipIdx k).foldl (λa (p:BD×Nat)=>a.setIfInBounds (sa+p.2) p.1) a).toList=a.toList.take (sa+k)++c++a.toList.drop (sa+k+c.length):=by
 induction c with
 |nil=>intro a sa k h;simp
 |cons x r ih =>
  intro a sa k h;rw[J9,KY];have hl:(x::r).length=r.length+1:=rfl;rw[ih (a.setIfInBounds (sa+k) x) sa (k+1) (by rw[MH];lia)];have IU:sa+k<a.toList.length:=by simp;lia
  rw[UP];rw[show sa+(k+1)=(sa+k)+1 by lia];rw[BK (by simpa using IU),List.take_set_of_le (AL _),List.getElem_set_self,List.drop_set_of_lt (FY (A3 _ _))];rw[show sa+k+1+r.length=sa+k+(x::r).length by rw[hl];lia];simp
theorem zQR{a c:Array BD}{sa sb nb:Nat}(h1:sa<=sb)(h2:sb+nb<=a.size)(hp:c.Perm (a.extract sa sb++a.extract sb (sb+nb))) :
  (c.toList.zipIdx.foldl (λa (p:BD×Nat)=>a.setIfInBounds (sa+p.2) p.1) a).Perm a:=by
 have hl:c.toList.length=(sb-sa)+nb:=by
  have:=hp.size_eq;rw[HU,JD,JD] at this;simp;lia
 rw[EG,Pz c.toList a sa 0 'l'];have bM:=EG.mp hp;rw[EL] at bM;have e1:=Dt a sa sb h1;have e2:=Dt a sb (sb+nb) (A3 _ _);have e3:=List.take_append_drop (sb+nb) a.toList
 have q:(a.toList.take (sa+0)++c.toList++a.toList.drop (sa+0+c.toList.length)).Perm (a.toList.take sa++((a.extract sa sb).toList++(a.extract sb (sb+nb)).toList)++a.toList.drop (sb+nb)):=by
  rw[show sa+0=sa from Nat.add_zero _,show sa+c.toList.length=sb+nb by lia];exact UL _ (JK _ bM)
 refine q.trans ?_;rw[<-DH,e1,e2,e3]
section
variable{prog:CO}{w:D2}{A:DP}{E:AI->AT->Prop}{s:AT}{BU:Array BD}{kd:FH}
theorem zYR{st st2:BP}{Q:PUnit->BP->Prop}(h:Q ⟨⟩ st2):NY (A6 prog w) A E s (set st2:StateT BP TC PUnit) Q st:=by
 unfold NY;rw[StateT.run_set];exact wpAny_pure {rfl,h}
end
abbrev Run:=Nat×Nat×Nat
section
variable{prog:CO}{w:D2}{A:DP}{E:AI->AT->Prop}{s:AT}{BU:Array BD}{kd:FH}
theorem yCS{c:Prop}[Decidable c]{a b n:Nat}(h1:a<=n)(h2:b<=n):(if c then a else b)<=n:=by
 split
 .exact h1
 .exact h2
end
end TS
variable{cl:List (CN×AR)}{own CZ:List CN}{js:List Nat}{JU:D3}{ifs:List CU}{J:L2.It}{R:Result->AT->Prop}{H1:L2.Hp}{o:L2.HO}{OE:CU}{wi:L2.TI}{SM:YA}
namespace L2
open PySem PySem.Spec PyProof.Rows
def PTs(X:Cx)(ifs:List CU)(t:TT):Prop :=
 ∀(AF:List (AR×HL)) (s:AT) (σ:St) (H:Hp) (Q:Bool->Hp->Prop),Inv X AF σ H s->t σ H Q ->
  A0 (A6 X.prog X.w) X.A (forIn ifs AK λc r=>if r=AK then do let ok <-WG c X.env (eval c X.env);pure (QU ok) else pure (QU r)) (TP X AF σ Q) X.xe s
def Vh:TT:=λ_ H Q=>Q AK H
theorem ZG:PTs X [] Vh:=λ_ _ _ H _ I h=>wpAny_tests_nil {H,I,h}
theorem zYS{t:TT}(h:PT X c t):PTs X [c] t:=λAF s σ H Q I hw=>wpAny_tests_one (h AF s σ H Q I hw)
noncomputable def OV(X:Cx)(scope:NJ)(cl:List (CN×AR))(nm:List CN)(C:AR)(s:AT)(H:Hp)(fp:List AR):Cx where
 prog:=X.prog
 w:=X.w
 K:=X.K
 mg:=X.mg
 base:=X.base
 A:=X.A
 N:=nm
 s₀:=s
 H₀:=H
 env:=jO scope cl C X.env
 outer:=X.stack
 stack:=X.stack
 ex:=fp
 fn:=λ_=>AD
 calm:=X.calm
 pn:=[]
 xe:=λ_ _=>False
noncomputable def WO(k:Nat)(js:List Nat)(σ:St):St:=BG k AN++js.map λj=>(σ[j]?).getD AN
structure CompNm(X:Cx)(scope:NJ)(cl:List (CN×AR))(own CZ:List CN)(js:List Nat):Prop where
 clos:Y4 scope X.env=pure cl
 kind:scope.kind=.function
 nocell:∀y∈scope.names,y.2≠.cell
 loc:∀y∈scope.names,y.2=.local->scope.names.lookup y.1=AA .local
 dom:∀y∈scope.names,y.2=.free->y.1∈CZ
 nm:cl.map (·.1)=CZ
 cells:∀p∈cl,X.env.cells.lookup p.1=AA p.2
 slot:CZ.map AA=js.map λj=>X.N[j]?
 vis:∀x∈CZ,X.env.kindOf x=AA .cell\/X.env.kindOf x=AA .free
 fr:∀x∈CZ,(UE scope X.env).names.lookup x=AA .cell\/(UE scope X.env).names.lookup x=AA .free
 no:∀x∈own,x∉CZ
 dis:∀x∈own,scope.names.lookup x=AA .local
theorem tR{α β:Type}[BEq α][LawfulBEq α]:∀{l:List (α×β)} {x:α} {c:β},l.lookup x=AA c->(x,c)∈l
 |[],_,_,h=>by simp at h
 |(a,b)::r,x,c,h=>by
  rw[M6] at h
  cases e:x==a with
  |true=>rw[e] at h;cases h;have:=eq_of_beq e;subst this;exact BB
  |false=>rw[e] at h;exact A1 _ (tR h)
theorem Gf{α β:Type}[BEq α][LawfulBEq α]:∀{l:List (α×β)} {x:α},x∈l.map (·.1)->∃c,l.lookup x=AA c
 |[],_,h=>by simp at h
 |(a,b)::r,x,h=>by
  rw[M6]
  cases e:x==a with
  |true=>exact{b,rfl}
  |false =>
   refine Gf ?_;rcases A2.mp h with q|q
   .have q:x=a:=q
    subst q;simp at e
   .exact q
theorem zS{env:XZ}:∀{names:List (CN×UK)} {x:CN} {k:UK},(names.map λ(n,k)=>if(k==eU&&env.scope.kind==.function&&env.kindOf n==AA .cell) then(n,NameKind.cell) else(n,k)).lookup x=AA k ->
  (k=.cell\/k=.free)->∃k',(x,k')∈names/\(k'=.cell\/k'=.free)
 |[],_,_,h,_=>by simp at h
 |(n,k0)::r,x,k,h,hk=>by
  rw[AU,M6] at h
  by_cases hc:(k0==eU&&env.scope.kind==.function&&env.kindOf n==AA .cell)=AK
  .simp only[hc,if_true] at h
   cases e:x==n with
   |true =>
    have:=eq_of_beq e;subst this
    have hf:k0=.free:=by
     have:=(ZY.mp (ZY.mp hc).1).1;exact eq_of_beq this
    exact{k0,BB,.inr hf}
   |false =>
    rw[e] at h;obtain⟨k',h1,h2⟩:=zS h hk;exact{k',A1 _ h1,h2}
  .simp only[hc,if_false,DT] at h
   cases e:x==n with
   |true =>
    rw[e] at h;have:=eq_of_beq e;subst this;cases h;exact{k0,BB,hk}
   |false =>
    rw[e] at h;obtain⟨k',h1,h2⟩:=zS h hk;exact{k',A1 _ h1,h2}
theorem CompNm.cl_of(n:CompNm X scope cl own CZ js){c:AR}(h:cl.lookup x=AA c):X.env.cells.lookup x=AA c:=n.cells _ (tR h)
theorem CompNm.has(n:CompNm X scope cl own CZ js)(h:x∈CZ):∃c,cl.lookup x=AA c:=Gf (by rw[n.nm];exact h)
theorem Inv.stk_of{b:AR}(I:Inv X AF σ H s)(hf:FpOk X AF H b):b∉SI X.stack:=λz=>by
 rcases A2.mp (I.stkSub b z) with e|e
 .exact hf.2.1 e
 .exact hf.2.2.1 e
theorem zO6{m:CN->Option AI}{tk:Nat}{own':List CN}(n:CompNm X scope cl own CZ js)(I:Inv X AF σ H s)(hf:∀b∈fp,FpOk X AF H b)
  (IU:∀b∈fp,b<s.heap.objs.size) (jE:JU.Ns s.heap.objs.size m) (II:∀b o,s.heap.get? b=AA o->JU.get? b=AA o) :
  Inv (OV X scope cl (own++CZ) s.heap.objs.size s H fp) [] (WO own.length js σ) H { s with heap:=JU,toks:=tk }:=by
 have hl:js.length=CZ.length:=by
  have:=congrArg OP n.slot;simpa using this.symm
 refine{{I.tab,I.ok.mod,n.kind,I.ok.glob,I.ok.blt,AL _,λx y c h1 h2=>I.ok.inj x y c (n.cl_of h1) (n.cl_of h2),λx hx=>?_,(λx c h=>nomatch h),I.ok.hd,I.ok.frames,.inl rfl,λb hb=>{BZ (IU b hb),λx c e=>(hf b hb).2.2.2.2.1 x c (n.cl_of e)},
   I.bs,AX I.ok.bsz I.sz,λb o e hb=>?_,λb hb=>I.stk_of (hf b hb),I.stack,I.stkFree},
  rfl,I.bare,Un.kept II,{m,jE,λi x v e1 e2 e3=>?_},λx c e=>?_,I.hok.fresh (AL _),λx c e=>I.freeC x c (n.cl_of e),(λp hp=>nomatch hp),I.hok.kept II,?_}
 .have hx:(UE scope X.env).names.lookup x=AA .cell\/(UE scope X.env).names.lookup x=AA .free:=hx
  have JT:∃k',(x,k')∈scope.names/\(k'=.cell\/k'=.free):=by
   rcases hx with h|h
   .exact zS h (.inl rfl)
   .exact zS h (.inr rfl)
  obtain⟨k',h1,h2⟩:=JT;rcases h2 with h2|h2
  .exact absurd h2 (n.nocell _ h1)
  .exact n.has (n.dom _ h1 h2)
 .obtain⟨_,_,_,h4,_⟩:=hf b hb
  rcases h4 with h4|h4
  .exact I.ok.noex b o e h4
  .exact absurd (AQ (A9 e) I.ok.bsz) (WI.mpr h4)
 ·-- a captured name
  have hi:own.length<=i:=by
   rcases Nat.lt_or_ge i own.length with h|h
   .unfold WO at e2
    rw[B9 (by simpa using h),DN,if_pos h] at e2;cases e2
   .exact h
  have e1:(own++CZ)[i]?=AA x:=e1;rw[CA hi] at e1;unfold WO at e2;rw[CA (by simpa using hi),C5,AV] at e2
  cases ej:js[i-own.length]? with
  |none=>rw[ej] at e2;cases e2
  |some j =>
   rw[ej] at e2;have e2:AA ((σ[j]?).getD AN)=AA (AA v):=e2
   have hj:X.N[j]?=AA x:=by
    have q:=congrArg (λl=>l[i-own.length]?) n.slot;simp only[AV,e1,ej,HI] at q;exact(BL q).symm
   have hv:σ[j]?=AA (AA v):=by
    cases es:σ[j]? with
    |none=>rw[es] at e2;cases e2
    |some o=>rw[es] at e2;exact e2
   have bK:x∈CZ:=CC e1;obtain⟨m0,hn0,rS⟩:=I.loc
   have vis:Z8 X.env.scope x:=by
    rcases n.vis x bK with k|k
    .exact .inr (.inl k)
    .exact .inr (.inr k)
   obtain⟨u,r,lk⟩:=rS j x v hj hv vis;refine{u,r,.inr {n.fr x bK,?_}};obtain⟨c,hc⟩:=n.has bK;refine{c,hc,?_};rcases lk with⟨k,_⟩|⟨_,c',bQ,z⟩
   .rcases n.vis x bK with k'|k'
    .rw[k] at k';cases k'
    .rw[k] at k';cases k'
   .rw[n.cl_of hc] at bQ
    cases bQ;obtain⟨o,ho,hd⟩:=z;exact{o,II _ _ ho,hd}
 .obtain⟨v,o,ho,hd⟩:=I.cell x c (n.cl_of e)
  exact{v,o,II _ _ ho,hd}
 .show(WO own.length js σ).length=(own++CZ).length
  unfold WO;rw[BN,BN,C5,AJ,hl]
abbrev TM:=St->Hp->(St->Hp->Prop)->Prop
def PM(X:Cx)(m:TC Unit)(t:TM):Prop :=
 ∀(AF:List (AR×HL)) (s:AT) (σ:St) (H:Hp) (N:St->Hp->Prop),Inv X AF σ H s->t σ H N->A0 (A6 X.prog X.w) X.A m (λ_ s'=>∃σ' H',Inv X AF σ' H' s'/\N σ' H') (λ_ _=>False) s
def tWalkC(J:It)(g:TG)(tt:TT)(tm:TM):TM:=λσ H N=>∃W:Nat->Nat->St->Hp->Prop,(∃m,W 0 m σ H)/\∀i m σ H,W i m σ H ->
 (J.stop i H/\N σ H)\/(J.go i H/\∀x H',J.yld i H x H'->g x σ H' λσ2 H2=>tt σ2 H2 λb H3 =>
  if b=AK then tm σ2 H3 (λσ4 H4=>∃m',m'<m/\W (i+1) m' σ4 H4) else ∃m',m'<m/\W (i+1) m' σ2 H3)
theorem Ob{Y:Cx}{d:Nat}{acc:AI}{pp:YA}{m:TC Unit}{g:TG}{tt:TT}{tm:TM}{tn:Nat->D3->Prop}{N:St->Hp->Prop}
  (nY:Y.A.under (.compLoop e d (.ref it) acc Y.env)=Y.A) (oP:(A6 Y.prog Y.w).den (.compLoop e d (.ref it) acc Y.env)=(Y3 e d (.ref it) acc Y.env).onRaise (λx=>do bS x Y.env;theTreesLotGoes x))
  (dL:Y3 e d (.ref it) acc Y.env=(do
   KD pp
   match <-JX (.ref it) with
   |none=>pure (.done .next)
   |some v =>
    FP tg (.ref it) v
    K7 tg Y.env v
    let mut ok:=AK
    for c in ifs do
     if ok then ok <-WG c Y.env (eval c Y.env)
    if ok then m
    WT (.compLoop e d (.ref it) acc Y.env)))
  (hx:Y.xe=λ_ _=>False) (hc:Y.calm=AK) (hg:PG Y tg g) (ht:PTs Y ifs tt) (hm:PM Y m tm) (T:Turn Y.prog Y.w Y.K tg J fp it tn)
  {AF:List (AR×HL)} {σ:St} {H:Hp} {s:AT} (I:Inv Y AF σ H s) (st:tn 0 s.heap) (f:∀b∈fp,FpOk Y AF H b) (h:tWalkC J g tt tm σ H N)
  (hR:∀σ' H' s',Inv Y AF σ' H' s'->N σ' H'->R (.ok .next) s') :
  G5 (A6 Y.prog Y.w) Y.A (.compLoop e d (.ref it) acc Y.env) R s:=by
 obtain⟨W,⟨m0,w0⟩,turn⟩:=h;have V3:∀{H':Hp},(∀b∈fp,H' b=AN)->∀b∈fp,FpOk Y AF H' b:=λhn b hb=>{hn b hb,(f b hb).2};have v4:∀{α:Type} {t:TC α} {Q:α->AT->Prop} {s:AT} {E:AI->AT->Prop},A0 (A6 Y.prog Y.w) Y.A t Q Y.xe s->A0 (A6 Y.prog Y.w) Y.A t Q E s:=λh=>DA h (λ_ _ q=>q) λ_ _ z=>by rw[hx] at z;exact z.elim
 refine codeAny_loop rfl (λk s'=>∃i σ' H',Inv Y AF σ' H' s'/\tn i s'.heap/\(∀b∈fp,H' b=AN)/\W i k σ' H') (λn s3 hI=>?_) m0 {0,σ,H,I,st,λb hb=>(f b hb).1,w0};obtain⟨i,σ3,H3,I3,KW,xB,w3⟩:=hI;rw[nY,oP];refine wpAny_noted ?_;rw[dL];refine AB (JN (AB ?_));rcases turn i n σ3 H3 w3 with⟨stop,qn⟩|⟨go,step⟩
 .refine GY (T.done Y rfl rfl rfl hc i AF s3 σ3 H3 _ I3 (V3 xB) KW stop) λr s4 q0=>?_;obtain⟨hr,I4⟩:=q0
  subst hr;exact wpAny_pure (hR _ _ _ I4 qn)
 .refine GY (T.item Y rfl rfl rfl hc i AF s3 σ3 H3 _ I3 (V3 xB) KW go) λr s4 q0=>?_;obtain⟨u,hr,h4⟩:=q0
  subst hr;refine AB (GY h4 λ_ s5 ⟨x,H5,I5,r5,y5,i5,Md⟩=>?_);have Mt:=I5.pinned (V3 Md) (T.obj _ _ i5);refine AB (GY (v4 (hg _ s5 σ3 H5 x u _ Mt r5 (step x H5 y5))) λ_ s6 ⟨σ6,H6,I6,q6⟩=>?_)
  have WT:∀{σ7:St} {H7:Hp} {s7:AT},Inv Y (AF++sS fp s5.heap) σ7 H7 s7->(∃m',m'<n/\W (i+1) m' σ7 H7)->∃m,m<n/\∃i σ' H',Inv Y AF σ' H' s7/\tn i s7.heap/\(∀b∈fp,H' b=AN)/\W i m σ' H':=λ{σ7 H7 s7} I7 ⟨m',hm,w7⟩=>by
   refine{m',hm,i+1,σ7,H7,I7.unpinned,T.keep _ _ _ i5 λb hb o e=>(I7.pin (b,o) (BM _ (BM _ (zO hb e)))).1,λb hb=>?_,w7};obtain⟨o,e,d⟩:=T.obj _ _ i5 b hb;exact(I7.pin (b,o) (BM _ (BM _ (zO hb e)))).2.1
  refine AB (GY (v4 (ht _ s6 σ6 H6 _ I6 q6)) λb s7 ⟨H7,I7,q7⟩=>?_)
  cases b with
  |false=>exact wpAny_pure {rfl,WT I7 q7}
  |true =>
   exact AB (DA (hm _ s7 σ6 H7 _ I7 q7) ((λ_ s8 q0=>by obtain⟨σ8,H8,I8,q8⟩:=q0;exact wpAny_pure {rfl,WT I8 q8})) λ_ _ z=>z.elim)
def sU(wi:TI)(k:Nat)(js:List Nat)(o:HO)(g:Hp->TG)(tt:Hp->TT)(tm:Hp->AR->TM):TE:=λσ H Q=>wi σ H λJ H1=>∀acc,H1 acc=AN ->
 tWalkC J (g (D5 H1 acc o)) (tt (D5 H1 acc o)) (tm (D5 H1 acc o) acc) (WO k js σ) (D5 H1 acc o) λ_ H'=>Q (.ref acc) H'
theorem Fm{s2:AT}{pp:YA}{cZ:TC AI}{obj:HL}{m:AR->XZ->TC Unit}{g:Hp->TG}{tt:Hp->TT}{tm:Hp->AR->TM}{tn:Nat->D3->Prop}{Q:VK}
  {RR:AI->AR->Result->AT->Prop}
  (oK:∀{Q:AI->AT->Prop} {s:AT},Q (.ref s.heap.objs.size) { s with heap:=s.heap.push obj }->A0 (A6 X.prog X.w) X.A cZ Q E s)
  (dP:ObjOk X.prog X.w (D5 H1 s2.heap.objs.size o) (s2.heap.push obj) s2.heap.objs.size o)
  (nY:∀acc env,X.A.under (.compLoop e 0 (.ref it) acc env)=X.A) (oP:∀acc env,(A6 X.prog X.w).den (.compLoop e 0 (.ref it) acc env)=(Y3 e 0 (.ref it) acc env).onRaise (λx=>do bS x env;theTreesLotGoes x))
  (dL:∀acc env,Y3 e 0 (.ref it) (.ref acc) env=(do
   KD pp
   match <-JX (.ref it) with
   |none=>pure (.done .next)
   |some v =>
    FP tg (.ref it) v
    K7 tg env v
    let mut ok:=AK
    for c in ifs do
     if ok then ok <-WG c env (eval c env)
    if ok then m acc env
    WT (.compLoop e 0 (.ref it) (.ref acc) env)))
  (n8:∀{acc:AI} {env:XZ} {R:Result->AT->Prop} {s:AT},G5 (A6 X.prog X.w) X.A (.compLoop e 0 (.ref it) acc env) R s->A0 (A6 X.prog X.w) X.A (O1 (.ref it)) (λvW s'=>G5 (A6 X.prog X.w) X.A (.compLoop e 0 vW acc env) R s')
   (notedBy (A6 X.prog X.w) X.A env λx s'=>R (.error x) s') s->G5 (A6 X.prog X.w) X.A (.compStart e 0 (.ref it) acc env) R s)
  (n:CompNm X scope cl own CZ js) (hc:X.calm=AK) (hg:∀C s H fp,PG (OV X scope cl (own++CZ) C s H fp) tg (g H)) (ht:∀C s H fp,PTs (OV X scope cl (own++CZ) C s H fp) ifs (tt H))
  (hm:∀C s H fp acc,PM (OV X scope cl (own++CZ) C s H fp) (m acc (jO scope cl C X.env)) (tm H acc))
  (I2:Inv X AF σ H1 s2) (T:Turn X.prog X.w X.K tg J fp it tn) (st2:tn 0 s2.heap) (f2:∀b∈fp,FpOk X AF H1 b)
  (hW:∀acc,H1 acc=AN->tWalkC J (g (D5 H1 acc o)) (tt (D5 H1 acc o)) (tm (D5 H1 acc o) acc) (WO own.length js σ) (D5 H1 acc o) λ_ H'=>Q (.ref acc) H')
  (hRR:∀acc C H' s' m,Inv X AF σ H' s'->H' C=AN->C≠X.env.locals->X.s₀.heap.objs.size<=C->(∀x c,X.env.cells.lookup x=AA c->c≠C)->(∀p∈X.pn++AF,p.1≠C)->s'.heap.Ns C m->Q (.ref acc) H'->RR (.ref acc) C (.ok .next) s') :
  A0 (A6 X.prog X.w) X.A cZ (λacc V2=>A0 (A6 X.prog X.w) X.A (newFunctionEnv scope X.env.globals cl [] X.env.qual AN .none (AA X.env)) (λxK Ir =>
   G5 (A6 X.prog X.w) X.A (.compStart e 0 (.ref it) acc { xK with scope:=UE scope X.env }) (RR acc xK.locals) Ir) E V2) E s2:=by
 refine oK (jK n.nocell (by intro y hy;simp at hy) (λJU YU YS=>?_) n.kind);dsimp only at YU YS ⊢;have wF:H1 s2.heap.objs.size=AN:=I2.hok.fresh (AL _)
 have I3:Inv X AF σ (D5 H1 s2.heap.objs.size o) { s2 with heap:=s2.heap.push obj } :=
  I2.laid (t':=s2.toks) (λb u e=>AG _ e) (AL _) dP
 have hWa:=hW s2.heap.objs.size wF;generalize Bi:({ s2 with heap:=s2.heap.push obj }:AT)=s3 at I3;have Lf:s2.heap.push obj=s3.heap:=by rw[<-Bi]
 have Jh:∀b o,s2.heap.get? b=AA o->s3.heap.get? b=AA o:=λb o e=>by rw[<-Lf];exact AG _ e
 rw[Lf] at YU YS ⊢;have oN:∀b∈fp,b<s2.heap.objs.size:=λb hb=>by obtain⟨o,ho,_⟩:=T.obj _ _ st2 b hb;exact A9 ho
 have hsz:s3.heap.objs.size=s2.heap.objs.size+1:=by rw[<-Lf,FF]
 have f3:∀b∈fp,FpOk X AF (D5 H1 s2.heap.objs.size o) b:=λb hb=>by
  obtain⟨q,r⟩:=f2 b hb;exact{by rw[EW (BZ (oN b hb))];exact q,r}
 have vG:∀b o,s3.heap.get? b=AA o->JU.get? b=AA o:=λb o e=>YS.extBut b o (BZ (A9 e)) (AG _ e);have e4:({ s2 with heap:=JU,toks:=s2.toks+([]:List (CN×AI)).length }:AT)={ s3 with heap:=JU,toks:=s2.toks+([]:List (CN×AI)).length }:=by rw[<-Bi]
 have IY:=zO6 (own':=[]) (tk:=s2.toks+([]:List (CN×AI)).length) n I3 f3 (λb hb=>by rw[hsz];exact IA (oN b hb)) YU vG;have Xz:tn 0 JU:=T.keep _ _ _ st2 λb hb o e=>vG b o (Jh b o e)
 have V3:∀b∈fp,FpOk (OV X scope cl (own++CZ) s3.heap.objs.size s3 (D5 H1 s2.heap.objs.size o) fp) [] (D5 H1 s2.heap.objs.size o) b:=λb hb =>
   {(f3 b hb).1,BZ (by show b<s3.heap.objs.size;rw[hsz];exact IA (oN b hb)),I3.stk_of (f3 b hb),.inl hb,λx c e=>(f3 b hb).2.2.2.2.1 x c (n.cl_of e),(λp hp=>nomatch hp)}
 have nU:∀s4:AT,s4={ s3 with heap:=JU,toks:=s2.toks+([]:List (CN×AI)).length } ->
   G5 (A6 X.prog X.w) X.A (.compLoop e 0 (.ref it) (.ref s2.heap.objs.size) (jO scope cl s3.heap.objs.size X.env)) (RR (.ref s2.heap.objs.size) s3.heap.objs.size) s4:=by
  rintro s4 rfl;refine Ob (Y:=OV X scope cl (own++CZ) s3.heap.objs.size s3 (D5 H1 s2.heap.objs.size o) fp) (nY _ _) (oP _ _) (dL _ _) rfl hc (hg _ _ _ _) (ht _ _ _ _) (hm _ _ _ _ _) T IY Xz V3 hWa ?_;intro σ6 H6 s6 I6 q
  have I7:Inv X AF σ H6 s6:=I3.call' I6.os I6.base I6.hok I6.bare λb hb=>by
   obtain⟨_,g1,_,g3,g4,g5⟩:=f3 b hb;exact{g3,g1,g4,g5}
  obtain⟨mC,hnC,_⟩:=I6.loc
  exact hRR _ _ H6 s6 mC I7 I6.free (FS I3.lt) I3.sz (λx c e z=>by
    obtain⟨v,zc⟩:=I3.cell x c e
    exact absurd zc.lt (by rw[z];exact GE _))
   (λp hp z=>absurd (A9 (I3.pin p hp).1) (by rw[z];exact GE _)) hnC q
 rw[e4];exact n8 (nU _ rfl) (T.self _ 0 _ _ _ Xz (nU _ rfl))
def kE(acc:AR)(te:TE):TM:=λσ H N=>te σ H λy H4=>∃ys,H4 acc=AA (.lst ys)/\ys.length<sizeLine/\N σ (D5 H4 acc (.lst (ys++[y])))
theorem Ds{acc:AR}(hx:X.xe=λ_ _=>False)(he:PE X OE te):PM X (do let _ <-call (.builtin "list.append") [.ref acc,<-eval OE X.env]) (kE acc te):=by
 intro AF s σ H N I h;have h1:=he AF s σ H _ I h;rw[hx] at h1;refine AB (GY h1 λyv Jb ⟨y,H10,xM,r10,ys,ha,hz,q⟩=>?_);have:=zK (X:=X) _ Jb σ H10 (.ref acc) [y] (.ref acc) [yv] (λv H'=>v=.non/\H'=D5 H10 acc (.lst (ys++[y]))) xM rfl (.cons r10 .nil) {_,ys,y,rfl,rfl,ha,hz,rfl,rfl};refine AB (DA this (λ_ s11 ⟨v,H11,I11,_,_,eH⟩=>wpAny_pure {σ,H11,I11,?_}) λ_ _ z=>by rw[hx] at z;exact z);subst eH;exact q
def Oa(wi:TI)(g:TG)(tt:TT)(tm:TM):TM:=λσ H N=>wi σ H λJ H1=>tWalkC J g tt tm σ H1 N
theorem zDG{OE g0 QI iter ifs rest scope pos it acc env}
  (h0:G5 (A6 prog w) A (.compLoop (.ListComp OE (g0::{QI,iter,ifs,0}::rest) scope pos) 1 it acc env) R s)
  (h:A0 (A6 prog w) A (O1 it) (λvW s'=>G5 (A6 prog w) A (.compLoop (.ListComp OE (g0::{QI,iter,ifs,0}::rest) scope pos) 1 vW acc env) R s')
   (notedBy (A6 prog w) A env λx s'=>R (.error x) s') s) :
  G5 (A6 prog w) A (.compStart (.ListComp OE (g0::{QI,iter,ifs,0}::rest) scope pos) 1 it acc env) R s:=by
 refine codeAny_of_tree ?_;show A0 _ A ((compStart (.ListComp OE (g0::{QI,iter,ifs,0}::rest) scope pos) 1 it acc env).onRaise (λx=>do bS x env;KD theWindowsPlace)) _ _ s;refine wpAny_notedAt ?_;unfold compStart;show A0 _ A (ask >>= _) _ _ s;refine AB (wpAny_askSetting (wpAny_ite ?_));split
 .first
   |exact AB (wpAny_pure (wpAny_pure (YD rfl h0)))
   |exact wpAny_pure (YD rfl h0)
 .first
   |exact AB (E4 (AB (JN (AB (DA h (λvW s' h'=>wpAny_pure (YD rfl h')) λ_ _ x=>x)))))
   |(refine AB (E4 ?_);show A0 _ _ (KD iter.pos >>= _) _ _ s;exact AB (JN (AB (DA h (λvW s' h'=>wpAny_pure (YD rfl h')) λ_ _ x=>x))))
theorem zYT{acc:AR}{iter:CU}{g0:Comprehension}{g:TG}{tt:TT}{sc:NJ}(hx:X.xe=λ_ _=>False)(hc:X.calm=AK)(hi:PI X tg iter wi)(hg:PG X tg g)(ht:PTs X ifs tt)(he:PE X OE te)
  (hs:∀x,D6 iter X.env x=pure x):PM X (do
    let x <-eval iter X.env
    KD iter.pos
    let x <-D6 iter X.env x
    let _ <-runOwn (.compStart (.ListComp OE [g0,⟨tg,iter,ifs,0⟩] sc pos) 1 (<-MA [x] (O1 x)) (.ref acc) X.env) X.env) (Oa wi g tt (kE acc te)):=by
 intro AF s σ H N I h;have h1:=hi AF s σ H _ I h;rw[hx] at h1;refine AB (GY h1 λv s1 h2=>AB (JN (AB (IX (hs v) (AB (DQ (GY h2 λrN s2 h3=>?_)))))));obtain⟨it,fp,tn,J,H2,e,I2,T,st2,f2,hW⟩:=h3;subst e;refine AB (wpAny_runOwn (zDG ?_ (T.self _ 0 _ _ _ st2 ?_)))
 all_goals
  refine Ob (Y:=X) (pp:=iter.pos) (m:=(do let _ <-call (.builtin "list.append") [.ref acc,<-eval OE X.env])) rfl rfl rfl hx hc hg ht (Ds hx he) T I2 st2 f2 hW ?_;intro σ' H' s' I' n';exact wpAny_pure {σ',H',I',n'}
theorem zK5(OE tg iter k4 LK:CU)(ifs YR:List CU)(scope:NJ)(pos:YA)(it acc:AI)(env:XZ) :
  Y3 (.ListComp OE [{tg,iter,ifs,0},{k4,LK,YR,0}] scope pos) 0 it acc env=(do
   KD iter.pos
   match <-JX it with
   |none=>pure (.done .next)
   |some v =>
    FP tg it v
    K7 tg env v
    let mut ok:=AK
    for c in ifs do
     if ok then ok <-WG c env (eval c env)
    if ok then(do
     let x <-eval LK env
     KD LK.pos
     let x <-D6 LK env x
     let _ <-runOwn (.compStart (.ListComp OE [⟨tg,iter,ifs,0⟩,⟨k4,LK,YR,0⟩] scope pos) 1 (<-MA [x] (O1 x)) acc env) env)
    WT (.compLoop (.ListComp OE [{tg,iter,ifs,0},{k4,LK,YR,0}] scope pos) 0 it acc env)):=by
 simp only[bind_assoc,pure_bind]
 rfl
theorem yEW{iter k4 LK:CU}{YR:List CU}{Xq:Hp->TI}{g g2:Hp->TG}{tt Xv:Hp->TT}{te:Hp->TE}(n:CompNm X scope cl own CZ js)(hc:X.calm=AK)(hi:PI X tg iter wi)
  (hg:∀C s H fp,PG (OV X scope cl (own++CZ) C s H fp) tg (g H)) (ht:∀C s H fp,PTs (OV X scope cl (own++CZ) C s H fp) ifs (tt H))
  (hi2:∀C s H fp,PI (OV X scope cl (own++CZ) C s H fp) k4 LK (Xq H)) (hg2:∀C s H fp,PG (OV X scope cl (own++CZ) C s H fp) k4 (g2 H)) (ht2:∀C s H fp,PTs (OV X scope cl (own++CZ) C s H fp) YR (Xv H))
  (he:∀C s H fp,PE (OV X scope cl (own++CZ) C s H fp) OE (te H))
  (hs:∀x,D6 iter X.env x=pure x:=by intro _;rfl) (NB:∀C x,D6 LK (jO scope cl C X.env) x=pure x:=by intro _ _;rfl) :
  PE X (.ListComp OE [{tg,iter,ifs,0},{k4,LK,YR,0}] scope pos) (sU wi own.length js (.lst []) g tt λH acc=>Oa (Xq H) (g2 H) (Xv H) (kE acc (te H))):=by
 intro AF s σ H Q I h;rw[eval_ListComp];refine N0 (use:=AN) rfl hs n.clos n.kind n.loc (DA (hi AF s σ H _ I h) (λxv EY JU=>DA JU (λrN RF NA=>?_) λ_ _ e=>e) λ_ _ e=>e);obtain⟨it,fp,tn,J,H2,e,I2,T,st2,f2,hW⟩:=NA;subst e
 refine Fm (obj:={ cls:=.type "list",dict:=AN,data:=.seq ([]:List AI).toArray }) (pp:=iter.pos) (ifs:=ifs) (tg:=tg) (RR:=λacc C=>compPost (A6 X.prog X.w) X.A X.xe AN (EP X AF σ Q) acc C)
  (m:=λacc env=>(do
    let x <-eval LK env
    KD LK.pos
    let x <-D6 LK env x
    let _ <-runOwn (.compStart (.ListComp OE [⟨tg,iter,ifs,0⟩,⟨k4,LK,YR,0⟩] scope pos) 1 (<-MA [x] (O1 x)) (.ref acc) env) env))
  (o:=.lst []) (λ{Q s} h=>DU h) (show ObjOk _ _ _ _ _ (.lst []) from{BY _,[],0,.nil,AW _ rfl}) (λ_ _=>rfl) (λ_ _=>rfl) (λ_ _=>zK5 _ _ _ _ _ _ _ _ _ _ _ _) (λh0 h1=>O3 h0 h1) n hc hg ht
  (λC s H fp acc=>zYT (X:=OV X scope cl (own++CZ) C s H fp) rfl hc (hi2 C s H fp) (hg2 C s H fp) (ht2 C s H fp) (he C s H fp) (NB C)) I2 T st2 f2 hW ?_
 intro acc C H' s' m I' hC h1 h2 h3 h4 hn q;exact{m,hn,λh' sb=>{.ref acc,H',I'.turned (t':=s'.toks) (λb o hb e=>sb.extBut b o hb e) hC h1 (.inr h2) h3 h4,rfl,q}}
theorem zYU{iter:CU}{g:Hp->TG}{tt:Hp->TT}{te:Hp->TE}(n:CompNm X scope cl own CZ js)(hc:X.calm=AK)(hi:PI X tg iter wi)
  (hg:∀C s H fp,PG (OV X scope cl (own++CZ) C s H fp) tg (g H)) (ht:∀C s H fp,PTs (OV X scope cl (own++CZ) C s H fp) ifs (tt H)) (he:∀C s H fp,PE (OV X scope cl (own++CZ) C s H fp) OE (te H))
  (hs:∀x,D6 iter X.env x=pure x:=by intro _;rfl):PE X (.ListComp OE [{tg,iter,ifs,0}] scope pos) (sU wi own.length js (.lst []) g tt λH acc=>kE acc (te H)):=by
 intro AF s σ H Q I h;rw[eval_ListComp];refine N0 (use:=AN) rfl hs n.clos n.kind n.loc (DA (hi AF s σ H _ I h) (λxv EY JU=>DA JU (λrN RF NA=>?_) λ_ _ e=>e) λ_ _ e=>e);obtain⟨it,fp,tn,J,H2,e,I2,T,st2,f2,hW⟩:=NA;subst e
 refine Fm (obj:={ cls:=.type "list",dict:=AN,data:=.seq ([]:List AI).toArray }) (pp:=iter.pos) (ifs:=ifs) (tg:=tg) (RR:=λacc C=>compPost (A6 X.prog X.w) X.A X.xe AN (EP X AF σ Q) acc C)
  (m:=λacc env=>(do let _ <-call (.builtin "list.append") [.ref acc,<-eval OE env]))
  (o:=.lst []) (λ{Q s} h=>DU h) (show ObjOk _ _ _ _ _ (.lst []) from{BY _,[],0,.nil,AW _ rfl}) (λ_ _=>rfl) (λ_ _=>rfl) (λ_ _=>rfl) (λh0 h1=>O3 h0 h1) n hc hg ht
  (λC s H fp acc=>Ds (X:=OV X scope cl (own++CZ) C s H fp) rfl (he C s H fp)) I2 T st2 f2 hW ?_
 intro acc C H' s' m I' hC h1 h2 h3 h4 hn q;exact{m,hn,λh' sb=>{.ref acc,H',I'.turned (t':=s'.toks) (λb o hb e=>sb.extBut b o hb e) hC h1 (.inr h2) h3 h4,rfl,q}}
theorem To{iter:CU}{g:Hp->TG}{tt:Hp->TT}{te:Hp->TE}(n:CompNm X scope cl own CZ js)(hc:X.calm=AK)(hi:PI X tg iter wi)
  (hg:∀C s H fp,PG (OV X scope cl (own++CZ) C s H fp) tg (g H)) (ht:∀C s H fp,PTs (OV X scope cl (own++CZ) C s H fp) ifs (tt H)) (he:∀C s H fp,PE (OV X scope cl (own++CZ) C s H fp) OE (te H))
  (hN:X.N.Nodup) (hx:X.N[i]?=AA x) (hl:X.env.scope.names.lookup x=AA .local)
  (n6:IJ (.ListComp OE [{tg,iter,ifs,0}] scope pos) (AA (.Name x OC)) SM.line X.env=pure AK)
  (hs:∀x,D6 iter X.env x=pure x:=by intro _;rfl):PS X (.Assign [.Name x OC] (.ListComp OE [{tg,iter,ifs,0}] scope pos) SM) (j2 (sU wi own.length js (.lst []) g tt λH acc=>kE acc (te H)) (bB i)):=by
 intro AF s σ H D I h;rw[exec_Assign_Name_used _ _ _ _ n6];refine AB (JN (AB ?_));show A0 _ X.A (do let _ <-comprehension (.ListComp OE [⟨tg,iter,ifs,0⟩] scope pos) scope X.env _ (newList []) AD (eval iter X.env) (AA (K7 (.Name x OC) X.env))) _ _ s
 refine AB (DA (N0 (use:=AA (K7 (.Name x OC) X.env)) (Q:=λ_ s'=>SP X AF D .next s') rfl hs n.clos n.kind n.loc
  (DA (hi AF s σ H _ I h) (λxv EY JU=>DA JU (λrN RF NA=>?_) λ_ _ e=>e) λ_ _ e=>e)) (λ_ s' hq=>wpAny_pure (wpAny_pure hq)) λ_ _ e=>e)
 obtain⟨it,fp,tn,J,H2,e,I2,T,st2,f2,hW⟩:=NA;subst e
 refine Fm (obj:={ cls:=.type "list",dict:=AN,data:=.seq ([]:List AI).toArray }) (pp:=iter.pos) (ifs:=ifs) (tg:=tg) (Q:=λx H1=>bB i x σ H1 D.nx) (RR:=λacc C=>compPost (A6 X.prog X.w) X.A X.xe (AA (K7 (.Name x OC) X.env)) (λ_ s'=>SP X AF D .next s') acc C)
  (m:=λacc env=>(do let _ <-call (.builtin "list.append") [.ref acc,<-eval OE env]))
  (o:=.lst []) (λ{Q s} h=>DU h) (show ObjOk _ _ _ _ _ (.lst []) from{BY _,[],0,.nil,AW _ rfl}) (λ_ _=>rfl) (λ_ _=>rfl) (λ_ _=>rfl) (λh0 h1=>O3 h0 h1) n hc hg ht
  (λC s H fp acc=>Ds (X:=OV X scope cl (own++CZ) C s H fp) rfl (he C s H fp)) I2 T st2 f2 hW ?_
 intro acc C H' s' m I' hC h1 h2 h3 h4 hn q;show A0 _ X.A (K7 (.Name x OC) X.env (.ref acc)) _ _ _;refine wpAny_assign_Name (Ff I' hN hx (.inl hl) (v:=.ref acc) rfl (λfY I'' sb=>?_) (.inr hl));obtain⟨a,sb,ha⟩:=sb
 have hCa:C≠a:=by
  rcases ha with ha|ha
  .rw[ha];exact h1
  .exact λz=>h3 x a ha z.symm
 exact{m,hn.sameBut sb hCa,λh' Ja=>{_,H',I''.turned (t':=fY.toks) (λb o hb e=>Ja.extBut b o hb e) hC h1 (.inr h2) h3 h4,q}}
end L2
namespace TS
open PySem PySem.W PyProof.Rows
section
variable{prog:CO}{w:D2}{A:DP}{E:AI->AT->Prop}{s:AT}
theorem zK6{vs:List AI}{xs:Array BD}(h:xs.Perm (HW vs)):(xs.map (·.2)).toList.Perm vs:=by
 have p:=(EG.mp h).map (·.2);rw[QR] at p;have e:(vs.zip vs).map (·.2)=vs:=List.map_snd_zip (AL _);rw[e] at p;simpa using p
end
end TS
variable{ep:Nat}{l1 l2:AR}{H2:L2.Hp}{tl:L2.TE}
namespace L2
open PySem PySem.Spec PyProof.Rows
theorem Vals.perm(p:ws.Perm us):∀{xs:List V},Vals xs us->∃ys,ys.Perm xs/\Vals ys ws:=by
 induction p with
 |nil=>intro xs r;cases r;exact{[],GB _,.nil}
 |cons a _ ih =>
  intro xs r
  cases r with
  |cons h t =>
   obtain⟨ys,q,r'⟩:=ih t;exact{_::ys,q.cons _,.cons h r'}
 |swap a b l =>
  intro xs r
  cases r with
  |cons h t =>
   cases t with
   |cons h' t'=>exact{_::_::_,HQ _ _ _,.cons h' (.cons h t')}
 |trans _ _ bJ ih2 =>
  intro xs r;obtain⟨ys,q,r'⟩:=ih2 r;obtain⟨zs,q',uY⟩:=bJ r';exact{zs,q'.trans q,uY}
def Nz(H:Hp)(y:V):Prop:=∃(p:AR) (n:Int) (ns:List Int),y=.ref p/\H p=AA (.tup ((n::ns).map V.int))
theorem Py{X:Cx}{AF:List (AR×HL)}{σ:St}{H:Hp}{s:AT}(I:Inv X AF σ H s):∀{ys:List V} {us:List AI},Vals ys us->(∀y∈ys,Nz H y) ->
  ∃fs:List AI,fs.length=us.length/\RP s.heap us fs/\(∀v∈fs,∃n t,v=.int n t)/\∀u∈us,∃(p:AR) (CI:List AI) (ns:List Int),u=.ref p/\UM s.heap p CI.toArray/\FX CI ns
 |_,_,.nil,_=>{[],rfl,R7,(λv hv=>nomatch hv),(λu hu=>nomatch hu)}
 |_,_,.cons r t,h=>by
  obtain⟨fs,e1,e2,e3,e4⟩:=Py I t λy hy=>h y (A1 _ hy);obtain⟨p,n,ns,ey,hp⟩:=h _ BB;subst ey;cases r;obtain⟨CI,rv,tp,_⟩:=I.tuple (SqT.of (K:=X.K) hp);have hi:FX CI (n::ns):=iN rv;have Ld:=hi
  cases hi with
  |cons _ tk r' =>
   obtain⟨o,ho,hc,k,hd⟩:=id tp;refine{.int n tk::fs,by rw[BC,BC,e1],PySem.W.KatTups.cons ho hc hd 's' e2,λv hv=>?_,λu hu=>?_}
   .rcases A2.mp hv with rfl|hv
    .exact{_,_,rfl}
    .exact e3 v hv
   .rcases A2.mp hu with rfl|hu
    .exact{p,_,n::ns,rfl,tp,Ld}
    .exact e4 u hu
theorem Sz{h h':D3}(k:∀b o,h.get? b=AA o->h'.get? b=AA o):∀{us fs:List AI},RP h us fs->RP h' us fs
 |[],[],_=>R7
 |[],_::_,t=>t.elim
 |_::_,[],t=>t.elim
 |_::_,_::_,t=>by
  obtain⟨⟨a,o,xs,n,e,ho,r⟩,t⟩:=t;exact{{a,o,xs,n,e,k _ _ ho,r},Sz k t}
structure RawD(h:D3)(d:AR)(es:Array J0)(ep:Nat):Prop where
 ex:∃o,h.get? d=AA o/\o.ExactDict/\o.data=.dict es ep
 ns:(d==GR)=AD
theorem RawD.ty{d:AR}{es:Array J0}(r:RawD s.heap d es ep):s.TypeIs (.ref d) "dict":=let ⟨o,h1,h2,_⟩:=r.ex;{o,h1,h2.1}
theorem zYV{d:AR}{es:Array J0}(r:RawD s.heap d es ep)(hf:(es.size:Int)<2 ^ 63)(h:∀t tk,Q (.int es.size t) { s with toks:=tk }) :
  A0 (A6 prog w) A (call (.builtin "len") [.ref d]) Q E s:=by
 obtain⟨o,ho,hc,hd⟩:=r.ex;refine U8 kind_len plain_len entry_len (args_len1 _) ?_;unfold ES.«len»;refine AB (m:=oneArg "len" _) (wpAny_pure ?_);refine AB (m:=callSpecial? (.ref d) (EU "__len__")) (C9 (name:=EU "__len__") r.ty F.slot_dict_len (C8 F.slot_dict_len r.ty F.entry_dict_len ?_ (F.args_dict_len_1 _)));show A0 _ _ (dictSize d >>= _) _ _ s;unfold dictSize;refine AB (AB (NH ho hd (wpAny_pure ?_)));show A0 _ _ (Builtin.Dict.pendingCount d >>= _) _ _ s;refine AB (wpAny_pendingCount_other r.ns ?_);refine AB (jL (wpAny_pure {_,rfl,?_}));refine AB (DQ (wpAny_pure (AB (QP ?_))));show A0 _ _ (if((es.size:Int)+((0:Nat):Int))<0 then _ else _) _ _ _;rw[if_neg 'l'];show A0 _ _ (if((es.size:Int)+((0:Nat):Int))>=2 ^ 63 then _ else _) _ _ _;rw[if_neg 'l'];have e0:((es.size:Int)+((0:Nat):Int))=(es.size:Int):=by simp
 show A0 _ _ (retInt ((es.size:Int)+((0:Nat):Int))) _ _ _;rw[e0];exact AB (jL (wpAny_pure {_,rfl,h _ _}))
theorem p8{d:AR}{es:Array J0}(r:RawD s.heap d es ep)
  (h:∀h',(∀b o,s.heap.get? b=AA o->h'.get? b=AA o)->h'.IsKeyIter s.heap.objs.size d 0 es.size ep->Q (.ref s.heap.objs.size) { s with heap:=h' }):A0 (A6 prog w) A (O1 (.ref d)) Q E s:=by
 obtain⟨o,ho,hc,hd⟩:=r.ex;refine UB r.ty F.slot_dict_iter (C8 F.slot_dict_iter r.ty F.entry_dict_iter ?_ (F.args_dict_iter_1 _));unfold ES.«dict.__iter__» Builtin.Dict.dictSlotNone;refine AB (AB (wpAny_notOrdered_dict r.ty (wpAny_pure ?_)));unfold Builtin.Dict.showsAll;show A0 _ _ ((if _ then _ else _) >>= _) _ _ s;rw[if_neg (by rw[r.ns];exact CH)];refine AB (wpAny_pure (AB (NH ho hd (AB (XV ho hd ?_)))));refine AB (DU (wpAny_pure {_,rfl,"dict_keyiterator",_,{_,AW _ rfl,rfl},F.slot_dict_keyiterator_next.lookup,?_}));exact h _ (λb o e=>AG _ e) {_,AW _ rfl,rfl,by simp[DC]}
theorem Rp{d:AR}{es:Array J0}{Q:Option AI->AT->Prop}(k:s.heap.IsKeyIter it d i es.size ep)(r:RawD s.heap d es ep)(hi:i<es.size)
  (h:∀h',h'.IsKeyIter it d (i+1) es.size ep->DM it s.heap h'->Q (AA es[i].key) { s with heap:=h' }):A0 (A6 prog w) A (JX (.ref it)) Q E s:=by
 obtain⟨oi,lE,Zp,jG⟩:=id k;obtain⟨o,ho,hc,hd⟩:=r.ex;unfold JX;refine AB (GL (C9 (name:=EU "__next__") k.typeIs F.slot_dict_keyiterator_next (C8 F.slot_dict_keyiterator_next k.typeIs F.entry_dict_keyiterator_next ?_ (F.args_dict_keyiterator_next_1 _))));refine AB (wpAny_pure (AB (AB ?_)))
 first
  |refine AB (HR k.typeIs (wpAny_pure (AB (QQ lE jG ?_))))
  |refine AB (JM k.typeIs (wpAny_pure (AB (QQ lE jG ?_))))
 simp only[show NM "dict_keyiterator"=AD by decide,DT,if_false];show A0 _ _ (if(DK d==FK)=AK then _ else _) _ _ s;rw[if_neg (show ¬((DK d==FK)=AK) from CH)];refine AB (wpAny_pure (AB (NH ho hd ?_)));rw[if_neg 's'];refine AB (wpAny_pure (AB (XV ho hd ?_)));rw[if_neg 's'];refine wpAny_pure ?_;simp only[show ¬((i:Int)<0) from by lia,if_false,MM,Array.getElem?_eq_getElem hi];refine AB ?_
 first
  |refine AB (HR k.typeIs (wpAny_pure (AB (PR k.typeIs ?_))))
  |refine AB (JM k.typeIs (wpAny_pure (AB (PR k.typeIs ?_))))
 show A0 _ _ (OG (.ref it) 1 (DC ((i:Int)+1)) >>= _) _ _ s;refine AB (QO lE jG 's' ?_)
 have k':(s.heap.update it (Obj.mapFields (·.setIfInBounds 1 (DC ((i:Int)+1))))).IsKeyIter it d (i+1) es.size ep :=
  {_,OA _ lE (ZT (LY jG _)),(gU ..).trans Zp,by rw[LY jG];simp[DC]}
 refine AB (DQ (AB (PR (s:={ s with heap:=s.heap.update it (Obj.mapFields (·.setIfInBounds 1 (DC ((i:Int)+1)))) }) k'.typeIs ?_)));show A0 _ _ (pure es[i].key) _ _ _;exact wpAny_pure (wpAny_pure {_,rfl,wpAny_pure (h _ k' (GO ..))})
theorem Px{d:AR}{es:Array J0}{Q:Option AI->AT->Prop}(hh:A.handled=AN)(k:s.heap.IsKeyIter it d i es.size ep)(r:RawD s.heap d es ep)(hi:es.size<=i)
  (h:∀h',ZX it s.heap h'->Q AN { s with heap:=h' }):A0 (A6 prog w) A (JX (.ref it)) Q E s:=by
 obtain⟨oi,lE,Zp,jG⟩:=id k;obtain⟨o,ho,hc,hd⟩:=r.ex;unfold JX;refine AB (GL (C9 (name:=EU "__next__") k.typeIs F.slot_dict_keyiterator_next (C8 F.slot_dict_keyiterator_next k.typeIs F.entry_dict_keyiterator_next ?_ (F.args_dict_keyiterator_next_1 _))));refine AB (wpAny_pure (AB (AB ?_)))
 first
  |refine AB (HR k.typeIs (wpAny_pure (AB (QQ lE jG ?_))))
  |refine AB (JM k.typeIs (wpAny_pure (AB (QQ lE jG ?_))))
 simp only[show NM "dict_keyiterator"=AD by decide,DT,if_false];show A0 _ _ (if(DK d==FK)=AK then _ else _) _ _ s;rw[if_neg (show ¬((DK d==FK)=AK) from CH)];refine AB (wpAny_pure (AB (NH ho hd ?_)));rw[if_neg 's'];refine AB (wpAny_pure (AB (XV ho hd ?_)));rw[if_neg 's'];refine wpAny_pure ?_;simp only[show ¬((i:Int)<0) from by lia,if_false,MM,Array.getElem?_eq_none hi];refine AB ?_
 first
  |refine AB (HR k.typeIs (wpAny_pure ?_))
  |refine AB (JM k.typeIs (wpAny_pure ?_))
 show A0 _ _ (OG (.ref it) 0 .none >>= _) _ _ s;refine AB (QO lE jG 's' ?_);show A0 _ _ (newExc (.type "StopIteration") [] >>= _) _ _ _;refine AB ?_;simp only[newExc,newTuple];refine AB (DU ?_ (by size_fits));refine AB (m:=QS _ _) (IX (a:=FK) (by first|rfl|(simp only[QS];rfl)) (DU ?_ (by size_fits)));simp only[raiseNew];refine AB (wpAny_handled ?_);rw[show A.in1.handled=AN from hh];refine AB (wpAny_pure (wpAny_throw ?_));refine AB (WD (T:="StopIteration") (b:=AK) {_,AW _ rfl,rfl} Y2 ?_);exact wpAny_pure (h _ (((GO ..).extBut.push _).push _))
theorem pR(x:ObjOk P w H h a (.dT kvs)):∃es ep,RawD h a es ep/\es.size=kvs.length/\kvs.length<=sizeLine /\
  ∀(i:Nat) (hi:i<es.size),∃(p:AR) (k:List Key),es[i].key=.ref p/\(kvs.map (·.1))[i]?=AA k/\H p=AA (.tup (k.map kV)):=by
 obtain⟨z,y,xs,r,o,es,ep,h1,h2,h3,h4,h5⟩:=x
 have hl:es.size=xs.length:=by
  have:=congrArg OP h4;simpa using this
 have bN:kvs.length=xs.length:=Paired.length r;refine{es,ep,{{o,h1,h2,h3},y},by lia,z,λi hi=>?_}
 have JT:∀{l:List (List Key×V)} {m:List (List Key×AR×AI)},Paired (λ(p:List Key×V) (q:List Key×AR×AI)=>p.1=q.1/\H q.2.1=AA (.tup (p.1.map kV))/\RelV p.2 q.2.2) l m ->
   ∀(i:Nat) q,m[i]?=AA q->∃k,(l.map (·.1))[i]?=AA k/\H q.2.1=AA (.tup (k.map kV)):=by
  intro l m q
  induction q with
  |nil=>intro i q e;simp at e
  |@cons p q ps qs hq t ih =>
   intro i z e
   cases i with
   |zero=>simp at e;subst e;exact{p.1,by simp,hq.2.1}
   |succ i=>obtain⟨k,e1,e2⟩:=ih i z (by simpa using e);exact{k,by simpa using e1,e2}
 have SW:i<xs.length:=AQ hi (CY hl);obtain⟨k,e1,e2⟩:=JT r i xs[i] (by simp[SW])
 have e3:es[i]=entryOfKey (OF (TZ P w)) xs[i]:=by
  have q:es.toList[i]?=AA es[i]:=by simp[hi]
  rw[h4] at q;simp[SW] at q;exact q.symm
 exact{xs[i].2.1,k,by rw[e3];rfl,e1,e2}
def Xm(d:AR)(o:HL)(kvs:List (List Key×V)):It :=
 {λi H=>i<kvs.length/\H d=AA (.frz o (.dT kvs)),λi H x H'=>H'=H/\∃p k,x=.ref p/\(kvs.map (·.1))[i]?=AA k/\H p=AA (.tup (k.map kV)),λi H=>kvs.length<=i/\H d=AA (.frz o (.dT kvs))}
theorem Sy{K:AC}(d it:AR)(o:HL)(kvs:List (List Key×V))(es:Array J0)(ep:Nat)(hd:o.data=.dict es ep)(hz:es.size=kvs.length) :
  Turn P w K tg (Xm d o kvs) [it] it (λi h=>h.IsKeyIter it d i es.size ep) where
 mem:=by simp
 obj:=λi h st b hb=>by
  have e:b=it:=by simpa using hb
  subst e;obtain⟨o,e,c,d⟩:=st;exact{o,e,λv z=>by rw[d] at z;cases z}
 keep:=λi h h' st k=>let ⟨o,e,r⟩:=st;{o,k it 's' o e,r}
 item:=by
  intro X hP hw hK hc i AF s σ H E I hf st hg;subst hP hw hK;obtain⟨hi,hk⟩:=hg;obtain⟨ho,hx⟩:=I.hok d _ hk;obtain⟨lQ,lR,KO,e1,e2,e3⟩:=pR hx;obtain⟨o',q1,q2,q3⟩:=KO.ex;rw[ho] at q1;cases q1;rw[hd] at q3;injection q3 with q4 q5;subst q4;subst q5;obtain⟨f0,f1,f2,f3,f4,f5⟩:=hf it 's';refine Rp st KO 'l' λh' CP sb=>?_;obtain⟨p,k,p1,p2,p3⟩:=e3 i 'l';have I1:Inv X AF σ H { s with heap:=h' }:=I.turned (t':=s.toks) (λb ob hb e=>(sb.2 b hb).trans e) f0 f1 f3 f4 f5;obtain⟨oi,e,c,dd⟩:=id CP;refine{_,rfl,pJ (s:={ s with heap:=h' }) e c dd 'd' {.ref p,H,I1,p1,{rfl,p,k,rfl,p2,p3},CP,λb hb=>(hf b hb).1}}
 done:=by
  intro X hP hw hK hc i AF s σ H E I hf st hg;subst hP hw hK;obtain⟨hi,hk⟩:=hg;obtain⟨ho,hx⟩:=I.hok d _ hk;obtain⟨lQ,lR,KO,e1,e2,e3⟩:=pR hx;obtain⟨o',q1,q2,q3⟩:=KO.ex;rw[ho] at q1;cases q1;rw[hd] at q3;injection q3 with q4 q5;subst q4;subst q5;obtain⟨f0,f1,f2,f3,f4,f5⟩:=hf it 's';exact Px (I.ok.hd hc) st KO (AX (CY hz) hi) λh' eb=>{rfl,I.turned (t':=s.toks) (λb ob hb e=>eb b ob hb e) f0 f1 f3 f4 f5}
 self:=λ_ _ _ _ _ st h=>jJ st h
theorem Inv.freeze(I:Inv X AF σ H s)(ha:H a=AA (.dT kvs)) :
  ∃o,s.heap.get? a=AA o/\Inv X AF σ (D5 H a (.frz o (.dT kvs))) s:=by
 have x:=I.hok a _ ha;obtain⟨es,ep,⟨⟨o,h1,h2,h3⟩,_⟩,_⟩:=pR x;have kt:∀b ys,H b=AA (.tup ys)->b≠a:=λb ys e z=>by rw[z,ha] at e;cases e
 have ko:∀b y,H b=AA (.own y)->b≠a:=λb y e z=>by rw[z,ha] at e;cases e
 have kf:∀b ob u,H b=AA (.frz ob u)->b≠a:=λb ob u e z=>by rw[z,ha] at e;cases e
 have kb:∀b t ps,H b=AA (.tbl t ps)->b≠a:=λb t ps e z=>by rw[z,ha] at e;cases e
 have kn:∀b,H b=AN->b≠a:=λb e z=>by rw[z,ha] at e;cases e
 refine{o,h1,I.un (t':=s.toks) (h':=s.heap) {λb ob e _ _ _=>e,λb ob e _ _ _=>{ob.slots,e},λb ob e n _=>by rw[EW (kn b n)];exact n,λb ob e _=>{ob,e},λb ys e=>by rw[EW (kt b ys e)];exact e,λb ob u e=>by rw[EW (kf b ob u e)];exact e,λb t ps e=>{#[],by rw[EW (kb b t ps e),e];simp}} λb u e=>?_}
 by_cases hb:b=a
 .subst hb
  rw[HC] at e;cases e;exact{h1,x.stay (λc v _ q=>q) (λc q=>by rw[EW (ko c _ q)];exact q) (λc ys q=>by rw[EW (kt c ys q)];exact q) λc ob x q=>by rw[EW (kf c ob _ q)];exact q}
 .rw[EW hb] at e
  exact(I.hok b u e).stay (λc v _ q=>q) (λc q=>by rw[EW (ko c _ q)];exact q) (λc ys q=>by rw[EW (kt c ys q)];exact q) λc ob x q=>by rw[EW (kf c ob _ q)];exact q
theorem Ro:CallR X (.type "range") (λxs H Q=>∃j:Int,xs=[.int j]/\∀p,H p=AN->Q (.ref p) (D5 H p (.rng 0 j))):=by
 intro AF s σ H xs us Q I r h;obtain⟨j,rfl,q⟩:=h;obtain⟨u,rfl,ru⟩:=W5 r;obtain⟨t,rfl⟩:=ru;exact call_range_1 {.ref s.heap.objs.size,_,I.laid (o:=.rng 0 j) (λb o e=>AG _ e) (AL _) {_,_,_,AW _ rfl},rfl,q _ I.fresh}
theorem zO7:∀(n:Nat) (us:List AI),us.length=n->(∀(i:Nat) v,us[i]?=AA v->∃t,v=MV (i:Int) t)->Vals ((DB n).map λi:Nat=>V.int (i:Int)) us:=by
 intro n
 induction n with
 |zero=>intro us hl _;have:=List.length_eq_zero_iff.mp hl;subst this;exact .nil
 |succ n ih =>
  intro us hl h
  have e:us=us.take n++[us[n]'(by lia)]:=by
   rw[<-BK 'l',JR (CY hl)]
  rw[e,List.range_succ,HN];refine Vals.append (ih _ (by rw[EB];lia) λi v hv=>?_) (.cons ?_ .nil)
  .rw[List.getElem?_take] at hv
   split at hv
   .exact h i v hv
   .cases hv
  .obtain⟨t,et⟩:=h n (us[n]'(by lia)) 's'
   exact{t,et}
theorem zI4(hc:X.calm=AK):CallR X (.type "list") (λxs H Q=>∃(p:AR) (n:Nat),xs=[.ref p]/\H p=AA (.rng 0 (n:Int))/\n<=1000/\∀l,H l=AN->Q (.ref l) (D5 H l (.lst ((DB n).map λi:Nat=>V.int (i:Int))))):=by
 intro AF s σ H xs us Q I r h;obtain⟨p,n,rfl,hp,hn,q⟩:=h;obtain⟨u,rfl,ru⟩:=W5 r;cases ru;obtain⟨t,u,v,e⟩:=(show ObjOk X.prog X.w H s.heap p (.rng 0 (n:Int)) from I.hok p _ hp);refine call_list_range (I.ok.hd hc) (show IsRange s.heap p 0 (n:Int) 1 t u v from e) (small_one 'd' 'd' 'l' 'l') (n:=n) (by rw[aI];first|lia|(split<;>lia)) (AX hn (DS _ _)) λh' tk acc c k hS hI=>?_;obtain⟨hz,hi⟩:=hI
 have rv:Vals ((DB n).map λi:Nat=>V.int (i:Int)) acc.toList:=zO7 n _ (by simpa using hz) λi v hv=>by
  obtain⟨t,et⟩:=hi i v (by rw[<-C3];exact hv);exact{t,by rw[et];simp}
 refine{.ref s.heap.objs.size,_,I.laid (o:=.lst ((DB n).map λi:Nat=>V.int (i:Int))) k (AL _) {?_,acc.toList,c,rv,by simpa using hS},rfl,q _ I.fresh};rw[AJ,HY,F7];exact AX hn (DS _ _)
theorem Sx{Q:Option HL->AT->Prop}(h:Q (s.heap.get? a) s):A0 (A6 prog w) A (jM a) Q E s:=λΓ p hΓ=>by
 show Sem.wp _ Γ (.loadIfAlive a .pure) _ _ p s;rw[Sem.wp_loadIfAlive];exact(wpAny_pure h:A0 (A6 prog w) A (pure _) Q E s) Γ p hΓ
theorem pV{t:AR}{x:AI}(k:s.heap.IsTupleIter it t i)(ht:s.heap.IsTuple t items)(hx:items[i]?=AA x)
  (h:∀h',h'.IsTupleIter it t (i+1)->DM it s.heap h'->Q x { s with heap:=h' }):A0 (A6 prog w) A (CD (.ref it)) Q E s:=by
 obtain⟨o,ho,hc,hd⟩:=id k;obtain⟨ol,Kn,_,nl,Lr⟩:=ht;unfold CD;refine AB (C9 (name:=EU "__next__") k.typeIs F.slot_tuple_iterator_next (C8 F.slot_tuple_iterator_next k.typeIs F.entry_tuple_iterator_next ?_ (F.args_tuple_iterator_next_1 _)));show A0 _ _ (R6 (.ref it) 0 >>= _) _ _ s;refine AB (CS ho hd (x:=.ref t) rfl ?_);show A0 _ _ (if(DK t==FK)=AK then _ else _) _ _ s;rw[if_neg (show ¬((DK t==FK)=AK) from CH)];show A0 _ _ (R6 (.ref it) 1 >>= _) _ _ s;refine AB (CS ho hd (x:=.int i 0) rfl ?_);show A0 _ _ (seqItems? (.ref t) >>= _) _ _ s;refine AB (HK Kn Lr ?_);simp only[MM,hx];refine AB (QO ho hd 's' (wpAny_pure {x,rfl,wpAny_pure (h _ ?_ (GO ..))}));exact{_,OA _ ho (ZT (LY hd _)),(gU ..).trans hc,by rw[LY hd];simp[DC]}
theorem yX{t:AR}(hh:A.handled=AN)(k:s.heap.IsTupleIter it t i)(ht:s.heap.IsTuple t items)(hx:items[i]?=AN)
  (h:∀h' e,ZX it s.heap h'->(∃o,h'.get? e=AA o/\o.cls=.type "StopIteration")->E (.ref e) { s with heap:=h' }):A0 (A6 prog w) A (CD (.ref it)) Q E s:=by
 obtain⟨o,ho,hc,hd⟩:=id k;obtain⟨ol,Kn,_,nl,Lr⟩:=ht;unfold CD;refine AB (C9 (name:=EU "__next__") k.typeIs F.slot_tuple_iterator_next (C8 F.slot_tuple_iterator_next k.typeIs F.entry_tuple_iterator_next ?_ (F.args_tuple_iterator_next_1 _)));show A0 _ _ (R6 (.ref it) 0 >>= _) _ _ s;refine AB (CS ho hd (x:=.ref t) rfl ?_);show A0 _ _ (if(DK t==FK)=AK then _ else _) _ _ s;rw[if_neg (show ¬((DK t==FK)=AK) from CH)];show A0 _ _ (R6 (.ref it) 1 >>= _) _ _ s;refine AB (CS ho hd (x:=.int i 0) rfl ?_);show A0 _ _ (seqItems? (.ref t) >>= _) _ _ s;refine AB (HK Kn Lr ?_);simp only[MM,hx];refine AB (E4 (AB (QO ho hd 's' ?_)));show A0 _ _ (newExc (.type "StopIteration") [] >>= _) _ _ _;refine AB ?_;simp only[newExc,newTuple];refine AB (DU ?_ (by size_fits));refine AB (m:=QS _ _) (IX (a:=FK) (by first|rfl|(simp only[QS];rfl)) (DU ?_ (by size_fits)));simp only[raiseNew];refine AB (wpAny_handled ?_)
 first|rw[show A.in1.handled=AN from hh]|rw[hh]
 exact AB (wpAny_pure (wpAny_throw (h _ _ (((GO ..).extBut.push _).push _) {_,AW _ rfl,rfl})))
structure ZipSt(h:D3)(n l1 l2:AR)(i:Nat):Prop where
 zo:∃f0 f1,h.get? (n+4)=AA { cls:=.type "zip",dict:=AN,data:=.fields #[f0,.bool f1,.bool AD,.ref (n+2),.ref (n+3)],slots:=#[] }/\(f0=.none\/∃T:Nat,f0=DC T)
 ti:KH h (n+2) (.ref n) (.ref (n+1))
 to:∃a b,KH h (n+3) a b
 k1:h.IsTupleIter n l1 i
 k2:h.IsTupleIter (n+1) l2 i
theorem sO{t:AR}(x:h.IsTupleIter it t i)(k:∀o,h.get? it=AA o->h'.get? it=AA o):h'.IsTupleIter it t i:=let ⟨o,e,r⟩:=x;{o,k o e,r}
theorem Ot{t:AR}{CI:Array AI}(x:h.IsTuple t CI)(k:∀o,h.get? t=AA o->h'.get? t=AA o):h'.IsTuple t CI:=let ⟨o,e,r⟩:=x;{o,k o e,r}
theorem ZipSt.keep{n:AR}(z:ZipSt h n l1 l2 i)(k:∀b∈[n,n+1,n+2,n+3,n+4],∀o,h.get? b=AA o->h'.get? b=AA o):ZipSt h' n l1 l2 i:=by
 obtain⟨f0,f1,e,r⟩:=z.zo;obtain⟨a,b,to⟩:=z.to;exact{{f0,f1,k _ 's' _ e,r},k _ 's' _ z.ti,{a,b,k _ 's' _ to},sO z.k1 (k _ 's'),sO z.k2 (k _ 's')}
def Dr(n:AR)(h h':D3):Prop:=∀c o,c≠n->c≠n+1->c≠n+3->c≠n+4->h.get? c=AA o->h'.get? c=AA o
abbrev fX(h:D3)(n:AR)(f0:AI)(f1:Bool):Prop:=h.get? (n+4)=AA { cls:=.type "zip",dict:=AN,data:=.fields #[f0,.bool f1,.bool AD,.ref (n+2),.ref (n+3)],slots:=#[] }
def F0(f0:AI):Prop:=f0=.none\/∃T:Nat,f0=DC T
theorem kP(a:AR)(h:D3):DM a h h:={rfl,λ_ _=>rfl}
theorem Tn{n:AR}{f0:AI}{f1:Bool}{Q:Bool->AT->Prop}(hz:fX s.heap n f0 f1)(hf:F0 f0)
  (h:∀b h' f1,fX h' n f0 f1->DM (n+4) s.heap h'->Q b { s with heap:=h' }):A0 (A6 prog w) A (C0 (.ref (n+4))) Q E s:=by
 unfold C0;rcases hf with rfl|⟨T,rfl⟩
 .exact AB (CS hz rfl (x:=.none) rfl (wpAny_pure (h AK s.heap f1 hz (kP _ _))))
 .refine AB (CS hz rfl (x:=DC T) rfl ?_)
  show A0 _ _ (jM (T:Int).toNat >>= _) _ _ _;refine AB (Sx ?_)
  cases e:(s.heap.get? (T:Int).toNat).isNone with
  |true=>exact wpAny_pure (h AK s.heap f1 hz (kP _ _))
  |false =>
   simp only[DT,if_false];refine AB (CS hz rfl (x:=.bool f1) rfl ?_)
   cases f1 with
   |true =>
    exact wpAny_pure (h AD s.heap AK hz (kP _ _))
   |false =>
    show A0 _ _ (OG (.ref (n+4)) 1 (.bool AK) >>= _) _ _ _;exact AB (CV hz 's' λh' fZ SU=>wpAny_pure (h AD h' AK fZ SU))
def tY(n l:AR):Prop:=l≠n/\l≠n+1/\l≠n+3/\l≠n+4
theorem YG{t:AR}{CI:Array AI}(k:h.IsTuple t CI)(hs:DM a h h')(ne:t≠a):h'.IsTuple t CI:=Ot k λo e=>hs.extBut _ _ ne e
theorem TN{t:AR}(k:h.IsTupleIter t l i)(hs:DM a h h')(ne:t≠a):h'.IsTupleIter t l i:=sO k λo e=>hs.extBut _ _ ne e
theorem Z3(h:j≠k):n+j≠n+k:=by lia
theorem fL(h:k≠0):n≠n+k:=by lia
theorem zT0{n:AR}{xs ys:Array AI}{x y:AI}{Q:Option AI->AT->Prop}(z:ZipSt s.heap n l1 l2 i)(o1:tY n l1)(o2:tY n l2)
  (dR:s.heap.IsTuple l1 xs) (bN:s.heap.IsTuple l2 ys) (hx:xs[i]?=AA x) (hy:ys[i]?=AA y)
  (hQ:∀h',ZipSt h' n l1 l2 (i+1)->KH h' s.heap.objs.size x y->h'.objs.size=s.heap.objs.size+1->Dr n s.heap h'->Q (AA (.ref s.heap.objs.size)) { s with heap:=h' }) :
  A0 (A6 prog w) A (JX (.ref (n+4))) Q E s:=by
 obtain⟨f0,f1,hz,hf⟩:=z.zo;obtain⟨a,b,rW⟩:=z.to;have rX:=z.ti;have k1:=z.k1;have k2:=z.k2;obtain⟨p1,p2,p3,p4⟩:=o1;obtain⟨q1,q2,q3,q4⟩:=o2;have hT:s.TypeIs (.ref (n+4)) "zip":={_,hz,rfl};have gQ:n+3≠n+4:=Z3 'd';have xF:n+2≠n+4:=Z3 'd';have eF:n+1≠n+4:=Z3 'd';have eG:n≠n+4:=fL 'd';have lV:n+1≠n+3:=Z3 'd';have rZ:n≠n+3:=fL 'd';have aD:n≠n+1:=fL 'd';have d23:n+2≠n+3:=Z3 'd';have d21:n+2≠n+1:=Z3 'd';have d20:n+2≠n:=(fL 'd').symm;unfold JX;refine AB (GL (C9 (name:=EU "__next__") hT F.slot_zip_next (C8 F.slot_zip_next hT F.entry_zip_next ?_ (F.args_zip_next_1 _))));show A0 _ _ (R6 (.ref (n+4)) 2 >>= _) _ _ _;refine AB (CS hz rfl (x:=.bool AD) rfl ?_);show A0 _ _ (R6 (.ref (n+4)) 3 >>= _) _ _ _;refine AB (CS hz rfl (x:=.ref (n+2)) rfl ?_);refine AB (HK rX rfl ?_);show A0 _ _ (C0 (.ref (n+4)) >>= _) _ _ _;refine AB (Tn hz hf λfr h₀ g1 UZ IZ=>?_);have YX:KH h₀ (n+3) a b:=IZ.extBut _ _ gQ rW;have SQ:=TN k1 IZ eG;have XI:=TN k2 IZ eF;have SL:=YG dR IZ p4;have XF:=YG bN IZ q4;have hTI₀:KH h₀ (n+2) (.ref n) (.ref (n+1)):=IZ.extBut _ _ xF rX
 cases fr with
 |true =>
  simp only[if_true];refine AB (E4 ?_);refine AB (CS UZ rfl (x:=.ref (n+3)) rfl ?_);refine AB (CV UZ 's' λJU QZ J4=>?_);replace QZ:fX JU n .ellipsis g1:=QZ;refine AB ?_;simp only[J9,jT,N3,OQ];refine AB (AB (NZ ?_));show A0 _ _ (CD (.ref n) >>= _) _ _ _;refine AB (pV (TN SQ J4 eG) (YG SL J4 p4) hx λNA XJ GZ=>wpAny_pure ?_);have SX:KH NA (n+3) a b:=GZ.extBut _ _ rZ.symm (J4.extBut _ _ gQ YX);refine AB (HK SX rfl ?_);refine AB (QN SX λOY V7 LL=>?_);replace V7:KH OY (n+3) x b:=V7;refine AB (QP (wpAny_pure ?_));refine AB (AB (NZ ?_));show A0 _ _ (CD (.ref (n+1)) >>= _) _ _ _;refine AB (pV (TN (TN (TN XI J4 eF) GZ aD.symm) LL lV) (YG (YG (YG XF J4 q4) GZ q1) LL q3) hy λNQ dD K2=>wpAny_pure ?_);have eE:KH NQ (n+3) x b:=K2.extBut _ _ lV.symm V7;refine AB (HK eE rfl ?_);refine AB (QN eE λK1 V6 Q0=>?_);replace V6:KH K1 (n+3) x y:=V6;refine AB (QP (wpAny_pure (wpAny_pure ?_)));refine AB (HK V6 rfl ?_);refine AB (MR ?_);have hsz:K1.objs.size=s.heap.objs.size:=by rw[Q0.1,K2.1,LL.1,GZ.1,J4.1,IZ.1]
  have lA:fX K1 n .ellipsis g1:=Q0.extBut _ _ gQ.symm (K2.extBut _ _ eF.symm (LL.extBut _ _ gQ.symm (GZ.extBut _ _ eG.symm QZ)))
  have lH:∀c o,c≠n+4->c≠n+3->c≠n->c≠n+1->s.heap.get? c=AA o->K1.get? c=AA o:=λc o c1 c2 c3 c4 e =>
   Q0.extBut _ _ c2 (K2.extBut _ _ c4 (LL.extBut _ _ c2 (GZ.extBut _ _ c3 (J4.extBut _ _ c1 (IZ.extBut _ _ c1 e)))))
  have vV:K1.IsTupleIter n l1 (i+1):=TN (TN (TN XJ LL rZ) K2 aD) Q0 rZ;have vU:K1.IsTupleIter (n+1) l2 (i+1):=TN dD Q0 lV;have vY:n+4<K1.objs.size:=A9 lA;show A0 _ _ (HF (.ref (n+4)) (.ref K1.objs.size) >>= _) _ _ _;refine AB ?_;unfold HF;have vX:fX (K1.push { cls:=.type "tuple",data:=.seq #[x,y] }) n .ellipsis g1:=AG _ lA;refine AB (CV vX 's' λdF dH dN=>?_);replace dH:fX dF n (DC K1.objs.size) g1:=dH;refine CV dH 's' λSR dG dM=>?_;replace dG:fX SR n (DC K1.objs.size) AD:=dG;have up:∀c o,c≠n+4->K1.get? c=AA o->SR.get? c=AA o:=λc o c1 e=>dM.extBut _ _ c1 (dN.extBut _ _ c1 (AG _ e));have lN:KH SR K1.objs.size x y:=dM.extBut _ _ (FS vY) (dN.extBut _ _ (FS vY) (AW _ rfl));have Yu:SR.objs.size=K1.objs.size+1:=by rw[dM.1,dN.1,FF]
  have zs:ZipSt SR n l1 l2 (i+1):={{_,_,dG,.inr {_,rfl}},up _ _ xF (lH _ _ xF d23 d20 d21 rX),{x,y,up _ _ gQ V6},sO vV λo e=>up _ o eG e,sO vU λo e=>up _ o eF e};rw[hsz] at lN Yu;refine wpAny_pure {_,rfl,wpAny_pure ?_};show Q (AA (.ref K1.objs.size)) _;rw[hsz];exact hQ SR zs lN Yu λc o c1 c2 c3 c4 e=>up c o c4 (lH c o c4 c3 c1 c2 e)
 |false =>
  simp only[DT,if_false];refine AB ?_;rw[<-LI];simp only[N3,OQ];refine AB (AB (DQ ?_));show A0 _ _ (CD (.ref n) >>= _) _ _ _;refine AB (pV SQ SL hx λNA XJ GZ=>wpAny_pure (wpAny_pure ?_));refine AB (AB (DQ ?_));show A0 _ _ (CD (.ref (n+1)) >>= _) _ _ _;refine AB (pV (TN XI GZ aD.symm) (YG XF GZ q1) hy λNQ dD K2=>wpAny_pure (wpAny_pure (wpAny_pure ?_)));refine AB (MR (items:=[x,y]) ?_);have hsz:NQ.objs.size=s.heap.objs.size:=by rw[K2.1,GZ.1,IZ.1]
  have dS:∀c o,c≠n+4->c≠n->c≠n+1->s.heap.get? c=AA o->NQ.get? c=AA o:=λc o c1 c3 c4 e=>K2.extBut _ _ c4 (GZ.extBut _ _ c3 (IZ.extBut _ _ c1 e))
  have zs:ZipSt (NQ.push { cls:=.type "tuple",data:=.seq #[x,y] }) n l1 l2 (i+1):=ZipSt.keep (h:=NQ) {{f0,g1,K2.extBut _ _ eF.symm (GZ.extBut _ _ eG.symm UZ),hf},dS _ _ xF d20 d21 rX,{a,b,dS _ _ gQ rZ.symm lV.symm rW},TN XJ K2 aD,dD}
   λb _ o e=>AG _ e
  refine wpAny_pure {_,rfl,wpAny_pure ?_};show Q (AA (.ref NQ.objs.size)) _;have hP:KH (NQ.push { cls:=.type "tuple",data:=.seq #[x,y] }) NQ.objs.size x y:=AW _ rfl;have SU:(NQ.push { cls:=.type "tuple",data:=.seq #[x,y] }).objs.size=NQ.objs.size+1:=FF ..;rw[hsz] at hP SU ⊢;exact hQ _ zs hP SU λc o c1 c2 c3 c4 e=>AG _ (dS c o c4 c1 c2 e)
theorem zYW{n:AR}{xs ys:Array AI}{Q:Option AI->AT->Prop}(hh:A.handled=AN)(z:ZipSt s.heap n l1 l2 i)(o1:tY n l1)(o2:tY n l2)
  (dR:s.heap.IsTuple l1 xs) (bN:s.heap.IsTuple l2 ys) (jF:xs[i]?=AN\/ys[i]?=AN)
  (hQ:∀h',Dr n s.heap h'->Q AN { s with heap:=h' }):A0 (A6 prog w) A (JX (.ref (n+4))) Q E s:=by
 obtain⟨f0,f1,hz,hf⟩:=z.zo;obtain⟨a,b,rW⟩:=z.to;have rX:=z.ti;have k1:=z.k1;have k2:=z.k2;obtain⟨p1,p2,p3,p4⟩:=o1;obtain⟨q1,q2,q3,q4⟩:=o2;have hT:s.TypeIs (.ref (n+4)) "zip":={_,hz,rfl};have gQ:n+3≠n+4:=Z3 'd';have xF:n+2≠n+4:=Z3 'd';have eF:n+1≠n+4:=Z3 'd';have eG:n≠n+4:=fL 'd';have lV:n+1≠n+3:=Z3 'd';have rZ:n≠n+3:=fL 'd';have aD:n≠n+1:=fL 'd'
 have fin:∀{h':D3} {e:AR},(∃o,h'.get? e=AA o/\o.cls=.type "StopIteration")->Dr n s.heap h' ->
   A0 (A6 prog w) A (isInstance (.ref e) (.type "StopIteration") >>= λb=>if b=AK then pure AN else throw (.ref e)) Q E { s with heap:=h' }:=λ{h' e} he hk=>by
  obtain⟨o,ho,hc⟩:=he;exact AB (WD (T:="StopIteration") (b:=AK) {o,ho,hc} Y2 (wpAny_pure (hQ _ hk)))
 unfold JX;refine AB (GL (C9 (name:=EU "__next__") hT F.slot_zip_next (C8 F.slot_zip_next hT F.entry_zip_next ?_ (F.args_zip_next_1 _))));show A0 _ _ (R6 (.ref (n+4)) 2 >>= _) _ _ _;refine AB (CS hz rfl (x:=.bool AD) rfl ?_);show A0 _ _ (R6 (.ref (n+4)) 3 >>= _) _ _ _;refine AB (CS hz rfl (x:=.ref (n+2)) rfl ?_);refine AB (HK rX rfl ?_);show A0 _ _ (C0 (.ref (n+4)) >>= _) _ _ _;refine AB (Tn hz hf λfr h₀ g1 UZ IZ=>?_);have YX:KH h₀ (n+3) a b:=IZ.extBut _ _ gQ rW;have SQ:=TN k1 IZ eG;have XI:=TN k2 IZ eF;have SL:=YG dR IZ p4;have XF:=YG bN IZ q4
 cases fr with
 |true =>
  simp only[if_true];refine AB (E4 ?_);refine AB (CS UZ rfl (x:=.ref (n+3)) rfl ?_);refine AB (CV UZ 's' λJU QZ J4=>?_);replace QZ:fX JU n .ellipsis g1:=QZ;refine AB ?_;simp only[J9,jT,N3,OQ];refine AB (AB (NZ ?_));show A0 _ _ (CD (.ref n) >>= _) _ _ _
  cases hx:xs[i]? with
  |none =>
   refine AB (yX hh (TN SQ J4 eG) (YG SL J4 p4) hx λNA e GZ he=>?_);obtain⟨oe,oJ,wY⟩:=he;have lC:fX NA n .ellipsis g1:=GZ _ _ eG.symm QZ;have Ll:e≠n+4:=λx=>by subst x;rw[lC] at oJ;cases oJ;simp at wY
   exact CV lC 's' λOY _ LL=>fin {oe,LL.extBut _ _ Ll oJ,wY} λc o c1 c2 c3 c4 x=>LL.extBut _ _ c4 (GZ _ _ c1 (J4.extBut _ _ c4 (IZ.extBut _ _ c4 x)))
  |some x =>
   have hy:ys[i]?=AN:=by rcases jF with h|h;rw[hx] at h;cases h;exact h
   refine AB (pV (TN SQ J4 eG) (YG SL J4 p4) hx λNA XJ GZ=>wpAny_pure ?_);have SX:KH NA (n+3) a b:=GZ.extBut _ _ rZ.symm (J4.extBut _ _ gQ YX);refine AB (HK SX rfl ?_);refine AB (QN SX λOY V7 LL=>?_);refine AB (QP (wpAny_pure ?_));refine AB (AB (NZ ?_));show A0 _ _ (CD (.ref (n+1)) >>= _) _ _ _;refine AB (yX hh (TN (TN (TN XI J4 eF) GZ aD.symm) LL lV) (YG (YG (YG XF J4 q4) GZ q1) LL q3) hy λNQ e K2 he=>?_);obtain⟨oe,oJ,wY⟩:=he;have lB:fX NQ n .ellipsis g1:=K2 _ _ eF.symm (LL.extBut _ _ gQ.symm (GZ.extBut _ _ eG.symm QZ));have Ll:e≠n+4:=λx=>by subst x;rw[lB] at oJ;cases oJ;simp at wY
   exact CV lB 's' λK1 _ Q0=>fin {oe,Q0.extBut _ _ Ll oJ,wY} λc o c1 c2 c3 c4 x=>Q0.extBut _ _ c4 (K2 _ _ c2 (LL.extBut _ _ c3 (GZ.extBut _ _ c1 (J4.extBut _ _ c4 (IZ.extBut _ _ c4 x)))))
 |false =>
  simp only[DT,if_false];refine AB ?_;rw[<-LI];simp only[N3,OQ];refine AB (AB (DQ ?_));show A0 _ _ (CD (.ref n) >>= _) _ _ _
  cases hx:xs[i]? with
  |none =>
   refine AB (yX hh SQ SL hx λNA e GZ he=>?_);exact fin he λc o c1 c2 c3 c4 x=>GZ _ _ c1 (IZ.extBut _ _ c4 x)
  |some x =>
   have hy:ys[i]?=AN:=by rcases jF with h|h;rw[hx] at h;cases h;exact h
   refine AB (pV SQ SL hx λNA XJ GZ=>wpAny_pure (wpAny_pure ?_));refine AB (AB (DQ ?_));show A0 _ _ (CD (.ref (n+1)) >>= _) _ _ _;refine AB (yX hh (TN XI GZ aD.symm) (YG XF GZ q1) hy λNQ e K2 he=>?_);exact fin he λc o c1 c2 c3 c4 x=>K2 _ _ c2 (GZ.extBut _ _ c1 (IZ.extBut _ _ c4 x))
theorem Inv.turnedL(I:Inv X AF σ H s)(hf:∀b∈fp,FpOk X AF H b)(k:∀b o,b∉fp->s.heap.get? b=AA o->h'.get? b=AA o):Inv X AF σ H { s with heap:=h',toks:=t' }:=by
 have vL:∀b u,H b=AA u->b∉fp:=λb u e z=>by rw[(hf b z).1] at e;cases e
 refine I.step (g':=s.gens) (d':=s.drawn) (ch:=fp) (λb hb=>?_) (λb o _ _ hc e _=>k b o hc e) (λb o _ _ hc e _=>{o.slots,k b o hc e}) (λ_ _ _ _ n=>n)
  (λb o hc e=>{o,k b o hc e}) (λ_ _ e=>e) (λ_ _ _ e=>e) (λb t ps e=>{#[],by rw[e];simp}) (λm hm=>?_) (λb u e=>?_) I.bare
 .obtain⟨f0,f1,f2,f3,f4,f5⟩:=hf b hb
  exact{f3,f1,f4,f5}
 .obtain⟨o,es,ep,ho,r⟩:=hm
  exact{o,es,ep,k _ o (λz=>(hf _ z).2.1 rfl) ho,r}
 .refine(I.hok b u e).stay (λc v hc q=>k c v ?_ q) (λ_ q=>q) (λ_ _ q=>q) λ_ _ _ q=>q
  rcases hc with z|z
  .rw[z];exact vL b u e
  .exact vL c _ z
theorem FpOk.off(I:Inv X AF σ H s)(hf:∀b∈fp,FpOk X AF H b)(h:SqT X.K H a xs):a∉fp:=λz=>by
 obtain⟨f0,f1,f2,f3,f4,f5⟩:=hf a z;rcases h with h|⟨o,CI,n,hk,_⟩
 .rcases h with h|⟨o,h⟩
  .rw[f0] at h;cases h
  .rw[f0] at h;cases h
 .have hb:=I.ok.mod.kin a o hk
  rcases f3 with f3|f3
  .exact I.ok.noex a o hb f3
  .exact absurd (AQ (A9 hb) I.ok.bsz) (WI.mpr f3)
theorem yCU{n:AR}{Q:Unit → AT → Prop}(z : ZipSt s.heap n l1 l2 i)(h : ∀ h', ZipSt h' n l1 l2 i → DM (n + 4) s.heap h' → Q () { s with heap := h' }) :
    A0 (A6 prog w) A (FP tg (.ref (n + 4)) u) Q E s := by
  have hz := h s.heap z (kP _ _);obtain ⟨f0, f1, e, hf⟩ := id z.zo;unfold FP
  cases tg <;> first
    | exact wpAny_pure hz
    | (cases u <;> first
        | exact wpAny_pure hz
        | (
          refine AB (wpAny_load e ?_);dsimp only;split
          · refine AB (E4 ?_)
            show A0 _ _ (OG (.ref (n + 4)) 0 .none) Q E s;refine CV e 's' fun h' fZ SU => h h' ?_ SU
            obtain ⟨a, b, rW⟩ := z.to;exact {{.none, f1, fZ, .inl rfl}, SU.extBut _ _ (Z3 'd') z.ti, {a, b, SU.extBut _ _ (Z3 'd') rW}, TN z.k1 SU (fL 'd'), TN z.k2 SU (Z3 'd')}
          · exact wpAny_pure hz))
theorem Rn{n:AR}(z:ZipSt s.heap n l1 l2 i)(h:Q (.ref (n+4)) s):A0 (A6 prog w) A (O1 (.ref (n+4))) Q E s:=by
 obtain⟨f0,f1,e,hf⟩:=z.zo;have hT:s.TypeIs (.ref (n+4)) "zip":={_,e,rfl};refine UB hT F.slot_zip_iter (C8 F.slot_zip_iter hT F.entry_zip_iter ?_ (F.args_zip_iter_1 _));show A0 _ _ (ret (.ref (n+4))) _ _ s;exact wpAny_pure {_,rfl,"zip",_,hT,F.slot_zip_next.lookup,h}
noncomputable abbrev zC(h:D3)(l1:AR):D3:=h.push { cls:=.type "tuple_iterator",data:=.fields #[.ref l1,.int 0 0] }
abbrev zB(h:D3)(l1 l2:AR):D3:=(zC h l1).push { cls:=.type "tuple_iterator",data:=.fields #[.ref l2,.int 0 0] }
abbrev zA(h:D3)(l1 l2:AR):D3:=(zB h l1 l2).push { cls:=.type "tuple",data:=.seq #[.ref h.objs.size,.ref (zC h l1).objs.size] }
abbrev yZ(h:D3)(l1 l2:AR):D3:=(zA h l1 l2).push { cls:=.type "tuple",data:=.seq #[.none,.none] }
abbrev mP(h:D3)(l1 l2:AR):D3:=(yZ h l1 l2).push { cls:=.type "zip",data:=.fields #[.none,.bool AD,.bool AD,.ref (zB h l1 l2).objs.size,.ref (zA h l1 l2).objs.size] }
theorem zO8(l1 l2:AR)(xs ys:Array AI) :
  Meets (ES.«zip.__new__» {[.type "zip",.ref l1,.ref l2],[]}) (λ_ R s=>s.heap.IsTuple l1 xs/\s.heap.IsTuple l2 ys /\
   R (.ok (.ret (.ref (yZ s.heap l1 l2).objs.size))) { s with heap:=mP s.heap l1 l2 }) :=
 .of_wp λprog w A R s h=>by
  obtain⟨hp,g,d,tk,os⟩:=s;obtain⟨dR,bN,h⟩:=h;have Kf:=sub_zip;have hL1:Heap.IsTuple (X9 {hp,g,d,tk,os}) l1 xs:=dR;have hL2:Heap.IsTuple (X9 {hp.push { cls:=.type "tuple_iterator",data:=.fields #[.ref l1,.int 0 0] },g,d,tk,os}) l2 ys:=Ot bN λo e=>AG _ e
  wp_walk using S7 hL1,S7 hL2
  exact{_,rfl,h}
theorem zQU{xs ys:Array AI}(dR:s.heap.IsTuple l1 xs)(bN:s.heap.IsTuple l2 ys)
  (h:∀h',ZipSt h' s.heap.objs.size l1 l2 0->h'.objs.size=s.heap.objs.size+5->(∀c o,s.heap.get? c=AA o->h'.get? c=AA o)->Q (.ref (s.heap.objs.size+4)) { s with heap:=h' }) :
  A0 (A6 prog w) A (call (.type "zip") [.ref l1,.ref l2]) Q E s:=by
 refine callType_new F.called_zip 'd' (F.typeCall_zip_2 _ _) (F.newCall_zip_2 _ _) (λobj=>F.args_object_init_3 obj _ _) F.entry_zip_new
  (zO8 l1 l2 xs ys) {dR,bN,?_}
 have z1:(zC s.heap l1).objs.size=s.heap.objs.size+1:=FF ..;have z2:(zB s.heap l1 l2).objs.size=s.heap.objs.size+2:=by rw[FF,z1]
 have z3:(zA s.heap l1 l2).objs.size=s.heap.objs.size+3:=by rw[FF,z2]
 have z4:(yZ s.heap l1 l2).objs.size=s.heap.objs.size+4:=by rw[FF,z3]
 have z5:(mP s.heap l1 l2).objs.size=s.heap.objs.size+5:=by rw[FF,z4]
 have g5:(mP s.heap l1 l2).get? (yZ s.heap l1 l2).objs.size=AA _:=AW _ rfl;have g4:(mP s.heap l1 l2).get? (zA s.heap l1 l2).objs.size=AA _:=AG _ (AW _ rfl);have g3:(mP s.heap l1 l2).get? (zB s.heap l1 l2).objs.size=AA _:=AG _ (AG _ (AW _ rfl));have g2:(mP s.heap l1 l2).get? (zC s.heap l1).objs.size=AA _:=AG _ (AG _ (AG _ (AW _ rfl)));have g1:(mP s.heap l1 l2).get? s.heap.objs.size=AA _:=AG _ (AG _ (AG _ (AG _ (AW _ rfl))));show _/\_;rw[z2,z3,z4] at g5;rw[z1,z2] at g3;rw[z3] at g4;rw[z1] at g2;rw[z4]
 exact{{_,g5,rfl},h _ {{.none,AD,g5,.inl rfl},g3,{_,_,g4},{_,g1,rfl,rfl},{_,g2,rfl,rfl}} z5 λc o x =>
  AG _ (AG _ (AG _ (AG _ (AG _ x))))}
def Xl(K:AC)(a b:AR):It :=
 {λi H=>∃xs ys x y,SqT K H a xs/\SqT K H b ys/\xs[i]?=AA x/\ys[i]?=AA y,
  λi H v H'=>∃p x y,v=.ref p/\H p=AN/\H'=D5 H p (.tup [x,y])/\(∀xs,SqT K H a xs->xs[i]?=AA x)/\(∀ys,SqT K H b ys->ys[i]?=AA y),
  λi H=>∃xs ys,SqT K H a xs/\SqT K H b ys/\(xs.length<=i\/ys.length<=i)}
abbrev iU(n:AR):List AR:=[n,n+1,n+2,n+3,n+4]
theorem lt5{c S:Nat}(h:c∈[n,n+1,n+2,n+3,n+4])(IU:n+4<S):c<S:=by
 simp only[A2,BX,or_false] at h;lia
theorem Xe{c:Nat}(h:c∈[n,n+1,n+2,n+3,n+4]):n<=c:=by
 simp only[A2,BX,or_false] at h;lia
theorem qX{n:AR}(h:a∉iU n):tY n a:=by
 simp only[iU,A2,BX,or_false,not_or] at h;exact{h.1,h.2.1,h.2.2.2.1,h.2.2.2.2}
theorem zT1{K:AC}(a b n:AR):Turn P w K tg (Xl K a b) (iU n) (n+4) (λi h=>ZipSt h n a b i) where
 mem:=by simp
 obj:=λi h st c hc=>by
  obtain⟨f0,f1,e,_⟩:=st.zo;obtain⟨u,v,e3⟩:=st.to;obtain⟨o0,e0,_,d0⟩:=st.k1;obtain⟨o1,e1,_,d1⟩:=st.k2;simp only[iU,A2,BX,or_false] at hc;rcases hc with rfl|rfl|rfl|rfl|rfl
  .exact{_,e0,λv z=>by rw[d0] at z;cases z}
  .exact{_,e1,λv z=>by rw[d1] at z;cases z}
  .exact{_,st.ti,λv z=>by have z':l7 _ _=O5 v:=z;cases z'}
  .exact{_,e3,λv z=>by have z':l7 _ _=O5 v:=z;cases z'}
  .exact{_,e,λv z=>by have z':OR _=O5 v:=z;cases z'}
 keep:=λi h h' st k=>st.keep k
 item:=by
  intro X hP hw hK hc i AF s σ H E I hf st hg;subst hP hw hK;obtain⟨xs,ys,x,y,X4,bL,hx,hy⟩:=hg;obtain⟨YQ,uV,p1,rO⟩:=I.tuple X4;obtain⟨L8,Ax,p2,aA⟩:=I.tuple bL;obtain⟨u1,uD,ru1⟩:=uV.get hx;obtain⟨u2,hu2,ru2⟩:=Ax.get hy;refine zT0 st (qX (FpOk.off I hf X4)) (qX (FpOk.off I hf bL)) (show s.heap.IsTuple a YQ.toArray from p1) (show s.heap.IsTuple b L8.toArray from p2) (x:=u1) (y:=u2) (by simpa using uD) (by simpa using hu2) λh' CP hp hsz hk=>?_;refine{_,rfl,yCU (s:={ s with heap:=h' }) CP λh2 st2 NB=>?_};obtain⟨f0,f1,e4,_⟩:=id st.zo;have IU:∀c∈iU n,c<s.heap.objs.size:=λc hc=>lt5 hc (A9 e4);have nin:s.heap.objs.size∉iU n:=λz=>GE _ (IU _ z)
  have I1:Inv X AF σ (D5 H s.heap.objs.size (.tup [x,y])) { s with heap:=s.heap.push { cls:=.type "tuple",data:=.seq #[u1,u2] } } :=
   I.laid (t':=s.toks) (λb u e=>AG _ e) (AL _) {by show 2<=sizeLine;decide,[u1,u2],.cons ru1 (.cons ru2 .nil),{_,AW _ rfl,rfl,rfl,0,rfl}}
  have wU:∀c∈iU n,FpOk X AF (D5 H s.heap.objs.size (.tup [x,y])) c:=λc hc=>{by rw[EW (BZ (IU c hc))];exact(hf c hc).1,(hf c hc).2};have n4:n+4∈iU n:=by simp
  have I2:Inv X AF σ (D5 H s.heap.objs.size (.tup [x,y])) { s with heap:=h2 }:=I1.turnedL (t':=s.toks) wU λc o hc e=>by
   have c4:c≠n+4:=λz=>hc (by rw[z];exact n4);refine NB.extBut _ _ c4 ?_
   by_cases dY:c=s.heap.objs.size
   .subst dY
    rw[AW _ rfl] at e;cases e;exact hp
   .have e':s.heap.get? c=AA o:=by
     rw[MF _ _ _ dY] at e;exact e
    obtain⟨q0,q1,q3,q4⟩:=qX hc;exact hk c o q0 q1 q3 q4 e'
  exact{.ref s.heap.objs.size,_,I2,rfl,{_,x,y,rfl,I.fresh,rfl,λzs hz=>by rw[I.tuple_inj hz X4];exact hx,λzs hz=>by rw[I.tuple_inj hz bL];exact hy},st2,λc hc=>(wU c hc).1}
 done:=by
  intro X hP hw hK hc i AF s σ H E I hf st hg;subst hP hw hK;obtain⟨xs,ys,X4,bL,hx⟩:=hg;obtain⟨YQ,uV,p1,rO⟩:=I.tuple X4;obtain⟨L8,Ax,p2,aA⟩:=I.tuple bL;have l1:=uV.length;have l2:=Ax.length;refine zYW (I.ok.hd hc) st (qX (FpOk.off I hf X4)) (qX (FpOk.off I hf bL)) (show s.heap.IsTuple a YQ.toArray from p1) (show s.heap.IsTuple b L8.toArray from p2) (hx.imp (λh=>by simp;lia) (λh=>by simp;lia)) λh' hk=>{rfl,I.turnedL (t':=s.toks) hf λc o hc e=>?_};obtain⟨q0,q1,q3,q4⟩:=qX hc;exact hk c o q0 q1 q3 q4 e
 self:=λ_ _ _ _ _ st h=>Rn st h
def yIF(K:AC)(ta:TA):TI:=λσ H R=>ta σ H λvs H1=>∃a b,vs=[.ref a,.ref b]/\(∃xs,SqT K H1 a xs)/\(∃ys,SqT K H1 b ys)/\R (Xl K a b) H1
theorem yCV{a b:CU}{ta:TA}(hg:Gl X "zip")(hm:X.mg "zip"=AN)(ha:PA X [a,b] ta)(hs:AM [a,b] X.env=[(AD,eval a X.env),(AD,eval b X.env)]:=by rfl)(NB:AM [b] X.env=[(AD,eval b X.env)]:=by rfl) :
  PI X tg (.Call (.Name "zip" p) [a,b] [] pos) (yIF X.K ta):=by
 intro AF s σ H R I h;refine Call_ (iH I hg hm (u:=.type "zip") (by decide +kernel) (EO (GY (ha pos AF s σ H _ I h) λus s1 ⟨vs,H1,I1,r1,q1⟩=>?_) (by rw[hs,NB]) (by rw[NB];rfl)));obtain⟨c,d,e,⟨xs,X4⟩,⟨ys,bL⟩,q⟩:=q1;subst e
 cases r1 with
 |cons r rr =>
  cases rr with
  |cons r' rr =>
   cases rr;cases r;cases r';obtain⟨YQ,uV,p1,rO⟩:=I1.tuple X4;obtain⟨L8,Ax,p2,aA⟩:=I1.tuple bL;refine zQU (show s1.heap.IsTuple c YQ.toArray from p1) (show s1.heap.IsTuple d L8.toArray from p2) λh' st hsz k=>?_;refine Rn (s:={ s1 with heap:=h' }) st ?_;refine{s1.heap.objs.size+4,iU s1.heap.objs.size,_,_,H1,rfl,I1.kept (t':=s1.toks) k,zT1 c d _,st,λb hb=>?_,q};exact I1.fpOk (Xe hb) (I1.hok.fresh (Xe hb))
mutual
inductive DV(K:AC)(H:Hp):V->G1->Prop
 |non:DV K H .non .none
 |bl (b:Bool):DV K H (.bl b) (.bool b)
 |int (i:Int):DV K H (.int i) (.int i)
 |str (x:CN):LB (.str x)=AK->DV K H (.str x) (.str x)
 |tup {a:AR} {xs:List V} {ds:List G1}:SqT K H a xs->DVs K H xs ds->DV K H (.ref a) (.tuple ds)
 |lst {a:AR} {xs:List V} {ds:List G1}:SqL K H a xs->DVs K H xs ds->DV K H (.ref a) (.list ds)
inductive DVs(K:AC)(H:Hp):List V->List G1->Prop
 |nil:DVs K H [] []
 |cons {x:V} {d:G1} {xs:List V} {ds:List G1}:DV K H x d->DVs K H xs ds->DVs K H (x::xs) (d::ds)
end
theorem DV.ind{K:AC}{P:V->G1->Prop}{Q:List V->List G1->Prop}(h1:P .non .none)(h2:∀b,P (.bl b) (.bool b))(h3:∀i,P (.int i) (.int i))(h4:∀x,LB (.str x)=AK->P (.str x) (.str x))
  (h5:∀{a xs ds},SqT K H a xs->DVs K H xs ds->Q xs ds->P (.ref a) (.tuple ds)) (h6:∀{a xs ds},SqL K H a xs->DVs K H xs ds->Q xs ds->P (.ref a) (.list ds))
  (q1:Q [] []) (q2:∀{x d xs ds},DV K H x d->DVs K H xs ds->P x d->Q xs ds->Q (x::xs) (d::ds)):(∀{v d},DV K H v d->P v d)/\∀{v d},DVs K H v d->Q v d :=
 {λh=>DV.rec (motive_1:=λv d _=>P v d) (motive_2:=λv d _=>Q v d) h1 h2 h3 h4 h5 h6 q1 q2 h,λh=>DVs.rec (motive_1:=λv d _=>P v d) (motive_2:=λv d _=>Q v d) h1 h2 h3 h4 h5 h6 q1 q2 h}
theorem pA1{K:AC}:(∀{v d},DV K H v d->d.canLay0=AK)/\∀{v d},DVs K H v d->FU d=AK :=
 DV.ind (P:=λ_ d=>d.canLay0=AK) (Q:=λ_ d=>FU d=AK) rfl (λ_=>rfl) (λ_=>rfl) (λ_ h=>h) (λ_ _ h=>by rw[LB];exact h) (λ_ _ h=>by rw[LB];exact h) rfl (λ_ _ h t=>by rw[FU,h,t];rfl)
theorem DV.can{K:AC}{d:G1}(h:DV K H v d):d.canLay0=AK:=pA1.1 h
theorem DVs.can{K:AC}{v:List V}{d:List G1}(h:DVs K H v d):FU d=AK:=pA1.2 h
theorem pA2(I:Inv X AF σ H s):(∀{v d},DV X.K H v d->∀u,RelV v u->∃as,bV s.heap u d as)/\∀{v d},DVs X.K H v d->∀u,Vals v u->∃as,Y6 s.heap u d as:=by
 refine DV.ind (P:=λv d=>∀u,RelV v u->∃as,bV s.heap u d as) (Q:=λv d=>∀u,Vals v u->∃as,Y6 s.heap u d as) ?_ ?_ ?_ ?_ ?_ ?_ ?_ ?_
 .intro _ r;cases r;exact{_,.none}
 .intro b _ r;cases r;exact{_,.bool b}
 .intro i _ r;obtain⟨t,rfl⟩:=r;exact{_,.int i t}
 .intro x _ _ r;obtain⟨t,rfl⟩:=r;exact{_,.str x t}
 .intro a xs ds hq _ ih _ r
  cases r;obtain⟨CI,rv,⟨o,ho,hc,n,hd⟩,hz⟩:=I.tuple hq;obtain⟨as,ra⟩:=ih _ rv;exact{as,.tuple ho hc hd (by simpa using ra)}
 .intro a xs ds hq _ ih _ r
  cases r;obtain⟨CI,rv,pl,hz⟩:=I.list hq;obtain⟨o,ho,hc,n,hd⟩:=pl.isList;obtain⟨as,ra⟩:=ih _ rv;exact{_,.list ho hc hd (by simpa using ra)}
 .intro _ r;cases r;exact{_,.nil}
 .intro x d xs ds _ _ h t _ r
  cases r with
  |cons r1 r2 =>
   obtain⟨as,ra⟩:=h _ r1;obtain⟨bs,rb⟩:=t _ r2;exact{_,.cons ra rb}
theorem DV.reads(I:Inv X AF σ H s){d:G1}(h:DV X.K H v d)(r:RelV v u):∃as,bV s.heap u d as:=(pA2 I).1 h u r
theorem DVs.reads(I:Inv X AF σ H s){v:List V}{d:List G1}(h:DVs X.K H v d){u:List AI}(r:Vals v u):∃as,Y6 s.heap u d as:=(pA2 I).2 h u r
def zY(K:AC)(dA:Bool):R2:=λx y H Q=>∃d e,DV K H x d/\DV K H y e/\min d.depth e.depth<=60/\Q (.bl (if dA then !C2 d e else C2 d e)) H
theorem Os(hu:X.A.units+64<GT):OpR X (EX .Eq) (zY X.K AD):=by
 intro AF s σ H x y v u Q I rx ry h;obtain⟨d,e,hd,he,hm,q⟩:=h;obtain⟨as,ra⟩:=hd.reads I rx;obtain⟨bs,rb⟩:=he.reads I ry;exact SeqAt.compareEq_reads ra rb hd.can he.can 'l' {.bl _,H,I,rfl,q}
theorem yCW(hu:X.A.units+64<GT):OpR X (EX .NotEq) (zY X.K AK):=by
 intro AF s σ H x y v u Q I rx ry h;obtain⟨d,e,hd,he,hm,q⟩:=h;obtain⟨as,ra⟩:=hd.reads I rx;obtain⟨bs,rb⟩:=he.reads I ry;exact SeqAt.compareNe_reads ra rb hd.can he.can 'l' {.bl _,H,I,rfl,q}
open Classical in
noncomputable def YJ(h:D3)(e:G1)(y:AI):Bool:=if z:∃(d:G1) (as:List AR),bV h y d as then C2 z.choose e else AD
theorem sN{e d:G1}{y:AI}{as:List AR}(r:bV h y d as):YJ h e y=C2 d e:=by
 have z:∃(d:G1) (as:List AR),bV h y d as:={d,as,r};unfold YJ;rw[dif_pos z];obtain⟨as',r'⟩:=z.choose_spec;rw[(bV.unique r _ _ r').1]
theorem zR:∀{us:List AI} {ds:List G1} {as:List AR},Y6 h us ds as->∀u∈us,∃d∈ds,∃bs,bV h u d bs:=by
 intro us
 induction us with
 |nil=>intro _ _ _ u hu;cases hu
 |cons v us ih =>
  intro ds as h u hu
  cases h with
  |cons r t =>
  rcases A2.mp hu with rfl|hu
  .exact{_,BB,_,r}
  .obtain⟨d,hd,bs,q⟩:=ih t u hu
   exact{d,A1 _ hd,bs,q}
theorem zQ{e:G1}:∀{us:List AI} {ds:List G1} {as:List AR},Y6 h us ds as->us.any (YJ h e)=ds.any λd=>C2 d e:=by
 intro us
 induction us with
 |nil=>intro ds as h;cases h;rfl
 |cons v us ih =>
  intro ds as h
  cases h with
  |cons r t=>rw[ER,ER,sN r,ih t]
theorem sZ:∀{ds:List G1},FU ds=AK->∀d∈ds,d.canLay0=AK
 |[],_,d,hd=>by cases hd
 |x::ds,h,d,hd=>by
  rw[FU,EK] at h;rcases A2.mp hd with rfl|hd
  .exact h.1
  .exact sZ h.2 d hd
def qW(K:AC)(dA:Bool):R2:=λx y H Q=>∃p xs ds e,y=.ref p/\(SqL K H p xs\/SqT K H p xs)/\DVs K H xs ds/\DV K H x e/\e.depth<=60 /\
 Q (.bl (if dA then !(ds.any λd=>C2 d e) else ds.any λd=>C2 d e)) H
theorem Oq(hu:X.A.units+64<GT):OpR X (EX .In) (qW X.K AD):=by
 intro AF s σ H x y v u Q I rx ry h;obtain⟨p,xs,ds,e,rfl,hq,YW,hx,hm,q⟩:=h;cases ry;obtain⟨bs,rb⟩:=hx.reads I rx
 have uD:X.A.in1.units+61<GT:=by
  have:X.A.in1.units<=X.A.units+1:=by first|exact AL _|simp[Around.in1]
  lia
 rcases hq with hq|hq
 .obtain⟨CI,r,pl,hz⟩:=I.list hq
  obtain⟨as,ra⟩:=YW.reads I r;refine SeqAt.in_listAt (YJ s.heap e) pl.isList (λw hw=>?_) {.bl _,H,I,rfl,?_}
  .obtain⟨d,hd,cs,rd⟩:=zR ra w (by simpa using hw)
   rw[sN rd];exact MW d e _ s w v cs bs rd rb (sZ YW.can d hd) hx.can 'l'
  .rw[show CI.toArray.any (YJ s.heap e)=CI.any (YJ s.heap e) by simp,zQ ra]
   exact q
 .obtain⟨CI,r,pl,hz⟩:=I.tuple hq
  obtain⟨as,ra⟩:=YW.reads I r;refine SeqAt.in_tupleAt (YJ s.heap e) pl (λw hw=>?_) {.bl _,H,I,rfl,?_}
  .obtain⟨d,hd,cs,rd⟩:=zR ra w (by simpa using hw)
   rw[sN rd];exact MW d e _ s w v cs bs rd rb (sZ YW.can d hd) hx.can 'l'
  .rw[show CI.toArray.any (YJ s.heap e)=CI.any (YJ s.heap e) by simp,zQ ra]
   exact q
theorem zQV(hu:X.A.units+64<GT):OpR X (EX .NotIn) (qW X.K AK):=by
 intro AF s σ H x y v u Q I rx ry h;obtain⟨p,xs,ds,e,rfl,hq,YW,hx,hm,q⟩:=h;cases ry;obtain⟨bs,rb⟩:=hx.reads I rx
 have uD:X.A.in1.units+61<GT:=by
  have:X.A.in1.units<=X.A.units+1:=by first|exact AL _|simp[Around.in1]
  lia
 rcases hq with hq|hq
 .obtain⟨CI,r,pl,hz⟩:=I.list hq
  obtain⟨as,ra⟩:=YW.reads I r;refine SeqAt.notIn_listAt (YJ s.heap e) pl.isList (λw hw=>?_) {.bl _,H,I,rfl,?_}
  .obtain⟨d,hd,cs,rd⟩:=zR ra w (by simpa using hw)
   rw[sN rd];exact MW d e _ s w v cs bs rd rb (sZ YW.can d hd) hx.can 'l'
  .rw[show CI.toArray.any (YJ s.heap e)=CI.any (YJ s.heap e) by simp,zQ ra]
   exact q
 .obtain⟨CI,r,pl,hz⟩:=I.tuple hq
  obtain⟨as,ra⟩:=YW.reads I r;refine SeqAt.notIn_tupleAt (YJ s.heap e) pl (λw hw=>?_) {.bl _,H,I,rfl,?_}
  .obtain⟨d,hd,cs,rd⟩:=zR ra w (by simpa using hw)
   rw[sN rd];exact MW d e _ s w v cs bs rd rb (sZ YW.can d hd) hx.can 'l'
  .rw[show CI.toArray.any (YJ s.heap e)=CI.any (YJ s.heap e) by simp,zQ ra]
   exact q
theorem DVs.ints{K:AC}{H:Hp}:∀ns:List Int,DVs K H (ns.map V.int) (ns.map PB)
 |[]=>.nil
 |n::ns=>.cons (.int n) (DVs.ints ns)
theorem Uc:∀ns ms:List Int,U5 (ns.map PB) (ms.map PB)=decide (ns=ms)
 |[],[]=>rfl
 |[],_::_=>rfl
 |_::_,[]=>rfl
 |n::ns,m::ms=>by
  rw[AU,AU,U5,Uc ns ms,C2]
  by_cases h:n=m
  .subst h;simp
  .simp[h]
theorem zT2(ns ms:List Int):C2 (.tuple (ns.map .int)) (.tuple (ms.map .int))=decide (ns=ms):=by rw[C2];exact Uc ns ms
theorem any_pairs(x y:Int):∀ps:List (Int×Int),((ps.map λp=>WX [.int p.1,.int p.2]).any λd=>C2 d (.tuple [.int x,.int y]))=decide ((x,y)∈ps)
 |[]=>rfl
 |p::ps=>by
  rw[AU,ER,any_pairs x y ps,show C2 (.tuple [.int p.1,.int p.2]) (.tuple [.int x,.int y])=decide ([p.1,p.2]=[x,y]) from zT2 [_,_] [_,_]];obtain⟨a,b⟩:=p
  by_cases h:a=x/\b=y
  .obtain⟨rfl,rfl⟩:=h;simp
  .have h':¬((x,y)=(a,b)):=λz=>h (by cases z;exact{rfl,rfl})
   simp only[A2,h',false_or];have:¬([a,b]=[x,y]):=λz=>h (by cases z;exact{rfl,rfl});simp[this]
theorem Ew(x:Int):∀ns:List Int,((ns.map PB).any λd=>C2 d (.int x))=decide (x∈ns)
 |[]=>rfl
 |n::ns=>by
  rw[AU,ER,Ew x ns,C2]
  by_cases h:n=x
  .subst h;simp
  .have h':¬x=n:=λz=>h z.symm
   simp[h,h']
def Gr(H H':Hp):Prop:=∀b u,H b=AA u->H' b=AA u
theorem Gr.trans(g:Gr H H1)(g':Gr H1 H2):Gr H H2:=λb u e=>g' b u (g b u e)
theorem Gr.new{p:AR}(hp:H p=AN):Gr H (D5 H p o):=λb u e=>by rw[EW (VL e hp)];exact e
theorem SqT.gr{K:AC}(h:SqT K H a xs)(g:Gr H H'):SqT K H' a xs:=by
 rcases h with h|h
 .rcases h with h|⟨o,h⟩
  .exact .inl (.inl (g _ _ h))
  .exact .inl (.inr {o,g _ _ h})
 .exact .inr h
theorem zEI{t sl:AR}{lo:Option Int}(ht:UM s.heap t items)(hs:s.heap.IsSliceOf sl vl vu .none)(pl:QT vl lo)(pu:QT vu hi)
  (hw:HT.sIx items.size 0 lo=0/\HT.sIx items.size items.size hi=items.size) (h:Q (.ref t) s):A0 (A6 prog w) A (Q1 (.ref t) (.ref sl)) Q E s:=by
 obtain⟨os,oI,dY,YW⟩:=id hs;have Ma:s.TypeIs (.ref sl) "slice":={os,oI,dY};unfold Q1
 try with_reducible refine DQ ?_
 first|refine AB (wpAny_pure ?_)|skip
 refine AB (wpAny_sequenceKey ht.typeIs 'd' ?_)
 refine AB (C9 (name:=EU "__getitem__") ht.typeIs EC
  (C8 EC ht.typeIs lY ?_ (args_tuple_getitem _ _)))
 show A0 _ _ (P1 (.ref t) >>= _) _ _ s;refine AB (tupleItemsOf_ ht ?_);refine AB (eK Ma ?_);rw[if_pos 'd'];refine AB (HT.sliceApplied_gen hs pl pu ?_);rw[hw.1,hw.2];have e:(((0:Nat):Int)==0&&(1:Int)==1&&(items.size-0)==items.size)=AK:=by simp
 show A0 _ _ (if(((0:Nat):Int)==0&&(1:Int)==1&&(items.size-0)==items.size)=AK then _ else _) _ _ s;rw[if_pos e];show A0 _ _ (P2 (.ref t) >>= _) _ _ s;unfold P2;refine AB (AB (eK ht.typeIs (wpAny_pure ?_)));show A0 _ _ (if(UH "tuple"==UH "tuple")=AK then _ else _) _ _ s;rw[if_pos 'd'];exact AB (E4 (wpAny_pure {_,rfl,wpAny_pure h}))
theorem zYX{t b:AR}{vs:List AI}(ht:UM s.heap t vs.toArray)(hb:UM s.heap b ws.toArray)
  (h0:vs=[]->Q (.ref b) s) (h1:vs≠[]->ws=[]->Q (.ref t) s) (h2:vs≠[]->ws≠[]->Q (.ref s.heap.objs.size) { s with heap:=s.heap.push { cls:=.type "tuple",data:=.seq (vs++ws).toArray } })
  (hsz:vs.length+ws.length<=sizeLine):A0 (A6 prog w) A (G6 .Add (.ref t) (.ref b)) Q E s:=by
 by_cases hv:vs=[]
 .obtain⟨⟨cls,dd,data,sl⟩,ho,hc,n,hd⟩:=id ht
  obtain⟨⟨xJ,lU,data2,k6⟩,ZM,eA,n2,gK⟩:=id hb;simp only at hc hd eA gK;subst hc hd eA gK
  exact UF {_,ho,rfl} {_,ZM,rfl} WF aH MY MC (LX _ _)
   (tuple_addW0 t b vs.toArray ws.toArray n n2 dd lU sl k6 (by simp[hv])) {ho,ZM,h0 hv}
 .exact HT.cat_tup ht hb hv (h1 hv) (h2 hv) hsz
theorem zQW{lo:Option Int}(h:HT.sIx xs.length 0 lo=0/\HT.sIx xs.length xs.length hi=xs.length):ZD xs lo hi=xs:=by
 unfold ZD;rw[h.1,h.2,U6,Nat.sub_zero,EJ]
section
variable(K:AC)
end
theorem zT3{c:AI}{b:Bool}(I:Inv X AF σ H s)(ha:SqT X.K H a xs)
  (e:BQ X.K (.type "tuple") c=AA b) (h:∀tk,Q (.bool b) { s with toks:=tk }):A0 (A6 X.prog X.w) A (call (.builtin "isinstance") [.ref a,c]) Q E s:=by
 obtain⟨CI,r,p,_⟩:=I.tuple ha;obtain⟨o,h1,h2,_⟩:=p;exact DE Y8 I.kIn {o,h1,h2} e (λz=>nomatch z) h
theorem zYY{bs:List Bool}:∀{us:List AI},Vals (bs.map V.bl) us->us=bs.map JA:=by
 induction bs with
 |nil=>intro us r;rw[NK] at r;cases r;rfl
 |cons b bs ih =>
  intro us r;rw[AU] at r
  cases r with
  |cons r1 r2=>cases r1;rw[ih r2];rfl
theorem zQX(bs:List Bool):(DB bs.length).all (λi=>bs.getD i AD)=bs.all id:=by
 rw[Bool.eq_iff_iff,gZ,gZ];constructor
 .intro h b hb
  obtain⟨i,hi,e⟩:=OO.mp hb;have:=h i (IL.mpr hi);rw[IM,A7 hi] at this;rw[<-e];exact this
 .intro h i hi
  have hi:=IL.mp hi;rw[IM,A7 hi];exact h _ (GF hi)
theorem zT4(bs:List Bool):TruthOf prog w A (λi v=>(bs.map JA).toArray[i]?=AA v) (λi=>bs.getD i AD):=by
 intro i v s Q E hP hQ;have hP:(bs.map JA)[i]?=AA v:=by simpa using hP
 rw[AV] at hP
 cases e:bs[i]? with
 |none=>rw[e] at hP;cases hP
 |some b =>
  rw[e] at hP;cases hP;refine IP ?_;have e3:bs.getD i AD=b:=by rw[IM,e];rfl
  have hQ:Q (bs.getD i AD) s:=hQ;rw[e3] at hQ;exact hQ
def Vg(K:AC):List V->Hp->VK->Prop:=λxs H Q=>∃(p:AR) (bs:List Bool),xs=[.ref p]/\SqL K H p (bs.map V.bl)/\Q (.bl (bs.all id)) H
theorem zT5(hc:X.calm=AK):CallR X (.builtin "all") (Vg X.K):=by
 intro AF s σ H xs us Q I r h;obtain⟨p,bs,rfl,hp,q⟩:=h;obtain⟨u,rfl,ru⟩:=W5 r;cases ru;obtain⟨CI,rv,pl,hz⟩:=I.list hp;have e:=zYY rv;subst e;have IU:p<s.heap.objs.size:=by obtain⟨o,ho,_⟩:=pl.isList;exact A9 ho
 refine call_all_walk (IQ pl.isList ?_);refine{_,_,_,_,_,_,λi=>bs.getD i AD,rfl,Walks.list (by have:=I.ok.hd hc;simp[this]) _ p (BZ IU) (bs.map JA).toArray,{{_,AW _ rfl,rfl,rfl},pl.isList.push _},zT4 bs,λh' tk hk=>?_};have e2:(DB (bs.map JA).toArray.size).all (λi=>bs.getD i AD)=bs.all id:=by simpa using zQX bs
 refine{.bl (bs.all id),H,I.kept (t':=tk) λb o e=>hk b o ?_ (AG _ e),by rw[e2];rfl,q};simp only[A8];exact BZ (A9 e)
def a9(ns:List Int):List Int:=firstMet (λi=>ns.getD i 0) ns.length
theorem zQY:CallR X (.builtin "len") (λxs H Q=>∃a S n,xs=[V.ref a]/\H a=AA (.set S n)/\n<5000/\Q (.int n) H):=by
 intro AF s σ H xs us Q I r h;obtain⟨a,S,n,rfl,ha,hn,q⟩:=h;obtain⟨u,rfl,ru⟩:=W5 r;cases ru;have hS:s.heap.SetOf (intKind X.prog X.w) a S n:=I.hok a _ ha;obtain⟨o,ho,hso⟩:=hS.objOf;obtain⟨hex,es,ep,t,hd,_,_,wG,hf⟩:=hso;subst wG;exact call_len_set ho hex hd hf 'l' {.int es.size,H,I.tok _,{_,rfl},q}
theorem zT6(ns:List Int):∀acc:List Int,(ns.foldl MS acc).length<=acc.length+ns.length:=by
 induction ns with
 |nil=>intro acc;exact AL _
 |cons n ns ih =>
  intro acc;have:=ih (MS acc n);rw[KY,BC];rw[step_length] at this;split at this<;>lia
theorem zT7(ns:List Int):∀acc:List Int,(ns.foldl MS acc).length=acc.length+ns.length↔ns.Nodup/\∀x∈ns,x∉acc:=by
 induction ns with
 |nil=>intro acc;simp
 |cons n ns ih =>
  intro acc;rw[KY,BC];have hs:=step_length acc n
  by_cases h:acc.any (·==n)=AK
  .rw[if_pos h] at hs
   have T9:=zT6 ns (MS acc n);have hm:n∈acc:=by simpa using h
   constructor
   .intro e;lia
   .intro e;exact absurd hm (e.2 n BB)
  .rw[if_neg h] at hs
   have hm:n∉acc:=by simpa using h
   have oM:∀x,x∈MS acc n↔x∈acc\/x=n:=λx=>by
    unfold MS;rw[if_neg h];simp
   have JT:=ih (MS acc n);rw[hs] at JT;rw[show acc.length+(ns.length+1)=acc.length+1+ns.length by lia,JT,FZ];constructor
   .rintro⟨h1,h2⟩
    refine{{λz=>h2 n z ((oM n).mpr (.inr rfl)),h1},λx hx=>?_};rcases A2.mp hx with rfl|hx
    .exact hm
    .exact λz=>h2 x hx ((oM x).mpr (.inl z))
   .rintro⟨⟨h0,h1⟩,h2⟩
    refine{h1,λx hx z=>?_};rcases(oM x).mp z with z|z
    .exact h2 x (A1 _ hx) z
    .exact h0 (z▸hx)
theorem zO9(ns:List Int):(DB ns.length).map (λi=>ns.getD i 0)=ns:=by
 apply eX
 intro i
 by_cases h:i<ns.length
 .simp[h]
 .simp[h]
theorem zT8(ns:List Int):(a9 ns).length<=ns.length:=firstMet_length_le _ _
theorem zT9(ns:List Int):(a9 ns).length=ns.length↔ns.Nodup:=by
 unfold a9 firstMet;rw[zO9];have:=zT7 ns [];simpa using this
abbrev fC(h:D3)(n:AR)(f0:AI)(f1:Bool)(i:Int)(II:AI):Prop :=
 h.get? (n+1)=AA { cls:=.type "enumerate",dict:=AN,data:=.fields #[f0,.bool f1,.ref n,DC i,.none,II],slots:=#[] }
theorem zQZ{n:AR}{f0 II:AI}{f1:Bool}{i:Int}{Q:Bool->AT->Prop}(hz:fC s.heap n f0 f1 i II)(hf:F0 f0)
  (h:∀b h' f1,fC h' n f0 f1 i II->DM (n+1) s.heap h'->Q b { s with heap:=h' }):A0 (A6 prog w) A (C0 (.ref (n+1))) Q E s:=by
 unfold C0;rcases hf with rfl|⟨T,rfl⟩
 .exact AB (CS hz rfl (x:=.none) rfl (wpAny_pure (h AK s.heap f1 hz (kP _ _))))
 .refine AB (CS hz rfl (x:=DC T) rfl ?_)
  show A0 _ _ (jM (T:Int).toNat >>= _) _ _ _;refine AB (Sx ?_)
  cases e:(s.heap.get? (T:Int).toNat).isNone with
  |true=>exact wpAny_pure (h AK s.heap f1 hz (kP _ _))
  |false =>
   simp only[DT,if_false];refine AB (CS hz rfl (x:=.bool f1) rfl ?_)
   cases f1 with
   |true=>exact wpAny_pure (h AD s.heap AK hz (kP _ _))
   |false =>
    show A0 _ _ (OG (.ref (n+1)) 1 (.bool AK) >>= _) _ _ _;exact AB (CV hz 's' λh' fZ SU=>wpAny_pure (h AD h' AK fZ SU))
theorem lt2{c S:Nat}(h:c∈[n,n+1])(IU:n+1<S):c<S:=by
 simp only[A2,BX,or_false] at h;lia
theorem Xf{c:Nat}(h:c∈[n,n+1]):n<=c:=by
 simp only[A2,BX,or_false] at h;lia
def PairsAt(K:AC)(H:Hp)(zs:List V)(ps:List (Int×Int)):Prop:=Paired (λ(z:V) (p:Int×Int)=>∃q,z=.ref q/\SqT K H q [.int p.1,.int p.2]) zs ps
theorem PairsAt.gr{K:AC}{H H':Hp}{zs:List V}{ps:List (Int×Int)}(h:PairsAt K H zs ps)(g:Gr H H'):PairsAt K H' zs ps:=pA0 h (λ_ _ q0=>by obtain⟨q,e,k⟩:=q0;exact{q,e,k.gr g})
theorem yFU:isSubtype (.type "range_iterator") (.type "reversed")=pure AD:=by rw[isSubtype_type];kernel_rfl
theorem zHQ{p:AR}{t u v:eP}(hn:n<=1000)(hp:s.heap.get? p=AA { cls:=.type "range",data:=.fields #[.int 0 t,.int (n:Int) u,.int 1 v] })
  (h:Q (.ref s.heap.objs.size) { s with heap:=s.heap.push { cls:=.type "range_iterator",data:=.fields #[DC ((n:Int)-1),DC (n:Int),DC (-1)] } }):A0 (A6 prog w) A (call (.builtin "range.__reversed__") [.ref p]) Q E s:=by
 have hT:s.TypeIs (.ref p) "range":={_,hp,rfl};have hz:Q9 0 (n:Int) 1=(n:Int):=by rw[aI];first|lia|(split<;>lia)
 refine C8 KQ hT PySem.F.entry_range_reversed ?_ (PySem.F.args_range_reversed_1 _);unfold ES.«range.__reversed__»;refine AB (IX (a:=DK p) rfl ?_)
 have hf:A0 (A6 prog w) A.in1 (QA (.ref p)) (λr s'=>r=(0,(n:Int),1)/\s'=s) E s:=by
  unfold QA;refine AB (CS hp rfl (x:=.int 0 t) rfl ?_);refine AB (wpAny_pure (a:=AA (0:Int)) ?_);refine AB (CS hp rfl (x:=.int (n:Int) u) rfl ?_);refine AB (wpAny_pure (a:=AA (n:Int)) ?_);refine AB (CS hp rfl (x:=.int 1 v) rfl ?_);refine AB (wpAny_pure (a:=AA (1:Int)) ?_);exact wpAny_pure {rfl,rfl}
 refine AB (DA hf (λr s' ⟨e1,e2⟩=>?_) λ_ _ e=>e);subst e1 e2;dsimp only;rw[hz]
 have hs:(DO 0&&DO (n:Int)&&DO 1&&DO (-1)&&DO (0-1)&&DO (n:Int))=AK:=by
  have h1:DO (n:Int)=AK:=by
   unfold DO;simp only[EK,decide_eq_true_eq];lia
  rw[h1]
  decide
 rw[hs];simp only[Bool.not_true,DT,if_false,if_true];have e:(0:Int)+((n:Int)-1) * 1=(n:Int)-1:=by lia
 rw[e];exact AB (DU (wpAny_pure {_,rfl,h}))
theorem zHR{p:AR}{t u v:eP}{Q₁:AI->AT->Prop}(hn:n<=1000)(hp:s.heap.get? p=AA { cls:=.type "range",data:=.fields #[.int 0 t,.int (n:Int) u,.int 1 v] })
  (h:Q₁ (.ref s.heap.objs.size) { s with heap:=s.heap.push { cls:=.type "range_iterator",data:=.fields #[DC ((n:Int)-1),DC (n:Int),DC (-1)] } }) :
  G5 (A6 prog w) A (.call (.builtin "reversed.__new__") {[.type "reversed",.ref p],[]}) (wants Q₁ E) s:=by
 have hT:s.TypeIs (.ref p) "range":={_,hp,rfl};refine codeAny_of_tree ?_;show A0 _ A.in1 (do checkBuiltinCall "reversed.__new__" {[.type "reversed",.ref p],[]};WT (.builtin "reversed.__new__" {[.type "reversed",.ref p],[]})) _ _ s;refine AB (IX (PySem.F.newCall_reversed_1 _) (wpAny_pure {plainId_quiet TF _,codeAny_builtin PySem.F.entry_reversed_new ?_}));rw[Around.under_plainId TF _];unfold ES.«reversed.__new__»;refine AB (IX (newClass_reversed _) ?_)
 try dsimp only
 refine AB (IX (a:=()) (by first|rfl|kernel_rfl) ?_);refine AB (IX (a:=()) (by first|rfl|kernel_rfl) ?_)
 try dsimp only
 refine AB (wpAny_specialOf hT KQ.lookup ?_)
 try dsimp only
 refine AB (IX (KQ.bind _) ?_)
 try dsimp only
 show A0 _ _ (if(J8 "range.__reversed__"==FK)=AK then _ else _) _ _ _;rw[if_neg (show ¬((J8 "range.__reversed__"==FK)=AK) from CH)];refine AB (E4 ?_);refine AB (m:=runValue (.call (.builtin "range.__reversed__") {[.ref p],[]})) (show A0 _ _ (call (.builtin "range.__reversed__") [.ref p]) _ _ _ from zHQ hn hp ?_)
 first
 |exact wpAny_pure h
 |exact AB (wpAny_pure (wpAny_pure h))
theorem zHS{p:AR}{t u v:eP}(hn:n<=1000)(hp:s.heap.get? p=AA { cls:=.type "range",data:=.fields #[.int 0 t,.int (n:Int) u,.int 1 v] })
  (h:Q (.ref s.heap.objs.size) { s with heap:=s.heap.push { cls:=.type "range_iterator",data:=.fields #[DC ((n:Int)-1),DC (n:Int),DC (-1)] } }):A0 (A6 prog w) A (call (.type "reversed") [.ref p]) Q E s:=by
 refine callType_other (U:="range_iterator") (Q₁:=λobj EY=>obj=.ref s.heap.objs.size/\EY={ s with heap:=s.heap.push { cls:=.type "range_iterator",data:=.fields #[DC ((n:Int)-1),DC (n:Int),DC (-1)] } }) (by decide +kernel) PySem.F.create_reversed {_,_,PySem.F.mro_reversed} PySem.F.made_reversed yFU (PySem.F.typeCall_reversed_1 _) (zHR hn hp {rfl,rfl}) ?_;rintro obj EY ⟨rfl,rfl⟩;exact{{_,AW _ rfl,rfl},h}
noncomputable def Ia(n:Nat):It:={λi _=>i<n,λi H x H'=>H'=H/\x=.int ((n:Int)-1-i),λi _=>n<=i}
theorem zQ0{K:AC}(it:AR)(n:Nat):Turn P w K tg (Ia n) [it] it (λi h=>WZ h it (((n:Int)-1)+(i:Nat) * (-1)) ((n:Int)-(i:Nat)) (-1)) where
 mem:=by simp
 obj:=λi h st b hb=>by
  have e:b=it:=by simpa using hb
  subst e
  exact{_,st,λv z=>by
   have z':OR _=O5 v:=z
   cases z'}
 keep:=λi h h' st k=>k it 's' _ st
 item:=by
  intro X hP hw hK hc i AF s σ H E I hf st hg;subst hP hw hK;obtain⟨f0,f1,f2,f3,f4,f5⟩:=hf it 's';have W:=Walks.range (prog:=X.prog) (w:=X.w) (I.ok.hd hc) it ((n:Int)-1) (-1) n;refine W.item i s _ _ hg st λv h' tk hv CP kk=>?_;obtain⟨t,rfl⟩:=hv;have I1:Inv X AF σ H { s with heap:=h',toks:=tk }:=I.turned (λb o hb e=>kk b o (by simpa using hb) e) f0 f1 f3 f4 f5;refine{_,rfl,pJ (s:={ s with heap:=h',toks:=tk }) (n:="range_iterator") CP rfl rfl 'd' {.int ((n:Int)-1-i),H,I1,{t,?_},{rfl,rfl},CP,λb hb=>(hf b hb).1}}
  congr 1
  lia
 done:=by
  intro X hP hw hK hc i AF s σ H E I hf st hg;subst hP hw hK;obtain⟨f0,f1,f2,f3,f4,f5⟩:=hf it 's';exact eM (I.ok.hd hc) st (by have:n<=i:=hg;lia) λh' eb=>{rfl,I.turned (t':=s.toks) (λb o hb e=>eb b o hb e) f0 f1 f3 f4 f5}
 self:=λ_ _ _ _ _ st h=>O0 st h
def yIG(ta:TA):TI:=λσ H R=>ta σ H λvs H1=>∃(p:AR) (n:Nat),vs=[.ref p]/\H1 p=AA (.rng 0 (n:Int))/\n<=1000/\R (Ia n) H1
theorem yCX{a:CU}{ta:TA}(hg:Gl X "reversed")(hm:X.mg "reversed"=AN)(ha:PA X [a] ta)(hs:AM [a] X.env=[(AD,eval a X.env)]:=by rfl):PI X tg (.Call (.Name "reversed" p) [a] [] pos) (yIG ta):=by
 intro AF s σ H R I h;refine Call_ (iH I hg hm (u:=.type "reversed") (by decide +kernel) (EO (GY (ha pos AF s σ H _ I h) λus s1 ⟨vs,H1,I1,r1,q1⟩=>?_) hs rfl));obtain⟨c,n,e,hq,hn,q⟩:=q1;subst e
 cases r1 with
 |cons r rr =>
  cases rr;cases r;obtain⟨t,u,v,e⟩:=(show ObjOk X.prog X.w H1 s1.heap c (.rng 0 (n:Int)) from I1.hok c _ hq);refine zHS hn e ?_
  have st:WZ (s1.heap.push { cls:=.type "range_iterator",data:=.fields #[DC ((n:Int)-1),DC (n:Int),DC (-1)] }) s1.heap.objs.size (((n:Int)-1)+((0:Nat):Int) * (-1)) ((n:Int)-((0:Nat):Int)) (-1):=by
   have e1:((n:Int)-1)+((0:Nat):Int) * (-1)=(n:Int)-1:=by lia
   have e2:(n:Int)-((0:Nat):Int)=(n:Int):=by lia
   rw[e1,e2];exact AW _ rfl
  refine O0 (s:={ s1 with heap:=s1.heap.push { cls:=.type "range_iterator",data:=.fields #[DC ((n:Int)-1),DC (n:Int),DC (-1)] } }) st ?_;refine{s1.heap.objs.size,[s1.heap.objs.size],_,_,H1,rfl,I1.kept (t':=s1.toks) λb o e=>AG _ e,zQ0 _ n,st,λb hb=>?_,q};have e:b=s1.heap.objs.size:=by simpa using hb
  subst e;exact I1.fpOk (AL _) (I1.hok.fresh (AL _))
theorem zQ1(hc:X.calm=AK):CallR X (.builtin "min") (λxs H Q=>∃(l:AR) (ns:List Int),xs=[.ref l]/\SqL X.K H l (ns.map V.int)/\ns≠[]/\∀m,m∈ns->(∀x∈ns,m<=x)->Q (.int m) H):=by
 intro AF s σ H xs us Q I r h;obtain⟨l,ns,rfl,hl,ZN,q⟩:=h;obtain⟨u,rfl,ru⟩:=W5 r;cases ru;obtain⟨CI,rv,pl,hz⟩:=I.list hl;have hi:FX CI ns:=iN rv;have ET:=rv.length;rw[AJ] at ET;have XN:0<ns.length:=by cases ns with|nil=>exact absurd rfl ZN|cons _ _=>simp
 have IU:l<s.heap.objs.size:=by obtain⟨o,ho,_⟩:=pl.isList;exact A9 ho
 refine call_min_walk (IQ pl.isList ?_);refine{_,_,_,_,_,_,_,rfl,Walks.list (A:=X.A.in1) (by have:=I.ok.hd hc;simp[this]) _ l (BZ IU) CI.toArray,{{_,AW _ rfl,rfl,rfl},pl.isList.push _},?_,by simp;lia,CmpOf.ints_lt (λi=>ns.getD i 0) (λi v hv=>TH hi i v (by simpa using hv)),λv h' tk hP hk=>?_}
 .intro b hb
  show b<(s.heap.push _).objs.size;rw[FF];rcases A2.mp hb with rfl|hb
  .exact DG _
  .rw[A8.mp hb]
   exact IA IU
 .obtain⟨b1,b2⟩:=argBest_lt (λi=>ns.getD i 0) (CI.toArray.size-1)
  obtain⟨t,rfl⟩:=TH hi _ v (List.getElem?_toArray.symm.trans hP);have hsz:CI.toArray.size=ns.length:=by simpa using ET.symm
  have Zq:argBest (λi j=>decide (ns.getD i 0<ns.getD j 0)) (CI.toArray.size-1)<ns.length:=by lia
  have gd:∀j,(hj:j<ns.length)->ns.getD j 0=ns[j]:=λj hj=>by rw[IM,A7 hj];rfl
  refine{.int _,H,I.kept (t':=tk) λb o e=>hk b o ?_ (AG _ e),{t,rfl},q _ ?_ λx hx=>?_}
  .simp only[A8]
   exact BZ (A9 e)
  .rw[gd _ Zq]
   exact GF Zq
  .obtain⟨j,hj,rfl⟩:=OO.mp hx
   have:=b2 j 'l';rw[gd j hj] at this;exact this
section
variable{a b x:AI}{T I S:AR}
end
theorem zQ2{l1 l2:List V}(pp:l1.Perm l2):∀ns:List Int,l2=ns.map V.int->∃ms:List Int,l1=ms.map V.int/\ms.Perm ns:=by
 induction pp with
 |nil=>intro ns e;cases ns with|nil=>exact{[],rfl,GB _}|cons _ _=>cases e
 |cons a _ ih =>
  intro ns e
  cases ns with
  |nil=>cases e
  |cons b ns =>
   rw[AU] at e;injection e with e1 e2;obtain⟨ms,h1,h2⟩:=ih ns e2;exact{b::ms,by rw[AU,e1,h1],h2.cons b}
 |swap a b l =>
  intro ns e
  match ns,e with
  |c::d::ns,e =>
   rw[AU,AU] at e;injection e with e1 e2;injection e2 with e2 e3;exact{d::c::ns,by rw[AU,AU,e1,e2,e3],HQ _ _ _}
 |trans _ _ bJ ih2 =>
  intro ns e;obtain⟨ms,h1,h2⟩:=ih2 ns e;obtain⟨ks,h3,h4⟩:=bJ ms h1;exact{ks,h3,h4.trans h2}
theorem mY{kvs:List (Key×V)}(x:ObjOk P w H h a (.dK kvs)):∃es ep,RawD h a es ep/\es.size=kvs.length/\kvs.length<=sizeLine /\
  ∀(i:Nat) (hi:i<es.size),∃k:Key,(kvs.map (·.1))[i]?=AA k/\RelV (kV k) es[i].key:=by
 obtain⟨z,y,vs,r,o,es,ep,h1,h2,h3,h4,h5,h6⟩:=x;have hl:es.size=vs.length:=by rw[<-h5.length];simp
 have bN:kvs.length=vs.length:=r.length;refine{es,ep,{{o,h1,h2,h3},y},by lia,z,λi hi=>?_};have SW:i<vs.length:=AQ hi (CY hl);obtain⟨e1,_⟩:=h5.get? (i:=i) (e:=es[i]) (k:=vs[i].1) (v:=vs[i].2) (by simp[hi]) (by simp[SW]);refine{vs[i].1,by rw[r.keys];simp[SW],?_};rw[Tz] at e1;rcases cP e1 with⟨j,t,z1,z2⟩|⟨y,t,z1,z2⟩
 .rw[z1,z2];exact{t,rfl}
 .rw[z1,z2];exact{t,rfl}
def At(d:AR)(o:HL)(kvs:List (Key×V)):It :=
 {λi H=>i<kvs.length/\H d=AA (.frz o (.dK kvs)),λi H x H'=>H'=H/\∃k,x=kV k/\(kvs.map (·.1))[i]?=AA k,λi H=>kvs.length<=i/\H d=AA (.frz o (.dK kvs))}
theorem zN{K:AC}(d it:AR)(o:HL)(kvs:List (Key×V))(es:Array J0)(ep:Nat)(hd:o.data=.dict es ep)(hz:es.size=kvs.length) :
  Turn P w K tg (At d o kvs) [it] it (λi h=>h.IsKeyIter it d i es.size ep) where
 mem:=by simp
 obj:=λi h st b hb=>by
  have e:b=it:=by simpa using hb
  subst e;obtain⟨o,e,c,d⟩:=st;exact{o,e,λv z=>by rw[d] at z;cases z}
 keep:=λi h h' st k=>let ⟨o,e,r⟩:=st;{o,k it 's' o e,r}
 item:=by
  intro X hP hw hK hc i AF s σ H E I hf st hg;subst hP hw hK;obtain⟨hi,hk⟩:=hg;obtain⟨ho,hx⟩:=I.hok d _ hk;obtain⟨lQ,lR,KO,e1,e2,e3⟩:=mY hx;obtain⟨o',q1,q2,q3⟩:=KO.ex;rw[ho] at q1;cases q1;rw[hd] at q3;injection q3 with q4 q5;subst q4;subst q5;obtain⟨f0,f1,f2,f3,f4,f5⟩:=hf it 's';refine Rp st KO 'l' λh' CP sb=>?_;obtain⟨k,p2,p3⟩:=e3 i 'l';have I1:Inv X AF σ H { s with heap:=h' }:=I.turned (t':=s.toks) (λb ob hb e=>(sb.2 b hb).trans e) f0 f1 f3 f4 f5;obtain⟨oi,e,c,dd⟩:=id CP;refine{_,rfl,pJ (s:={ s with heap:=h' }) e c dd 'd' {kV k,H,I1,p3,{rfl,k,rfl,p2},CP,λb hb=>(hf b hb).1}}
 done:=by
  intro X hP hw hK hc i AF s σ H E I hf st hg;subst hP hw hK;obtain⟨hi,hk⟩:=hg;obtain⟨ho,hx⟩:=I.hok d _ hk;obtain⟨lQ,lR,KO,e1,e2,e3⟩:=mY hx;obtain⟨o',q1,q2,q3⟩:=KO.ex;rw[ho] at q1;cases q1;rw[hd] at q3;injection q3 with q4 q5;subst q4;subst q5;obtain⟨f0,f1,f2,f3,f4,f5⟩:=hf it 's';exact Px (I.ok.hd hc) st KO (AX (CY hz) hi) λh' eb=>{rfl,I.turned (t':=s.toks) (λb ob hb e=>eb b ob hb e) f0 f1 f3 f4 f5}
 self:=λ_ _ _ _ _ st h=>jJ st h
theorem Inv.freezeK{kvs:List (Key×V)}(I:Inv X AF σ H s)(ha:H a=AA (.dK kvs)) :
  ∃o,s.heap.get? a=AA o/\Inv X AF σ (D5 H a (.frz o (.dK kvs))) s:=by
 have x:=I.hok a _ ha;obtain⟨es,ep,⟨⟨o,h1,h2,h3⟩,_⟩,_⟩:=mY x;have kt:∀b ys,H b=AA (.tup ys)->b≠a:=λb ys e z=>by rw[z,ha] at e;cases e
 have ko:∀b y,H b=AA (.own y)->b≠a:=λb y e z=>by rw[z,ha] at e;cases e
 have kf:∀b ob u,H b=AA (.frz ob u)->b≠a:=λb ob u e z=>by rw[z,ha] at e;cases e
 have kb:∀b t ps,H b=AA (.tbl t ps)->b≠a:=λb t ps e z=>by rw[z,ha] at e;cases e
 have kn:∀b,H b=AN->b≠a:=λb e z=>by rw[z,ha] at e;cases e
 refine{o,h1,I.un (t':=s.toks) (h':=s.heap) {λb ob e _ _ _=>e,λb ob e _ _ _=>{ob.slots,e},λb ob e n _=>by rw[EW (kn b n)];exact n,λb ob e _=>{ob,e},λb ys e=>by rw[EW (kt b ys e)];exact e,λb ob u e=>by rw[EW (kf b ob u e)];exact e,λb t ps e=>{#[],by rw[EW (kb b t ps e),e];simp}} λb u e=>?_}
 by_cases hb:b=a
 .subst hb
  rw[HC] at e;cases e;exact{h1,x.stay (λc v _ q=>q) (λc q=>by rw[EW (ko c _ q)];exact q) (λc ys q=>by rw[EW (kt c ys q)];exact q) λc ob x q=>by rw[EW (kf c ob _ q)];exact q}
 .rw[EW hb] at e
  exact(I.hok b u e).stay (λc v _ q=>q) (λc q=>by rw[EW (ko c _ q)];exact q) (λc ys q=>by rw[EW (kt c ys q)];exact q) λc ob x q=>by rw[EW (kf c ob _ q)];exact q
def Op(tl:TE):TI:=λσ H R=>tl σ H λx H1=>∃a kvs,x=.ref a/\H1 a=AA (.dK kvs)/\∀o,R (At a o kvs) (D5 H1 a (.frz o (.dK kvs)))
theorem zUA{l:CU}(hl:PE X l tl):PI X tg l (Op tl):=by
 intro AF s σ H R I h;refine GY (hl AF s σ H _ I h) λv s1 q0=>?_;obtain⟨x,H1,I1,r1,a,kvs,e,ha,q⟩:=q0;subst e;cases r1;obtain⟨o,ho,I2⟩:=I1.freezeK ha;obtain⟨es,ep,KO,e1,e2,e3⟩:=mY (I1.hok a _ ha);obtain⟨o',q1,q2,q3⟩:=id KO.ex;rw[ho] at q1;cases q1;refine p8 KO λh' k ki=>?_;refine{s1.heap.objs.size,[s1.heap.objs.size],_,_,_,rfl,I2.kept (t':=s1.toks) k,zN a _ o kvs es ep q3 e1,ki,λb hb=>?_,q o};have e:b=s1.heap.objs.size:=by simpa using hb
 subst e;exact I2.fpOk (AL _) (I2.hok.fresh (AL _))
end L2
namespace TS
open PySem PyProof.Rows
section
variable{prog:CO}{w:D2}{A:DP}{E:AI->AT->Prop}{s:AT}{BU:Array BD}{kd:FH}{L:BD->BD->Bool}
def W3(prog:CO)(w:D2)(A:DP)(s:AT)(kd:FH)(BU:Array BD)(L:BD->BD->Bool):Prop :=
 ∀x y:BD,x∈BU->y∈BU->∀(Q:Bool->AT->Prop) (E:AI->AT->Prop),Q (L x y) s->A0 (A6 prog w) A (keyLt' kd x.1 y.1) Q E s
theorem yV{st:BP}{x y:BD}{Q:Option Bool->BP->Prop}(hA:W3 prog w A s kd BU L)(hk:kindOf st=kd)(hx:x∈BU)(hy:y∈BU)(h:Q (AA (L x y)) st) :
  NY (A6 prog w) A E s (lt' x y) Q st:=by
 rw[lt'_eq];refine BI (NG ?_);rw[hk];refine BI (QM (GL (hA x y hx hy _ _ {rfl,?_})));exact BE h
def Xo(B:Nat->Bool)(n k:Nat):Prop:=k<=n/\(∀i<k,B i=AK)/\∀i,k<=i->i<n->B i=AD
theorem Hi{α β γ:Type}{T:β->γ->StateT BP TC α}{M:Model}{A:DP}{E:AI->AT->Prop}{s:AT}{Q:α->BP->Prop}{st:BP}{NU:Prop}(P:β->γ->Prop)(h1:(∀x y,P x y->NY M A E s (T x y) Q st)->NU)(h2:∀x y,P x y->NY M A E s (T x y) Q st):NU:=h1 h2
theorem Tl{st:BP}{left:Bool}{JT:BD}{G4:Array BD}{base n FR:Nat}{Q:Option Nat->BP->Prop}{B:Nat->Bool}(hA:W3 prog w A s kd BU L)(hk:kindOf st=kd)(PN:JT∈BU)(QJ:∀x∈G4,x∈BU)
  (hb:base+n<=G4.size) (hh:FR<n) (hB:∀i (hi:base+i<G4.size),B i=if left then L G4[base+i] JT else !L JT G4[base+i]) (mono:∀i j,i<=j->j<n->B j=AK->B i=AK)
  (h:∀k,Xo B n k->Q (AA k) st):NY (A6 prog w) A E s (tB left JT G4 base n FR) Q st:=by
 have hm:∀(i:Nat) (hi:base+i<G4.size),G4[base+i]∈BU:=λi hi=>QJ _ (AH hi)
 have pG:∀i j,i<=j->j<n->B i=AD->B j=AD:=λi j K3 hj hi=>by
  cases e:B j with
  |false=>rfl
  |true=>rw[mono i j K3 hj e] at hi;cases hi
 have Bw:∀(i:Nat) (hi:i<n) {Q:Option Bool->BP->Prop},Q (AA (B i)) st->NY (A6 prog w) A E s (do let x <-elem' G4 (base+i);if left=AK then lt' x JT else return (<-lt' JT x).map (!·)) Q st:=λi hi {Q} q=>by
  have SW:base+i<G4.size:=AQ (BA hi _) hb;have eB:=hB i SW;refine BI (p9 SW (LP (λhl=>yV hA hk (hm _ SW) PN ?_) λhl=>BI (yV hA hk PN (hm _ SW) (BE ?_))))
  .rw[if_pos hl] at eB;rw[<-eB];exact q
  .rw[if_neg hl] at eB;show Q (AA (!_)) st;rw[<-eB];exact q
 clear hB
 refine Hi (M:=A6 prog w) (A:=A) (E:=E) (s:=s) (λlo hi:Nat=>lo<=hi/\hi<=n/\(∀i<lo,B i=AK)/\∀i,hi<=i->i<n->B i=AD) (λK=>by
  refine BI (Bw FR hh ?_)
  cases e:B FR with
  |true =>
   refine BI (JL (FV (I:=λx c CP=>CP=st/\∃l o,c=(AN,l,o)/\B (FR+l)=AK/\FR+l<n/\l<o/\x+1<=o)
    (Q:=λc CP=>CP=st/\∃l o,c=(AN,l,o)/\B (FR+l)=AK/\FR+l<n/\l<o/\(n-FR<=o\/FR+o<n/\B (FR+o)=AD)) ?step ((λc CP q0=>by obtain⟨e,l,o,e1,e2,e3,e4,e5⟩:=q0;exact{e,l,o,e1,e2,e3,e4,.inl 'o'})) {rfl,0,1,rfl,e,hh,DG _,AL _}) ?post)
   case step =>
    rintro x c CP _ _ ⟨rfl,l,o,rfl,h1,h2,h3,h4⟩
    try dsimp only
    refine LP (λq=>BE {rfl,l,o,rfl,h1,h2,h3,.inl q}) (λq=>?_);refine BI (Bw (FR+o) 'o' ?_)
    cases e:B (FR+o) with
    |true=>exact BE {rfl,o,2 * o+1,rfl,e,by omega,by omega,by omega}
    |false=>exact BE {rfl,l,o,rfl,h1,h2,h3,.inr {by omega,e}}
   case post =>
    rintro c CP ⟨rfl,l,o,rfl,h1,h2,h3,h4⟩
    have hP:FR+l+1<=FR+min o (n-FR)/\FR+min o (n-FR)<=n/\(∀i<FR+l+1,B i=AK)/\∀i,FR+min o (n-FR)<=i->i<n->B i=AD:={by omega,by omega,λi hi=>mono i (FR+l) (IB hi) h2 h1,λi hi hn=>by
     rcases h4 with h4|⟨h4,h5⟩
     .omega
     .exact pG (FR+o) i 'o' hn h5}
    revert hP
    dsimp only;generalize FR+l+1=lo',FR+min o (n-FR)=SW;exact λhP=>K lo' SW hP
  |false =>
   refine BI (JL (FV (I:=λx c CP=>CP=st/\∃l o,c=(AN,l,o)/\B (FR-l)=AD/\l<=FR/\l<o/\x+1<=o)
    (Q:=λc CP=>CP=st/\∃l o,c=(AN,l,o)/\B (FR-l)=AD/\l<=FR/\l<o/\(FR+1<=o\/o<=FR/\B (FR-o)=AK)) ?step ((λc CP q0=>by obtain⟨e,l,o,e1,e2,e3,e4,e5⟩:=q0;exact{e,l,o,e1,e2,e3,e4,.inl 'o'})) {rfl,0,1,rfl,e,BY _,DG _,AL _}) ?post)
   case step =>
    rintro x c CP _ _ ⟨rfl,l,o,rfl,h1,h2,h3,h4⟩
    try dsimp only
    refine LP (λq=>BE {rfl,l,o,rfl,h1,h2,h3,.inl q}) (λq=>?_);refine BI (Bw (FR-o) (AS (C7 _ _) hh) ?_)
    cases e:B (FR-o) with
    |true=>exact BE {rfl,l,o,rfl,h1,h2,h3,.inr {IB (jS q),e}}
    |false=>exact BE {rfl,o,2 * o+1,rfl,e,IB (jS q),by omega,by omega}
   case post =>
    rintro c CP ⟨rfl,l,o,rfl,h1,h2,h3,h4⟩
    exact K (FR+1-min o (FR+1)) (FR-l) {by omega,CW (AS (C7 _ _) hh),λi hi=>by
     rcases h4 with h4|⟨h4,h5⟩
     .omega
     .exact mono i (FR-o) 'o' (AS (C7 _ _) hh) h5,λi hi hn=>pG (FR-l) i hi hn h1}) ?_
 rintro lo hi ⟨p1,p2,p3,p4⟩
 refine BI (JL (FV (I:=λx c st2=>st2=st/\∃l r,c=(AN,l,r)/\l<=r/\r<=n/\(∀i<l,B i=AK)/\(∀i,r<=i->i<n->B i=AD)/\r-l+x<=n)
  (Q:=λc st2=>st2=st/\∃l r,c=(AN,l,r)/\Xo B n r) ?st2 ((λc st2 q0=>by obtain⟨e,l,r,e1,e2,e3,e4,e5,e6⟩:=q0;exact{e,l,r,e1,e3,λi hi=>e4 i 'o',e5})) {rfl,lo,hi,rfl,p1,p2,p3,p4,by omega}) ?po2)
 case po2 =>
  rintro c st2 ⟨rfl,l,r,rfl,hr⟩;exact BE (h r hr)
 case st2 =>
  rintro x c st2 _ _ ⟨rfl,l,r,rfl,q1,q2,q3,q4,q5⟩
  try dsimp only
  refine LP (λq=>BE {rfl,l,r,rfl,q2,λi hi=>q3 i 'o',q4}) (λq=>?_);refine BI (Bw (l+(r-l) / 2) 'o' ?_)
  cases e:B (l+(r-l) / 2) with
  |true=>exact BE {rfl,l+(r-l) / 2+1,r,rfl,by omega,q2,λi hi=>mono i (l+(r-l) / 2) (IB hi) 'o' e,q4,by omega}
  |false=>exact BE {rfl,l,l+(r-l) / 2,rfl,A3 _ _,by omega,q3,λi hi hn=>pG (l+(r-l) / 2) i hi hn e,by omega}
end
structure Ord(L:BD->BD->Bool)(BU:Array BD):Prop where
 asym:∀x y,x∈BU->y∈BU->L x y=AK->L y x=AD
 trans:∀x y z,x∈BU->y∈BU->z∈BU->L y x=AD->L z y=AD->L z x=AD
def SA(L:BD->BD->Bool)(a:Array BD):Prop:=∀(i j:Nat) (hj:j<a.size) (K3:i<j),L a[j] (a[i]'(C4 K3 hj))=AD
theorem Ord.refl{L:BD->BD->Bool}{BU:Array BD}(O:Ord L BU){x:BD}(hx:x∈BU):L x x=AD:=by
 cases e:L x x with
 |false=>rfl
 |true=>rw[O.asym x x hx hx e] at e;cases e
theorem SA.le{L:BD->BD->Bool}{BU a:Array BD}(O:Ord L BU)(ha:∀x∈a,x∈BU)(s:SA L a){i j:Nat}(hj:j<a.size)(K3:i<=j):L a[j] (a[i]'(AS K3 hj))=AD:=by
 rcases DJ K3 with h|h
 .exact s i j hj h
 .subst h;exact O.refl (ha _ (AH _))
section
variable{prog:CO}{w:D2}{A:DP}{E:AI->AT->Prop}{s:AT}{BU:Array BD}{kd:FH}{L:BD->BD->Bool}
theorem Sf{st:BP}{JT:BD}{G4:Array BD}{base n FR:Nat}{Q:Option Nat->BP->Prop}(hA:W3 prog w A s kd BU L)(O:Ord L BU)(hk:kindOf st=kd)(PN:JT∈BU)(QJ:∀x∈G4,x∈BU)
  (hb:base+n<=G4.size) (hh:FR<n) (sl:∀(i j:Nat) (hj:base+j<G4.size) (K3:i<j),j<n->L G4[base+j] (G4[base+i]'(C4 (BA K3 _) hj))=AD)
  (h:∀k,k<=n->(∀(i:Nat) (hi:base+i<G4.size),i<k->L JT G4[base+i]=AD)->(∀(i:Nat) (hi:base+i<G4.size),k<=i->i<n->L JT G4[base+i]=AK)->Q (AA k) st):NY (A6 prog w) A E s (tB AD JT G4 base n FR) Q st:=by
 refine Tl (B:=λi=>if hi:base+i<G4.size then !L JT G4[base+i] else AD) hA hk PN QJ hb hh (λi hi=>by simp[hi]) (λi j K3 hj e=>?_) λk ⟨c1,c2,c3⟩=>h k c1 (λi hi dW=>?_) (λi hi Kz X7=>?_)
 .rcases DJ K3 with h'|h'
  .have bP:base+j<G4.size:=AQ (BA hj _) hb
   have SW:base+i<G4.size:=AS (EI (AL _) K3) bP;rw[dif_pos bP] at e;show(if hi:base+i<G4.size then !L JT G4[base+i] else AD)=AK;rw[dif_pos SW];have e':L JT G4[base+j]=AD:=by simpa using e
   rw[O.trans _ _ _ (QJ _ (AH SW)) (QJ _ (AH bP)) PN (sl i j bP h' hj) e']
   rfl
  .subst h';exact e
 .have:=c2 i dW
  simpa[hi] using this
 .have:=c3 i Kz X7
  simpa[hi] using this
theorem Se{st:BP}{JT:BD}{G4:Array BD}{base n FR:Nat}{Q:Option Nat->BP->Prop}(hA:W3 prog w A s kd BU L)(O:Ord L BU)(hk:kindOf st=kd)(PN:JT∈BU)(QJ:∀x∈G4,x∈BU)
  (hb:base+n<=G4.size) (hh:FR<n) (sl:∀(i j:Nat) (hj:base+j<G4.size) (K3:i<j),j<n->L G4[base+j] (G4[base+i]'(C4 (BA K3 _) hj))=AD)
  (h:∀k,k<=n->(∀(i:Nat) (hi:base+i<G4.size),i<k->L G4[base+i] JT=AK)->(∀(i:Nat) (hi:base+i<G4.size),k<=i->i<n->L G4[base+i] JT=AD)->Q (AA k) st):NY (A6 prog w) A E s (tB AK JT G4 base n FR) Q st:=by
 refine Tl (B:=λi=>if hi:base+i<G4.size then L G4[base+i] JT else AD) hA hk PN QJ hb hh (λi hi=>by simp[hi]) (λi j K3 hj e=>?_) λk ⟨c1,c2,c3⟩=>h k c1 (λi hi dW=>?_) (λi hi Kz X7=>?_)
 .rcases DJ K3 with h'|h'
  .have bP:base+j<G4.size:=AQ (BA hj _) hb
   have SW:base+i<G4.size:=AS (EI (AL _) K3) bP;rw[dif_pos bP] at e;show(if hi:base+i<G4.size then L G4[base+i] JT else AD)=AK;rw[dif_pos SW]
   cases ei:L G4[base+i] JT with
   |true=>rfl
   |false =>
    rw[O.trans _ _ _ PN (QJ _ (AH SW)) (QJ _ (AH bP)) ei (sl i j bP h' hj)] at e;cases e
  .subst h';exact e
 .have:=c2 i dW
  simpa[hi] using this
 .have:=c3 i Kz X7
  simpa[hi] using this
end
structure MidO(L:BD->BD->Bool)(a b out:Array BD)(ia ib:Nat):Prop where
 m:Mid a b out ia ib
 so:out.toList.Pairwise λx y=>L y x=AD
 oa:∀x∈out,∀(i:Nat) (hi:i<a.size),ia<=i->L a[i] x=AD
 ob:∀x∈out,∀(i:Nat) (hi:i<b.size),ib<=i->L b[i] x=AD
section
variable{L:BD->BD->Bool}{a b out:Array BD}{ia ib:Nat}
theorem Qh{x:BD}(h:out.toList.Pairwise λx y=>L y x=AD)(hx:∀y∈out,L x y=AD):(out.push x).toList.Pairwise λx y=>L y x=AD:=by
 rw[FD,ZU];refine{h,XX _ _,λy hy z hz=>?_};rw[A8.mp hz];exact hx y (GU.mp hy)
theorem MidO.pushB(m:MidO L a b out ia ib)(sb:SA L b)(h:ib<b.size)(T9:∀(i:Nat) (hi:i<a.size),ia<=i->L a[i] b[ib]=AD):MidO L a b (out.push b[ib]) ia (ib+1) where
 m:=m.m.pushB h
 so:=Qh m.so λy hy=>m.ob y hy ib h (AL _)
 oa:=λx hx i hi PP=>by
  rcases G7.mp hx with hx|rfl
  .exact m.oa x hx i hi PP
  .exact T9 i hi PP
 ob:=λx hx i hi RY=>by
  rcases G7.mp hx with hx|rfl
  .exact m.ob x hx i hi (AX (A3 _ _) RY)
  .exact sb ib i hi (FY RY)
theorem MidO.pushA(m:MidO L a b out ia ib)(sa:SA L a)(h:ia<a.size)(T9:∀(i:Nat) (hi:i<b.size),ib<=i->L b[i] a[ia]=AD):MidO L a b (out.push a[ia]) (ia+1) ib where
 m:=m.m.pushA h
 so:=Qh m.so λy hy=>m.oa y hy ia h (AL _)
 oa:=λx hx i hi PP=>by
  rcases G7.mp hx with hx|rfl
  .exact m.oa x hx i hi (AX (A3 _ _) PP)
  .exact sa ia i hi (FY PP)
 ob:=λx hx i hi RY=>by
  rcases G7.mp hx with hx|rfl
  .exact m.ob x hx i hi RY
  .exact T9 i hi RY
theorem Eu(a:Array BD){i k:Nat}(h:i+k<a.size):out++a.extract i (i+(k+1))=(out++a.extract i (i+k)).push a[i+k]:=by
 apply Array.ext'
 rw[EL,FD,EL,KJ,KJ,DH]
 congr 1
 show(a.toList.drop i).take (i+(k+1)-i)=(a.toList.drop i).take (i+k-i)++[a[i+k]];rw[show i+(k+1)-i=k+1 from NE _ _,show i+k-i=k from NE _ _,BK (by simp;lia)];simp
theorem MidO.manyA(sa:SA L a):∀{k:Nat},MidO L a b out ia ib->ia+k<=a.size->(∀(i:Nat) (hi:i<a.size),ia<=i->i<ia+k->∀(j:Nat) (hj:j<b.size),ib<=j->L b[j] a[i]=AD)->MidO L a b (out++a.extract ia (ia+k)) (ia+k) ib
 |0,m,_,_=>by
  have e:out++a.extract ia (ia+0)=out:=by simp<;>lia
  rw[e];exact m
 |k+1,m,h,T9=>by
  have z:=MidO.manyA sa (k:=k) m 'l' λi hi h1 h2=>T9 i hi h1 (C4 h2 (BA (DG _) _));rw[Eu a (show ia+k<a.size from AQ (BA (DG _) _) h)];exact z.pushA sa (AQ (BA (DG _) _) h) λj hj wO=>T9 (ia+k) (AQ (BA (DG _) _) h) (A3 _ _) (BA (DG _) _) j hj wO
theorem MidO.manyB(sb:SA L b):∀{k:Nat},MidO L a b out ia ib->ib+k<=b.size->(∀(i:Nat) (hi:i<b.size),ib<=i->i<ib+k->∀(j:Nat) (hj:j<a.size),ia<=j->L a[j] b[i]=AD)->MidO L a b (out++b.extract ib (ib+k)) ia (ib+k)
 |0,m,_,_=>by
  have e:out++b.extract ib (ib+0)=out:=by simp<;>lia
  rw[e];exact m
 |k+1,m,h,T9=>by
  have z:=MidO.manyB sb (k:=k) m 'l' λi hi h1 h2=>T9 i hi h1 (C4 h2 (BA (DG _) _));rw[Eu b (show ib+k<b.size from AQ (BA (DG _) _) h)];exact z.pushB sb (AQ (BA (DG _) _) h) λj hj wP=>T9 (ib+k) (AQ (BA (DG _) _) h) (A3 _ _) (BA (DG _) _) j hj wP
theorem MidO.doneB(m:MidO L a b out ia ib)(sa:SA L a)(h:ib=b.size):(out++a.extract ia a.size++b.extract ib b.size).toList.Pairwise λx y=>L y x=AD:=by
 have la:=m.m.la;have z:=m.manyA sa (k:=a.size-ia) 'l' λi hi h1 h2 j hj wO=>by lia
 rw[show ia+(a.size-ia)=a.size by lia] at z;have e:b.extract ib b.size=#[]:=by rw[h];simp
 rw[e,aO];exact z.so
theorem MidO.doneA(m:MidO L a b out ia ib)(sb:SA L b)(h:ia=a.size):(out++a.extract ia a.size++b.extract ib b.size).toList.Pairwise λx y=>L y x=AD:=by
 have lb:=m.m.lb;have z:=m.manyB sb (k:=b.size-ib) 'l' λi hi h1 h2 j hj wP=>by lia
 rw[show ib+(b.size-ib)=b.size by lia] at z;have e:a.extract ia a.size=#[]:=by rw[h];simp
 rw[e,aO];exact z.so
theorem MidO.lastA(m:MidO L a b out ia ib)(sa:SA L a)(sb:SA L b)(h:ia+1=a.size)(hl:∀(j:Nat) (hj:j<b.size),L (a[a.size-1]'(by lia)) b[j]=AD):(out++b.extract ib b.size++a.extract ia a.size).toList.Pairwise λx y=>L y x=AD:=by
 have lb:=m.m.lb
 have z:=m.manyB sb (k:=b.size-ib) 'l' λi hi h1 h2 j hj wP=>by
  have e:j=a.size-1:=by lia
  subst e;exact hl i hi
 rw[show ib+(b.size-ib)=b.size by lia] at z;have z2:=z.manyA sa (k:=1) (CY h) λi hi h1 h2 j hj wO=>by lia
 rw[h] at z2;exact z2.so
end
@[elab_as_elim] theorem zX{K:Prop}{α0 α1 α2 α3 γ:Type}{f:α0->α1->α2->α3->γ}{P:α0->α1->α2->α3->Prop}{G:γ->Prop}{c:γ}(H:K/\∃x0 x1 x2 x3,c=f x0 x1 x2 x3/\P x0 x1 x2 x3)(k:K->∀x0 x1 x2 x3,P x0 x1 x2 x3->G (f x0 x1 x2 x3)):G c:=by
 obtain⟨g,x0,x1,x2,x3,rfl,p⟩:=H;exact k g x0 x1 x2 x3 p
@[elab_as_elim] theorem qV{K:Prop}{α0 α1 α2 α3 α4 γ:Type}{f:α0->α1->α2->α3->α4->γ}{P:α0->α1->α2->α3->α4->Prop}{G:γ->Prop}{c:γ}(H:K/\∃x0 x1 x2 x3 x4,c=f x0 x1 x2 x3 x4/\P x0 x1 x2 x3 x4)(k:K->∀x0 x1 x2 x3 x4,P x0 x1 x2 x3 x4->G (f x0 x1 x2 x3 x4)):G c:=by
 obtain⟨g,x0,x1,x2,x3,x4,rfl,p⟩:=H;exact k g x0 x1 x2 x3 x4 p
@[elab_as_elim] theorem qU{K:Prop}{α0 α1 α2 α3 α4 α5 γ:Type}{f:α0->α1->α2->α3->α4->α5->γ}{P:α0->α1->α2->α3->α4->α5->Prop}{G:γ->Prop}{c:γ}(H:K/\∃x0 x1 x2 x3 x4 x5,c=f x0 x1 x2 x3 x4 x5/\P x0 x1 x2 x3 x4 x5)(k:K->∀x0 x1 x2 x3 x4 x5,P x0 x1 x2 x3 x4 x5->G (f x0 x1 x2 x3 x4 x5)):G c:=by
 obtain⟨g,x0,x1,x2,x3,x4,x5,rfl,p⟩:=H;exact k g x0 x1 x2 x3 x4 x5 p
@[elab_as_elim] theorem Vf{K:Prop}{α0 α1 α2 α3 α4 α5 α6 γ:Type}{f:α0->α1->α2->α3->α4->α5->α6->γ}{P:α0->α1->α2->α3->α4->α5->α6->Prop}{G:γ->Prop}{c:γ}(H:K/\∃x0 x1 x2 x3 x4 x5 x6,c=f x0 x1 x2 x3 x4 x5 x6/\P x0 x1 x2 x3 x4 x5 x6)(k:K->∀x0 x1 x2 x3 x4 x5 x6,P x0 x1 x2 x3 x4 x5 x6->G (f x0 x1 x2 x3 x4 x5 x6)):G c:=by
 obtain⟨g,x0,x1,x2,x3,x4,x5,x6,rfl,p⟩:=H;exact k g x0 x1 x2 x3 x4 x5 x6 p
section
variable{prog:CO}{w:D2}{A:DP}{E:AI->AT->Prop}{s:AT}{BU:Array BD}{kd:FH}{L:BD->BD->Bool}{β:Type}{Q:β->BP->Prop}{st:BP}
theorem WN{G4:Array BD}{i:Nat}{f:BD->StateT BP TC β}(hi:i<G4.size)(h:NY (A6 prog w) A E s (f G4[i]) Q st):NY (A6 prog w) A E s (elem' G4 i >>= f) Q st:=BI (p9 hi h)
theorem zW{g:Nat}{f:Unit->StateT BP TC β}(h:NY (A6 prog w) A E s (f ()) Q (sV st g)):NY (A6 prog w) A E s (Gb g >>= f) Q st:=BI (zYQ h)
theorem Ve{x y:BD}{f:Option Bool->StateT BP TC β}(hA:W3 prog w A s kd BU L)(hk:kindOf st=kd)(hx:x∈BU)(hy:y∈BU)(h:NY (A6 prog w) A E s (f (AA (L x y))) Q st):NY (A6 prog w) A E s (lt' x y >>= f) Q st:=BI (yV hA hk hx hy h)
theorem pQ{γ:Type}{a b:Nat}{f:Nat->γ->StateT BP TC (ForInStep γ)}{k:γ->StateT BP TC β}(I:Nat->γ->BP->Prop)(R:γ->BP->Prop)
  (wA:∀i c st,a<=i->i<b->I i c st->NY (A6 prog w) A E s (f i c) (λr CP=>match r with|.done c'=>R c' CP|.yield c'=>I (i+1) c' CP) st)
  (jF:∀c st,I (max a b) c st->R c st) {c:γ} (h:I a c st) (hp:∀c CP,R c CP->NY (A6 prog w) A E s (k c) Q CP):NY (A6 prog w) A E s (forIn [a:b] c f >>= k) Q st:=BI (JL (FV I wA jF h) hp)
theorem Vd{JT:BD}{G4:Array BD}{base n FR:Nat}{f:Option Nat->StateT BP TC β}(hA:W3 prog w A s kd BU L)(O:Ord L BU)(hk:kindOf st=kd)(PN:JT∈BU)(QJ:∀x∈G4,x∈BU)
  (hb:base+n<=G4.size) (hh:FR<n) (sl:∀(i j:Nat) (hj:base+j<G4.size) (K3:i<j),j<n->L G4[base+j] (G4[base+i]'(C4 (BA K3 _) hj))=AD)
  (h:∀k,k<=n->(∀(i:Nat) (hi:base+i<G4.size),i<k->L JT G4[base+i]=AD)->(∀(i:Nat) (hi:base+i<G4.size),k<=i->i<n->L JT G4[base+i]=AK)->NY (A6 prog w) A E s (f (AA k)) Q st):NY (A6 prog w) A E s (tB AD JT G4 base n FR >>= f) Q st:=BI (Sf hA O hk PN QJ hb hh sl h)
theorem Vc{JT:BD}{G4:Array BD}{base n FR:Nat}{f:Option Nat->StateT BP TC β}(hA:W3 prog w A s kd BU L)(O:Ord L BU)(hk:kindOf st=kd)(PN:JT∈BU)(QJ:∀x∈G4,x∈BU)
  (hb:base+n<=G4.size) (hh:FR<n) (sl:∀(i j:Nat) (hj:base+j<G4.size) (K3:i<j),j<n->L G4[base+j] (G4[base+i]'(C4 (BA K3 _) hj))=AD)
  (h:∀k,k<=n->(∀(i:Nat) (hi:base+i<G4.size),i<k->L G4[base+i] JT=AK)->(∀(i:Nat) (hi:base+i<G4.size),k<=i->i<n->L G4[base+i] JT=AD)->NY (A6 prog w) A E s (f (AA k)) Q st):NY (A6 prog w) A E s (tB AK JT G4 base n FR >>= f) Q st:=BI (Se hA O hk PN QJ hb hh sl h)
end
section
variable{prog:CO}{w:D2}{A:DP}{E:AI->AT->Prop}{s:AT}{BU:Array BD}{kd:FH}{L:BD->BD->Bool}
theorem Vb{α β:Type}{T:β->StateT BP TC α}{M:Model}{A:DP}{E:AI->AT->Prop}{s:AT}{Q:α->BP->Prop}{st:BP}{NU:Prop}(h1:(∀x,NY M A E s (T x) Q st)->NU)(h2:∀x,NY M A E s (T x) Q st):NU:=h1 h2
theorem zMZ{st:BP}{a b:Array BD}{Q:Array BD->BP->Prop}(hA:W3 prog w A s kd BU L)(O:Ord L BU)(hk:kindOf st=kd)(ha:∀x∈a,x∈BU)(hb:∀x∈b,x∈BU)(na:1<=a.size)(nb:1<=b.size)(sa:SA L a)(sb:SA L b)(hf:∀(i:Nat) (hi:i<a.size),L a[i] (b[0]'(FY nb))=AD)(hl:∀(j:Nat) (hj:j<b.size),L (a[a.size-1]'(by lia)) b[j]=AD)
  (h:∀c CP,Gal st CP->c.Perm (a++b)->(c.toList.Pairwise λx y=>L y x=AD)->Q c CP):NY (A6 prog w) A E s (zTY a b) Q st:=by
 refine BI (QM (E4 {rfl,?_}));dsimp only;refine WN (FY nb) ?_
 have m0:MidO L a b #[b[0]] 0 1:=by
  have z:MidO L a b #[] 0 0:={{by simp,BY _,BY _,rfl},N4,λx hx=>by simp at hx,λx hx=>by simp at hx};exact z.pushB sb (FY nb) λi hi _=>hf i hi
 refine LP (λe1=>BE (h _ _ (Gal.refl st) m0.m.done (m0.doneB sa (beq_iff_eq.mp e1)))) (λe1=>?_);replace e1:¬1=b.size:=λz=>e1 (beq_iff_eq.mpr z);refine LP (λe2=>BE (h _ _ (Gal.refl st) m0.m.lastA (m0.lastA sa sb (beq_iff_eq.mp e2) hl))) (λe2=>?_);replace e2:¬0+1=a.size:=λz=>e2 (beq_iff_eq.mpr z);refine BI (NG ?_)
 refine pQ
  (I:=λi c CP=>Gal st CP/\∃out ia ib g,c=(AN,out,ia,ib,g)/\MidO L a b out ia ib/\ia+1<a.size/\ib<b.size/\i+1<=out.size)
  (R:=λc CP=>Gal st CP/\∃r out ia ib g,c=(AA r,out,ia,ib,g)/\(r.Perm (a++b)/\r.toList.Pairwise λx y=>L y x=AD)) ?step ?fin ?init ?post
 case init=>exact{Gal.refl st,_,_,_,_,rfl,m0,GJ na e2,GJ nb e1,by simp}
 case post =>
  intro c CP H;refine qV (c:=c) H λg r out ia ib gg p=>?_;clear H;exact BE (h _ _ g p.1 p.2)
 case fin =>
  intro c CP H;refine zX (c:=c) H λg out ia ib gg P=>?_;clear H;have m:=P.1;have h1:=P.2.1;have h2:=P.2.2.1;have h3:=P.2.2.2;clear P;exfalso;have:=m.m.sz;lia
 case step =>
  intro i c CP _ hi H;refine zX (c:=c) H λg out ia ib gg P=>?_;clear H;have m:=P.1;have h1:=P.2.1;have h2:=P.2.2.1;have h3:=P.2.2.2;clear P;dsimp only;have Ip:0<a.size+b.size:=AS (BY _) hi
  -- KC by KC
  refine pQ
   (I:=λ_ c st2=>Gal st st2/\∃out ia ib ac bc,c=(AN,out,ia,ib,ac,bc)/\MidO L a b out ia ib/\ia+1<a.size/\ib<b.size/\i+1<=out.size)
   (R:=λc st2=>Gal st st2/\∃r out ia ib ac bc,c=(r,out,ia,ib,ac,bc)/\(match r with
    |some r=>(r.Perm (a++b)/\r.toList.Pairwise λx y=>L y x=AD)
    |none=>MidO L a b out ia ib/\ia+1<a.size/\ib<b.size/\i+1<=out.size)) ?step1 ?fin1 {g,_,_,_,_,_,rfl,m,h1,h2,h3} ?post1
  case fin1 =>
   intro c st2 H;refine qV (c:=c) H λg2 out ia ib ac bc P=>?_;clear H;have m:=P.1;have h1:=P.2.1;have h2:=P.2.2.1;have h3:=P.2.2.2;clear P;exact{g2,AN,_,_,_,_,_,rfl,m,h1,h2,h3}
  case step1 =>
   intro j c st2 _ hj H;refine qV (c:=c) H λg2 out ia ib ac bc P=>?_;clear H;have m:=P.1;have h1:=P.2.1;have h2:=P.2.2.1;have h3:=P.2.2.2;clear P;dsimp only;refine WN h2 (WN (AS (A3 _ _) h1) (Ve hA (g2.kind hk) (hb _ (AH h2)) (ha _ (AH _)) ?_));have PP:ia<a.size:=AS (A3 _ _) h1;refine LP (λew=>?_) (λew=>?_)
   .refine WN h2 ?_
    have m2:=m.pushB sb h2 λi hi wQ=>O.trans _ _ _ (hb _ (AH h2)) (ha _ (AH PP)) (ha _ (AH hi)) (O.asym _ _ (hb _ (AH h2)) (ha _ (AH PP)) ew) (sa.le O ha hi wQ);have NB:i+1<=(out.push b[ib]).size:=by rw[EH];lia
    refine LP (λq=>BE {g2,AA _,_,_,_,_,_,rfl,m2.m.done,m2.doneB sa (beq_iff_eq.mp q)}) (λq=>?_);have V8:ib+1<b.size:=GJ h2 λz=>q (beq_iff_eq.mpr z);refine LP (λ_=>?_) (λ_=>?_)
    .exact BE {g2,AN,_,_,_,_,_,rfl,m2,h1,V8,NB}
    .exact BE {g2,_,_,_,_,_,rfl,m2,h1,V8,NB}
   .refine WN PP ?_
    have m2:=m.pushA sa PP λi hi wQ=>O.trans _ _ _ (ha _ (AH PP)) (hb _ (AH h2)) (hb _ (AH hi)) (RA.mpr ew) (sb.le O hb hi wQ);have NB:i+1<=(out.push a[ia]).size:=by rw[EH];lia
    refine LP (λq=>BE {g2,AA _,_,_,_,_,_,rfl,m2.m.lastA,m2.lastA sa sb (beq_iff_eq.mp q) hl}) (λq=>?_);have YY:ia+1+1<a.size:=GJ h1 λz=>q (beq_iff_eq.mpr z);refine LP (λ_=>?_) (λ_=>?_)
    .exact BE {g2,AN,_,_,_,_,_,rfl,m2,YY,h2,NB}
    .exact BE {g2,_,_,_,_,_,rfl,m2,YY,h2,NB}
  case post1 =>
   intro c st2 H;refine qU (c:=c) H λg2 r out ia ib ac bc hr=>?_;clear H
   cases r with
   |some r=>exact BE {g2,r,_,_,_,_,rfl,hr}
   |none =>
    have m:=hr.1;have h1:=hr.2.1;have h2:=hr.2.2.1;have h3:=hr.2.2.2;clear hr;dsimp only;refine BI (QM (E4 {rfl,?_}))
    refine pQ
     (I:=λj c KW=>Gal st KW/\∃out ia ib gg ac bc,c=(AN,out,ia,ib,gg,ac,bc)/\MidO L a b out ia ib/\ia+1<a.size/\ib<b.size/\i+1+(if j=0 then 0 else 1)<=out.size)
     (R:=λc KW=>Gal st KW/\∃r out ia ib gg ac bc,c=(r,out,ia,ib,gg,ac,bc)/\(match r with
      |some r=>(r.Perm (a++b)/\r.toList.Pairwise λx y=>L y x=AD)
      |none=>MidO L a b out ia ib/\ia+1<a.size/\ib<b.size/\i+2<=out.size)) ?step2 ?fin2 {g2,_,_,_,_,_,_,rfl,m,h1,h2,by simpa using h3} ?post2
    case fin2 =>
     intro c KW H;refine qU (c:=c) H λg3 out ia ib gg ac bc P=>?_;clear H;have m:=P.1;have h1:=P.2.1;have h2:=P.2.2.1;have h3:=P.2.2.2;clear P;rw[if_neg (FS (AQ Ip (ND _ _)))] at h3;exact{g3,AN,_,_,_,_,_,_,rfl,m,h1,h2,h3}
    case step2 =>
     intro j c KW _ hj H;refine qU (c:=c) H λg3 out ia ib gg ac bc P=>?_;clear H;have m:=P.1;have h1:=P.2.1;have h2:=P.2.2.1;have h3:=P.2.2.2;clear P
     replace h3:i+1<=out.size:=by
      split at h3<;>lia
     dsimp only
     refine Vb (M:=A6 prog w) (A:=A) (E:=E) (s:=s) (λK=>by
      refine LP (λhg=>?gpos) (λhg=>?gneg)
      case gneg =>
       generalize gg=g';exact K g'
      case gpos=>exact K (gg-1)) (λgg=>?_)
     refine zW ?_;refine WN h2 (Vd hA O ((g3.set _).kind hk) (hb _ (AH h2)) ha 'l' 'l' (λi j hj K3 _=>sa (ia+i) (ia+j) hj (BA K3 _)) λk bO c1 c2=>?_)
     have lX:∀(i:Nat) (hi:i<a.size),ia+k<=i->L a[i] b[ib]=AD:=λi hi dW=>O.asym _ _ (hb _ (AH h2)) (ha _ (AH hi)) (by
      have z:=c2 (i-ia) 'l' 'l' 'l'
      simpa[show ia+(i-ia)=i by lia] using z)
     dsimp only
     refine Hi (λ(out:Array BD) (ia:Nat)=>MidO L a b out ia ib/\ia+1<a.size/\i+1<=out.size/\∀(i:Nat) (hi:i<a.size),ia<=i->L a[i] b[ib]=AD) (λK=>by
      by_cases gI:¬(k>0)
      .rw[if_neg gI]
       have hP:MidO L a b out ia ib/\ia+1<a.size/\i+1<=out.size/\∀(i:Nat) (hi:i<a.size),ia<=i->L a[i] b[ib]=AD:={m,h1,h3,λi hi dW=>lX i hi 'l'}
       revert hP
       generalize out=YO,ia=ia';exact λhP=>K YO ia' hP
      .rw[if_pos (LC.mp gI)]
       replace m:=m.manyA sa (k:=k) 'l' λi hi YY V8 j hj wO=>O.trans _ _ _ (ha _ (AH hi)) (hb _ (AH h2)) (hb _ (AH hj)) (by
        have z:=c1 (i-ia) 'l' 'l'
        simpa[show ia+(i-ia)=i by lia] using z) (sb.le O hb hj wO)
       refine LP (λq1=>BE {g3.set _,AA _,_,_,_,_,_,_,rfl,m.m.lastA,m.lastA sa sb (beq_iff_eq.mp q1) hl}) (λq1=>?_);replace q1:¬(ia+k+1=a.size):=λz=>q1 (beq_iff_eq.mpr z);refine LP (λq2=>BE {g3.set _,AA _,_,_,_,_,_,_,rfl,m.m.done,m.doneA sb (beq_iff_eq.mp q2)}) (λq2=>?_);replace q2:¬(ia+k=a.size):=λz=>q2 (beq_iff_eq.mpr z)
       exact K _ _ {m,by lia,by rw[HU];lia,lX}) ?_
     clear c1 c2 lX m h1 h3 bO;intro out ia P;have m:=P.1;have h1:=P.2.1;have h3:=P.2.2.1;have lX:=P.2.2.2;clear P;refine WN h2 ?_;have U0:=m.m.sz;replace m:=m.pushB sb h2 lX;have hs:=m.m.sz;refine LP (λq3=>BE {g3.set _,AA _,_,_,_,_,_,_,rfl,m.m.done,m.doneB sa (beq_iff_eq.mp q3)}) (λq3=>?_);replace q3:¬(ib+1=b.size):=λz=>q3 (beq_iff_eq.mpr z);refine WN (AS (A3 _ _) h1) (Vc hA O ((g3.set _).kind hk) (ha _ (AH _)) hb 'l' 'l' (λi j hj K3 _=>sb (ib+1+i) (ib+1+j) hj (BA K3 _)) λk2 lI d1 d2=>?_);dsimp only
     refine Hi (λ(out:Array BD) (ib:Nat)=>MidO L a b out ia ib/\ib<b.size/\i+2<=out.size/\∀(i:Nat) (hi:i<b.size),ib<=i->L b[i] (a[ia]'(AS (A3 _ _) h1))=AD) (λK=>by
      by_cases wN:¬(k2>0)
      .rw[if_neg wN]
       have hP:MidO L a b (out.push b[ib]) ia (ib+1)/\ib+1<b.size/\i+2<=(out.push b[ib]).size/\∀(i:Nat) (hi:i<b.size),ib+1<=i->L b[i] (a[ia]'(AS (A3 _ _) h1))=AD:={m,GJ (MJ h2) q3,by rw[EH];lia,λi hi wQ=>by
        have z:=d2 (i-(ib+1)) 'l' 'l' 'l'
        simpa[show ib+1+(i-(ib+1))=i by lia] using z}
       revert hP
       generalize out.push b[ib]=YO,ib+1=ib';exact λhP=>K YO ib' hP
      .rw[if_pos (LC.mp wN)]
       replace m:=m.manyB sb (k:=k2) 'l' λi hi YY V8 j hj wP=>O.trans _ _ _ (hb _ (AH hi)) (ha _ (AH _)) (ha _ (AH hj)) (O.asym _ _ (hb _ (AH hi)) (ha _ (AH _)) (by
        have z:=d1 (i-(ib+1)) 'l' 'l'
        simpa[show ib+1+(i-(ib+1))=i by lia] using z)) (sa.le O ha hj wP)
       refine LP (λq4=>BE {g3.set _,AA _,_,_,_,_,_,_,rfl,m.m.done,m.doneB sa (beq_iff_eq.mp q4)}) (λq4=>?_);replace q4:¬(ib+1+k2=b.size):=λz=>q4 (beq_iff_eq.mpr z)
       exact K _ _ {m,by lia,by rw[HU];lia,λi hi wQ=>by
        have z:=d2 (i-(ib+1)) 'l' 'l' 'l'
        simpa[show ib+1+(i-(ib+1))=i by lia] using z}) ?_
     clear d1 d2 lI m q3 hs U0 h3 lX;intro out ib P;have m:=P.1;have h2:=P.2.1;have h3:=P.2.2.1;have d2:=P.2.2.2;clear P;refine WN (AS (A3 _ _) h1) ?_;have NB:=m.m.sz;replace m:=m.pushA sa (AS (A3 _ _) h1) d2;have Bi:=m.m.sz;refine LP (λq5=>?_) (λq5=>?_)
     .exact BE {g3.set _,AA _,_,_,_,_,_,_,rfl,m.m.lastA,m.lastA sa sb (beq_iff_eq.mp q5) hl}
     .have Yf:¬(_=_):=λz=>q5 (beq_iff_eq.mpr z)
      refine LP (λq6=>?_) (λq6=>?_)
      .exact BE {g3.set _,AN,_,_,_,_,_,_,rfl,m,GJ (MJ h1) Yf,h2,by lia}
      .exact BE {g3.set _,_,_,_,_,_,_,rfl,m,GJ (MJ h1) Yf,h2,by rw[if_neg (FS (Nat.succ_pos _))];lia}
    case post2 =>
     intro c KW H;refine Vf (c:=c) H λg3 r out ia ib gg ac bc hr=>?_;clear H
     cases r with
     |some r=>exact BE {g3,r,_,_,_,_,rfl,hr}
     |none =>
      have m:=hr.1;have h1:=hr.2.1;have h2:=hr.2.2.1;have h3:=hr.2.2.2;clear hr;exact zW (BE {g3.set _,_,_,_,_,rfl,m,h1,h2,h3})
end
structure MidHO(L:BD->BD->Bool)(a b out:Array BD)(na nb:Nat):Prop where
 m:MidH a b out na nb
 so:out.toList.Pairwise λx y=>L x y=AD
 oa:∀x∈out,∀(i:Nat) (hi:i<a.size),i<na->L x a[i]=AD
 ob:∀x∈out,∀(i:Nat) (hi:i<b.size),i<nb->L x b[i]=AD
section
variable{L:BD->BD->Bool}{a b out:Array BD}{na nb:Nat}
theorem Rm{x:BD}(h:out.toList.Pairwise λx y=>L x y=AD)(hx:∀y∈out,L y x=AD):(out.push x).toList.Pairwise λx y=>L x y=AD:=by
 rw[FD,ZU];refine{h,XX _ _,λy hy z hz=>?_};rw[A8.mp hz];exact hx y (GU.mp hy)
theorem MidHO.pushA(m:MidHO L a b out na nb)(sa:SA L a)(h0:1<=na)(h:na-1<a.size)(T9:∀(j:Nat) (hj:j<b.size),j<nb->L a[na-1] b[j]=AD):MidHO L a b (out.push a[na-1]) (na-1) nb where
 m:=m.m.pushA h0 h
 so:=Rm m.so λy hy=>m.oa y hy (na-1) h 'l'
 oa:=λx hx i hi PP=>by
  rcases G7.mp hx with hx|rfl
  .exact m.oa x hx i hi (AQ PP (C7 _ _))
  .exact sa i (na-1) h (PP)
 ob:=λx hx i hi RY=>by
  rcases G7.mp hx with hx|rfl
  .exact m.ob x hx i hi RY
  .exact T9 i hi RY
theorem MidHO.pushB(m:MidHO L a b out na nb)(sb:SA L b)(h0:1<=nb)(h:nb-1<b.size)(T9:∀(j:Nat) (hj:j<a.size),j<na->L b[nb-1] a[j]=AD):MidHO L a b (out.push b[nb-1]) na (nb-1) where
 m:=m.m.pushB h0 h
 so:=Rm m.so λy hy=>m.ob y hy (nb-1) h 'l'
 oa:=λx hx i hi PP=>by
  rcases G7.mp hx with hx|rfl
  .exact m.oa x hx i hi PP
  .exact T9 i hi PP
 ob:=λx hx i hi RY=>by
  rcases G7.mp hx with hx|rfl
  .exact m.ob x hx i hi (AQ RY (C7 _ _))
  .exact sb i (nb-1) h (RY)
theorem Qg(a:Array BD){i n:Nat}(h:i<n)(hn:n-1<a.size):out++(a.extract i n).reverse=(out.push a[n-1])++(a.extract i (n-1)).reverse:=by
 have e:a.extract i n=(a.extract i (n-1)).push a[n-1]:=by
  have z:=Eu (out:=#[]) a (i:=i) (k:=n-1-i) 'l';rw[show i+(n-1-i+1)=n by lia] at z;simpa[show i+(n-1-i)=n-1 by lia] using z
 rw[e];generalize a.extract i (n-1)=x;generalize a[n-1]=y
 apply Array.ext'
 simp
theorem MidHO.manyA(sa:SA L a){i0:Nat}(m:MidHO L a b out na nb)(h:i0<=na)(T9:∀(i:Nat) (hi:i<a.size),i0<=i->i<na->∀(j:Nat) (hj:j<b.size),j<nb->L a[i] b[j]=AD):MidHO L a b (out++(a.extract i0 na).reverse) i0 nb:=by
 obtain⟨d,hd⟩:∃d,na=i0+d:={na-i0,by lia}
 induction d generalizing na out with
 |zero =>
  have e0:na=i0:=by lia
  subst e0
  have e:out++(a.extract na na).reverse=out:=by
   have:a.extract na na=#[]:=by simp<;>lia
   rw[this];simp
  rw[e];exact m
 |succ d ih =>
  have la:=m.m.la;rw[Qg a (show i0<na by lia) 'l'];exact ih (m.pushA sa 'l' 'l' λj hj SV=>T9 (na-1) 'l' 'l' 'l' j hj SV) 'l' (λi hi h1 h2=>T9 i hi h1 (AQ h2 (C7 _ _))) 'l'
theorem MidHO.manyB(sb:SA L b){i0:Nat}(m:MidHO L a b out na nb)(h:i0<=nb)(T9:∀(i:Nat) (hi:i<b.size),i0<=i->i<nb->∀(j:Nat) (hj:j<a.size),j<na->L b[i] a[j]=AD):MidHO L a b (out++(b.extract i0 nb).reverse) na i0:=by
 obtain⟨d,hd⟩:∃d,nb=i0+d:={nb-i0,by lia}
 induction d generalizing nb out with
 |zero =>
  have e0:nb=i0:=by lia
  subst e0
  have e:out++(b.extract nb nb).reverse=out:=by
   have:b.extract nb nb=#[]:=by simp<;>lia
   rw[this];simp
  rw[e];exact m
 |succ d ih =>
  have lb:=m.m.lb;rw[Qg b (show i0<nb by lia) 'l'];exact ih (m.pushB sb 'l' 'l' λj hj SV=>T9 (nb-1) 'l' 'l' 'l' j hj SV) 'l' (λi hi h1 h2=>T9 i hi h1 (AQ h2 (C7 _ _))) 'l'
theorem De(h:out.toList.Pairwise λx y=>L x y=AD):out.reverse.toList.Pairwise λx y=>L y x=AD:=by
 rw[OL,List.pairwise_reverse];exact h
theorem MidHO.doneA(m:MidHO L a b out na nb)(sb:SA L b)(h:na=0):(a.extract 0 na++b.extract 0 nb++out.reverse).toList.Pairwise λx y=>L y x=AD:=by
 have z:=De (m.manyB sb (i0:=0) (BY _) λi hi h1 h2 j hj SV=>by lia).so;subst h;simpa using z
theorem MidHO.doneB(m:MidHO L a b out na nb)(sa:SA L a)(h:nb=0):(a.extract 0 na++b.extract 0 nb++out.reverse).toList.Pairwise λx y=>L y x=AD:=by
 have z:=De (m.manyA sa (i0:=0) (BY _) λi hi h1 h2 j hj SV=>by lia).so;subst h;simpa using z
theorem MidHO.firstB(m:MidHO L a b out na nb)(sa:SA L a)(sb:SA L b)(h:nb=1)(hf:∀(i:Nat) (hi:i<a.size),L a[i] (b[0]'(by have:=m.m.lb;lia))=AD):(b.extract 0 nb++a.extract 0 na++out.reverse).toList.Pairwise λx y=>L y x=AD:=by
 have z1:=m.manyA sa (i0:=0) (BY _) λi hi h1 h2 j hj SV=>by
  have e:j=0:=by lia
  subst e;exact hf i hi
 have z:=De (z1.manyB sb (i0:=0) (BY _) λi hi h1 h2 j hj SV=>by lia).so;simpa using z
end
section
variable{prog:CO}{w:D2}{A:DP}{E:AI->AT->Prop}{s:AT}{BU:Array BD}{kd:FH}{L:BD->BD->Bool}
theorem Va{α β γ δ:Type}{T:β->γ->δ->StateT BP TC α}{M:Model}{A:DP}{E:AI->AT->Prop}{s:AT}{Q:α->BP->Prop}{st:BP}{NU:Prop}(P:β->γ->Prop)(h1:(∀x y z,P x y->NY M A E s (T x y z) Q st)->NU)(h2:∀x y z,P x y->NY M A E s (T x y z) Q st):NU:=h1 h2
theorem zM0{st:BP}{a b:Array BD}{Q:Array BD->BP->Prop}(hA:W3 prog w A s kd BU L)(O:Ord L BU)(hk:kindOf st=kd)(ha:∀x∈a,x∈BU)(hb:∀x∈b,x∈BU)(na:1<=a.size)(nb:1<=b.size)(sa:SA L a)(sb:SA L b)(hf:∀(i:Nat) (hi:i<a.size),L a[i] (b[0]'(FY nb))=AD)(hl:∀(j:Nat) (hj:j<b.size),L (a[a.size-1]'(by lia)) b[j]=AD)
  (h:∀c CP,Gal st CP->c.Perm (a++b)->(c.toList.Pairwise λx y=>L y x=AD)->Q c CP):NY (A6 prog w) A E s (zTZ a b) Q st:=by
 refine BI (QM (E4 {rfl,?_}));dsimp only;refine WN 'l' ?_
 have m0:MidHO L a b #[a[a.size-1]] (a.size-1) b.size:=by
  have z:MidHO L a b #[] a.size b.size:={{by rw[JR 's',JR 's'];simp,AL _,AL _,by simp},N4,λx hx=>by simp at hx,λx hx=>by simp at hx};exact z.pushA sa (na) 'l' λj hj _=>hl j hj
 refine LP (λe1=>?_) (λe1=>?_)
 .exact BE (h _ _ (Gal.refl st) m0.m.done (m0.doneA sb (beq_iff_eq.mp e1)))
 refine LP (λe2=>?_) (λe2=>?_)
 .exact BE (h _ _ (Gal.refl st) m0.m.firstB (m0.firstB sa sb (beq_iff_eq.mp e2) hf))
 have Mj:¬(a.size-1=0):=λz=>e1 (beq_iff_eq.mpr z);have Mi:¬(b.size=1):=λz=>e2 (beq_iff_eq.mpr z);refine BI (NG ?_)
 refine pQ
  (I:=λi c CP=>Gal st CP/\∃na nb out g,c=(AN,na,nb,out,g)/\MidHO L a b out na nb/\1<=na/\2<=nb/\i+1<=out.size)
  (R:=λc CP=>Gal st CP/\∃r na nb out g,c=(AA r,na,nb,out,g)/\(r.Perm (a++b)/\r.toList.Pairwise λx y=>L y x=AD)) ?step ?fin ?init ?post
 case init=>exact{Gal.refl st,_,_,_,_,rfl,m0,by lia,by lia,by simp}
 case post =>
  intro c CP H;refine qV (c:=c) H λg r ia ib out gg p=>?_;clear H;exact BE (h _ _ g p.1 p.2)
 case fin =>
  intro c CP H;refine zX (c:=c) H λg na nb out gg P=>?_;clear H;have m:=P.1;have h1:=P.2.1;have h2:=P.2.2.1;have h3:=P.2.2.2;clear P;exfalso;have:=m.m.sz;lia
 case step =>
  intro i c CP _ hi H;refine zX (c:=c) H λg na nb out gg P=>?_;clear H;have m:=P.1;have h1:=P.2.1;have h2:=P.2.2.1;have h3:=P.2.2.2;clear P;dsimp only;have Ip:0<a.size+b.size:=AS (BY _) hi
  refine pQ
   (I:=λ_ c st2=>Gal st st2/\∃na nb out ac bc,c=(AN,na,nb,out,ac,bc)/\MidHO L a b out na nb/\1<=na/\2<=nb/\i+1<=out.size)
   (R:=λc st2=>Gal st st2/\∃r na nb out ac bc,c=(r,na,nb,out,ac,bc)/\(match r with
    |some r=>(r.Perm (a++b)/\r.toList.Pairwise λx y=>L y x=AD)
    |none=>MidHO L a b out na nb/\1<=na/\2<=nb/\i+1<=out.size)) ?step1 ?fin1 {g,_,_,_,_,_,rfl,m,h1,h2,h3} ?post1
  case fin1 =>
   intro c st2 H;refine qV (c:=c) H λg2 na nb out ac bc P=>?_;clear H;have m:=P.1;have h1:=P.2.1;have h2:=P.2.2.1;have h3:=P.2.2.2;clear P;exact{g2,AN,_,_,_,_,_,rfl,m,h1,h2,h3}
  case step1 =>
   intro j c st2 _ hj H;refine qV (c:=c) H λg2 na nb out ac bc P=>?_;clear H;have m:=P.1;have h1:=P.2.1;have h2:=P.2.2.1;have h3:=P.2.2.2;clear P;dsimp only;have la:=m.m.la;have lb:=m.m.lb;refine WN 'l' (WN 'l' (Ve hA (g2.kind hk) (hb _ (AH _)) (ha _ (AH _)) ?_));have PP:na-1<a.size:=by lia
   have RY:nb-1<b.size:=by lia
   refine LP (λew=>?_) (λew=>?_)
   .refine WN PP ?_
    have m2:=m.pushA sa h1 PP λj hj SV=>O.trans _ _ _ (hb _ (AH hj)) (hb _ (AH RY)) (ha _ (AH PP)) (sb.le O hb RY 'l') (O.asym _ _ (hb _ (AH RY)) (ha _ (AH PP)) ew);have NB:i+1<=(out.push a[na-1]).size:=by rw[EH];lia
    refine LP (λq=>BE {g2,AA _,_,_,_,_,_,rfl,m2.m.done,m2.doneA sb (beq_iff_eq.mp q)}) (λq=>?_);have YY:1<=na-1:=Nat.pos_of_ne_zero λz=>q (beq_iff_eq.mpr z);refine LP (λq=>?_) (λq=>?_)
    .exact BE {g2,AN,_,_,_,_,_,rfl,m2,YY,h2,NB}
    .exact BE {g2,_,_,_,_,_,rfl,m2,YY,h2,NB}
   .refine WN RY ?_
    have m2:=m.pushB sb (AX (DS _ _) h2) RY λj hj SV=>O.trans _ _ _ (ha _ (AH hj)) (ha _ (AH PP)) (hb _ (AH RY)) (sa.le O ha PP 'l') (RA.mpr ew);have NB:i+1<=(out.push b[nb-1]).size:=by rw[EH];lia
    refine LP (λq=>BE {g2,AA _,_,_,_,_,_,rfl,m2.m.firstB,m2.firstB sa sb (beq_iff_eq.mp q) hf}) (λq=>?_)
    have V8:2<=nb-1:=by
     have q':¬(nb-1=1):=λz=>q (beq_iff_eq.mpr z);lia
    refine LP (λq=>?_) (λq=>?_)
    .exact BE {g2,AN,_,_,_,_,_,rfl,m2,h1,V8,NB}
    .exact BE {g2,_,_,_,_,_,rfl,m2,h1,V8,NB}
  case post1 =>
   intro c st2 H;refine qU (c:=c) H λg2 r na nb out ac bc hr=>?_;clear H
   cases r with
   |some r=>exact BE {g2,r,_,_,_,_,rfl,hr}
   |none =>
    have m:=hr.1;have h1:=hr.2.1;have h2:=hr.2.2.1;have h3:=hr.2.2.2;clear hr;dsimp only;refine BI (QM (E4 {rfl,?_}))
    refine pQ
     (I:=λj c KW=>Gal st KW/\∃na nb out gg ac bc,c=(AN,na,nb,out,gg,ac,bc)/\MidHO L a b out na nb/\1<=na/\2<=nb/\i+1+(if j=0 then 0 else 1)<=out.size)
     (R:=λc KW=>Gal st KW/\∃r na nb out gg ac bc,c=(r,na,nb,out,gg,ac,bc)/\(match r with
      |some r=>(r.Perm (a++b)/\r.toList.Pairwise λx y=>L y x=AD)
      |none=>MidHO L a b out na nb/\1<=na/\2<=nb/\i+2<=out.size)) ?step2 ?fin2 {g2,_,_,_,_,_,_,rfl,m,h1,h2,by simpa using h3} ?post2
    case fin2 =>
     intro c KW H;refine qU (c:=c) H λg3 na nb out gg ac bc P=>?_;clear H;have m:=P.1;have h1:=P.2.1;have h2:=P.2.2.1;have h3:=P.2.2.2;clear P;rw[if_neg (FS (AQ Ip (ND _ _)))] at h3;exact{g3,AN,_,_,_,_,_,_,rfl,m,h1,h2,h3}
    case step2 =>
     intro j c KW _ hj H;refine qU (c:=c) H λg3 na nb out gg ac bc P=>?_;clear H;have m:=P.1;have h1:=P.2.1;have h2:=P.2.2.1;have h3:=P.2.2.2;clear P
     replace h3:i+1<=out.size:=by
      split at h3<;>lia
     dsimp only;have la:=m.m.la;have lb:=m.m.lb
     refine Vb (λK=>by
      refine LP (λhg=>?gpos) (λhg=>?gneg)
      case gneg =>
       generalize gg=g';exact K g'
      case gpos=>exact K (gg-1)) (λgg=>?_)
     refine zW ?_;refine WN 'l' (Vd hA O ((g3.set _).kind hk) (hb _ (AH _)) ha (AX (CY (EV _)) la) 'l' (λi j hj K3 _=>sa (0+i) (0+j) hj (BA K3 _)) λk bO c1 c2=>?_);have RY:nb-1<b.size:=by lia
     have gR:∀(i:Nat) (hi:i<a.size),i<k->L b[nb-1] a[i]=AD:=λi hi dW=>by
      have z:=c1 i (AS (CY (EV _)) hi) dW;simpa using z
     dsimp only
     refine Va (λ(out:Array BD) (na:Nat)=>MidHO L a b out na nb/\1<=na/\i+1<=out.size/\∀(i:Nat) (hi:i<a.size),i<na->L b[nb-1] a[i]=AD) (λK=>by
      by_cases gI:¬(na-k>0)
      .rw[if_neg gI]
       have hP:MidHO L a b out na nb/\1<=na/\i+1<=out.size/\∀(i:Nat) (hi:i<a.size),i<na->L b[nb-1] a[i]=AD:={m,h1,h3,λi hi dW=>gR i hi 'l'}
       revert hP
       generalize na-k=ac';generalize out=YO,na=rL;exact λhP=>K YO rL ac' hP
      .rw[if_pos (LC.mp gI)]
       replace m:=m.manyA sa bO λi hi YY V8 j hj SV=>O.trans _ _ _ (hb _ (AH hj)) (hb _ (AH RY)) (ha _ (AH hi)) (sb.le O hb RY 'l') (O.asym _ _ (hb _ (AH RY)) (ha _ (AH hi)) (by
        have z:=c2 i (AS (CY (EV _)) hi) YY V8
        simpa using z))
       refine LP (λq1=>BE {g3.set _,AA _,_,_,_,_,_,_,rfl,m.m.done,m.doneA sb (beq_iff_eq.mp q1)}) (λq1=>?_);replace q1:¬(k=0):=λz=>q1 (beq_iff_eq.mpr z)
       exact K _ _ _ {m,by lia,by rw[HU];lia,gR}) ?_
     clear c1 c2 gR m h1 h3 bO la;intro out na ac P;have m:=P.1;have h1:=P.2.1;have h3:=P.2.2.1;have gR:=P.2.2.2;clear P;refine WN (RY) ?_;have U0:=m.m.sz;have la:=m.m.la;replace m:=m.pushB sb (AX (DS _ _) h2) (RY) gR;have hs:=m.m.sz;refine LP (λq3=>BE {g3.set _,AA _,_,_,_,_,_,_,rfl,m.m.firstB,m.firstB sa sb (beq_iff_eq.mp q3) hf}) (λq3=>?_);have q3':¬(nb-1=1):=λz=>q3 (beq_iff_eq.mpr z);refine WN 'l' (Vc hA O ((g3.set _).kind hk) (ha _ (AH _)) hb 'l' 'l' (λi j hj K3 _=>sb (0+i) (0+j) hj (BA K3 _)) λk2 lI d1 d2=>?_);have PP:na-1<a.size:=by lia
     have pD:∀(j:Nat) (hj:j<b.size),j<k2->L a[na-1] b[j]=AD:=λj hj SV=>O.asym _ _ (hb _ (AH hj)) (ha _ (AH _)) (by
      have z:=d1 j (AS (CY (EV _)) hj) SV
      simpa using z)
     dsimp only
     refine Va (λ(out:Array BD) (nb:Nat)=>MidHO L a b out na nb/\2<=nb/\i+2<=out.size/\∀(j:Nat) (hj:j<b.size),j<nb->L a[na-1] b[j]=AD) (λK=>by
      by_cases wN:¬(nb-1-k2>0)
      .rw[if_neg wN]
       have hP:MidHO L a b (out.push b[nb-1]) na (nb-1)/\2<=nb-1/\i+2<=(out.push b[nb-1]).size/\∀(j:Nat) (hj:j<b.size),j<nb-1->L a[na-1] b[j]=AD:={m,by lia,by rw[EH];lia,λj hj SV=>pD j hj 'l'}
       revert hP
       generalize nb-1-k2=bc';generalize out.push b[nb-1]=YO;generalize nb-1=Yp;exact λhP=>K YO Yp bc' hP
      .rw[if_pos (LC.mp wN)]
       replace m:=m.manyB sb lI λi hi YY V8 j hj SV=>O.trans _ _ _ (ha _ (AH hj)) (ha _ (AH PP)) (hb _ (AH hi)) (sa.le O ha PP 'l') (by
        have z:=d2 i (AS (CY (EV _)) hi) YY V8
        simpa using z)
       refine LP (λq4=>BE {g3.set _,AA _,_,_,_,_,_,_,rfl,m.m.firstB,m.firstB sa sb (beq_iff_eq.mp q4) hf}) (λq4=>?_);replace q4:¬(k2=1):=λz=>q4 (beq_iff_eq.mpr z);refine LP (λq5=>BE {g3.set _,AA _,_,_,_,_,_,_,rfl,m.m.done,m.doneB sa (beq_iff_eq.mp q5)}) (λq5=>?_);replace q5:¬(k2=0):=λz=>q5 (beq_iff_eq.mpr z)
       exact K _ _ _ {m,by lia,by rw[HU,EH];lia,pD}) ?_
     clear d1 d2 pD lI m hs U0 h3 gR;intro out Yp bc P;have m:=P.1;have V8:=P.2.1;have h3:=P.2.2.1;have pD:=P.2.2.2;clear P;refine WN (PP) ?_;have NB:=m.m.sz;replace m:=m.pushA sa (h1) (PP) pD;have Bi:=m.m.sz;refine LP (λq6=>BE {g3.set _,AA _,_,_,_,_,_,_,rfl,m.m.done,m.doneA sb (beq_iff_eq.mp q6)}) (λq6=>?_);have q6':¬(na-1=0):=λz=>q6 (beq_iff_eq.mpr z);refine LP (λq7=>?_) (λq7=>?_)
     .exact BE {g3.set _,AN,_,_,_,_,_,_,rfl,m,by lia,V8,by lia}
     .exact BE {g3.set _,_,_,_,_,_,_,rfl,m,by lia,V8,by rw[if_neg (FS (Nat.succ_pos _))];lia}
    case post2 =>
     intro c KW H;refine Vf (c:=c) H λg3 r na nb out gg ac bc hr=>?_;clear H
     cases r with
     |some r=>exact BE {g3,r,_,_,_,_,rfl,hr}
     |none =>
      have m:=hr.1;have h1:=hr.2.1;have h2:=hr.2.2.1;have h3:=hr.2.2.2;clear hr;exact zW (BE {g3.set _,_,_,_,_,rfl,m,h1,h2,h3})
end
def Seg(L:BD->BD->Bool)(a:Array BD)(i n:Nat):Prop:=∀(p q:Nat) (hq:q<a.size) (NR:p<q),i<=p->q<i+n->L a[q] (a[p]'(C4 NR hq))=AD
theorem zYZ{a c:Array BD}{sa:Nat}(h:sa+c.size<=a.size):(c.toList.zipIdx.foldl (λa (p:BD×Nat)=>a.setIfInBounds (sa+p.2) p.1) a).size=a.size /\
  ∀(p:Nat) (hp:p<(c.toList.zipIdx.foldl (λa (p:BD×Nat)=>a.setIfInBounds (sa+p.2) p.1) a).size) (bM:p<a.size),
   (c.toList.zipIdx.foldl (λa (p:BD×Nat)=>a.setIfInBounds (sa+p.2) p.1) a)[p]=if h:sa<=p/\p-sa<c.size then c[p-sa]'h.2 else a[p]:=by
 have e:=Pz c.toList a sa 0 (by simpa using h);generalize c.toList.zipIdx.foldl (λa (p:BD×Nat)=>a.setIfInBounds (sa+p.2) p.1) a=r at e ⊢;rw[show sa+0=sa from Nat.add_zero _] at e
 have hs:r.size=a.size:=by
  have:=congrArg OP e;simp at this;lia
 refine{hs,λp hp bM=>?_};have e2:r.toList[p]?=(a.toList.take sa++c.toList++a.toList.drop (sa+c.toList.length))[p]?:=by rw[e]
 rw[C3,getElem?_pos r p hp] at e2;have hl:(a.toList.take sa).length=sa:=by simp;lia
 by_cases h1:p<sa
 .rw[dif_neg 'l']
  rw[DH,B9 'l',MK h1,C3,getElem?_pos a p bM] at e2;exact BL e2
 .by_cases h2:p-sa<c.size
  .rw[dif_pos {EZ h1,h2}]
   rw[DH,CA 'l',hl,B9 (by simpa using h2),C3,getElem?_pos c (p-sa) h2] at e2;exact BL e2
  .rw[dif_neg 'l']
   rw[DH,CA 'l',hl,CA (by simp;lia),HJ] at e2;rw[show sa+c.toList.length+(p-sa-c.toList.length)=p by simp;lia,C3,getElem?_pos a p bM] at e2;exact BL e2
section
variable{prog:CO}{w:D2}{A:DP}{E:AI->AT->Prop}{s:AT}{BU:Array BD}{kd:FH}{L:BD->BD->Bool}
theorem Ef{a:Array BD}{i j:Nat}{x:BD}(hx:x∈a.extract i j):∃(p:Nat) (hp:p<a.size),i<=p/\p<j/\x=a[p]:=by
 rw[Array.mem_iff_getElem] at hx;obtain⟨k,hk,rfl⟩:=hx;rw[JD] at hk;exact{i+k,by lia,A3 _ _,by lia,by simp}
theorem yIH{P NU:Prop}(h1:P->NU)(h2:P):NU:=h1 h2
theorem zM2{st:BP}{i sa na sb nb pa pb:Nat}{Q:Bool->BP->Prop}(hA:W3 prog w A s kd BU L)(O:Ord L BU)(hB:SB BU kd st)(e1:(DI st)[i]?=AA (sa,na,pa))(e2:(DI st)[i+1]?=AA (sb,nb,pb))
  (h1:1<=na) (h2:1<=nb) (wC:sb=sa+na) (hz:sb+nb<=BU.size) (ga:Seg L (AY st) sa na) (gb:Seg L (AY st) sb nb)
  (h:∀CP,SB BU kd CP->DI CP=((DI st).setIfInBounds i (sa,na+nb,pa)).eraseIdxIfInBounds (i+1)->Seg L (AY CP) sa (na+nb) ->
   (∀(p:Nat) (hp:p<(AY CP).size) (bM:p<(AY st).size),p<sa\/sa+(na+nb)<=p->(AY CP)[p]=(AY st)[p])->Q AK CP) :
  NY (A6 prog w) A E s (mergeAt' i) Q st:=by
 refine BI (NG ?_);rw[e1,e2];dsimp only;have hsz:=hB.size;have QK:∀x∈AY st,x∈BU:=λx hx=>hB.perm.mem_iff.mp hx;have mm:∀(p:Nat) (hp:p<(AY st).size),(AY st)[p]∈BU:=λp hp=>QK _ (AH hp);refine BI (zYR ?_);have rY:SB BU kd (setPending st (((DI st).setIfInBounds i (sa,na+nb,pa)).eraseIdxIfInBounds (i+1))):={hB.perm,hB.kind,hB.failed};have dO:sb<(AY st).size:=by lia
 -- b's first is at EE the others of b;a's last is at least the others of a
 have b0:∀(q:Nat) (hq:q<(AY st).size),sb<=q->q<sb+nb->L (AY st)[q] (AY st)[sb]=AD:=λq hq h3 h4=>by
  rcases DJ h3 with z|z
  .exact gb sb q hq z (AL _) h4
  .subst z;exact O.refl (mm _ _)
 have Bp:sa+na-1<(AY st).size:=by lia
 have aL:∀(p:Nat) (hp:p<(AY st).size),sa<=p->p<sa+na->L (AY st)[sa+na-1] (AY st)[p]=AD:=λp hp h3 h4=>by
  rcases DJ (show p<=sa+na-1 by lia) with z|z
  .exact ga p (sa+na-1) Bp z h3 'l'
  .subst z;exact O.refl (mm _ _)
 refine BI (p9 (G4:=AY st) (dO) (BI (Sf (G4:=AY st) hA O rY.kind (QK _ (AH _)) QK 'l' (FY h1) (λi j hj K3 SV=>ga (sa+i) (sa+j) hj (BA K3 _) (A3 _ _) (BA SV _)) λk hk c1 c2=>?_)))
 have gR:∀(p:Nat) (hp:p<(AY st).size),sa<=p->p<sa+k->L (AY st)[sb] (AY st)[p]=AD:=λp hp h3 h4=>by
  have z:=c1 (p-sa) 'l' 'l';simpa[show sa+(p-sa)=p by lia] using z
 have lX:∀(p:Nat) (hp:p<(AY st).size),sa+k<=p->p<sa+na->L (AY st)[sb] (AY st)[p]=AK:=λp hp h3 h4=>by
  have z:=c2 (p-sa) 'l' 'l' 'l';simpa[show sa+(p-sa)=p by lia] using z
 dsimp only;refine LP (λq=>?_) (λq=>?_)
 .have q':na-k=0:=beq_iff_eq.mp q
  refine BE (h _ rY rfl (λp r hr WQ h3 h4=>?_) λp hp bM _=>rfl)
  by_cases eD:r<sa+na
  .exact ga p r hr WQ h3 eD
  .by_cases jH:sb<=p
   .exact gb p r hr WQ jH 'l'
   .exact O.trans _ _ _ (mm p (C4 WQ hr)) (mm sb dO) (mm r hr) (gR p (C4 WQ hr) h3 'l') (b0 r hr 'l' 'l')
 have q':¬(na-k=0):=λz=>q (beq_iff_eq.mpr z);refine BI (p9 (G4:=AY st) 'l' (BI (Se (G4:=AY st) hA O rY.kind (QK _ (AH _)) QK 'l' 'l' (λi j hj K3 SV=>gb (sb+i) (sb+j) hj (BA K3 _) (A3 _ _) (BA SV _)) λm hm d1 d2=>?_)));have eal:sa+k+(na-k)-1=sa+na-1:=by lia
 have pD:∀(r:Nat) (hr:r<(AY st).size),sb<=r->r<sb+m->L (AY st)[r] (AY st)[sa+na-1]=AK:=λr hr h3 h4=>by
  have z:=d1 (r-sb) 'l' 'l';simpa[show sb+(r-sb)=r by lia,eal] using z
 have d2':∀(r:Nat) (hr:r<(AY st).size),sb+m<=r->r<sb+nb->L (AY st)[r] (AY st)[sa+na-1]=AD:=λr hr h3 h4=>by
  have z:=d2 (r-sb) 'l' 'l' 'l';simpa[show sb+(r-sb)=r by lia,eal] using z
 dsimp only;refine LP (λr=>?_) (λr=>?_)
 .have r':m=0:=beq_iff_eq.mp r
  refine BE (h _ rY rfl (λp r hr WQ h3 h4=>?_) λp hp bM _=>rfl)
  by_cases eD:r<sa+na
  .exact ga p r hr WQ h3 eD
  .by_cases jH:sb<=p
   .exact gb p r hr WQ jH 'l'
   .exact O.trans _ _ _ (mm p (C4 WQ hr)) (mm _ Bp) (mm r hr) (aL p (C4 WQ hr) h3 'l') (d2' r hr 'l' 'l')
 have r':¬(m=0):=λz=>r (beq_iff_eq.mpr z)
 have ex:∀i j x,x∈(AY st).extract i j->x∈BU:=λi j x hx=>by
  obtain⟨p,hp,_,_,rfl⟩:=Ef hx;exact mm p hp
 have zx:((AY st).extract (sa+k) sb).size=na-k:=by rw[JD];lia
 have zy:((AY st).extract sb (sb+m)).size=m:=by rw[JD];lia
 have sx:SA L ((AY st).extract (sa+k) sb):=λi j hj K3=>by
  rw[zx] at hj;simpa using ga (sa+k+i) (sa+k+j) 'l' (BA K3 _) 'l' 'l'
 have sy:SA L ((AY st).extract sb (sb+m)):=λi j hj K3=>by
  rw[zy] at hj;simpa using gb (sb+i) (sb+j) 'l' (BA K3 _) (A3 _ _) (BA (AQ hj hm) _)
 have hf:∀(i:Nat) (hi:i<((AY st).extract (sa+k) sb).size),L ((AY st).extract (sa+k) sb)[i] (((AY st).extract sb (sb+m))[0]'(by lia))=AD:=λi hi=>by
  have z:=O.asym _ _ (mm sb dO) (mm (sa+k+i) 'l') (lX (sa+k+i) 'l' (A3 _ _) 'l');simpa using z
 have hl:∀(j:Nat) (hj:j<((AY st).extract sb (sb+m)).size),L (((AY st).extract (sa+k) sb)[((AY st).extract (sa+k) sb).size-1]'(by lia)) ((AY st).extract sb (sb+m))[j]=AD:=λj hj=>by
  have z:=O.asym _ _ (mm (sb+j) 'l') (mm (sa+na-1) Bp) (pD (sb+j) 'l' (A3 _ _) 'l');simpa[zx,show sa+k+(na-k-1)=sa+na-1 by lia] using z
 refine yIH (λK=>LP (λ_=>BI (zMZ (a:=(AY st).extract (sa+k) sb) (b:=(AY st).extract sb (sb+m)) hA O rY.kind (ex _ _) (ex _ _) 'l' 'l' sx sy hf hl K)) (λ_=>BI (zM0 (a:=(AY st).extract (sa+k) sb) (b:=(AY st).extract sb (sb+m)) hA O rY.kind (ex _ _) (ex _ _) 'l' 'l' sx sy hf hl K))) ?_;rintro c CP ⟨g,rfl⟩ hp gE;refine BI (MQ (BI (NG (BE ?_))));have hn:(jN st).isNone=AK:=by rw[hB.failed];rfl
 show Q (jN st).isNone _;rw[hn];have dY:c.size=na-k+m:=by rw[hp.size_eq,HU,zx,zy]
 obtain⟨os,Jp⟩:=zYZ (a:=AY st) (c:=c) (sa:=sa+k) 'l'
 have xI:∀(j:Nat) (hj:j<c.size),(∃(p:Nat) (hp:p<(AY st).size),sa+k<=p/\p<sb/\c[j]=(AY st)[p])\/∃(p:Nat) (hp:p<(AY st).size),sb<=p/\p<sb+m/\c[j]=(AY st)[p]:=λj hj=>by
  have hx:c[j]∈(AY st).extract (sa+k) sb++(AY st).extract sb (sb+m):=hp.mem_iff.mp (AH hj);rcases Array.mem_append.mp hx with hx|hx
  .exact .inl (Ef hx)
  .exact .inr (Ef hx)
 refine h _ {(zQR 'l' 'l' hp).trans hB.perm,hB.kind,hB.failed} rfl (λp r hr WQ h3 h4=>?_) λp hpp Kk Bk=>?_
 .have XM:r<(AY st).size:=by rw[<-os];exact hr
  show L (_:Array BD)[r] (_:Array BD)[p]=AD;rw[Jp r hr XM,Jp p (C4 WQ hr) (C4 WQ XM)]
  by_cases gG:p<sa+k
  .rw[dif_neg (show ¬(sa+k<=p/\p-(sa+k)<c.size) by lia)]
   by_cases Zc:r<sa+k
   .rw[dif_neg (show ¬(sa+k<=r/\r-(sa+k)<c.size) by lia)]
    exact ga p r XM WQ h3 (AQ Zc (EI (AL _) hk))
   .by_cases oD:r-(sa+k)<c.size
    .rw[dif_pos (show sa+k<=r/\r-(sa+k)<c.size from{EZ Zc,oD})]
     rcases xI _ oD with⟨u,hu,u1,u2,eu⟩|⟨u,hu,u1,u2,eu⟩
     .rw[eu];exact ga p u hu (AQ gG u1) h3 (AQ u2 (CY wC))
     .rw[eu];exact O.trans _ _ _ (mm p (C4 WQ XM)) (mm sb dO) (mm u hu) (gR p (C4 WQ XM) h3 gG) (b0 u hu u1 (AQ u2 (EI (AL _) hm)))
    .rw[dif_neg (show ¬(sa+k<=r/\r-(sa+k)<c.size) by lia)]
     exact O.trans _ _ _ (mm p (C4 WQ XM)) (mm sb dO) (mm r XM) (gR p (C4 WQ XM) h3 gG) (b0 r XM 'l' 'l')
  .by_cases YT:p-(sa+k)<c.size
   .rw[dif_pos (show sa+k<=p/\p-(sa+k)<c.size from{EZ gG,YT})]
    by_cases oD:r-(sa+k)<c.size
    .rw[dif_pos (show sa+k<=r/\r-(sa+k)<c.size from{by lia,oD})]
     have z:=B0.mp gE (p-(sa+k)) (r-(sa+k)) (by simpa using YT) (by simpa using oD) 'l';simpa using z
    .rw[dif_neg (show ¬(sa+k<=r/\r-(sa+k)<c.size) by lia)]
     rcases xI _ YT with⟨u,hu,u1,u2,eu⟩|⟨u,hu,u1,u2,eu⟩
     .rw[eu];exact O.trans _ _ _ (mm u hu) (mm _ Bp) (mm r XM) (aL u hu (AX (A3 _ _) u1) (AQ u2 (CY wC))) (d2' r XM 'l' 'l')
     .rw[eu];exact gb u r XM 'l' u1 'l'
   .rw[dif_neg (show ¬(sa+k<=p/\p-(sa+k)<c.size) by lia),dif_neg (show ¬(sa+k<=r/\r-(sa+k)<c.size) by lia)]
    exact gb p r XM WQ 'l' 'l'
 .show(_:Array BD)[p]=_
  rw[Jp p hpp Kk,dif_neg (show ¬(sa+k<=p/\p-(sa+k)<c.size) by lia)]
end
theorem seg_iff{L:BD->BD->Bool}{a:Array BD}{i n:Nat}:Seg L a i n↔∀p q x y,p<q->i<=p->q<i+n->a[p]?=AA x->a[q]?=AA y->L y x=AD:=by
 constructor
 .intro h p q x y NR hi hq ex ey
  obtain⟨h1,rfl⟩:=CK.mp ex;obtain⟨h2,rfl⟩:=CK.mp ey;exact h p q h2 NR hi hq
 .intro h p q hq NR hi hn
  exact h p q _ _ NR hi hn (getElem?_pos a p (C4 NR hq)) (getElem?_pos a q hq)
section
variable{prog:CO}{w:D2}{A:DP}{E:AI->AT->Prop}{s:AT}{BU:Array BD}{kd:FH}{L:BD->BD->Bool}
theorem qB{st:BP}{i j:Nat}{Q:Option Bool->BP->Prop}(hA:W3 prog w A s kd BU L)(hB:SB BU kd st)(hi:i<(AY st).size)(hj:j<(AY st).size)(h:Q (AA (L (AY st)[i] (AY st)[j])) st) :
  NY (A6 prog w) A E s (ltAt' i j) Q st:=by
 rw[ltAt'_eq];refine BI (NG ?_);exact BI (p9 hi (BI (p9 hj (yV hA hB.kind (hB.mem hi) (hB.mem hj) h))))
theorem zHT{st:BP}{lo n ok:Nat}{Q:Bool->BP->Prop}(hA:W3 prog w A s kd BU L)(O:Ord L BU)(hn:lo+n<=BU.size)(hok:ok<=n)(h1:1<=n)(hB:SB BU kd st)(hs:Seg L (AY st) lo ok)
  (h:∀CP,SB BU kd CP->DI CP=DI st->Seg L (AY CP) lo n->(∀p,p<lo->(AY CP)[p]?=(AY st)[p]?)->Q AK CP):NY (A6 prog w) A E s (binarySort' lo n ok) Q st:=by
 rw[binarySort'_eq]
 refine BI (JL (FV (I:=λk c CP=>c=(AN,())/\SB BU kd CP/\DI CP=DI st/\Seg L (AY CP) lo k/\∀p,p<lo->(AY CP)[p]?=(AY st)[p]?)
  (Q:=λc CP=>c=(AN,())/\SB BU kd CP/\DI CP=DI st/\Seg L (AY CP) lo n/\∀p,p<lo->(AY CP)[p]?=(AY st)[p]?) ?step ?fin {rfl,hB,rfl,?ini,λ_ _=>rfl}) ?post)
 case ini =>
  intro p q hq NR hp oE;exact hs p q hq NR hp 'o'
 case fin =>
  rintro c CP ⟨e,lP,hp,SU,ho⟩;refine{e,lP,hp,λp q hq NR hp oE=>SU p q hq NR hp ?_,ho};omega
 case post =>
  rintro c CP ⟨rfl,lP,hp,SU,ho⟩;exact BE (h CP lP hp SU ho)
 case step =>
  rintro k c CP hak hkn ⟨rfl,lP,hp,SU,ho⟩;have hsz:=lP.size;have bO:lo+k<(AY CP).size:=by omega
  have mm:∀(p:Nat) (hp:p<(AY CP).size),(AY CP)[p]∈BU:=λp hp=>lP.mem hp
  refine BI (JL (FV (I:=λx c PK=>PK=CP/\∃l r,c=(AN,l,r)/\l<=r/\r<=k/\(∀(p:Nat) (hp:lo+p<(AY CP).size),p<l->L (AY CP)[lo+k] (AY CP)[lo+p]=AD)/\(∀(p:Nat) (hp:lo+p<(AY CP).size),r<=p->p<k->L (AY CP)[lo+k] (AY CP)[lo+p]=AK)/\r-l+x<=k)
   (Q:=λc PK=>PK=CP/\∃l r,c=(AN,l,r)/\l<=k/\(∀(p:Nat) (hp:lo+p<(AY CP).size),p<l->L (AY CP)[lo+k] (AY CP)[lo+p]=AD)/\(∀(p:Nat) (hp:lo+p<(AY CP).size),l<=p->p<k->L (AY CP)[lo+k] (AY CP)[lo+p]=AK)) ?istep
   ((λc PK q0=>by obtain⟨e,l,r,e2,q1,q2,q3,q4,q5⟩:=q0;exact{e,l,r,e2,AX q1 q2,q3,λp hp h1 h2=>q4 p hp 'o' h2})) {rfl,0,k,rfl,BY _,AL _,λp hp h=>by omega,λp hp h1 h2=>by omega,by omega}) ?ipost)
  case istep =>
   rintro x c PK _ hxk ⟨rfl,l,r,rfl,q1,q2,q3,q4,q5⟩;dsimp only
   by_cases lJ:l>=r
   .rw[if_pos lJ]
    exact BE {rfl,l,r,rfl,AX q1 q2,q3,λp hp h1 h2=>q4 p hp 'o' h2}
   .rw[if_neg lJ]
    have hm:lo+(l+r) / 2<(AY PK).size:=by omega
    refine BI (qB hA lP bO hm ?_)
    cases e:L (AY PK)[lo+k] (AY PK)[lo+(l+r) / 2] with
    |true =>
     refine BE {rfl,l,(l+r) / 2,rfl,by omega,by omega,q3,λp hp h1 h2=>?_,by omega}
     cases e3:L (AY PK)[lo+k] (AY PK)[lo+p] with
     |true=>rfl
     |false =>
      rcases DJ h1 with z|z
      .rw[O.trans _ _ _ (mm _ hm) (mm _ hp) (mm _ bO) (SU (lo+(l+r) / 2) (lo+p) hp (BA z _) (A3 _ _) (BA h2 _)) e3] at e
       cases e
      .subst z;rw[e] at e3;cases e3
    |false =>
     refine BE {rfl,(l+r) / 2+1,r,rfl,by omega,q2,λp hp h1=>?_,q4,by omega};rcases DJ (show p<=(l+r) / 2 from IB h1) with z|z
     .exact O.trans _ _ _ (mm _ hp) (mm _ hm) (mm _ bO) (SU (lo+p) (lo+(l+r) / 2) hm (BA z _) (A3 _ _) 'o') e
     .subst z;exact e
  case ipost =>
   rintro c PK ⟨rfl,l,r,rfl,hl,q3,q4⟩;show NY _ _ _ _ (do moveDown' (lo+k) (lo+l);pure (QU (AN,()))) _ _;rw[moveDown'_eq];have bu:=getElem?_bubble (xs:=AY PK) bO (lo+k-(lo+l)) (C7 _ _);refine BI (MQ (BE {rfl,lP.setArr (bubble_perm _ _ _),hp,?_,λp YT=>?_}))
   .show Seg L (bubble (AY PK) (lo+k) (lo+k-(lo+l))) lo (k+1)
    have Kj:=seg_iff.mp SU;rw[seg_iff];intro p q x y NR Zh oE ex ey;rw[bu] at ex ey;rw[show lo+k-(lo+k-(lo+l))=lo+l by omega] at ex ey
    by_cases gG:p=lo+l
    .rw[if_pos gG] at ex
     rw[if_neg 'o',if_pos 'o'] at ey;obtain⟨z1,rfl⟩:=CK.mp ex;obtain⟨z2,rfl⟩:=CK.mp ey;have z:=q4 (q-1-lo) 'o' 'o' 'o';have e:lo+(q-1-lo)=q-1:=by omega
     simp only[e] at z;exact O.asym _ _ (mm _ z1) (mm _ z2) z
    .rw[if_neg gG] at ex
     by_cases X4:q=lo+l
     .rw[if_pos X4] at ey
      rw[if_neg 'o'] at ex;obtain⟨z1,rfl⟩:=CK.mp ex;obtain⟨z2,rfl⟩:=CK.mp ey;have z:=q3 (p-lo) 'o' 'o';have e:lo+(p-lo)=p:=by omega
      simp only[e] at z;exact z
     .rw[if_neg X4] at ey
      by_cases YT:lo+l<p/\p<=lo+k
      .rw[if_pos YT] at ex
       rw[if_pos 'o'] at ey;exact Kj (p-1) (q-1) x y 'o' 'o' 'o' ex ey
      .rw[if_neg YT] at ex
       by_cases bL:lo+l<q/\q<=lo+k
       .rw[if_pos bL] at ey
        exact Kj p (q-1) x y 'o' (Zh) 'o' ex ey
       .rw[if_neg bL] at ey
        exact Kj p q x y (NR) (Zh) 'o' ex ey
   .show(bubble (AY PK) (lo+k) (lo+k-(lo+l)))[p]?=_
    rw[bu,if_neg 'o',if_neg 'o'];exact ho p YT
end
section
variable{L:BD->BD->Bool}{a BU:Array BD}
def Desc(L:BD->BD->Bool)(a:Array BD)(i n:Nat):Prop:=∀p q x y,p<q->i<=p->q<i+n->a[p]?=AA x->a[q]?=AA y->L x y=AD
def Blk(L:BD->BD->Bool)(a:Array BD)(i j:Nat):Prop:=∀p q x y,i<=p->p<j->i<=q->q<j->a[p]?=AA x->a[q]?=AA y->L x y=AD
theorem mir{xs:Array BD}{i j:Nat}(hj:j<=xs.size)(k:Nat):(O2 xs i j ((j-i) / 2))[k]?=if i<=k/\k<j then xs[i+j-1-k]? else xs[k]?:=getElem?_mirror_all hj k
theorem Desc.blk{lo n i:Nat}(d:Desc L a lo n)(hi:lo<=i)(hj:lo+n<=a.size)(b:Blk L a i (lo+n)):Desc L (O2 a i (lo+n) ((lo+n-i) / 2)) lo n:=by
 intro p q x y NR hp hq ex ey;rw[mir hj] at ex ey
 by_cases gG:i<=p/\p<lo+n
 .rw[if_pos gG] at ex
  rw[if_pos 'l'] at ey;exact b _ _ x y 'l' 'l' 'l' 'l' ex ey
 .rw[if_neg gG] at ex
  by_cases X4:i<=q/\q<lo+n
  .rw[if_pos X4] at ey
   exact d p _ x y 'l' hp 'l' ex ey
  .rw[if_neg X4] at ey
   exact d p q x y NR hp hq ex ey
theorem Desc.rev{lo n:Nat}(d:Desc L a lo n)(hj:lo+n<=a.size):Seg L (O2 a lo (lo+n) ((lo+n-lo) / 2)) lo n:=by
 rw[seg_iff];intro p q x y NR hp hq ex ey;rw[mir hj] at ex ey;rw[if_pos 'l'] at ex ey;exact d _ _ y x 'l' 'l' 'l' ey ex
theorem Seg.more{lo n:Nat}(O:Ord L BU)(hm:∀x∈a,x∈BU)(s:Seg L a lo n)(h1:1<=n)(hs:lo+n<a.size)(h:L a[lo+n] (a[lo+n-1]'(AS (C7 _ _) hs))=AD):Seg L a lo (n+1):=by
 intro p q hq NR hp oE;rcases DJ (show q<=lo+n by lia) with z|z
 .exact s p q hq NR hp z
 .subst z
  rcases DJ (show p<=lo+n-1 by lia) with z|z
  .exact O.trans _ _ _ (hm _ (AH _)) (hm _ (AH _)) (hm _ (AH hs)) (s p (lo+n-1) (AS (C7 _ _) hs) z hp 'l') h
  .subst z;exact h
theorem Desc.snoc{lo n:Nat}{y:BD}(d:Desc L a lo n)(h:∀p z,lo<=p->p<lo+n->a[p]?=AA z->L z y=AD)(e:a[lo+n]?=AA y):Desc L a lo (n+1):=λp q x y' NR hp hq ex ey=>by
 rcases DJ (show q<=lo+n by lia) with z|z
 .exact d p q x y' NR hp z ex ey
 .subst z
  rw[e] at ey;cases ey;exact h p x hp (NR) ex
theorem Qf{lo n i:Nat}{P:BD->Prop}(hj:lo+n<=a.size)(hi:lo<=i)(h:∀p z,lo<=p->p<lo+n->a[p]?=AA z->P z):∀p z,lo<=p->p<lo+n->(O2 a i (lo+n) ((lo+n-i) / 2))[p]?=AA z->P z:=λp z h1 h2 e=>by
 rw[mir hj] at e;split at e
 .exact h _ z 'l' 'l' e
 .exact h p z h1 h2 e
theorem Blk.mir{i j:Nat}(b:Blk L a i j)(hj:j<=a.size):Blk L (O2 a i j ((j-i) / 2)) i j:=λp q x y h1 h2 h3 h4 ex ey=>by
 rw[TS.mir hj,if_pos {h1,h2}] at ex;rw[TS.mir hj,if_pos {h3,h4}] at ey;exact b _ _ x y 'l' 'l' 'l' 'l' ex ey
theorem Blk.one{i:Nat}(O:Ord L BU)(hm:∀x∈a,x∈BU):Blk L a i (i+1):=λp q x y h1 h2 h3 h4 ex ey=>by
 have e1:p=i:=by lia
 have e2:q=i:=by lia
 subst e1;subst e2;rw[ex] at ey;cases ey;exact O.refl (hm _ (Array.mem_of_getElem? ex))
theorem Seg.one{lo:Nat}:Seg L a lo 1:=λp q hq NR hp oE=>by lia
end
section
variable{prog:CO}{w:D2}{A:DP}{E:AI->AT->Prop}{s:AT}{BU:Array BD}{kd:FH}{L:BD->BD->Bool}
def KpO(BU:Array BD)(kd:FH)(lo:Nat)(st CP:BP):Prop:=Kp BU kd st CP/\∀p,p<lo->(AY CP)[p]?=(AY st)[p]?
theorem KpO.rev{st CP:BP}{lo i j:Nat}(h:KpO BU kd lo st CP)(hi:lo<=i)(hj:j<=BU.size):KpO BU kd lo st (setArr CP (O2 (AY CP) i j ((j-i) / 2))):=by
 refine{h.1.rev,λp hp=>?_};show(O2 (AY CP) i j ((j-i) / 2))[p]?=_;rw[mir (by rw[h.1.1.size];exact hj),if_neg 'l'];exact h.2 p hp
theorem Uz{α:Type}{T:StateT BP TC α}{M:Model}{A:DP}{E:AI->AT->Prop}{s:AT}{Q:α->BP->Prop}{NU:Prop}(P:BP->Prop)(h1:(∀st,P st->NY M A E s T Q st)->NU)(h2:∀st,P st->NY M A E s T Q st):NU:=h1 h2
theorem zLF{st:BP}{lo RG:Nat}{Q:Option Nat->BP->Prop}(hA:W3 prog w A s kd BU L)(O:Ord L BU)(hn:lo+RG<=BU.size)(h1:1<=RG)(hB:SB BU kd st)
  (h:∀m CP,KpO BU kd lo st CP->1<=m->m<=RG->Seg L (AY CP) lo m->Q (AA m) CP):NY (A6 prog w) A E s (countRun' lo RG) Q st:=by
 have k0:KpO BU kd lo st st:={{hB,rfl},λ_ _=>rfl};have hsz:=hB.size;have mm:∀x∈AY st,x∈BU:=λx hx=>hB.perm.mem_iff.mp hx;refine BI (JL (FV (I:=λx c CP=>CP=st/\c=(AN,x)/\Seg L (AY st) lo x) (Q:=λc CP=>CP=st/\∃n,c=(AN,n)/\1<=n/\n<=RG/\Seg L (AY st) lo n/\(n=RG\/∃(hx:lo+n<(AY st).size),L (AY st)[lo+n] ((AY st)[lo+n-1]'(AS (C7 _ _) hx))=AK)) ?s1 ?f1 {rfl,rfl,Seg.one}) ?p1)
 case f1 =>
  rintro c CP ⟨rfl,rfl,sg⟩;have e:(if 1<=RG then RG else 1)=RG:=if_pos h1;exact{rfl,_,rfl,l0 _ _,by lia,sg,.inl 'l'}
 case s1 =>
  rintro x c CP oV vZ ⟨rfl,rfl,sg⟩;have RI:lo+x<(AY CP).size:=by lia
  refine BI (qB hA hB RI (show lo+x-1<(AY CP).size from AS (C7 _ _) RI) ?_)
  cases e:L (AY CP)[lo+x] ((AY CP)[lo+x-1]'(AS (C7 _ _) RI)) with
  |true=>exact BE {rfl,x,rfl,oV,CW vZ,sg,.inr {RI,e}}
  |false=>exact BE {rfl,rfl,sg.more O mm oV RI e}
 case p1 =>
  rintro c CP ⟨rfl,n,rfl,Zf,aB,sg,Bk⟩;refine LP (λq=>?_) (λq=>?_)
  .exact BE (h n _ k0 Zf aB sg)
  have q':¬(n=RG):=λz=>q (beq_iff_eq.mpr z)
  obtain⟨RI,wK⟩:∃(hx:lo+n<(AY CP).size),L (AY CP)[lo+n] ((AY CP)[lo+n-1]'(AS (C7 _ _) hx))=AK:=by
   rcases Bk with z|z
   .exact absurd z q'
   .exact z
  -- the first n are alike,and the next is below
  have start:∀st1,KpO BU kd lo CP st1->Blk L (AY st1) lo (lo+n)->(∀p x,lo<=p->p<lo+n->(AY st1)[p]?=AA x->L x (AY CP)[lo+n]=AD)->(AY st1)[lo+n]?=(AY CP)[lo+n]?->Desc L (AY st1) lo (n+1):=λst1 k1 bl QK he p q x y NR hp hq ex ey=>by
   rcases DJ (show q<=lo+n by lia) with z|z
   .exact bl p q x y hp (C4 NR z) (CW (AS hp NR)) z ex ey
   .subst z
    rw[he,getElem?_pos (AY CP) (lo+n) RI] at ey;cases ey;exact QK p x hp (NR) ex
  have Bv:∀(Zd:n=1\/L ((AY CP)[lo]'(AS (A3 _ _) RI)) ((AY CP)[lo+n-1]'(AS (C7 _ _) RI))=AD),Blk L (AY CP) lo (lo+n):=λZd p q x y hp YT hq bL ex ey=>by
   obtain⟨z1,rfl⟩:=CK.mp ex;obtain⟨z2,rfl⟩:=CK.mp ey
   have le:∀(u v:Nat) (hv:v<(AY CP).size) (Kc:u<=v),lo<=u->v<lo+n->L (AY CP)[v] ((AY CP)[u]'(AS Kc hv))=AD:=λu v hv Kc h3 h4=>by
    rcases DJ Kc with z|z
    .exact sg u v hv z h3 h4
    .subst z;exact O.refl (mm _ (AH _))
   rcases Zd with z|z
   .have e1:p=lo:=by lia
    have e2:q=lo:=by lia
    subst e1;subst e2;exact O.refl (mm _ (AH _))
   ·-- y<=last<=first<=x turned: y at EE x
    have a1:=le q (lo+n-1) (AS (C7 _ _) RI) 'l' hq 'l';have a2:=le lo p z1 hp (AL _) YT
    exact O.trans _ _ _ (mm _ (AH z2)) (mm _ (AH (show lo<(AY CP).size from AS (A3 _ _) RI))) (mm _ (AH z1))
     (O.trans _ _ _ (mm _ (AH z2)) (mm _ (AH (show lo+n-1<(AY CP).size from AS (C7 _ _) RI))) (mm _ (AH (show lo<(AY CP).size from AS (A3 _ _) RI))) a1 z) a2
  have pH:Blk L (AY CP) lo (lo+n)->∀p x,lo<=p->p<lo+n->(AY CP)[p]?=AA x->L x (AY CP)[lo+n]=AD:=λbl p x hp YT ex=>by
   obtain⟨z1,rfl⟩:=CK.mp ex;have a1:=O.asym _ _ (mm _ (AH RI)) (mm _ (AH (show lo+n-1<(AY CP).size from AS (C7 _ _) RI))) wK;have a2:=bl p (lo+n-1) _ _ hp YT 'l' 'l' (getElem?_pos (AY CP) p z1) (getElem?_pos (AY CP) (lo+n-1) (AS (C7 _ _) RI));exact O.trans _ _ _ (mm _ (AH RI)) (mm _ (AH (show lo+n-1<(AY CP).size from AS (C7 _ _) RI))) (mm _ (AH z1)) a1 a2
  refine Uz (λst1=>KpO BU kd lo CP st1/\Desc L (AY st1) lo (n+1)) (λK=>by
   refine LP (λq1=>?_) (λq1=>?_)
   case refine_2=>exact K _ {k0,start _ k0 (Bv (.inl 'l')) (pH (Bv (.inl 'l'))) rfl}
   case refine_1 =>
    refine BI (qB hA hB (show lo<(AY CP).size from AS (A3 _ _) RI) (show lo+n-1<(AY CP).size from AS (C7 _ _) RI) ?_);cases eq1:L ((AY CP)[lo]'(AS (A3 _ _) RI)) ((AY CP)[lo+n-1]'(AS (C7 _ _) RI))
    case true=>exact BE (h n _ k0 Zf aB sg)
    refine BI (yY ?_);have bl:=Bv (.inr eq1);have k1:=k0.rev (i:=lo) (j:=lo+n) (AL _) (AX (EI (AL _) aB) hn)
    exact K _ {k1,start _ k1 (Blk.mir (i:=lo) (j:=lo+n) bl (CW RI)) (Qf (CW RI) (AL _) (pH bl)) (by
     show(O2 (AY CP) lo (lo+n) ((lo+n-lo) / 2))[lo+n]?=_
     rw[mir (CW RI),if_neg 'l'])}) ?_
  clear start Bv pH;rintro st1 ⟨k1,D1⟩;refine BI (QM (E4 {rfl,?_}));have mk:∀st2,KpO BU kd lo CP st2->∀x∈AY st2,x∈BU:=λst2 k x hx=>k.1.1.perm.mem_iff.mp hx
  refine BI (JL (FV (I:=λx c st2=>∃WP,c=(AN,x,WP)/\KpO BU kd lo CP st2/\Desc L (AY st2) lo x/\WP+1<=x/\Blk L (AY st2) (lo+x-(WP+1)) (lo+x))
   (Q:=λc st2=>∃m WP,c=(AN,m,WP)/\KpO BU kd lo CP st2/\n+1<=m/\m<=RG/\Desc L (AY st2) lo m/\WP+1<=m/\Blk L (AY st2) (lo+m-(WP+1)) (lo+m)) ?s2 ?f2 {0,rfl,k1,D1,DS _ _,Blk.one O (mk _ k1)}) ?p2)
  case f2 =>
   rintro c st2 ⟨WP,rfl,k,D,ZN,bk⟩;exact{_,WP,rfl,k,l0 _ _,by lia,D,ZN,bk}
  case s2 =>
   rintro x c st2 oV vZ ⟨WP,rfl,k,D,ZN,bk⟩;have aA:=k.1.1.size;have m2:=mk _ k;have SS:lo+x<(AY st2).size:=by lia
   have nX:lo+x-1<(AY st2).size:=AS (C7 _ _) SS
   have all1:L (AY st2)[lo+x-1] (AY st2)[lo+x]=AD->∀p z,lo<=p->p<lo+x->(AY st2)[p]?=AA z->L z (AY st2)[lo+x]=AD:=λe p z hp YT ez=>by
    obtain⟨z1,rfl⟩:=CK.mp ez;rcases DJ (show p<=lo+x-1 by lia) with u|u
    .exact O.trans _ _ _ (m2 _ (AH SS)) (m2 _ (AH nX)) (m2 _ (AH z1)) e (D p (lo+x-1) _ _ u hp 'l' ez (getElem?_pos (AY st2) (lo+x-1) nX))
    .subst u;exact e
   refine BI (qB hA k.1.1 SS nX ?_)
   cases e:L (AY st2)[lo+x] (AY st2)[lo+x-1] with
   |true =>
    have al:=all1 (O.asym _ _ (m2 _ (AH SS)) (m2 _ (AH nX)) e);simp only[if_true];refine LP (λ_=>?_) (λ_=>?_)
    .have k':=k.rev (i:=lo+x-(WP+1)) (j:=lo+x) 'l' 'l'
     refine BI (yY (BE {0,rfl,k',?_,DS _ _,Blk.one O (mk _ k')}));refine Desc.snoc (y:=(AY st2)[lo+x]) (D.blk 'l' (CW SS) bk) (Qf (CW SS) 'l' al) ?_;show(O2 (AY st2) (lo+x-(WP+1)) (lo+x) ((lo+x-(lo+x-(WP+1))) / 2))[lo+x]?=_;rw[mir (CW SS),if_neg 'l'];exact getElem?_pos (AY st2) (lo+x) SS
    .exact BE {0,rfl,k,D.snoc al (getElem?_pos (AY st2) (lo+x) SS),DS _ _,Blk.one O m2}
   |false =>
    refine BI (qB hA k.1.1 nX SS ?_)
    cases e2:L (AY st2)[lo+x-1] (AY st2)[lo+x] with
    |true=>exact BE {x,WP,rfl,k,oV,CW vZ,D,ZN,bk}
    |false =>
     have al:=all1 e2;refine BE {WP+1,rfl,k,D.snoc al (getElem?_pos (AY st2) (lo+x) SS),EI ZN (AL _),λp q u v YY V8 h3' h4' eu ev=>?_}
     by_cases hp:p<lo+x
     .by_cases hq:q<lo+x
      .exact bk p q u v 'l' hp 'l' hq eu ev
      .have e3:q=lo+x:=by lia
       subst e3;rw[getElem?_pos (AY st2) (lo+x) SS] at ev;cases ev;exact al p u 'l' hp eu
     .have e3:p=lo+x:=by lia
      subst e3;rw[getElem?_pos (AY st2) (lo+x) SS] at eu;cases eu
      by_cases hq:q<lo+x
      .obtain⟨z1,rfl⟩:=CK.mp ev
       have a1:=bk (lo+x-1) q _ _ 'l' 'l' 'l' hq (getElem?_pos (AY st2) (lo+x-1) nX) ev;exact O.trans _ _ _ (m2 _ (AH z1)) (m2 _ (AH nX)) (m2 _ (AH SS)) a1 e
      .have e4:q=lo+x:=by lia
       subst e4;rw[getElem?_pos (AY st2) (lo+x) SS] at ev;cases ev;exact O.refl (m2 _ (AH SS))
  case p2 =>
   rintro c st2 ⟨m,WP,rfl,k2,X6,X5,D,ZN,bk⟩;have aA:=k2.1.1.size;dsimp only
   refine Uz (λst1=>KpO BU kd lo CP st1/\Desc L (AY st1) lo m) (λK=>by
    refine LP (λ_=>?_) (λ_=>?_)
    case refine_2=>exact K _ {k2,D}
    case refine_1=>exact BI (yY (K _ {k2.rev (i:=lo+m-(WP+1)) (j:=lo+m) 'l' (AX (EI (AL _) X5) hn),D.blk (i:=lo+m-(WP+1)) 'l' 'l' bk}))) ?_
   clear k2 D bk aA;rintro st2 ⟨k2,D⟩;have hz3:=k2.1.1.size;refine BI (yY ?_);have rH:=Desc.rev D (by first|exact AX (AX (EI (AL _) X5) hn) (CY hz3.symm)|lia);have k3:=k2.rev (i:=lo) (j:=lo+m) (AL _) (AX (EI (AL _) X5) hn);refine BI (JL (FV (I:=λx c KW=>KpO BU kd lo CP KW/\c=(AN,x)/\Seg L (AY KW) lo x) (Q:=λc KW=>KpO BU kd lo CP KW/\∃n,c=(AN,n)/\1<=n/\n<=RG/\Seg L (AY KW) lo n) ?s3 ?f3 {k3,rfl,rH}) ?p3)
   case f3 =>
    rintro c KW ⟨k,rfl,sg⟩;exact{k,_,rfl,AX h1 (ND _ _),by lia,sg}
   case s3 =>
    rintro x c KW oV vZ ⟨k,rfl,sg⟩;have hz4:=k.1.1.size;have SS:lo+x<(AY KW).size:=by lia
    refine BI (qB hA k.1.1 SS (show lo+x-1<(AY KW).size from AS (C7 _ _) SS) ?_)
    cases e:L (AY KW)[lo+x] ((AY KW)[lo+x-1]'(AS (C7 _ _) SS)) with
    |true=>exact BE {k,x,rfl,AX (AX (DS _ _) X6) oV,CW vZ,sg}
    |false=>exact BE {k,rfl,sg.more O (mk _ k) (AX (AX (DS _ _) X6) oV) SS e}
   case p3 =>
    rintro c KW ⟨k,z,rfl,rO,aA,sg⟩;exact BE (h z _ k rO aA sg)
end
section
variable{L:BD->BD->Bool}{x x':Array BD}
theorem Seg.keep{i n:Nat}(s:Seg L x i n)(h:∀q,i<=q->q<i+n->x'[q]?=x[q]?):Seg L x' i n:=by
 rw[seg_iff] at s ⊢;intro p q u v NR hp hq eu ev;rw[h p hp (C4 NR hq)] at eu;rw[h q (CW (AS hp NR)) hq] at ev;exact s p q u v NR hp hq eu ev
def CovO(L:BD->BD->Bool)(x:Array BD):List Run->Nat->Nat->Prop
 |[],a,b=>a=b
 |(st,len,_)::r,a,b=>st=a/\1<=len/\Seg L x a len/\CovO L x r (a+len) b
theorem CovO.le:∀{p:List Run} {a b:Nat},CovO L x p a b->a<=b
 |[],_,_,h=>CY h
 |(_,len,_)::r,a,b,h=>by have:=CovO.le h.2.2.2;lia
theorem CovO.len:∀{p:List Run} {a b:Nat},CovO L x p a b->p.length+a<=b
 |[],_,_,h=>by have h:_=_:=h;simp;lia
 |(_,len,_)::r,a,b,h=>by have:=CovO.len h.2.2.2;have:=h.2.1;rw[BC];lia
theorem CovO.keepIn:∀{p:List Run} {a b:Nat},CovO L x p a b->(∀q,a<=q->q<b->x'[q]?=x[q]?)->CovO L x' p a b
 |[],_,_,h,_=>h
 |(_,len,_)::r,a,b,h,hk=>by
  have:=CovO.le h.2.2.2;exact{h.1,h.2.1,h.2.2.1.keep λq h1 h2=>hk q h1 (AQ h2 this),CovO.keepIn h.2.2.2 λq h1 h2=>hk q (AX (A3 _ _) h1) h2}
theorem CovO.keep{p:List Run}{b:Nat}(h:CovO L x p 0 b)(hk:∀q,q<b->x'[q]?=x[q]?):CovO L x' p 0 b:=h.keepIn λq _ hq=>hk q hq
theorem CovO.snoc:∀{p:List Run} {a b n k:Nat},CovO L x p a b->1<=n->Seg L x b n->CovO L x (p++[(b,n,k)]) a (b+n)
 |[],a,b,n,k,h,hn,s=>by
  have h:a=b:=h;subst h;exact{rfl,hn,s,rfl}
 |(_,len,_)::r,a,b,n,k,h,hn,s=>{h.1,h.2.1,h.2.2.1,CovO.snoc h.2.2.2 hn s}
theorem CovO.modify:∀{p:List Run} {a b i pw:Nat},CovO L x p a b->CovO L x (p.modify i λ(st,len,_)=>(st,len,pw)) a b
 |[],a,b,i,pw,h=>by simpa using h
 |(_,len,_)::r,a,b,0,pw,h=>{h.1,h.2.1,h.2.2.1,h.2.2.2}
 |(_,len,_)::r,a,b,i+1,pw,h=>by
  rw[List.modify_succ_cons];exact{h.1,h.2.1,h.2.2.1,CovO.modify h.2.2.2}
theorem CovO.last{p:List Run}{b:Nat}(h:CovO L x p 0 b)(hl:p.length<=1):Seg L x 0 b:=by
 match p,h,hl with
 |[],h,_ =>
  have h:0=b:=h;subst h;intro p q hq NR hp oE;lia
 |[(st,len,k)],h,_ =>
  obtain⟨_,_,s,e⟩:=h;have e:0+len=b:=e;have e':b=len:=by lia
  subst e';exact s
theorem CovO.at:∀{p:List Run} {a b i sa na pa sb nb pb:Nat},CovO L x p a b->p[i]?=AA (sa,na,pa)->p[i+1]?=AA (sb,nb,pb) ->
  (1<=na/\1<=nb/\sb=sa+na/\sb+nb<=b/\a<=sa)/\Seg L x sa na/\Seg L x sb nb /\
  ((∀q,q<sa\/sa+(na+nb)<=q->x'[q]?=x[q]?)->Seg L x' sa (na+nb)->CovO L x' ((p.set i (sa,na+nb,pa)).eraseIdx (i+1)) a b)
 |[],a,b,i,_,_,_,_,_,_,h,e,_=>by simp at e
 |[y],a,b,0,_,_,_,_,_,_,h,e,e2=>by simp at e2
 |y::z::r,a,b,0,sa,na,pa,sb,nb,pb,h,e,e2=>by
  simp at e e2;subst e;subst e2;obtain⟨h1,h2,h3,h4,h5,h6,h7⟩:=h;have:=h7.le;refine{{h2,h5,by lia,by lia,by lia},by rw[h1];exact h3,by rw[h4];exact h6,λhk s=>?_};show CovO L x' ((sa,na+nb,pa)::r) a b;refine{h1,AX h2 (A3 _ _),by rw[<-h1];exact s,?_};rw[<-Nat.add_assoc];exact h7.keepIn λq h8 _=>hk q 'l'
 |(_,len,_)::r,a,b,i+1,sa,na,pa,sb,nb,pb,h,e,e2=>by
  obtain⟨⟨q1,q2,q3,q4,q5⟩,s1,s2,q6⟩:=CovO.at h.2.2.2 (by simpa using e) (by simpa using e2);exact{{q1,q2,q3,q4,AX (A3 _ _) q5},s1,s2,λhk s=>{h.1,h.2.1,h.2.2.1.keep λq h8 h9=>hk q 'l',q6 hk s}}
end
section
variable{prog:CO}{w:D2}{A:DP}{E:AI->AT->Prop}{s:AT}{BU:Array BD}{kd:FH}{L:BD->BD->Bool}
structure SRO(L:BD->BD->Bool)(BU:Array BD)(kd:FH)(lo:Nat)(st:BP):Prop where
 sb:SB BU kd st
 cov:CovO L (AY st) (DI st).toList 0 lo
 le:lo<=BU.size
theorem Uj{st:BP}{i lo:Nat}{Q:Bool->BP->Prop}(hA:W3 prog w A s kd BU L)(O:Ord L BU)(R:SRO L BU kd lo st)(hi:i+1<(DI st).size)
  (h:∀CP,SRO L BU kd lo CP->(DI CP).size+1=(DI st).size->(∀q,lo<=q->(AY CP)[q]?=(AY st)[q]?)->Q AK CP) :
  NY (A6 prog w) A E s (mergeAt' i) Q st:=by
 have Ld:i<(DI st).size:=AS (A3 _ _) hi;obtain⟨⟨sa,na,pa⟩,e1⟩:∃r:Run,(DI st)[i]?=AA r:={_,getElem?_pos _ i Ld};obtain⟨⟨sb,nb,pb⟩,e2⟩:∃r:Run,(DI st)[i+1]?=AA r:={_,getElem?_pos _ (i+1) hi};obtain⟨⟨q1,q2,q3,q4,q5⟩,s1,s2,_⟩:=R.cov.at (x':=AY st) (i:=i) (by rw[C3];exact e1) (by rw[C3];exact e2);refine zM2 hA O R.sb e1 e2 q1 q2 q3 (AX q4 R.le) s1 s2 λCP hB hp sg hk=>?_;have rO:=hB.size;have aA:=R.sb.size
 have bO:∀q,q<sa\/sa+(na+nb)<=q->(AY CP)[q]?=(AY st)[q]?:=λq hq=>by
  by_cases z:q<BU.size
  .rw[getElem?_pos (AY CP) q 'l',getElem?_pos (AY st) q 'l',hk q 'l' 'l' hq]
  .rw[getElem?_neg (AY CP) q 'l',getElem?_neg (AY st) q 'l']
 have hz:i+1<((DI st).setIfInBounds i (sa,na+nb,pa)).size:=by rw[MH];exact hi
 refine h CP {hB,?_,R.le} ?_ λq hq=>bO q (.inr 'l')
 .rw[hp,WJ,dif_pos hz,Array.toList_eraseIdx,UP]
  exact(R.cov.at (x':=AY CP) (i:=i) (by rw[C3];exact e1) (by rw[C3];exact e2)).2.2.2 bO sg
 .rw[hp,WJ,dif_pos hz,Array.size_eraseIdx,MH]
  lia
theorem yII{α:Type}{T:Nat->StateT BP TC α}{M:Model}{A:DP}{E:AI->AT->Prop}{s:AT}{Q:α->BP->Prop}{NU:Prop}(P:Nat->BP->Prop)(h1:(∀n st,P n st->NY M A E s (T n) Q st)->NU)(h2:∀n st,P n st->NY M A E s (T n) Q st):NU:=h1 h2
theorem zLG{st:BP}{Q:Unit->BP->Prop}(hA:W3 prog w A s kd BU L)(O:Ord L BU)(hB:SB BU kd st)(hp:DI st=#[])
  (h:∀CP,SB BU kd CP->Seg L (AY CP) 0 BU.size->Q () CP):NY (A6 prog w) A E s sortRuns' Q st:=by
 rw[sortRuns'_eq];refine BI (NG ?_);dsimp only;rw[hB.size]
 refine BI (JL (FV (I:=λx c CP=>∃lo,c=(AN,lo)/\SRO L BU kd lo CP/\x<=lo)
  (Q:=λc CP=>∃lo,c=(AN,lo)/\SRO L BU kd lo CP/\BU.size<=lo) ?step ((λc CP q0=>by obtain⟨lo,e,R,hx⟩:=q0;exact{lo,e,R,AX (ND _ _) hx})) {0,rfl,{hB,by rw[hp];rfl,BY _},AL _}) ?post)
 case step =>
  rintro x c CP _ hx ⟨lo,rfl,R,gA⟩;dsimp only;refine LP (λq=>?_) (λq=>?_)
  .exact BE {lo,rfl,R,q}
  refine BI (zLF hA O 'l' 'l' R.sb λm st2 k2 X6 X5 Iz=>?_);have R2:SRO L BU kd lo st2:={k2.1.1,by rw[k2.1.2];exact R.cov.keep λq hq=>k2.2 q hq,R.le};dsimp only
  refine yII (λm KW=>SRO L BU kd lo KW/\Seg L (AY KW) lo m/\1<=m/\lo+m<=BU.size) (λK=>by
   refine LP (λIU=>?_) (λIU=>?_)
   case refine_2 =>
    have hP:SRO L BU kd lo st2/\Seg L (AY st2) lo m/\1<=m/\lo+m<=BU.size:={R2,Iz,X6,by lia}
    revert hP
    generalize m=m';exact λhP=>K m' _ hP
   case refine_1 =>
    refine BI (QM (E4 {rfl,?_}));refine BI (zHT hA O 'l' 'l' 'l' R2.sb Iz λKW hB3 hp3 rH ho3=>?_)
    exact K _ _ {{hB3,by rw[hp3];exact R2.cov.keep λq hq=>ho3 q hq,R2.le},rH,by lia,by lia}) ?_
  clear Iz k2 R2 X6 X5;rintro m KW ⟨R3,rH,X6,X5⟩;refine BI (NG ?_);split
  .rename_i s1 n1 p1 hb
   refine BI (JL (FV (I:=λ_ c CP=>c=(AN,())/\SRO L BU kd lo CP/\Seg L (AY CP) lo _) (Q:=λc CP=>c=(AN,())/\SRO L BU kd lo CP/\Seg L (AY CP) lo _) ?st1 (λ_ _ h=>h) {rfl,R3,rH}) ?po1)
   case po1 =>
    rintro c i6 ⟨rfl,R4,uU⟩;refine BI (MQ (BI (MQ (BE {_,rfl,{{R4.sb.perm,R4.sb.kind,R4.sb.failed},?_,X5},EI gA X6}))));show CovO L (AY i6) (Array.push _ _).toList 0 _;rw[FD];refine CovO.snoc ?_ (X6) uU;show CovO L (AY i6) (Array.modify _ _ _).toList 0 lo;rw[Array.toList_modify];exact R4.cov.modify
   case st1 =>
    rintro y c i6 _ _ ⟨rfl,R4,uU⟩;refine BI (NG ?_)
    by_cases hz:(DI i6).size>1
    .rw[if_pos hz,getElem?_pos (DI i6) ((DI i6).size-2) 'l']
     refine LP (λ_=>?_) (λ_=>?_)
     .exact BE {rfl,R4,uU}
     refine BI (Uj hA O R4 'l' λi5 R5 _ ho5=>?_);exact BE {rfl,R5,uU.keep λq hq _=>ho5 q hq}
    .rw[if_neg hz]
     exact BE {rfl,R4,uU}
  .refine BI (MQ (BE {_,rfl,{{R3.sb.perm,R3.sb.kind,R3.sb.failed},?_,X5},EI gA X6}))
   show CovO L _ (Array.push _ _).toList 0 _;rw[FD];exact R3.cov.snoc (X6) rH
 case post =>
  rintro c CP ⟨lo,rfl,R,hlo⟩;dsimp only;have T9:=R.le;have elo:lo=BU.size:=by lia
  subst elo;have hpz:=R.cov.len;refine BI (JL (FV (I:=λy c CP=>c=(AN,())/\SRO L BU kd BU.size CP/\(DI CP).size+y<=BU.size+1) (Q:=λc CP=>c=(AN,())/\SRO L BU kd BU.size CP/\(DI CP).size<=1) ?st2 ((λc CP q0=>by obtain⟨e,R,hs⟩:=q0;exact{e,R,by lia})) {rfl,R,by simp at hpz;lia}) ?po2)
  case po2 =>
   rintro c i6 ⟨rfl,R4,h4⟩;exact BE (h _ R4.sb (R4.cov.last (by simpa using h4)))
  case st2 =>
   rintro y c i6 _ _ ⟨rfl,R4,h4⟩;refine BI (NG ?_);refine LP (λhz=>?_) (λhz=>?_)
   .exact BE {rfl,R4,hz}
   refine BI (Uj hA O R4 ?_ λi5 R5 hs5 _=>?_)
   .exact AS (Nat.add_le_add_right (yCS (n:=(DI i6).size-2) (C7 _ _) (AL _)) 1) 'l'
   .exact BE {rfl,R5,by lia}
end
end TS
namespace TS
open PySem PySem.W PyProof.Rows
theorem yCY{vs:List AI}{LV:AI->AI->Bool}{xs:Array BD}(hp:xs.Perm (HW vs))(sg:Seg (λx y=>LV x.1 y.1) xs 0 (HW vs).size):(xs.map (·.2)).toList.Pairwise λx y=>LV y x=AD:=by
 rw[Array.toList_map,D0,B0];intro i j hi hj K3;have hz:=hp.size_eq;have SW:i<xs.size:=by simpa using hi
 have bP:j<xs.size:=by simpa using hj
 have z:=sg i j bP K3 (BY _) 'o'
 have same:∀x∈xs,x.1=x.2:=λx hx=>by
  have h1:x∈HW vs:=hp.mem_iff.mp hx;have h2:x∈vs.zip vs:=by rw[<-QR];exact GU.mpr h1
  exact(mem_zip_self h2).1
 have e1:=same _ (AH SW);have e2:=same _ (AH bP);simp only[e1,e2] at z;simpa using z
section
variable{prog:CO}{w:D2}{A:DP}{E:AI->AT->Prop}{s:AT}
theorem zUB{a:AR}{vs:List AI}{n:Nat}{R:eT->AT->Prop}{LV:AI->AI->Bool}(O:Ord (λx y=>LV x.1 y.1) (HW vs))(ho:s.heap.get? a=AA (D9 "list" vs.toArray n))(hz:vs.length<=sizeLine)
  (hk:∀h6:D3,(∀b o,b≠a->s.heap.get? b=AA o->h6.get? b=AA o)->2<=vs.length->A0 (A6 prog w) A (keyKind' vs.toArray) (λk s'=>s'={ s with heap:=h6 }/\W3 prog w A s' k (HW vs) (λx y=>LV x.1 y.1)) E { s with heap:=h6 })
  (h:∀out:List AI,out.Perm vs->(out.Pairwise λx y=>LV y x=AD)->R (.done (.ret .none)) { s with heap:=sortedHeap s.heap a vs out.toArray }):A0 (A6 prog w) A (ES.«list.sort» {[.ref a],[]}) R E s:=by
 have la:a<s.heap.objs.size:=A9 ho;have zs:vs.toArray.size<=sizeLine:=by simpa using hz
 rw[list_sort_plain];refine AB (eO ho rfl (AB (N1 ho rfl ?_ zs (BY _))));have g1:=XW ho (λ_=>#[]);generalize Lg:s.heap.update a (C6 λ_=>#[])=h1 at g1;have z1:h1.objs.size=s.heap.objs.size:=by rw[<-Lg,M8]
 have o1:∀b o,b≠a->s.heap.get? b=AA o->h1.get? b=AA o:=λb o hb e=>by rw[<-Lg,PF _ _ _ _ hb];exact e
 refine AB (WS g1 rfl (AB (MR (AB (R1 (DQ ?_))) (by simpa using hz))));generalize Zm:(h1.push (D9 "tuple" vs.toArray 0)).push (D9 "list" #[] 0)=h6;have vF:∀b o,h1.get? b=AA o->h6.get? b=AA o:=λb o e=>by rw[<-Zm];exact AG _ (AG _ e)
 have g6:=vF _ _ g1
 have fin:∀CP:BP,(AY CP).Perm (HW vs)->Seg (λx y=>LV x.1 y.1) (AY CP) 0 (HW vs).size->R (.done (.ret .none)) { s with heap:=h6.update a (C6 λ_=>(AY CP).map (·.2)) }:=λCP hp sg=>by
  have q:=h _ (zK6 hp) (yCY hp sg);unfold sortedHeap at q;rw[Lg,Zm,Array.toArray_toList] at q;exact q
 have Xy:∀CP:BP,(AY CP).Perm (HW vs)->((AY CP).map (·.2)).size<=sizeLine+1:=λCP hp=>by
  rw[Array.size_map,hp.size_eq,pairsOf_size];omega
 by_cases h2:vs.toArray.size<2
 .rw[if_pos h2,if_pos h2]
  refine AB (wpAny_pure ?_);dsimp only;rw[StateT.run_pure];refine AB (wpAny_pure (AB (WS g6 rfl ?_)));refine AB (N1 g6 rfl ?_ (BY _) (Xy (TR general' (HW vs) #[] 7 AN) (QB _)));simp only[bne_self_eq_false,DT,if_false];exact wpAny_pure (fin (TR general' (HW vs) #[] 7 AN) (QB _) (λp q hq NR hp oE=>by rw[pairsOf_size] at oE;simp at h2;omega))
 .rw[if_neg h2,if_neg h2]
  refine AB (DA (hk h6 (λb o hb e=>vF b o (o1 b o hb e)) (by simpa using h2)) (λk s7 ⟨e7,ask⟩=>?_) λ_ _ e=>e);subst e7;refine AB (DA (zLG (st:=TR k (vs.toArray.zip vs.toArray) #[] 7 AN) (Q:=λ_ CP=>SB (HW vs) k CP/\Seg (λx y=>LV x.1 y.1) (AY CP) 0 (HW vs).size) ask O {QB _,rfl,rfl} rfl λCP b sg=>{b,sg}) ?_ λ_ _ e=>e);rintro⟨⟨⟩,CP⟩ s8 ⟨e8,B,sg⟩;subst e8;dsimp only;refine AB (WS g6 rfl (AB (N1 g6 rfl ?_ (BY _) (Xy CP B.perm))));rw[B.failed];simp only[bne_self_eq_false,DT,if_false];exact wpAny_pure (fin CP B.perm sg)
theorem sorted_inO{l:AR}{vs:List AI}{Q:AI->AT->Prop}{LV:AI->AI->Bool}(O:Ord (λx y=>LV x.1 y.1) (HW vs))(hl:s.heap.IsList l vs.toArray)(hz:vs.length<=sizeLine)
  (hk:∀h6:D3,(∀b o,s.heap.get? b=AA o->h6.get? b=AA o)->2<=vs.length->∀E',A0 (A6 prog w) A.in1.in1 (keyKind' vs.toArray) (λk s'=>s'={ s with heap:=h6 }/\W3 prog w A.in1.in1 s' k (HW vs) (λx y=>LV x.1 y.1)) E' { s with heap:=h6 })
  (h:∀out:List AI,out.Perm vs->(out.Pairwise λx y=>LV y x=AD)->Q (.ref (s.heap.objs.size+1)) { s with heap:=sortedAll s.heap vs out.toArray }):A0 (A6 prog w) A (call (.builtin "sorted") [.ref l]) Q E s:=by
 refine U8 kind_sorted plain_sorted entry_sorted (args_sorted1 _) ?_;unfold ES.«sorted»;refine AB (m:=checkCount "sorted" 1 1 _) (wpAny_pure (AB (collect_list hl (AB (R1 ?_ hz)) hz)))
 have II:∀b o,s.heap.get? b=AA o->((s.heap.push (D9 "list" #[] 0)).update s.heap.objs.size (C6 (·++vs.toArray))).get? b=AA o:=λb o e=>by
  rw[PF _ _ _ _ (BZ (A9 e))];exact AG _ e
 have z2:((s.heap.push (D9 "list" #[] 0)).update s.heap.objs.size (C6 (·++vs.toArray))).objs.size=s.heap.objs.size+1:=by rw[M8,Y1]
 generalize hh2:(s.heap.push (D9 "list" #[] 0)).update s.heap.objs.size (C6 (·++vs.toArray))=h2 at II z2;have gL:(h2.push (D9 "list" vs.toArray 0)).get? h2.objs.size=AA (D9 "list" vs.toArray 0):=AW _ rfl;show A0 _ _ _ _ _ { s with heap:=h2.push (D9 "list" vs.toArray 0) };refine AB (DQ (C8 slot_list_sort {_,gL,rfl} entry_list_sort (zUB O gL hz (λh6 o6 V8=>?_) λout ho gE=>{_,rfl,?_}) (args_list_sort _)))
 .exact hk h6 (λb o e=>o6 b o (by rw[z2];exact BZ (IA (A9 e))) (AG _ (II b o e))) V8 _
 .have q:=h out ho gE
  unfold sortedAll at q;rw[hh2,<-z2] at q;exact wpAny_pure {_,rfl,q}
end
end TS
variable{β:Type}{F F' H₀ F1 F2:L2.Hp}{vs:List L2.V}{τ:AR}{σ':L2.St}{UY YN:AR->Prop}{is:List Nat}{D':L2.Ends}{np:Nat}{xn:CN}{i8:YA}{ps qs:List (Int×Int)}{kx:CU}{cv:AI}
namespace L2
open PySem PySem.Spec PyProof.Rows
theorem zY0(BU:Array BD):TS.Ord (λx y=>decide (bR x.1<bR y.1)) BU where
 asym:=λx y _ _ h=>by
  have:=of_decide_eq_true h;exact decide_eq_false 'o'
 trans:=λx y z _ _ _ h1 h2=>by
  have a:=of_decide_eq_false h1;have b:=of_decide_eq_false h2;exact decide_eq_false 'o'
theorem zY1(h:FX us ns)(p:us.Pairwise λx y=>decide (bR y<bR x)=AD):ns.Pairwise (·<=·):=by
 rw[<-h.nums,D0];exact p.imp λh=>by have:=of_decide_eq_false h;omega
theorem yCZ:∀{l:List α},2<=l.length->∃a b r,l=a::b::r
 |a::b::r,_=>{a,b,r,rfl}
 |[],h=>by simp at h
 |[_],h=>by simp at h
theorem T8:CallR X (.builtin "sorted") (λxs H Q=>∃(l:AR) (ns:List Int),xs=[.ref l]/\SqL X.K H l (ns.map V.int)/\∀(ms:List Int) (q:AR),ms.Perm ns->ms.Pairwise (·<=·)->H q=AN->Q (.ref q) (D5 H q (.lst (ms.map V.int)))):=by
 intro AF s σ H xs us Q I r h;obtain⟨l,ns,rfl,hl,q⟩:=h;obtain⟨u,rfl,ru⟩:=W5 r;cases ru;obtain⟨CI,rv,pl,z⟩:=I.list hl;have ET:=rv.length;have hi:FX CI ns:=iN rv;refine TS.sorted_inO (LV:=λx y=>decide (bR x<bR y)) (zY0 _) pl.isList (by rw[<-ET];exact z) (λh6 o6 h2 E'=>?_) λout ho gE=>?_
 .obtain⟨v1,v2,vr,rfl⟩:=yCZ h2
  rw[keyKind_ints hi];refine wpAny_pure {rfl,λx y hx hy Q' E2 hq=>?_}
  have mem:∀x:BD,x∈HW (v1::v2::vr)->∃n t,x.1=.int n t:=λx hx=>by
   have:x∈(v1::v2::vr).zip (v1::v2::vr):=by rw[<-QR];exact GU.mpr hx
   obtain⟨i,SW,ei⟩:=OO.mp (JB this).1;obtain⟨t,et⟩:=TH hi i x.1 (by rw[A7 SW,ei]);exact{_,t,et}
  obtain⟨n1,t1,e1⟩:=mem x hx;obtain⟨n2,t2,e2⟩:=mem y hy;dsimp only at hq;rw[e1,e2] at hq ⊢;exact PySem.W.kat_lt_int hq
 .obtain⟨zs,p,rz⟩:=Vals.perm ho rv
  obtain⟨e',xA⟩:=sortedAll_at s.heap CI out.toArray;have hf:H (s.heap.objs.size+1)=AN:=I.hok.fresh (KR _);obtain⟨ms,rfl,pm⟩:=zQ2 p ns rfl;refine{.ref (s.heap.objs.size+1),_,I.laid (t':=s.toks) (o:=.lst (ms.map V.int)) (λb o hb=>sortedAll_old hb) (KR _) {?_,out,e',rz,xA},rfl,q ms _ pm (zY1 (iN rz) gE) hf};rw[p.length_eq];exact z
noncomputable def kK(h:D3):AI->Int×Int
 |.ref p=>match h.get? p with
  |some o=>match o.data with
   |.seq xs _=>(bR (xs.getD 0 .none),bR (xs.getD 1 .none))
   |_=>(0,0)
  |none=>(0,0)
 |_=>(0,0)
def T7(a b:Int×Int):Bool:=decide (a.1<b.1\/a.1=b.1/\a.2<b.2)
theorem zUC(h:D3)(BU:Array BD):TS.Ord (λx y=>T7 (kK h x.1) (kK h y.1)) BU where
 asym:=λx y _ _ e=>by
  have:=of_decide_eq_true e;exact decide_eq_false 'o'
 trans:=λx y z _ _ _ h1 h2=>by
  have a:=of_decide_eq_false h1;have b:=of_decide_eq_false h2;exact decide_eq_false 'o'
def Prs(H:Hp)(ys:List V)(ps:List (Int×Int)):Prop:=Paired (λ(z:V) (p:Int×Int)=>∃q,z=.ref q/\H q=AA (.tup [.int p.1,.int p.2])) ys ps
theorem zUD{b fin:Bool}{Q:Bool->AT->Prop}{x1 y1 x2 y2:Int}{t1 t2 t3 t4:eP}(hf:fin=AD)(hq:Q (T7 (x1,y1) (x2,y2)) s):PySem.W.KatLex prog w A b fin Q [(.int x1 t1,.int x2 t2),(.int y1 t3,.int y2 t4)] 0 s:=by
 have KC:∀{i:Nat} {u v:Int} {t t':eP},Q (decide (u<v)) s->A0 (A6 prog w) A (oneLt' (b&&i==0) (.int u t) (.int v t')) Q (λ_ _=>False) s:=λ{i u v t t'} h=>by
  cases hb:(b&&i==0) with
  |true=>exact oneLt_int h
  |false=>exact PySem.W.kat_one _ _ (lt_int h)
 refine aM (WE (eS (λh1=>bY (aM (WE (eS (λh2=>bY (PySem.W.kat_nil ?_)) λh2=>eR (KC ?_))))) λh1=>eR (KC ?_)))
 .have e1:x1=x2:=by simpa using h1
  have e2:y1=y2:=by simpa using h2
  subst e1;subst e2;rw[hf];have:T7 (x1,y1) (x1,y1)=AD:=decide_eq_false 's';rw[this] at hq;exact hq
 .have e1:x1=x2:=by simpa using h1
  subst e1;have:T7 (x1,y1) (x1,y2)=decide (y1<y2):=by unfold T7;simp
  rw[this] at hq;exact hq
 .have e1:¬x1=x2:=by simpa using h1
  have:T7 (x1,y1) (x2,y2)=decide (x1<x2):=by unfold T7;simp[e1]
  rw[this] at hq;exact hq
theorem Prs.perm(p:zs.Perm ys):∀{ps:List (Int×Int)},Prs H ys ps->∃qs,qs.Perm ps/\Prs H zs qs:=by
 induction p with
 |nil=>intro ps r;cases r;exact{[],GB _,.nil}
 |cons a _ ih =>
  intro ps r
  cases r with
  |cons h t =>
   obtain⟨qs,q,r'⟩:=ih t;exact{_::qs,q.cons _,.cons h r'}
 |swap a b l =>
  intro ps r
  cases r with
  |cons h t =>
   cases t with
   |cons h' t'=>exact{_::_::_,HQ _ _ _,.cons h' (.cons h t')}
 |trans _ _ bJ ih2 =>
  intro ps r;obtain⟨qs,q,r'⟩:=ih2 r;obtain⟨us,q',uY⟩:=bJ r';exact{us,q'.trans q,uY}
theorem Oo(I:Inv X AF σ H s):∀{ys:List V} {us:List AI} {ps:List (Int×Int)},Vals ys us->Prs H ys ps ->
  (∀y∈ys,Nz H y)/\us.map (kK s.heap)=ps/\∀u∈us,∃(p:AR) (o:HL) (k:Nat) (x y:Int) (t1 t2:eP),u=.ref p/\s.heap.get? p=AA o/\o.data=.seq #[.int x t1,.int y t2] k/\kK s.heap u=(x,y)
  := by
 intro ys
 induction ys with
 |nil=>intro us ps h1 h2;cases h1;cases h2;exact{(λy hy=>nomatch hy),rfl,(λu hu=>nomatch hu)}
 |cons y0 ys ih =>
  intro us ps h1 h2
  cases h1 with
  |cons r t =>
  cases h2 with
  |@cons _ pp _ _ pr t' =>
  obtain⟨q,e,hq⟩:=pr;obtain⟨i1,i2,i3⟩:=ih t t';subst e;cases r;obtain⟨CI,rv,tp,_⟩:=I.tuple (SqT.of (K:=X.K) hq);have hi:FX CI [pp.1,pp.2]:=iN (ns:=[pp.1,pp.2]) rv;obtain⟨o,ho,hc,k,hd⟩:=tp
  obtain⟨t1,t2,rfl⟩:∃t1 t2,CI=[.int pp.1 t1,.int pp.2 t2]:=by
   cases hi with
   |cons _ t1 h2 =>
    cases h2 with
    |cons _ t2 h3=>cases h3;exact{t1,t2,rfl}
  have e2:kK s.heap (.ref q)=(pp.1,pp.2):=by
   unfold kK;simp only[ho,hd]
   rfl
  refine{λy hy=>?_,?_,λv hv=>?_}
  .rcases A2.mp hy with rfl|hy
   .exact{q,pp.1,[pp.2],rfl,hq}
   .exact i1 y hy
  .rw[AU,i2,e2]
  .rcases A2.mp hv with rfl|hv
   .exact{q,o,k,pp.1,pp.2,t1,t2,rfl,ho,hd,e2}
   .exact i3 v hv
theorem zI9:CallR X (.builtin "sorted") (λxs H Q=>∃(l:AR) (ys:List V) (ps:List (Int×Int)),xs=[.ref l]/\SqL X.K H l ys/\Prs H ys ps/\∀(zs:List V) (qs:List (Int×Int)) (q:AR),zs.Perm ys->Prs H zs qs->qs.Perm ps->(qs.Pairwise λa b=>T7 b a=AD)->H q=AN->Q (.ref q) (D5 H q (.lst zs))):=by
 intro AF s σ H xs us Q I r h;obtain⟨l,ys,ps,rfl,hl,oF,q⟩:=h;obtain⟨u,rfl,ru⟩:=W5 r;cases ru;obtain⟨CI,rv,pl,z⟩:=I.list hl;have ET:=rv.length;obtain⟨ht,e0,at0⟩:=Oo I rv oF;obtain⟨fs,f1,f2,f3,f4⟩:=Py I rv ht;refine TS.sorted_inO (LV:=λx y=>T7 (kK s.heap x) (kK s.heap y)) (zUC _ _) pl.isList (by rw[<-ET];exact z) (λh6 o6 h2 E'=>?_) λout ho gE=>?_
 .refine PySem.W.kat_kind (T:=.type "int") (Sz o6 f2) (by rw[f1];omega) (λv hv=>?_) 'd' {rfl,λx y hx hy Q' E2 hq=>?_}
  .obtain⟨n,t,rfl⟩:=f3 v hv
   exact PySem.W.Looks.now
  .have mem:∀x:BD,x∈HW CI->x.1∈CI:=λx hx=>by
    have:x∈CI.zip CI:=by rw[<-QR];exact GU.mpr hx
    exact(JB this).1
   obtain⟨p1,o1,k1,x1,y1,t1,t2,e1,rR,hd1,ep1⟩:=at0 _ (mem x hx);obtain⟨p2,o2,k2,x2,y2,t3,t4,e2,ZM,gK,ep2⟩:=at0 _ (mem y hy);dsimp only at hq;rw[ep1,ep2] at hq;rw[e1,e2];exact PySem.W.kat_lt (o6 _ _ rR) hd1 (o6 _ _ ZM) gK (zUD rfl hq)
 .obtain⟨zs,p,rz⟩:=Vals.perm ho rv
  obtain⟨qs,pq,jB⟩:=Prs.perm p oF;obtain⟨_,e3,_⟩:=Oo I rz jB;obtain⟨e',xA⟩:=sortedAll_at s.heap CI out.toArray;have hf:H (s.heap.objs.size+1)=AN:=I.hok.fresh (KR _)
  have pw:qs.Pairwise λa b=>T7 b a=AD:=by
   rw[<-e3,D0];exact gE
  refine{.ref (s.heap.objs.size+1),_,I.laid (t':=s.toks) (o:=.lst zs) (λb o hb=>sortedAll_old hb) (KR _) {?_,out,e',rz,xA},rfl,q zs qs _ p jB pq pw hf};rw[p.length_eq];exact z
inductive D where
 |non|bl (b:Bool)|int (i:Int)|str (x:CN)|tup (xs:List D)|lst (xs:List D)
 |dk (kvs:List (Key×D))|dt (kvs:List (List Int×D))
inductive Out(α:Type) where
 |ok (a:α)|exc (c:Nat)|bad
noncomputable def Out.bind:Out α->(α->Out β)->Out β
 |.ok a,f=>f a
 |.exc c,_=>.exc c
 |.bad,_=>.bad
theorem pA3{x:Out α}{f:α->Out β}{b:β}(h:x.bind f=.ok b):∃a,x=.ok a/\f a=.ok b:=by
 cases x with
 |ok a=>exact{a,rfl,h}
 |exc c=>cases h
 |bad=>cases h
inductive Sl where
 |no|val (d:D)|own (t:Bool) (d:D)
abbrev Ev:=List Sl
def sJ:HO->Prop
 |.dK _=>True
 |.dT _=>True
 |_=>False
def Le(F F':Hp):Prop:=∀a u,F a=AA u->F' a=AA u\/(sJ u/\∃o,F' a=AA (.frz o u))\/∃t ps bI,u=.tbl t ps/\F' a=AA (.tbl t bI)
theorem Le.refl(F:Hp):Le F F:=λ_ _ h=>.inl h
theorem Le.trans{G:Hp}(x:Le F G)(y:Le G H):Le F H:=λa u e=>by
 rcases x a u e with h|⟨hd,o,h⟩|⟨t,ps,bI,rfl,h⟩
 .exact y a u h
 .rcases y a _ h with h|⟨wW,_⟩|⟨_,_,_,z,_⟩
  .exact .inr (.inl {hd,o,h})
  .exact wW.elim
  .cases z
 .rcases y a _ h with h|⟨wW,_⟩|⟨_,_,_,z,h⟩
  .exact .inr (.inr {_,_,_,rfl,h})
  .exact wW.elim
  .cases z;exact .inr (.inr {_,_,_,rfl,h})
theorem Le.rd(l:Le F F'){u:HO}(h:Rd F a u)(hu:∀t ps,u≠.tbl t ps:=by intro _ _ z;cases z):Rd F' a u:=by
 rcases h with h|⟨o,h⟩
 .rcases l a u h with h|⟨_,o,h⟩|⟨_,_,_,z,_⟩
  .exact .inl h
  .exact .inr {o,h}
  .exact absurd z (hu _ _)
 .rcases l a _ h with h|⟨hd,_⟩|⟨_,_,_,z,_⟩
  .exact .inr {o,h}
  .exact hd.elim
  .cases z
theorem Le.tup{F F':Hp}(l:Le F F'){a:AR}{vs:List V}(h:F a=AA (.tup vs)):F' a=AA (.tup vs):=by
 rcases l a _ h with h|⟨hd,_⟩|⟨_,_,_,z,_⟩
 .exact h
 .exact hd.elim
 .cases z
theorem Le.of_gr(g:Gr F F'):Le F F':=λa u e=>.inl (g a u e)
mutual
inductive Rep(K:AC)(F:Hp):V->D->Prop
 |non:Rep K F .non .non
 |bl (b:Bool):Rep K F (.bl b) (.bl b)
 |int (i:Int):Rep K F (.int i) (.int i)
 |str (x:CN):Rep K F (.str x) (.str x)
 |tup {a:AR} {vs:List V} {ds:List D}:F a=AA (.tup vs)->Reps K F vs ds->Rep K F (.ref a) (.tup ds)
 |tupK {a:AR} {xs:List CN}:SqT K (λ_=>AN) a (xs.map V.str)->xs≠[]->Rep K F (.ref a) (.tup (xs.map D.str))
 |lst {a:AR} {vs:List V} {ds:List D}:SqL K F a vs->Reps K F vs ds->Rep K F (.ref a) (.lst ds)
 |dk {a:AR} {kvs:List (Key×V)} {ds:List (Key×D)}:Rd F a (.dK kvs)->RepK K F kvs ds->Rep K F (.ref a) (.dk ds)
 |dt {a:AR} {kvs:List (List Key×V)} {ds:List (List Int×D)}:Rd F a (.dT kvs)->RepT K F kvs ds->Rep K F (.ref a) (.dt ds)
inductive Reps(K:AC)(F:Hp):List V->List D->Prop
 |nil:Reps K F [] []
 |cons {v:V} {d:D} {vs:List V} {ds:List D}:Rep K F v d->Reps K F vs ds->Reps K F (v::vs) (d::ds)
inductive RepK(K:AC)(F:Hp):List (Key×V)->List (Key×D)->Prop
 |nil:RepK K F [] []
 |cons {k:Key} {v:V} {d:D} {vs:List (Key×V)} {ds:List (Key×D)}:Rep K F v d->RepK K F vs ds->RepK K F ((k,v)::vs) ((k,d)::ds)
inductive RepT(K:AC)(F:Hp):List (List Key×V)->List (List Int×D)->Prop
 |nil:RepT K F [] []
 |cons {k:List Int} {v:V} {d:D} {vs:List (List Key×V)} {ds:List (List Int×D)}:Rep K F v d->RepT K F vs ds->RepT K F ((k.map CQ,v)::vs) ((k,d)::ds)
end
section
variable{K:AC}
theorem Rep.ind{P:V->D->Prop}{Q:List V->List D->Prop}{R:List (Key×V)->List (Key×D)->Prop}{T:List (List Key×V)->List (List Int×D)->Prop}
  (h1:P .non .non) (h2:∀b,P (.bl b) (.bl b)) (h3:∀i,P (.int i) (.int i)) (h4:∀x,P (.str x) (.str x))
  (h5:∀{a vs ds},F a=AA (.tup vs)->Reps K F vs ds->Q vs ds->P (.ref a) (.tup ds)) (h6:∀{a xs},SqT K (λ_=>AN) a (xs.map V.str)->xs≠[]->P (.ref a) (.tup (xs.map D.str)))
  (h7:∀{a vs ds},SqL K F a vs->Reps K F vs ds->Q vs ds->P (.ref a) (.lst ds)) (h8:∀{a kvs ds},Rd F a (.dK kvs)->RepK K F kvs ds->R kvs ds->P (.ref a) (.dk ds)) (h9:∀{a kvs ds},Rd F a (.dT kvs)->RepT K F kvs ds->T kvs ds->P (.ref a) (.dt ds))
  (q1:Q [] []) (q2:∀{v d vs ds},Rep K F v d->Reps K F vs ds->P v d->Q vs ds->Q (v::vs) (d::ds))
  (r1:R [] []) (r2:∀{k v d vs ds},Rep K F v d->RepK K F vs ds->P v d->R vs ds->R ((k,v)::vs) ((k,d)::ds))
  (t1:T [] []) (t2:∀{k:List Int} {v d vs ds},Rep K F v d->RepT K F vs ds->P v d->T vs ds->T ((k.map CQ,v)::vs) ((k,d)::ds)) :
  (∀{v d},Rep K F v d->P v d)/\(∀{vs ds},Reps K F vs ds->Q vs ds)/\(∀{vs ds},RepK K F vs ds->R vs ds)/\∀{vs ds},RepT K F vs ds->T vs ds :=
 {λh=>Rep.rec (motive_1:=λv d _=>P v d) (motive_2:=λv d _=>Q v d) (motive_3:=λv d _=>R v d) (motive_4:=λv d _=>T v d) h1 h2 h3 h4 h5 h6 h7 h8 h9 q1 q2 r1 r2 t1 t2 h,
  λh=>Reps.rec (motive_1:=λv d _=>P v d) (motive_2:=λv d _=>Q v d) (motive_3:=λv d _=>R v d) (motive_4:=λv d _=>T v d) h1 h2 h3 h4 h5 h6 h7 h8 h9 q1 q2 r1 r2 t1 t2 h,
  λh=>RepK.rec (motive_1:=λv d _=>P v d) (motive_2:=λv d _=>Q v d) (motive_3:=λv d _=>R v d) (motive_4:=λv d _=>T v d) h1 h2 h3 h4 h5 h6 h7 h8 h9 q1 q2 r1 r2 t1 t2 h,
  λh=>RepT.rec (motive_1:=λv d _=>P v d) (motive_2:=λv d _=>Q v d) (motive_3:=λv d _=>R v d) (motive_4:=λv d _=>T v d) h1 h2 h3 h4 h5 h6 h7 h8 h9 q1 q2 r1 r2 t1 t2 h}
theorem pA4(l:Le F F'):(∀{v d},Rep K F v d->Rep K F' v d)/\(∀{vs ds},Reps K F vs ds->Reps K F' vs ds)/\(∀{vs ds},RepK K F vs ds->RepK K F' vs ds)/\∀{vs ds},RepT K F vs ds->RepT K F' vs ds :=
 Rep.ind .non .bl .int .str (λh _ r=>.tup (l.tup h) r) (λh n=>.tupK h n) (λh _ r=>.lst (h.imp (λz=>l.rd z) id) r) (λh _ r=>.dk (l.rd h) r) (λh _ r=>.dt (l.rd h) r) .nil (λ_ _ h r=>.cons h r) .nil (λ_ _ h r=>.cons h r) .nil (λ_ _ h r=>.cons h r)
theorem Rep.le(l:Le F F'){d:D}(r:Rep K F v d):Rep K F' v d:=(pA4 l).1 r
theorem Reps.le(l:Le F F'){v:List V}{d:List D}(r:Reps K F v d):Reps K F' v d:=(pA4 l).2.1 r
theorem RepK.le(l:Le F F'){v:List (Key×V)}{d:List (Key×D)}(r:RepK K F v d):RepK K F' v d:=(pA4 l).2.2.1 r
theorem RepT.le(l:Le F F'){v:List (List Key×V)}{d:List (List Int×D)}(r:RepT K F v d):RepT K F' v d:=(pA4 l).2.2.2 r
theorem Rep.vI{i:Int}(r:Rep K F v (.int i)):v=.int i:=by cases r;rfl
theorem Rep.vB{b:Bool}(r:Rep K F v (.bl b)):v=.bl b:=by cases r;rfl
theorem Rep.vS(r:Rep K F v (.str x)):v=.str x:=by cases r;rfl
theorem Rep.vN(r:Rep K F v .non):v=.non:=by cases r;rfl
theorem Reps.rec1{Q:List V->List D->Prop}(q1:Q [] [])(q2:∀{v d vs ds},Rep K F v d->Reps K F vs ds->Q vs ds->Q (v::vs) (d::ds)){ds:List D}(h:Reps K F vs ds):Q vs ds :=
 (Rep.ind (P:=λ_ _=>True) (Q:=Q) (R:=λ_ _=>True) (T:=λ_ _=>True) trivial (λ_=>trivial) (λ_=>trivial) (λ_=>trivial) (λ_ _ _=>trivial) (λ_ _=>trivial) (λ_ _ _=>trivial) (λ_ _ _=>trivial) (λ_ _ _=>trivial) q1 (λh r _ ih=>q2 h r ih) trivial (λ_ _ _ _=>trivial) trivial (λ_ _ _ _=>trivial)).2.1 h
theorem RepK.rec1{R:List (Key×V)->List (Key×D)->Prop}(r1:R [] [])(r2:∀{k v d vs ds},Rep K F v d->RepK K F vs ds->R vs ds->R ((k,v)::vs) ((k,d)::ds)){vs:List (Key×V)}{ds:List (Key×D)}(h:RepK K F vs ds):R vs ds :=
 (Rep.ind (P:=λ_ _=>True) (Q:=λ_ _=>True) (R:=R) (T:=λ_ _=>True) trivial (λ_=>trivial) (λ_=>trivial) (λ_=>trivial) (λ_ _ _=>trivial) (λ_ _=>trivial) (λ_ _ _=>trivial) (λ_ _ _=>trivial) (λ_ _ _=>trivial) trivial (λ_ _ _ _=>trivial) r1 (λh r _ ih=>r2 h r ih) trivial (λ_ _ _ _=>trivial)).2.2.1 h
theorem RepT.rec1{T:List (List Key×V)->List (List Int×D)->Prop}(t1:T [] [])(t2:∀{k:List Int} {v d vs ds},Rep K F v d->RepT K F vs ds->T vs ds->T ((k.map CQ,v)::vs) ((k,d)::ds)){vs:List (List Key×V)}{ds:List (List Int×D)}(h:RepT K F vs ds):T vs ds :=
 (Rep.ind (P:=λ_ _=>True) (Q:=λ_ _=>True) (R:=λ_ _=>True) (T:=T) trivial (λ_=>trivial) (λ_=>trivial) (λ_=>trivial) (λ_ _ _=>trivial) (λ_ _=>trivial) (λ_ _ _=>trivial) (λ_ _ _=>trivial) (λ_ _ _=>trivial) trivial (λ_ _ _ _=>trivial) trivial (λ_ _ _ _=>trivial) t1 (λh r _ ih=>t2 h r ih)).2.2.2 h
theorem Reps.length{vs:List V}{ds:List D}(r:Reps K F vs ds):vs.length=ds.length :=
 r.rec1 (Q:=λvs ds=>vs.length=ds.length) rfl λ_ _ ih=>congrArg (·+1) ih
theorem Reps.append{ws:List V}{ds es:List D}(r:Reps K F vs ds)(s:Reps K F ws es):Reps K F (vs++ws) (ds++es) :=
 r.rec1 (Q:=λvs ds=>Reps K F (vs++ws) (ds++es)) s λh _ ih=>.cons h ih
theorem Reps.get{ds:List D}{d:D}(r:Reps K F vs ds):ds[i]?=AA d->∃v,vs[i]?=AA v/\Rep K F v d :=
 r.rec1 (Q:=λvs ds=>∀i,ds[i]?=AA d->∃v,vs[i]?=AA v/\Rep K F v d) (λ_ e=>by simp at e) (λh _ ih i e=>by
  cases i with
  |zero=>cases e;exact{_,rfl,h}
  |succ i=>exact ih i e) i
theorem Reps.set{vs:List V}{ds:List D}(i:Nat){v:V}{d:D}(r:Reps K F vs ds)(h:Rep K F v d):Reps K F (vs.set i v) (ds.set i d) :=
 r.rec1 (Q:=λvs ds=>∀i,Reps K F (vs.set i v) (ds.set i d)) (λ_=>.nil) (λq r ih i=>by
  cases i with
  |zero=>exact .cons h r
  |succ i=>exact .cons q (ih i)) i
theorem Reps.take{vs:List V}{ds:List D}(n:Nat)(r:Reps K F vs ds):Reps K F (vs.take n) (ds.take n) :=
 r.rec1 (Q:=λvs ds=>∀n,Reps K F (vs.take n) (ds.take n)) (λn=>by rw[List.take_nil,List.take_nil];exact .nil) (λq r ih n=>by
  cases n with
  |zero=>exact .nil
  |succ n=>exact .cons q (ih n)) n
theorem Reps.drop{vs:List V}{ds:List D}(n:Nat)(r:Reps K F vs ds):Reps K F (vs.drop n) (ds.drop n) :=
 r.rec1 (Q:=λvs ds=>∀n,Reps K F (vs.drop n) (ds.drop n)) (λn=>by rw[List.drop_nil,List.drop_nil];exact .nil) (λq r ih n=>by
  cases n with
  |zero=>exact .cons q r
  |succ n=>exact ih n) n
theorem Reps.eraseIdx{vs:List V}{ds:List D}(i:Nat)(r:Reps K F vs ds):Reps K F (vs.eraseIdx i) (ds.eraseIdx i) :=
 r.rec1 (Q:=λvs ds=>∀n,Reps K F (vs.eraseIdx n) (ds.eraseIdx n)) (λn=>.nil) (λq r ih n=>by
  cases n with
  |zero=>exact r
  |succ n=>exact .cons q (ih n)) i
theorem Reps.rep(n:Nat){ds:List D}(r:Reps K F vs ds):Reps K F (BG n vs).flatten (BG n ds).flatten:=by
 induction n with
 |zero=>exact .nil
 |succ n ih=>rw[EM,GV,EM,GV];exact r.append ih
theorem Reps.nil_iff{ds:List D}(r:Reps K F vs ds):vs=[]↔ds=[]:=by cases r<;>simp
theorem Reps.ints:∀ns:List Int,Reps K F (ns.map V.int) (ns.map D.int)
 |[]=>.nil
 |n::ns=>.cons (.int n) (Reps.ints ns)
theorem Reps.vint(r:Reps K F vs (ns.map D.int)):vs=ns.map V.int :=
 r.rec1 (Q:=λvs ds=>∀bs:List Int,ds=bs.map D.int->vs=bs.map V.int) (λbs e=>by cases bs with
  |nil=>rfl
  |cons=>cases e) (λh _ ih bs e=>by
  cases bs with
  |nil=>cases e
  |cons b bs=>cases e;rw[h.vI,ih bs rfl];rfl) ns rfl
theorem Reps.vbl{bs:List Bool}(r:Reps K F vs (bs.map D.bl)):vs=bs.map V.bl :=
 r.rec1 (Q:=λvs ds=>∀bs:List Bool,ds=bs.map D.bl->vs=bs.map V.bl) (λbs e=>by cases bs with
  |nil=>rfl
  |cons=>cases e) (λh _ ih bs e=>by
  cases bs with
  |nil=>cases e
  |cons b bs=>cases e;rw[h.vB,ih bs rfl];rfl) bs rfl
theorem pA5{bs:List CN}(r:Reps K F vs (bs.map D.str)):vs=bs.map V.str :=
 r.rec1 (Q:=λvs ds=>∀bs:List CN,ds=bs.map D.str->vs=bs.map V.str) (λbs e=>by cases bs with
  |nil=>rfl
  |cons=>cases e) (λh _ ih bs e=>by
  cases bs with
  |nil=>cases e
  |cons b bs=>cases e;rw[h.vS,ih bs rfl];rfl) bs rfl
end
def Sub(F H:Hp):Prop:=∀a u,F a=AA u->H a=AA u
theorem Sub.rd(s:Sub F H){u:HO}(h:Rd F a u):Rd H a u:=h.imp (s a u) (λq0=>by obtain⟨o,h⟩:=q0;exact{o,s a _ h})
def OwnAt(K:AC)(F H:Hp)(a:AR):D->Prop
 |.lst ds=>∃vs,H a=AA (.lst vs)/\Reps K F vs ds
 |.dk ds=>∃kvs,H a=AA (.dK kvs)/\RepK K F kvs ds
 |.dt ds=>∃kvs,H a=AA (.dT kvs)/\RepT K F kvs ds
 |_=>False
def kB:HO->Prop
 |.lst _=>True
 |.dK _=>True
 |.dT _=>True
 |_=>False
theorem OwnAt.ho{K:AC}{d:D}(h:OwnAt K F H a d):∃o,H a=AA o/\kB o:=by
 cases d with
 |lst ds=>obtain⟨vs,e,_⟩:=h;exact{_,e,trivial}
 |dk ds=>obtain⟨vs,e,_⟩:=h;exact{_,e,trivial}
 |dt ds=>obtain⟨vs,e,_⟩:=h;exact{_,e,trivial}
 |_=>exact h.elim
theorem OwnAt.mono{K:AC}{d:D}(h:OwnAt K F H a d)(l:Le F F')(e:H' a=H a):OwnAt K F' H' a d:=by
 cases d with
 |lst ds=>obtain⟨vs,q,r⟩:=h;exact{vs,e.trans q,r.le l}
 |dk ds=>obtain⟨vs,q,r⟩:=h;exact{vs,e.trans q,r.le l}
 |dt ds=>obtain⟨vs,q,r⟩:=h;exact{vs,e.trans q,r.le l}
 |_=>exact h.elim
theorem OwnAt.rep{K:AC}{d:D}(h:OwnAt K F H a d)(n:F a=AN)(eo:H a=AA o):Rep K (D5 F a o) (.ref a) d:=by
 have l:Le F (D5 F a o):=.of_gr (Gr.new n)
 cases d with
 |lst ds=>obtain⟨vs,q,r⟩:=h;rw[eo] at q;cases q;exact .lst (.inl (.inl HC)) (r.le l)
 |dk ds=>obtain⟨vs,q,r⟩:=h;rw[eo] at q;cases q;exact .dk (.inl HC) (r.le l)
 |dt ds=>obtain⟨vs,q,r⟩:=h;rw[eo] at q;cases q;exact .dt (.inl HC) (r.le l)
 |_=>exact h.elim
def ED(σ:St)(E:Ev)(a:AR):Prop:=∃(i:Nat) (t:Bool) (d:D),E[i]?=AA (Sl.own t d)/\σ[i]?=AA (AA (V.ref a))
structure Sim(K:AC)(H₀:Hp)(τ:AR)(F H:Hp)(σ:St)(E:Ev):Prop where
 sub:Sub F H
 len:E.length=σ.length
 val:∀(i:Nat) d,E[i]?=AA (.val d)->∃v,σ[i]?=AA (AA v)/\Rep K F v d
 own:∀(i:Nat) t d,E[i]?=AA (.own t d)->∃a,σ[i]?=AA (AA (.ref a))/\F a=AN/\OwnAt K F H a d/\(∀o u,H₀ a≠AA (.frz o u))/\(t=AK->τ=a)
 inj:∀(i j:Nat) t u d e a,E[i]?=AA (.own t d)->E[j]?=AA (.own u e)->σ[i]?=AA (AA (.ref a))->σ[j]?=AA (AA (.ref a))->i=j
def Nw(H:Hp)(a:AR):Prop:=∀o,H a=AA o->¬kB o
theorem Nw.none{H:Hp}{a:AR}(h:H a=AN):Nw H a:=λo e=>by rw[h] at e;cases e
structure Stp(ow:AR->Prop)(F H F' H':Hp)(YN:AR->Prop):Prop where
 keep:∀a o,H a=AA o->kB o->F a=AN->¬ow a->H' a=AA o
 dom:∀a,H' a=AN->H a=AN
 le:Le F F'
 new:∀a o,F' a=AA o->F a≠AN\/Nw H a\/ow a
 own:∀a,YN a->ow a\/H a=AN
variable{E':Ev}
section
variable{K:AC}{E:Ev}{ow Ay:AR->Prop}
theorem Stp.refl:Stp ow F H F H ow:={λ_ _ h _ _ _=>h,λ_ h=>h,.refl _,λa o e=>.inl (by rw[e];exact nofun),λ_ h=>.inl h}
theorem Stp.nF(x:Stp ow F H F1 H1 UY)(hf:F a=AN)(e:H a=AA o)(hw:kB o)(ho:¬ow a):F1 a=AN:=by
 cases e1:F1 a with
 |none=>rfl
 |some u =>
  rcases x.new a u e1 with z|z|z
  .exact absurd hf z
  .exact absurd hw (z o e)
  .exact absurd z ho
theorem Stp.nw(x:Stp ow F H F1 H1 UY)(z:Nw H1 a):F a≠AN\/Nw H a\/ow a:=by
 by_cases h1:F a=AN
 .by_cases h2:ow a
  .exact .inr (.inr h2)
  .exact .inr (.inl λo e hw=>z o (x.keep a o e hw h1 h2) hw)
 .exact .inl h1
theorem Stp.trans(x:Stp ow F H F1 H1 UY)(y:Stp UY F1 H1 F2 H2 Ay):Stp ow F H F2 H2 Ay:=by
 have o1:∀a,H a≠AN->¬ow a->¬UY a:=λa hh ho z=>(x.own a z).elim ho hh;refine{λa o e hw hf ho=>?_,λa h=>x.dom a (y.dom a h),x.le.trans y.le,λa o e=>?_,λa h=>?_}
 .have hh:H a≠AN:=by rw[e];exact nofun
  exact y.keep a o (x.keep a o e hw hf ho) hw (x.nF hf e hw ho) (o1 a hh ho)
 .rcases y.new a o e with z|z|z
  .cases e1:F1 a with
   |none=>exact absurd e1 z
   |some u=>exact x.new a u e1
  .exact x.nw z
  .exact(x.own a z).elim (λq=>.inr (.inr q)) λq=>.inr (.inl (.none q))
 .exact(y.own a h).elim (x.own a) λq=>.inr (x.dom a q)
theorem Stp.weak(x:Stp ow F H F1 H1 UY)(h:∀a,Ay a->UY a):Stp ow F H F1 H1 Ay:={x.keep,x.dom,x.le,x.new,λa q=>x.own a (h a q)}
def New(F H F' H':Hp):Prop:=Stp (λ_=>False) F H F' H' (λ_=>False)/\Sub F' H'
theorem New.stp(n:New F H F' H'):Stp ow F H F' H' ow :=
 {λa o e hw hf _=>n.1.keep a o e hw hf id,n.1.dom,n.1.le,λa o e=>(n.1.new a o e).elim .inl λz=>z.elim (λz=>.inr (.inl z)) λz=>z.elim,λ_ h=>.inl h}
theorem New.refl(s:Sub F H):New F H F H:={Stp.refl,s}
theorem New.trans(x:New F H F1 H1)(y:New F1 H1 F2 H2):New F H F2 H2:={x.1.trans y.1,y.2}
theorem New.laid{p:AR}(s:Sub F H)(h:H p=AN):New F H (D5 F p o) (D5 H p o):=by
 have hf:F p=AN:=by
  cases e:F p with
  |none=>rfl
  |some u=>rw[s p u e] at h;cases h
 refine{{λa u e _ _ _=>by rw[EW (VL e h)];exact e,λa e=>?_,.of_gr (Gr.new hf),λa u e=>?_,λ_ z=>z.elim},λa u e=>?_}
 .by_cases ha:a=p
  .subst ha;rw[HC] at e;cases e
  .rw[EW ha] at e;exact e
 .by_cases ha:a=p
  .subst ha;exact .inr (.inl (.none h))
  .rw[EW ha] at e;exact .inl (by rw[e];exact nofun)
 .by_cases ha:a=p
  .subst ha;rw[HC] at e ⊢;exact e
  .rw[EW ha] at e ⊢;exact s a u e
theorem Gr.dom(g:Gr H H')(a:AR)(e:H' a=AN):H a=AN:=by
 cases q:H a with
 |none=>rfl
 |some o=>rw[g a o q] at e;cases e
theorem pA6(s:Sub F H)(g:Gr H H'):New F H F H' :=
 {{λa o e _ _ _=>g a o e,g.dom,.refl _,λa o e=>.inl (by rw[e];exact nofun),λ_ z=>z.elim},λa u e=>g a u (s a u e)}
def gro(F H H':Hp):Hp:=λa=>match H a with|none=>H' a|some _=>F a
theorem yQ(h:H a=AN):gro F H H' a=H' a:=by unfold gro;rw[h]
theorem Ee(h:H a=AA o):gro F H H' a=F a:=by unfold gro;rw[h]
theorem New.gro(s:Sub F H)(g:Gr H H'):New F H (gro F H H') H':=by
 refine{{λa o e _ _ _=>g a o e,g.dom,.of_gr λa u e=>by rw[Ee (s a u e)];exact e,λa o e=>?_,λ_ z=>z.elim},λa u e=>?_}
 .cases q:H a with
  |none=>exact .inr (.inl (.none q))
  |some v=>rw[Ee q] at e;exact .inl (by rw[e];exact nofun)
 .cases q:H a with
  |none=>rw[yQ q] at e;exact e
  |some v=>rw[Ee q] at e;exact g a u (s a u e)
theorem Sim.new(S:Sim K H₀ τ F H σ E)(n:New F H F' H'):Sim K H₀ τ F' H' σ E where
 sub:=n.2
 len:=S.len
 val:=λi d e=>let ⟨v,h1,h2⟩:=S.val i d e;{v,h1,h2.le n.1.le}
 own:=λi t d e=>by
  obtain⟨a,h1,h2,h3,h4⟩:=S.own i t d e;obtain⟨o,ho,hw⟩:=h3.ho;exact{a,h1,n.1.nF h2 ho hw id,h3.mono n.1.le ((n.1.keep a o ho hw h2 id).trans ho.symm),h4}
 inj:=S.inj
theorem Sim.fresh(S:Sim K H₀ τ F H σ E)(h:H a=AN):¬ED σ E a:=λq0=>by
 obtain⟨i,t,d,e,e'⟩:=q0;obtain⟨b,h1,_,h3,_⟩:=S.own i t d e;rw[e'] at h1;cases h1;obtain⟨o,ho,_⟩:=h3.ho;rw[h] at ho;cases ho
end
abbrev G:=Ev->Out (D×Ev)
def tV(K:AC)(H₀:Hp)(g:G):TE:=λσ H Q=>∃τ F E d E',Sim K H₀ τ F H σ E/\g E=.ok (d,E') /\
 ∀v F' H',Stp (ED σ E) F H F' H' (ED σ E')->Sim K H₀ τ F' H' σ E'->Rep K F' v d->Q v H'
def tF(K:AC)(H₀:Hp)(g:G):TE:=λσ H Q=>∃τ F E d E',Sim K H₀ τ F H σ E/\g E=.ok (d,E') /\
 ∀a F' H',Stp (ED σ E) F H F' H' (ED σ E')->Sim K H₀ τ F' H' σ E'->F' a=AN->H a=AN->OwnAt K F' H' a d->¬ED σ E' a->Q (.ref a) H'
def tT(K:AC)(H₀:Hp)(g:Ev->Out (Bool×Ev)):TT:=λσ H Q=>∃τ F E b E',Sim K H₀ τ F H σ E/\g E=.ok (b,E') /\
 ∀F' H',Stp (ED σ E) F H F' H' (ED σ E')->Sim K H₀ τ F' H' σ E'->Q b H'
theorem PE.imp{t t':TE}(h:PE X e t)(hi:∀σ H Q,t' σ H Q->t σ H Q):PE X e t':=λAF s σ H Q I q=>h AF s σ H Q I (hi σ H Q q)
theorem PT.imp{t t':TT}(h:PT X e t)(hi:∀σ H Q,t' σ H Q->t σ H Q):PT X e t':=λAF s σ H Q I q=>h AF s σ H Q I (hi σ H Q q)
theorem PW.imp{t t':TT}(h:PW X e t)(hi:∀σ H Q,t' σ H Q->t σ H Q):PW X e t':=λw AF s σ H Q I q=>h w AF s σ H Q I (hi σ H Q q)
theorem PS.imp{e:FC}{t t':TS}(h:PS X e t)(hi:∀D σ H,t' D σ H->t D σ H):PS X e t':=λAF s σ H D I q=>h AF s σ H D I (hi D σ H q)
theorem PSs.imp{e:List FC}{t t':TS}(h:PSs X e t)(hi:∀D σ H,t' D σ H->t D σ H):PSs X e t':=λAF s σ H D I q=>h AF s σ H D I (hi D σ H q)
abbrev VE(X:Cx)(e:CU)(g:G):Prop:=PE X e (tV X.K X.H₀ g)
abbrev FE(X:Cx)(e:CU)(g:G):Prop:=PE X e (tF X.K X.H₀ g)
abbrev VT(X:Cx)(e:CU)(g:Ev->Out (Bool×Ev)):Prop:=PT X e (tT X.K X.H₀ g)
section
variable{a b:CU}{g ga gb gc:G}{K:AC}
theorem pA7{Q:VK}(h:tV K H₀ g σ H Q):tF K H₀ g σ H Q:=by
 obtain⟨τ,F,E,d,E',S,hg,k⟩:=h;refine{τ,F,E,d,E',S,hg,λp F' H' st S' n n0 ow no=>?_};obtain⟨o,ho,hown⟩:=ow.ho
 have nw:Stp (ED σ E) F H (D5 F' p o) H' (ED σ E'):={st.keep,st.dom,st.le.trans (.of_gr (Gr.new n)),λa u e=>by
  by_cases ha:a=p
  .subst ha;exact .inr (.inl (.none n0))
  .rw[EW ha] at e;exact st.new a u e,st.own}
 refine k _ _ _ nw {λa u e=>?_,S'.len,λi d e=>?_,λi t d e=>?_,S'.inj} (ow.rep n ho)
 .by_cases ha:a=p
  .subst ha;rw[HC] at e;rw[ho];exact e
  .rw[EW ha] at e;exact S'.sub a u e
 .obtain⟨v,h1,h2⟩:=S'.val i d e;exact{v,h1,h2.le (.of_gr (Gr.new n))}
 .obtain⟨b,h1,h2,h3,h4⟩:=S'.own i t d e
  refine{b,h1,?_,h3.mono (.of_gr (Gr.new n)) rfl,h4};rw[EW (λz=>no {i,t,d,e,by rw[<-z];exact h1})];exact h2
theorem pA8(h:FE X e g):VE X e g:=PE.imp h λ_ _ _ q=>pA7 q
noncomputable def AZ(i:Nat):G:=λE=>match E[i]? with
 |some (.val d)=>.ok (d,E)
 |some (.own AD d)=>.ok (d,E.set i (.val d))
 |_=>.bad
def gC(d:D):G:=λE=>.ok (d,E)
theorem Sim.share{E:Ev}{t:Bool}{d:D}(S:Sim K H₀ τ F H σ E)(e:E[i]?=AA (.own t d)) :
  ∃a F',σ[i]?=AA (AA (.ref a))/\Stp (ED σ E) F H F' H (ED σ (E.set i (.val d)))/\Sim K H₀ τ F' H σ (E.set i (.val d))/\Rep K F' (.ref a) d:=by
 obtain⟨a,h1,h2,h3,h4⟩:=S.own i t d e;obtain⟨o,ho,_⟩:=h3.ho;have hi:i<E.length:=(AE.mp e).1;have l:Le F (D5 F a o):=.of_gr (Gr.new h2)
 have II:∀(j:Nat) t d',(E.set i (.val d))[j]?=AA (.own t d')->j≠i/\E[j]?=AA (.own t d'):=λj t d' q=>by
  by_cases hj:i=j
  .subst hj;rw[BF hi] at q;cases q
  .rw[A5 hj] at q;exact{E7 hj,q}
 refine{a,D5 F a o,h1,{λ_ _ q _ _ _=>q,λ_ q=>q,l,λb u q=>?_,λb ⟨j,t',d',q1,q2⟩=>.inl {j,t',d',(II j t' d' q1).2,q2}},{λb u q=>?_,by rw[BW];exact S.len,λj d' q=>?_,λj t' d' q=>?_,λj k t1 t2 d1 d2 b q1 q2=>S.inj j k t1 t2 d1 d2 b (II _ _ _ q1).2 (II _ _ _ q2).2},h3.rep h2 ho}
 .by_cases hb:b=a
  .subst hb;exact .inr (.inr {i,t,d,e,h1})
  .rw[EW hb] at q;exact .inl (by rw[q];exact nofun)
 .by_cases hb:b=a
  .subst hb;rw[HC] at q;rw[ho];exact q
  .rw[EW hb] at q;exact S.sub b u q
 .by_cases hj:i=j
  .subst hj;rw[BF hi] at q;cases q;exact{_,h1,h3.rep h2 ho}
  .rw[A5 hj] at q
   obtain⟨v,z1,z2⟩:=S.val j d' q;exact{v,z1,z2.le l}
 .obtain⟨hj,q⟩:=II j t' d' q
  obtain⟨b,z1,z2,z3,z4⟩:=S.own j t' d' q;refine{b,z1,?_,z3.mono l rfl,z4};rw[EW (λz=>hj (S.inj j i t' t d' d a q e (by rw[z1,z]) h1))];exact z2
theorem CJ(i:Nat)(hN:X.N[i]?=AA x:=by rfl)(hv:Z8 X.env.scope x:=by first|exact BO rfl|exact DY (BO rfl)|exact DY (DY rfl))(hd:(x==("__debug__":CN))=AD:=by decide)
  (L9:(x==("__classdict__":CN))=AD:=by decide):VE X (.Name x pos) (AZ i):=(iI hN hv hd L9).imp λσ H Q h=>by
 obtain⟨τ,F,E,d,E',S,hg,k⟩:=h;unfold AZ at hg;split at hg
 .cases hg
  rename_i e;obtain⟨v,h1,h2⟩:=S.val i _ e;exact{v,h1,k v F H .refl S h2}
 .cases hg
  rename_i e;obtain⟨a,F',h1,h2,h3,h4⟩:=S.share e;exact{_,h1,k _ F' H h2 h3 h4}
 .cases hg
theorem Gq{d:D}(r:∀F,Rep K F v d){Q:VK}(h:tV K H₀ (gC d) σ H Q):tC v σ H Q:=by
 obtain⟨τ,F,E,d',E',S,hg,k⟩:=h;cases hg;exact k v F H .refl S (r F)
theorem H9{i j pos}:VE X (.Constant (.int i) j pos) (gC (.int i)):=nI.imp λ_ _ _ h=>Gq (λ_=>.int i) h
theorem hJ{b j pos}:VE X (.Constant (.bool b) j pos) (gC (.bl b)):=t8.imp λ_ _ _ h=>Gq (λ_=>.bl b) h
theorem fH{j pos}:VE X (.Constant .none j pos) (gC .non):=nH.imp λ_ _ _ h=>Gq (λ_=>.non) h
def g2(f:D->D->Out D)(ga gb:G):G:=λE=>(ga E).bind λp=>(gb p.2).bind λq=>(f p.1 q.1).bind λd=>.ok (d,q.2)
def g1(f:D->Out D)(ga:G):G:=λE=>(ga E).bind λp=>(f p.1).bind λd=>.ok (d,p.2)
def UX(K:AC)(rd:R2)(f:D->D->Out D):Prop:=∀v u x y F H d Q,Sub F H->Rep K F v x->Rep K F u y->f x y=.ok d->(∀z F' H',New F H F' H'->Rep K F' z d->Q z H')->rd v u H Q
def Hx(K:AC)(rd:V->Hp->VK->Prop)(f:D->Out D):Prop:=∀v x F H d Q,Sub F H->Rep K F v x->f x=.ok d->(∀z F' H',New F H F' H'->Rep K F' z d->Q z H')->rd v H Q
theorem xY{rd:R2}{f:D->D->Out D}(hs:UX K rd f){Q:VK}(h:tV K H₀ (g2 f ga gb) σ H Q):kU rd (tV K H₀ ga) (tV K H₀ gb) σ H Q:=by
 obtain⟨τ,F,E,d,E',S,hg,k⟩:=h;obtain⟨p,ea,hg⟩:=pA3 hg;obtain⟨q,eb,hg⟩:=pA3 hg;obtain⟨z,ef,hg⟩:=pA3 hg;cases hg;refine{τ,F,E,p.1,p.2,S,ea,λv F1 H1 st1 S1 r1=>?_};refine{τ,F1,p.2,q.1,q.2,S1,eb,λu F2 H2 st2 S2 r2=>?_};exact hs v u p.1 q.1 F2 H2 d Q S2.sub (r1.le st2.le) r2 ef λz F3 H3 n r3=>k z F3 H3 ((st1.trans st2).trans n.stp) (S2.new n) r3
theorem yFW{rd:V->Hp->VK->Prop}{f:D->Out D}(hs:Hx K rd f){Q:VK}(h:tV K H₀ (g1 f ga) σ H Q):Ww rd (tV K H₀ ga) σ H Q:=by
 obtain⟨τ,F,E,d,E',S,hg,k⟩:=h;obtain⟨p,ea,hg⟩:=pA3 hg;obtain⟨z,ef,hg⟩:=pA3 hg;cases hg;refine{τ,F,E,p.1,p.2,S,ea,λv F1 H1 st1 S1 r1=>?_};exact hs v p.1 F1 H1 d Q S1.sub r1 ef λz F3 H3 n r3=>k z F3 H3 (st1.trans n.stp) (S1.new n) r3
theorem qT{op:Operator}{rd:R2}{f:D->D->Out D}(ho:OpR X (G6 op) rd)(hs:UX X.K rd f)(ha:VE X a ga)(hb:VE X b gb):VE X (.BinOp a op b pos) (g2 f ga gb):=(yA ho ha hb).imp λ_ _ _ h=>xY hs h
theorem yIJ{op:UnaryOp}{rd:V->Hp->VK->Prop}{f:D->Out D}(ho:Ap X (unaryOp op) rd)(hs:Hx X.K rd f)(ha:VE X a ga):VE X (.UnaryOp op a pos) (g1 f ga):=(yFH ho ha).imp λ_ _ _ h=>yFW hs h
theorem Ws{rd:R2}{f:D->D->Out D}(ho:OpR X (EX op) rd)(hs:UX X.K rd f)(ha:VE X a ga)(hb:VE X b gb)(hm:DX op b=AD):VE X (.Compare a [op] [b] pos) (g2 f ga gb):=(zYB ho ha hb hm).imp λ_ _ _ h=>xY hs h
def gB(g:G):Ev->Out (Bool×Ev):=λE=>(g E).bind λp=>match p.1 with|.bl b=>.ok (b,p.2)|_=>.bad
theorem iJ{rd:R2}{f:D->D->Out D}(ho:OpR X (EX op) rd)(hs:UX X.K rd f)(ha:VE X a ga)(hb:VE X b gb)(hm:DX op b=AD):VT X (.Compare a [op] [b] pos) (gB (g2 f ga gb)):=(zYC ho ha hb hm).imp λσ H Q h=>by
 obtain⟨τ,F,E,b',E',S,hg,k⟩:=h;obtain⟨p,ea,hg⟩:=pA3 hg;refine xY hs {τ,F,E,p.1,p.2,S,ea,λv F1 H1 st1 S1 r1=>?_};split at hg
 .rename_i b' eb
  cases hg;rw[eb] at r1;cases r1;exact{_,rfl,k F1 H1 st1 S1}
 .cases hg
def Z2(t:Ev->Out (Bool×Ev)):Ev->Out (Bool×Ev):=λE=>(t E).bind λp=>.ok (!p.1,p.2)
def iE(t u:Ev->Out (Bool×Ev)):Ev->Out (Bool×Ev):=λE=>(t E).bind λp=>if p.1=AK then u p.2 else .ok (AD,p.2)
def j3(t u:Ev->Out (Bool×Ev)):Ev->Out (Bool×Ev):=λE=>(t E).bind λp=>if p.1=AK then .ok (AK,p.2) else u p.2
theorem yG{t:Ev->Out (Bool×Ev)}(h:VT X a t):VT X (.UnaryOp .Not a pos) (Z2 t):=(yBV h).imp λσ H Q q=>by
 obtain⟨τ,F,E,b',E',S,hg,k⟩:=q;obtain⟨p,ea,hg⟩:=pA3 hg;cases hg;exact{τ,F,E,p.1,p.2,S,ea,λF1 H1 st1 S1=>k F1 H1 st1 S1}
abbrev VW(X:Cx)(e:CU)(g:Ev->Out (Bool×Ev)):Prop:=PW X e (tT X.K X.H₀ g)
theorem VW.t{t:Ev->Out (Bool×Ev)}(h:VW X a t):VT X a t:=PW.pt h
theorem Ed{t:Ev->Out (Bool×Ev)}(h:VT X a t):VW X (.BoolOp .And [a] pos) t:=zX5 h
theorem Dd{t:Ev->Out (Bool×Ev)}(h:VT X a t):VW X (.BoolOp .Or [a] pos) t:=yBT h
theorem Dc{t u:Ev->Out (Bool×Ev)}{rest:List CU}(h:VT X a t)(h':VW X (.BoolOp .And (b::rest) pos) u):VW X (.BoolOp .And (a::b::rest) pos) (iE t u):=(yBU h h').imp λσ H Q q=>by
 obtain⟨τ,F,E,b',E',S,hg,k⟩:=q;obtain⟨p,ea,hg⟩:=pA3 hg;refine{τ,F,E,p.1,p.2,S,ea,λF1 H1 st1 S1=>?_}
 by_cases hp:p.1=AK
 .rw[if_pos hp] at hg ⊢
  exact{τ,F1,p.2,b',E',S1,hg,λF2 H2 st2 S2=>k F2 H2 (st1.trans st2) S2}
 .rw[if_neg hp] at hg ⊢
  cases hg;exact k F1 H1 st1 S1
theorem Cj{t u:Ev->Out (Bool×Ev)}{rest:List CU}(h:VT X a t)(h':VW X (.BoolOp .Or (b::rest) pos) u):VW X (.BoolOp .Or (a::b::rest) pos) (j3 t u):=(yE7 h h').imp λσ H Q q=>by
 obtain⟨τ,F,E,b',E',S,hg,k⟩:=q;obtain⟨p,ea,hg⟩:=pA3 hg;refine{τ,F,E,p.1,p.2,S,ea,λF1 H1 st1 S1=>?_}
 by_cases hp:p.1=AK
 .rw[if_pos hp] at hg ⊢
  cases hg;exact k F1 H1 st1 S1
 .rw[if_neg hp] at hg ⊢
  exact{τ,F1,p.2,b',E',S1,hg,λF2 H2 st2 S2=>k F2 H2 (st1.trans st2) S2}
def Gp(ga gb:G):G:=λE=>(ga E).bind λp=>match p.1 with|.bl AK=>gb p.2|.bl AD=>.ok (.bl AD,p.2)|_=>.bad
def Xi(ga gb:G):G:=λE=>(ga E).bind λp=>match p.1 with|.bl AK=>.ok (.bl AK,p.2)|.bl AD=>gb p.2|_=>.bad
def Go(ga:G):G:=λE=>(ga E).bind λp=>match p.1 with|.bl b=>.ok (.bl (!b),p.2)|_=>.bad
theorem Wr{op}(h:VE X a g):VE X (.BoolOp op [a] pos) g:=yBW h
theorem yFZ{rest:List CU}(ha:VE X a ga)(hb:VE X (.BoolOp .And (b::rest) pos) gb):VE X (.BoolOp .And (a::b::rest) pos) (Gp ga gb):=(yBX ha hb).imp λσ H Q q=>by
 obtain⟨τ,F,E,d,E',S,hg,k⟩:=q;obtain⟨p,ea,hg⟩:=pA3 hg;refine{τ,F,E,p.1,p.2,S,ea,λv F1 H1 st1 S1 r1=>?_};split at hg
 .rename_i eb
  rw[eb] at r1;cases r1;exact{AK,rfl,Vi {τ,F1,p.2,d,E',S1,hg,λv F2 H2 st2 S2 r2=>k v F2 H2 (st1.trans st2) S2 r2}}
 .rename_i eb
  rw[eb] at r1;cases r1;cases hg;exact{AD,rfl,Vj (k _ F1 H1 st1 S1 (.bl AD))}
 .cases hg
theorem yIK{rest:List CU}(ha:VE X a ga)(hb:VE X (.BoolOp .Or (b::rest) pos) gb):VE X (.BoolOp .Or (a::b::rest) pos) (Xi ga gb):=(yFA ha hb).imp λσ H Q q=>by
 obtain⟨τ,F,E,d,E',S,hg,k⟩:=q;obtain⟨p,ea,hg⟩:=pA3 hg;refine{τ,F,E,p.1,p.2,S,ea,λv F1 H1 st1 S1 r1=>?_};split at hg
 .rename_i eb
  rw[eb] at r1;cases r1;cases hg;exact{AK,rfl,Vi (k _ F1 H1 st1 S1 (.bl AK))}
 .rename_i eb
  rw[eb] at r1;cases r1;exact{AD,rfl,Vj {τ,F1,p.2,d,E',S1,hg,λv F2 H2 st2 S2 r2=>k v F2 H2 (st1.trans st2) S2 r2}}
 .cases hg
theorem yF0(ha:VE X a ga):VE X (.UnaryOp .Not a pos) (Go ga):=(yBY ha).imp λσ H Q q=>by
 obtain⟨τ,F,E,d,E',S,hg,k⟩:=q;obtain⟨p,ea,hg⟩:=pA3 hg;refine{τ,F,E,p.1,p.2,S,ea,λv F1 H1 st1 S1 r1=>?_};split at hg
 .rename_i b' eb
  rw[eb] at r1;cases r1;cases hg;exact{_,rfl,k _ F1 H1 st1 S1 (.bl _)}
 .cases hg
def uE(t:Ev->Out (Bool×Ev))(ga gb:G):G:=λE=>(t E).bind λp=>if p.1=AK then ga p.2 else gb p.2
theorem yIL{t:Ev->Out (Bool×Ev)}(hc:VT X c t)(ha:VE X a ga)(hb:VE X b gb):VE X (.IfExp c a b pos) (uE t ga gb):=(Ri hc ha hb).imp λσ H Q q=>by
 obtain⟨τ,F,E,d,E',S,hg,k⟩:=q;obtain⟨p,ea,hg⟩:=pA3 hg;refine{τ,F,E,p.1,p.2,S,ea,λF1 H1 st1 S1=>?_}
 by_cases hp:p.1=AK
 .rw[if_pos hp] at hg ⊢
  exact{τ,F1,p.2,d,E',S1,hg,λv F2 H2 st2 S2 r=>k v F2 H2 (st1.trans st2) S2 r}
 .rw[if_neg hp] at hg ⊢
  exact{τ,F1,p.2,d,E',S1,hg,λv F2 H2 st2 S2 r=>k v F2 H2 (st1.trans st2) S2 r}
end
def Xj(H₀ H H2:Hp):Prop:=∀a,H2 a=H a\/∃o u,H a=AA (.frz o u)/\H2 a=AA u/\sJ u/\∀o' u',H₀ a≠AA (.frz o' u')
theorem Inv.thaw(I:Inv X AF σ H s)(t:Xj X.H₀ H H2):Inv X AF σ H2 s:=by
 have tn:∀a,H a=AN->H2 a=AN:=λa e=>by
  rcases t a with h|⟨o,u,h,_⟩
  .rw[h,e]
  .rw[e] at h;cases h
 have tk:∀a v,H a=AA v->(∀o u,v≠.frz o u)->H2 a=AA v:=λa v e n=>by
  rcases t a with h|⟨o,u,h,_⟩
  .rw[h,e]
  .rw[e] at h;cases h;exact absurd rfl (n o u)
 refine{I.ok,I.os,I.bare,{I.base.keep,I.base.slot,λb o e n hx=>tn b (I.base.free b o e n hx),I.base.there,λb xs e=>tk b _ (I.base.tups b xs e) (λ_ _ z=>HO.noConfusion z),λb o u e=>?_,λb t' ps e=>?_},I.loc,I.cell,tn _ I.free,λx c e=>tn c (I.freeC x c e),λp hp=>?_,λb u e=>?_,I.len}
 .rcases t b with h|⟨o',u',_,_,_,h⟩
  .rw[h];exact I.base.frzs b o u e
  .exact absurd e (h o u)
 .obtain⟨m,h⟩:=I.base.tbls b t' ps e
  exact{m,tk b _ h (λ_ _ z=>HO.noConfusion z)}
 .obtain⟨h1,h2,h3⟩:=I.pin p hp
  exact{h1,tn _ h2,h3}
 .have ok:ObjOk X.prog X.w H s.heap b u:=by
   rcases t b with h|⟨o',u',h1,h2,_⟩
   .exact I.hok b u (by rw[<-h];exact e)
   .rw[e] at h2;cases h2
    obtain⟨_,q⟩:=I.hok b _ h1;exact q
  exact ok.stay (λc v _ q=>q) (λc q=>tk c _ q (λ_ _ z=>HO.noConfusion z)) (λc ys q=>tk c _ q (λ_ _ z=>HO.noConfusion z)) λc o x q=>(t c).elim (λh=>h.trans q) (λq0=>by obtain⟨_,_,h,_,d,_⟩:=q0;exact by rw[q] at h;cases h;exact d.elim)
mutual
noncomputable def D.flat:D->Bool
 |.tup xs=>pA9 xs
 |.lst _=>AD
 |.dk _=>AD
 |.dt _=>AD
 |_=>AK
noncomputable def pA9:List D->Bool
 |[]=>AK
 |d::ds=>d.flat&&pA9 ds
end
mutual
noncomputable def D.nod:D->Bool
 |.tup xs=>pAA xs
 |.lst xs=>pAA xs
 |.dk _=>AD
 |.dt _=>AD
 |_=>AK
noncomputable def pAA:List D->Bool
 |[]=>AK
 |d::ds=>d.nod&&pAA ds
end
section
variable{K:AC}
theorem pAB(ht:∀a vs,F a=AA (.tup vs)->F2 a=AA (.tup vs)):(∀{v d},Rep K F v d->d.flat=AK->Rep K F2 v d)/\(∀{vs ds},Reps K F vs ds->pA9 ds=AK->Reps K F2 vs ds) /\
  (∀{vs ds},RepK K F vs ds->pA9 (ds.map (·.2))=AK->RepK K F2 vs ds)/\∀{vs ds},RepT K F vs ds->pA9 (ds.map (·.2))=AK->RepT K F2 vs ds :=
 Rep.ind (P:=λv d=>d.flat=AK->Rep K F2 v d) (Q:=λv d=>pA9 d=AK->Reps K F2 v d) (R:=λv d=>pA9 (d.map (·.2))=AK->RepK K F2 v d) (T:=λv d=>pA9 (d.map (·.2))=AK->RepT K F2 v d)
  (λ_=>.non) (λb _=>.bl b) (λi _=>.int i) (λx _=>.str x) (λh _ ih e=>.tup (ht _ _ h) (ih (by rw[D.flat] at e;exact e))) (λh n _=>.tupK h n) (λ_ _ _ e=>by rw[D.flat] at e;cases e) (λ_ _ _ e=>by rw[D.flat] at e;cases e) (λ_ _ _ e=>by rw[D.flat] at e;cases e)
  (λ_=>.nil) (λ_ _ h r e=>by rw[pA9,EK] at e;exact .cons (h e.1) (r e.2)) (λ_=>.nil) (λ_ _ h r e=>by rw[AU,pA9,EK] at e;exact .cons (h e.1) (r e.2)) (λ_=>.nil) (λ_ _ h r e=>by rw[AU,pA9,EK] at e;exact .cons (h e.1) (r e.2))
theorem Rep.flat2(ht:∀a vs,F a=AA (.tup vs)->F2 a=AA (.tup vs)){d:D}(r:Rep K F v d):d.flat=AK->Rep K F2 v d:=(pAB ht).1 r
theorem Reps.flat2(ht:∀a vs,F a=AA (.tup vs)->F2 a=AA (.tup vs)){v:List V}{d:List D}(r:Reps K F v d):pA9 d=AK->Reps K F2 v d:=(pAB ht).2.1 r
theorem pAC(ht:∀a vs,F a=AA (.tup vs)->F2 a=AA (.tup vs))(hl:∀a vs,SqL K F a vs->SqL K F2 a vs):(∀{v d},Rep K F v d->d.nod=AK->Rep K F2 v d)/\(∀{vs ds},Reps K F vs ds->pAA ds=AK->Reps K F2 vs ds) /\
  (∀{vs ds},RepK K F vs ds->True)/\∀{vs ds},RepT K F vs ds->True :=
 Rep.ind (P:=λv d=>d.nod=AK->Rep K F2 v d) (Q:=λv d=>pAA d=AK->Reps K F2 v d) (R:=λ_ _=>True) (T:=λ_ _=>True)
  (λ_=>.non) (λb _=>.bl b) (λi _=>.int i) (λx _=>.str x) (λh _ ih e=>.tup (ht _ _ h) (ih (by rw[D.nod] at e;exact e))) (λh n _=>.tupK h n) (λh _ ih e=>.lst (hl _ _ h) (ih (by rw[D.nod] at e;exact e))) (λ_ _ _ e=>by rw[D.nod] at e;cases e) (λ_ _ _ e=>by rw[D.nod] at e;cases e)
  (λ_=>.nil) (λ_ _ h r e=>by rw[pAA,EK] at e;exact .cons (h e.1) (r e.2)) trivial (λ_ _ _ _=>trivial) trivial (λ_ _ _ _=>trivial)
theorem pAD(ht:∀a vs,F a=AA (.tup vs)->F2 a=AA (.tup vs))(hl:∀a vs,SqL K F a vs->SqL K F2 a vs){d:D}(r:Rep K F v d):d.nod=AK->Rep K F2 v d:=(pAC ht hl).1 r
end
noncomputable def a8(is:List Nat)(j:Nat):Sl->Sl
 |.own _ d=>if is.contains j then .val d else .no
 |s=>s
def iD(is:List Nat):Nat->Ev->Ev
 |_,[]=>[]
 |j,s::E=>a8 is j s::iD is (j+1) E
abbrev OS(is:List Nat)(E:Ev):Ev:=iD is 0 E
theorem Sd(is:List Nat):∀(E:Ev) (k j:Nat),(iD is k E)[j]?=(E[j]?).map (a8 is (k+j))
 |[],_,_=>by simp[iD]
 |s::E,k,0=>by simp[iD]
 |s::E,k,j+1=>by
  show(iD is (k+1) E)[j]?=_;rw[Sd is E (k+1) j,FW,show k+1+j=k+(j+1) by lia]
theorem Rl(is:List Nat)(E:Ev)(j:Nat):(OS is E)[j]?=(E[j]?).map (a8 is j):=by rw[Sd];simp
theorem Sc(is:List Nat):∀(E:Ev) (k:Nat),(iD is k E).length=E.length
 |[],_=>rfl
 |s::E,k=>by rw[iD,BC,BC,Sc is E (k+1)]
def tZ:Option Sl->Bool
 |some (.own _ (.lst _))=>AK
 |_=>AD
noncomputable def Hc:Option Sl->Bool
 |some (.own _ (.dk _))=>AK
 |some (.own _ (.dt _))=>AK
 |_=>AD
def kJ(is:List Nat)(E:Ev)(d:D):Bool:=(!(is.any λi=>tZ E[i]?)||d.flat)&&(!(is.any λi=>Hc E[i]?)||d.nod)
def QD(is:List Nat)(g:G):G:=λE=>(g (OS is E)).bind λp=>if kJ is E p.1=AK then .ok (p.1,E) else .bad
def US(is:List Nat)(g:Ev->Out (Bool×Ev)):Ev->Out (Bool×Ev):=λE=>(g (OS is E)).bind λp=>.ok (p.1,E)
section
variable{K:AC}{E:Ev}
def Lent(σ:St)(E:Ev)(is:List Nat)(a:AR):Prop:=∃(i:Nat) (t:Bool) (d:D),i∈is/\E[i]?=AA (Sl.own t d)/\σ[i]?=AA (AA (V.ref a))
theorem Lent.ow(h:Lent σ E is a):ED σ E a:=let ⟨i,t,d,_,e,q⟩:=h;{i,t,d,e,q}
theorem Sim.owned(S:Sim K H₀ τ F H σ E)(h:ED σ E a):F a=AN/\(∃o,H a=AA o/\kB o)/\∀o u,H₀ a≠AA (.frz o u):=by
 obtain⟨i,t,d,e,q⟩:=h;obtain⟨b,h1,h2,h3,h4,_⟩:=S.own i t d e;rw[q] at h1;cases h1;exact{h2,h3.ho,h4}
open Classical in
noncomputable def YF(σ:St)(E:Ev)(is:List Nat)(F H:Hp):Hp:=λa=>if Lent σ E is a then H a else F a
open Classical in
noncomputable def W2(σ:St)(E:Ev)(is:List Nat)(F':Hp):Hp:=λa=>if Lent σ E is a then AN else F' a
open Classical in
noncomputable def aT(σ:St)(E:Ev)(is:List Nat)(H H':Hp):Hp:=λa=>if Lent σ E is a then H a else H' a
theorem Sim.lend(S:Sim K H₀ τ F H σ E)(is:List Nat):Sim K H₀ τ (YF σ E is F H) H σ (OS is E)/\∀a,¬ED σ (OS is E) a:=by
 have l:Le F (YF σ E is F H):=λa u e=>by
  refine .inl ?_;unfold YF;split
  .exact S.sub a u e
  .exact e
 have no:∀(i:Nat) t d,(OS is E)[i]?≠AA (.own t d):=λi t d e=>by
  rw[Rl] at e
  cases q:E[i]? with
  |none=>rw[q] at e;cases e
  |some s =>
   rw[q] at e;have e:a8 is i s=.own t d:=BL e
   cases s with
   |no=>cases e
   |val _=>cases e
   |own t' d' =>
    by_cases hc:is.contains i=AK
    .rw[show a8 is i (.own t' d')=.val d' from if_pos hc] at e;cases e
    .rw[show a8 is i (.own t' d')=.no from if_neg hc] at e;cases e
 refine{{λa u e=>?_,by rw[Sc];exact S.len,λi d e=>?_,λi t d e=>absurd e (no i t d),λi j t u d d' a e=>absurd e (no i t d)},(λa q0=>by obtain⟨i,t,d,e,_⟩:=q0;exact no i t d e)}
 .unfold YF at e
  split at e
  .exact e
  .exact S.sub a u e
 .rw[Rl] at e
  cases q:E[i]? with
  |none=>rw[q] at e;cases e
  |some s =>
   rw[q] at e;have e:a8 is i s=.val d:=BL e
   cases s with
   |no=>cases e
   |val d' =>
    cases e;obtain⟨v,h1,h2⟩:=S.val i d q;exact{v,h1,h2.le l}
   |own t' d' =>
    by_cases hc:is.contains i=AK
    .rw[show a8 is i (.own t' d')=.val d' from if_pos hc] at e
     cases e;obtain⟨a,h1,h2,h3,_⟩:=S.own i t' d q;obtain⟨o,ho,_⟩:=h3.ho;refine{.ref a,h1,(h3.rep h2 ho).le λb u e=>.inl ?_};have la:Lent σ E is a:={i,t',d,by simpa using hc,q,h1}
     by_cases hb:b=a
     .subst hb
      rw[HC] at e;unfold YF;rw[if_pos la,ho];exact e
     .rw[EW hb] at e
      unfold YF;split
      .exact S.sub b u e
      .exact e
    .rw[show a8 is i (.own t' d')=.no from if_neg hc] at e;cases e
theorem Sim.back(S:Sim K H₀ τ F H σ E)(is:List Nat)(st:Stp (λ_=>False) (YF σ E is F H) H F' H' YN)(sb:Sub F' H') :
  Xj H₀ H' (aT σ E is H H')/\Stp (ED σ E) F H (W2 σ E is F') (aT σ E is H H') (ED σ E)/\Sim K H₀ τ (W2 σ E is F') (aT σ E is H H') σ E /\
  (∀a u,F' a=AA u->(∀o w,kB o->u≠o/\u≠.frz w o)->W2 σ E is F' a=AA u) /\
  ((is.any λi=>tZ E[i]?)=AD->∀a vs,SqL K F' a vs->SqL K (W2 σ E is F') a vs):=by
 have lh:∀a,Lent σ E is a->∃o,H a=AA o/\kB o/\(F' a=AA o\/(sJ o/\∃w,F' a=AA (.frz w o))):=λa h=>by
  obtain⟨_,⟨o,ho,hw⟩,_⟩:=S.owned h.ow;refine{o,ho,hw,(st.le a o ?_).imp_right λz=>z.resolve_right (λq0=>by obtain⟨_,_,_,y,_⟩:=q0;exact by subst y;exact hw)};unfold YF;rw[if_pos h];exact ho
 have l2:Le F (W2 σ E is F'):=λa u e=>by
  have hn:¬Lent σ E is a:=λh=>by rw[(S.owned h.ow).1] at e;cases e
  unfold W2;rw[if_neg hn];exact st.le a u (by unfold YF;rw[if_neg hn];exact e)
 have kp:∀a o,H a=AA o->kB o->F a=AN->aT σ E is H H' a=AA o:=λa o e hw n=>by
  unfold aT
  by_cases h:Lent σ E is a
  .rw[if_pos h];exact e
  .rw[if_neg h];exact st.keep a o e hw (by unfold YF;rw[if_neg h];exact n) id
 have nw:∀a o,W2 σ E is F' a=AA o->F a≠AN\/Nw H a:=λa o e=>by
  unfold W2 at e
  by_cases h:Lent σ E is a
  .rw[if_pos h] at e;cases e
  .rw[if_neg h] at e
   rcases st.new a o e with z|z|z
   .unfold YF at z;rw[if_neg h] at z;exact .inl z
   .exact .inr z
   .exact z.elim
 refine{λa=>?_,{λa o e hw n _=>kp a o e hw n,λa e=>?_,l2,λa o e=>(nw a o e).imp_right .inl,λ_ h=>.inl h},{λa u e=>?_,S.len,λi d e=>?_,λi t d e=>?_,S.inj},λa u e hn=>?_,λhl a vs h=>?_}
 .by_cases h:Lent σ E is a
  .obtain⟨o,ho,_,z|⟨id,w,z⟩⟩:=lh a h
   .exact .inl (by unfold aT;rw[if_pos h,sb a o z,ho])
   .exact .inr {w,o,sb a _ z,by unfold aT;rw[if_pos h,ho],id,(S.owned h.ow).2.2}
  .exact .inl (by unfold aT;rw[if_neg h])
 .unfold aT at e
  by_cases h:Lent σ E is a
  .rw[if_pos h] at e;exact e
  .rw[if_neg h] at e;exact st.dom a e
 .unfold W2 at e
  by_cases h:Lent σ E is a
  .rw[if_pos h] at e;cases e
  .rw[if_neg h] at e
   unfold aT;rw[if_neg h];exact sb a u e
 .obtain⟨v,h1,h2⟩:=S.val i d e
  exact{v,h1,h2.le l2}
 .obtain⟨a,h1,h2,h3,h4⟩:=S.own i t d e
  obtain⟨o,ho,hw⟩:=h3.ho;refine{a,h1,?_,h3.mono l2 ((kp a o ho hw h2).trans ho.symm),h4}
  cases q:W2 σ E is F' a with
  |none=>rfl
  |some u =>
   rcases nw a u q with z|z
   .exact absurd h2 z
   .exact absurd hw (z o ho)
 .unfold W2
  by_cases h:Lent σ E is a
  .obtain⟨o,ho,hw,z|⟨_,w,z⟩⟩:=lh a h
   .rw[e] at z;cases z;exact absurd rfl (hn u default hw).1
   .rw[e] at z;cases z;exact absurd rfl (hn o w hw).2
  .rw[if_neg h];exact e
 .rcases h with h|h
  case inr=>exact .inr h
  refine .inl ?_
  have hn:¬Lent σ E is a:=λhh=>by
   obtain⟨o,ho,hw,z⟩:=lh a hh;obtain⟨i,t,d,hi,e,q⟩:=id hh
   have Zi:tZ E[i]?=AD:=by
    have:=ME.mp hl i hi;simpa using this
   obtain⟨b,h1,h2,h3,_⟩:=S.own i t d e;rw[q] at h1;cases h1
   have od:sJ o:=by
    cases d with
    |lst ds=>rw[e] at Zi;cases Zi
    |dk ds=>obtain⟨_,q,_⟩:=h3;rw[ho] at q;cases q;trivial
    |dt ds=>obtain⟨_,q,_⟩:=h3;rw[ho] at q;cases q;trivial
    |_=>exact h3.elim
   rcases h with h|⟨w,h⟩<;>rcases z with z|⟨_,w',z⟩<;>rw[h] at z<;>cases z<;>exact od
  unfold Rd W2;rw[if_neg hn];exact h
theorem zUG(S:Sim K H₀ τ F H σ E)(is:List Nat)(st:Stp (λ_=>False) (YF σ E is F H) H F' H' YN)(sb:Sub F' H'){d:D}(hl:kJ is E d=AK)(r:Rep K F' v d):Rep K (W2 σ E is F') v d:=by
 obtain⟨_,_,_,h1,h2⟩:=S.back is st sb;have ht:∀a vs,F' a=AA (.tup vs)->W2 σ E is F' a=AA (.tup vs):=λa vs e=>h1 a _ e λo w ho=>{λz=>by subst z;exact ho,λz=>HO.noConfusion z};unfold kJ at hl;rw[EK,jU,jU] at hl;rcases hl.1 with z|z
 .rcases hl.2 with y|y
  ·-- nothing is lent at all
   have no:∀a,¬Lent σ E is a:=λa q0=>by
    obtain⟨i,t,d,hi,e,q⟩:=q0;have e1:tZ E[i]?=AD:=by have:=ME.mp (by simpa using z) i hi;simpa using this
    have e2:Hc E[i]?=AD:=by have:=ME.mp (by simpa using y) i hi;simpa using this
    obtain⟨b,_,_,h3,_⟩:=S.own i t d e;rw[e] at e1 e2
    cases d with
    |lst ds=>cases e1
    |dk ds=>cases e2
    |dt ds=>cases e2
    |_=>exact h3.elim
   exact r.le λa u e=>.inl (by unfold W2;rw[if_neg (no a)];exact e)
  .exact pAD ht (h2 (by simpa using z)) r y
 .exact Rep.flat2 ht r z
theorem Stp.toF{ow:AR->Prop}(h:∀a,¬ow a)(st:Stp ow F H F' H' YN):Stp (λ_=>False) F H F' H' YN :=
 {λa o e hw n _=>st.keep a o e hw n (h a),st.dom,st.le,λa o e=>(st.new a o e).imp_right λz=>z.imp_right (h a),λa z=>(st.own a z).elim (λz=>absurd z (h a)) .inr}
theorem a7{g:G}(is:List Nat)(h:VE X e g):VE X e (QD is g):=by
 rintro AF s σ H Q I ⟨τ,F,E,d,E',S,hg,k⟩;obtain⟨p,eg,hg⟩:=pA3 hg;split at hg
 .rename_i hl
  cases hg;obtain⟨S1,no⟩:=S.lend is;refine GY (h AF s σ H (λv H'=>∃F' YN,Stp (λ_=>False) (YF σ E is F H) H F' H' YN/\Sub F' H'/\Rep X.K F' v p.1) I {τ,_,_,p.1,p.2,S1,eg,λv F' H' st S' r=>{F',_,st.toF no,S'.sub,r}}) λu s' q0=>?_;obtain⟨v,H',I',rv,F',YN,st,sb,r⟩:=q0;obtain⟨t1,t2,t3,_⟩:=S.back is st sb;exact{v,_,I'.thaw t1,rv,k v _ _ t2 t3 (zUG S is st sb hl r)}
 .cases hg
theorem mS{g:Ev->Out (Bool×Ev)}(is:List Nat)(h:VT X e g):VT X e (US is g):=by
 rintro AF s σ H Q I ⟨τ,F,E,d,E',S,hg,k⟩;obtain⟨p,eg,hg⟩:=pA3 hg;cases hg;obtain⟨S1,no⟩:=S.lend is;refine GY (h AF s σ H (λb H'=>b=p.1/\∃F' YN,Stp (λ_=>False) (YF σ E is F H) H F' H' YN/\Sub F' H') I {τ,_,_,p.1,p.2,S1,eg,λF' H' st S'=>{rfl,F',_,st.toF no,S'.sub}}) λu s' q0=>?_;obtain⟨H',I',eb,F',YN,st,sb⟩:=q0;obtain⟨t1,t2,t3,_⟩:=S.back is st sb;subst eb;exact{_,I'.thaw t1,k _ _ t2 t3}
end
inductive Fl where
 |nx (E:Ev)|rt (b:Bool) (d:D) (E:Ev)|bk (E:Ev)|ct (E:Ev)
abbrev GS:=Ev->Out Fl
def RetR(K:AC)(ow:AR->Prop)(H:Hp)(F' H':Hp)(σ':St)(E':Ev):Bool->V->D->Prop
 |false,v,d=>Rep K F' v d
 |true,v,d=>∃a,v=.ref a/\F' a=AN/\OwnAt K F' H' a d/\(ow a\/H a=AN)/\∀(i:Nat) d',E'[i]?=AA (.own AK d')->σ'[i]?≠AA (AA (.ref a))
def FlOk(K:AC)(H₀:Hp)(τ:AR)(ow:AR->Prop)(F H:Hp)(D:Ends):Fl->Prop
 |.nx E'=>∀σ' F' H',Stp ow F H F' H' (ED σ' E')->Sim K H₀ τ F' H' σ' E'->D.nx σ' H'
 |.bk E'=>∀σ' F' H',Stp ow F H F' H' (ED σ' E')->Sim K H₀ τ F' H' σ' E'->D.bk σ' H'
 |.ct E'=>∀σ' F' H',Stp ow F H F' H' (ED σ' E')->Sim K H₀ τ F' H' σ' E'->D.ct σ' H'
 |.rt b d E'=>∀σ' v F' H',Stp ow F H F' H' (ED σ' E')->Sim K H₀ τ F' H' σ' E'->RetR K ow H F' H' σ' E' b v d->D.rt v H'
def tS(K:AC)(H₀:Hp)(g:GS):TS:=λD σ H=>∃τ F E r,Sim K H₀ τ F H σ E/\g E=.ok r/\FlOk K H₀ τ (ED σ E) F H D r
abbrev VS(X:Cx)(st:FC)(g:GS):Prop:=PS X st (tS X.K X.H₀ g)
abbrev bG(X:Cx)(st:List FC)(g:GS):Prop:=PSs X st (tS X.K X.H₀ g)
section
variable{K:AC}{ow:AR->Prop}{st:FC}{rest:List FC}{g g':GS}{ge:G}
theorem RetR.pre{b:Bool}{d:D}(s:Stp ow F H F1 H1 UY)(h:RetR K UY H1 F' H' σ' E' b v d):RetR K ow H F' H' σ' E' b v d:=by
 cases b with
 |false=>exact h
 |true =>
  obtain⟨a,h1,h2,h3,h4,h5⟩:=h;exact{a,h1,h2,h3,h4.elim (s.own a) λz=>.inr (s.dom a z),h5}
theorem FlOk.pre{r:Fl}(s:Stp ow F H F1 H1 UY)(h:FlOk K H₀ τ ow F H D' r):FlOk K H₀ τ UY F1 H1 D' r:=by
 cases r with
 |nx E'=>exact λσ' F' H' st S=>h σ' F' H' (s.trans st) S
 |bk E'=>exact λσ' F' H' st S=>h σ' F' H' (s.trans st) S
 |ct E'=>exact λσ' F' H' st S=>h σ' F' H' (s.trans st) S
 |rt b d E'=>exact λσ' v F' H' st S q=>h σ' v F' H' (s.trans st) S (q.pre s)
def SH:GS:=λE=>.ok (.nx E)
def GA(g g':GS):GS:=λE=>(g E).bind λr=>match r with|.nx E1=>g' E1|r=>.ok r
theorem X1:bG X [] SH:=VM.imp λD' σ H h=>by
 obtain⟨τ,F,E,r,S,hg,k⟩:=h;cases hg;exact k σ F H .refl S
theorem yC3(h:tS K H₀ (GA g g') D' σ H):mE (tS K H₀ g) (tS K H₀ g') D' σ H:=by
 obtain⟨τ,F,E,r,S,hg,k⟩:=h;obtain⟨r1,e1,hg⟩:=pA3 hg;refine{τ,F,E,r1,S,e1,?_}
 cases r1 with
 |nx E1=>exact λσ' F' H' st S'=>{τ,F',E1,r,S',hg,k.pre st}
 |bk E1=>cases hg;exact k
 |ct E1=>cases hg;exact k
 |rt b d E1=>cases hg;exact k
theorem IE(h1:VS X st g)(h2:bG X rest g'):bG X (st::rest) (GA g g'):=(bF h1 h2).imp λ_ _ _ h=>yC3 h
theorem KA(h:VS X st g):bG X [st] g:=kQ h
def Gz:GS:=λ_=>.bad
theorem On:VS X st Gz:=cR.imp λD' σ H h=>by
 obtain⟨τ,F,E,r,S,hg,k⟩:=h;cases hg
def O6(t:Ev->Out (Bool×Ev))(g g':GS):GS:=λE=>(t E).bind λp=>if p.1=AK then g p.2 else g' p.2
theorem W4{a b:List FC}{t:Ev->Out (Bool×Ev)}(hc:VT X c t)(ha:bG X a g)(hb:bG X b g'):VS X (.If c a b pos) (O6 t g g'):=(Ck hc ha hb).imp λD' σ H h=>by
 obtain⟨τ,F,E,r,S,hg,k⟩:=h;obtain⟨p,e1,hg⟩:=pA3 hg;refine{τ,F,E,p.1,p.2,S,e1,λF1 H1 s1 S1=>?_}
 by_cases hp:p.1=AK
 .rw[if_pos hp] at hg ⊢
  exact{τ,F1,p.2,r,S1,hg,k.pre s1}
 .rw[if_neg hp] at hg ⊢
  exact{τ,F1,p.2,r,S1,hg,k.pre s1}
def OM(g:G):GS:=λE=>(g E).bind λp=>.ok (.rt AD p.1 p.2)
theorem QF(h:VE X e ge):VS X (.Return (AA e) pos) (OM ge):=(yF h).imp λD' σ H q=>by
 obtain⟨τ,F,E,r,S,hg,k⟩:=q;obtain⟨p,e1,hg⟩:=pA3 hg;cases hg;exact{τ,F,E,p.1,p.2,S,e1,λv F1 H1 s1 S1 r1=>k σ v F1 H1 s1 S1 r1}
def xX(g:G):GS:=λE=>(g E).bind λp=>.ok (.rt AK p.1 p.2)
theorem Pu(h:FE X e ge):VS X (.Return (AA e) pos) (xX ge):=(yF h).imp λD' σ H q=>by
 obtain⟨τ,F,E,r,S,hg,k⟩:=q;obtain⟨p,e1,hg⟩:=pA3 hg;cases hg;exact{τ,F,E,p.1,p.2,S,e1,λa F1 H1 s1 S1 n1 n2 ow no=>k σ _ F1 H1 s1 S1 {a,rfl,n1,ow,.inr n2,λi d' z1 z2=>no {i,AK,d',z1,z2}}}
inductive Tg where
 |nm (i:Nat)|tp (ts:List Tg)
mutual
noncomputable def XA:Tg->D->Ev->Out Ev
 |.nm i,d,E=>.ok (E.set i (.val d))
 |.tp ts,d,E=>match d with
  |.tup ds=>cG ts ds E
  |_=>.bad
noncomputable def cG:List Tg->List D->Ev->Out Ev
 |[],[],E=>.ok E
 |[],_::_,_=>.bad
 |_::_,[],_=>.bad
 |t::ts,d::ds,E=>(XA t d E).bind λE1=>cG ts ds E1
end
mutual
noncomputable def Tg.ltn(n:Nat):Tg->Bool
 |.nm i=>decide (i<n)
 |.tp ts=>pAE n ts
noncomputable def pAE(n:Nat):List Tg->Bool
 |[]=>AK
 |t::ts=>t.ltn n&&pAE n ts
end
theorem Sim.put{E:Ev}{d:D}(S:Sim K H₀ τ F H σ E)(r:Rep K F v d):Sim K H₀ τ F H (σ.set i (AA v)) (E.set i (.val d))/\∀a,ED (σ.set i (AA v)) (E.set i (.val d)) a->ED σ E a:=by
 have II:∀(j:Nat) t d',(E.set i (.val d))[j]?=AA (.own t d')->i≠j/\E[j]?=AA (.own t d'):=λj t d' q=>by
  by_cases hj:i=j
  .subst hj
   by_cases hi:i<E.length
   .rw[BF hi] at q;cases q
   .rw[ZB (by rw[BW];lia)] at q;cases q
  .rw[A5 hj] at q;exact{hj,q}
 refine{{S.sub,by rw[BW,BW];exact S.len,λj d' q=>?_,λj t d' q=>?_,λj k t1 t2 d1 d2 b q1 q2 z1 z2=>?_},λa ⟨j,t,d',q1,q2⟩=>?_}
 .by_cases hj:i=j
  .subst hj
   have hi:i<E.length:=by
    have:=(AE.mp q).1;rw[BW] at this;exact this
   rw[BF hi] at q;cases q;exact{v,by rw[BF (by rw[<-S.len];exact hi)],r}
  .rw[A5 hj] at q ⊢;exact S.val j d' q
 .obtain⟨hj,q⟩:=II j t d' q
  rw[A5 hj];exact S.own j t d' q
 .obtain⟨hj,q1⟩:=II j _ _ q1
  obtain⟨hk,q2⟩:=II k _ _ q2;rw[A5 hj] at z1;rw[A5 hk] at z2;exact S.inj j k t1 t2 d1 d2 b q1 q2 z1 z2
 .obtain⟨hj,q1⟩:=II j t d' q1
  rw[A5 hj] at q2;exact{j,t,d',q1,q2}
theorem Sim.putO{E:Ev}{d:D}(S:Sim K H₀ τ F H σ E)(h2:F a=AN)(h3:OwnAt K F H a d)(h4:∀o u,H₀ a≠AA (.frz o u))(no:¬ED σ E a) :
  Sim K H₀ τ F H (σ.set i (AA (.ref a))) (E.set i (.own AD d))/\∀b,ED (σ.set i (AA (.ref a))) (E.set i (.own AD d)) b->ED σ E b\/b=a:=by
 have II:∀(j:Nat) t d',(E.set i (.own AD d))[j]?=AA (.own t d')->(i=j/\t=AD/\d'=d/\(σ.set i (AA (V.ref a)))[j]?=AA (AA (.ref a)))\/(i≠j/\E[j]?=AA (.own t d')/\(σ.set i (AA (V.ref a)))[j]?=σ[j]?):=λj t d' q=>by
  by_cases hj:i=j
  .subst hj
   have hi:i<E.length:=by
    have:=(AE.mp q).1;rw[BW] at this;exact this
   rw[BF hi] at q;cases q;exact .inl {rfl,rfl,rfl,by rw[BF (by rw[<-S.len];exact hi)]}
  .rw[A5 hj] at q;exact .inr {hj,q,by rw[A5 hj]}
 refine{{S.sub,by rw[BW,BW];exact S.len,λj d' q=>?_,λj t d' q=>?_,λj k t1 t2 d1 d2 b q1 q2 z1 z2=>?_},λb ⟨j,t,d',q1,q2⟩=>?_}
 .by_cases hj:i=j
  .subst hj
   have hi:i<E.length:=by
    have:=(AE.mp q).1;rw[BW] at this;exact this
   rw[BF hi] at q;cases q
  .rw[A5 hj] at q ⊢;exact S.val j d' q
 .rcases II j t d' q with⟨rfl,rfl,rfl,z⟩|⟨hj,q,z⟩
  .exact{a,z,h2,h3,h4,nofun}
  .rw[z];exact S.own j t d' q
 .rcases II j t1 d1 q1 with⟨e1,_,_,y1⟩|⟨hj,p1,y1⟩<;>rcases II k t2 d2 q2 with⟨e2,_,_,y2⟩|⟨hk,p2,y2⟩
  .rw[<-e1,<-e2]
  .rw[y1] at z1;cases z1
   rw[y2] at z2;exact absurd {k,t2,d2,p2,z2} no
  .rw[y2] at z2;cases z2
   rw[y1] at z1;exact absurd {j,t1,d1,p1,z1} no
  .rw[y1] at z1;rw[y2] at z2
   exact S.inj j k t1 t2 d1 d2 b p1 p2 z1 z2
 .rcases II j t d' q1 with⟨rfl,rfl,rfl,y1⟩|⟨hj,q1,y1⟩
  .rw[y1] at q2;cases q2;exact .inr rfl
  .rw[y1] at q2;exact .inl {j,t,d',q1,q2}
def tG(K:AC)(H₀:Hp)(t:Tg):TG:=λv σ H Q=>∃τ F E d E',Sim K H₀ τ F H σ E/\Rep K F v d/\XA t d E=.ok E'/\∀σ',Sim K H₀ τ F H σ' E'->(∀a,ED σ' E' a->ED σ E a)->(∀n,t.ltn n=AK->∀j:Nat,n<=j->σ'[j]?=σ[j]?)->Q σ' H
def tGs(K:AC)(H₀:Hp)(ts:List Tg):iV:=λvs σ H Q=>∃τ F E ds E',Sim K H₀ τ F H σ E/\Reps K F vs ds/\cG ts ds E=.ok E'/\∀σ',Sim K H₀ τ F H σ' E'->(∀a,ED σ' E' a->ED σ E a)->(∀n,pAE n ts=AK->∀j:Nat,n<=j->σ'[j]?=σ[j]?)->Q σ' H
theorem PG.imp{t t':TG}(h:PG X tg t)(hi:∀v σ H Q,t' v σ H Q->t v σ H Q):PG X tg t':=λAF s σ H x u Q I r q=>h AF s σ H x u Q I r (hi _ _ _ _ q)
theorem PGs.imp{tg:List CU}{t t':iV}(h:PGs X tg t)(hi:∀v σ H Q,t' v σ H Q->t v σ H Q):PGs X tg t':=λAF s σ H x u Q I r q=>h AF s σ H x u Q I r (hi _ _ _ _ q)
abbrev VG(X:Cx)(tg:CU)(t:Tg):Prop:=PG X tg (tG X.K X.H₀ t)
abbrev Ao(X:Cx)(tg:List CU)(t:List Tg):Prop:=PGs X tg (tGs X.K X.H₀ t)
theorem VJ(hN:X.N.Nodup)(hi:X.N[i]?=AA x)(hx:Loc X.env.scope x)(hf:X.fn x=AK\/X.env.scope.names.lookup x=AA .local:=by first|exact .inl rfl|exact .inr rfl|assumption):VG X (.Name x pos) (.nm i):=(iL hN hi hx hf).imp λv σ H Q h=>by
 obtain⟨τ,F,E,d,E',S,r,hg,k⟩:=h;rw[XA] at hg;cases hg;obtain⟨S1,h1⟩:=S.put (i:=i) r;refine k _ S1 h1 λn hn j hj=>?_;rw[Tg.ltn] at hn;have:i<n:=of_decide_eq_true hn;rw[A5 (BZ (AQ this hj))]
theorem Rep.sqT{ds:List D}(s:Sub F H)(r:Rep K F (.ref a) (.tup ds)):∃vs,SqT K H a vs/\Reps K F vs ds:=by
 cases r with
 |tup h r=>exact{_,.inl (.inl (s _ _ h)),r}
 |@tupK _ xs h n =>
  rcases h with h|h
  .rcases h with h|⟨o,h⟩<;>cases h
  .refine{_,.inr h,?_}
   induction xs with
   |nil=>exact .nil
   |cons x xs ih=>exact .cons (.str x) (by
     clear ih n h
     induction xs with
     |nil=>exact .nil
     |cons y ys ih=>exact .cons (.str y) ih)
theorem Rep.isRefT{ds:List D}(r:Rep K F v (.tup ds)):∃a,v=.ref a:=by (cases r)<;>exact{_,rfl}
theorem Rep.isRefL{ds:List D}(r:Rep K F v (.lst ds)):∃a vs,v=.ref a/\SqL K F a vs/\Reps K F vs ds:=by cases r with|lst h r=>exact{_,_,rfl,h,r}
theorem Rk:∀{ts:List Tg} {ds:List D} {E E':Ev},cG ts ds E=.ok E'->ts.length=ds.length
 |[],[],_,_,_=>rfl
 |[],_::_,_,_,h=>by rw[cG] at h;cases h
 |_::_,[],_,_,h=>by rw[cG] at h;cases h
 |t::ts,d::ds,E,E',h=>by
  rw[cG] at h;obtain⟨E1,_,h⟩:=pA3 h;rw[BC,BC,Rk h]
theorem fP:Ao X [] []:=VN.imp λv σ H Q h=>by
 obtain⟨τ,F,E,d,E',S,r,hg,k⟩:=h
 cases r with
 |nil=>rw[cG] at hg;cases hg;exact{rfl,k σ S (λ_ h=>h) λ_ _ _ _=>rfl}
 |cons _ _=>rw[cG] at hg;cases hg
theorem UT{t:Tg}{ts:List Tg}(h1:VG X e t)(h2:Ao X es ts)
  (hs:(HE (e::es) X.env).map (·.2)=K7 e X.env::(HE es X.env).map (·.2):=by rfl):Ao X (e::es) (t::ts):=(tJ h1 h2 hs).imp λv σ H Q h=>by
 obtain⟨τ,F,E,ds,E',S,r,hg,k⟩:=h
 cases r with
 |nil=>rw[cG] at hg;cases hg
 |@cons v d vs ds r rs =>
  rw[cG] at hg;obtain⟨E1,e1,hg⟩:=pA3 hg
  exact{v,vs,rfl,τ,F,E,d,E1,S,r,e1,λσ1 S1 h1 b1=>{τ,F,E1,ds,E',S1,rs,hg,λσ2 S2 h2 b2=>k σ2 S2 (λa z=>h1 a (h2 a z)) λn hn j hj=>by
   rw[pAE,EK] at hn
   rw[b2 n hn.2 j hj,b1 n hn.1 j hj]}}
theorem fK{ts:List Tg}(hc:X.calm=AK)(h:Ao X es ts)
  (hn:(HE es X.env).length=ts.length:=by rfl) (gD:(HE es X.env).findIdx? (·.1)=AN:=by rfl):VG X (.Tuple es k pos) (.tp ts):=(Dg hc h hn gD).imp λv σ H Q h=>by
 obtain⟨τ,F,E,d,E',S,r,hg,k⟩:=h
 cases d with
 |tup ds =>
  obtain⟨a,rfl⟩:=r.isRefT;obtain⟨vs,h1,h2⟩:=r.sqT S.sub;rw[XA] at hg;exact{a,vs,rfl,h1,by rw[h2.length,<-Rk hg],τ,F,E,ds,E',S,h2,hg,λσ' S' h' b'=>k σ' S' h' λn hn=>b' n (by rw[Tg.ltn] at hn;exact hn)}
 |_ =>
  have hg:(Out.bad:Out Ev)=.ok E':=hg;cases hg
def IN(t:Tg)(g:G):GS:=λE=>(g E).bind λp=>(XA t p.1 p.2).bind λE1=>.ok (.nx E1)
theorem yC4{t:Tg}(h:tS K H₀ (IN t ge) D' σ H):j2 (tV K H₀ ge) (tG K H₀ t) D' σ H:=by
 obtain⟨τ,F,E,r,S,hg,k⟩:=h;obtain⟨p,e1,hg⟩:=pA3 hg;obtain⟨E1,e2,hg⟩:=pA3 hg;cases hg;exact{τ,F,E,p.1,p.2,S,e1,λv F1 H1 s1 S1 r1=>{τ,F1,p.2,p.1,E1,S1,r1,e2,λσ2 S2 h2 _=>k σ2 F1 H1 (s1.weak h2) S2}}
theorem Cv{t:Tg}(he:VE X e ge)(hg:VG X tg t)(hs:aE [tg] e pos.line X.env=pure AD:=by rfl)(hw:aF [tg] e X.env=pure AN:=by rfl)
  (h1:(HE [tg] X.env).map (·.2)=[K7 tg X.env]:=by rfl):VS X (.Assign [tg] e pos) (IN t ge):=(Df he hg hs hw h1).imp λ_ _ _ h=>yC4 h
theorem QE(hN:X.N.Nodup)(hi:X.N[i]?=AA x)(hx:Loc X.env.scope x)(he:VE X e ge)(hs:IJ e (AA (.Name x OC)) pos.line X.env=pure AD:=by rfl)(hf:X.fn x=AK\/X.env.scope.names.lookup x=AA .local:=by first|exact .inl rfl|exact .inr rfl|assumption) :
  VS X (.Assign [.Name x OC] e pos) (IN (.nm i) ge):=(sT hN hi hx he hs hf).imp λD' σ H h=>by
 obtain⟨τ,F,E,r,S,hg,k⟩:=h;obtain⟨p,e1,hg⟩:=pA3 hg;obtain⟨E1,e2,hg⟩:=pA3 hg;cases hg;rw[XA] at e2;cases e2;refine{τ,F,E,p.1,p.2,S,e1,λv F1 H1 s1 S1 r1=>?_};obtain⟨S2,h2⟩:=S1.put (i:=i) r1;exact k _ F1 H1 (s1.weak h2) S2
def VH(i:Nat)(g:G):GS:=λE=>(g E).bind λp=>.ok (.nx (p.2.set i (.own AD p.1)))
theorem zUI(I:Inv X AF σ H s)(h:H a=AN):∀o u,X.H₀ a≠AA (.frz o u):=λo u e=>by
 rw[I.base.frzs a o u e] at h;cases h
theorem yC5(I:Inv X AF σ H s)(h:tS X.K X.H₀ (VH i ge) D' σ H):j2 (tF X.K X.H₀ ge) (bB i) D' σ H:=by
 obtain⟨τ,F,E,r,S,hg,k⟩:=h;obtain⟨p,e1,hg⟩:=pA3 hg;cases hg;refine{τ,F,E,p.1,p.2,S,e1,λa F1 H1 s1 S1 n1 n0 ow no=>?_};obtain⟨S2,h2⟩:=S1.putO (i:=i) n1 ow (zUI I n0) no;refine k _ F1 H1 {s1.keep,s1.dom,s1.le,s1.new,λb z=>?_} S2;rcases h2 b z with z|rfl
 .exact s1.own b z
 .exact .inr n0
theorem bE(hN:X.N.Nodup)(hi:X.N[i]?=AA x)(hx:Loc X.env.scope x)(he:FE X e ge)(hs:IJ e (AA (.Name x OC)) pos.line X.env=pure AD:=by rfl)(hf:X.fn x=AK\/X.env.scope.names.lookup x=AA .local:=by first|exact .inl rfl|exact .inr rfl|assumption) :
  VS X (.Assign [.Name x OC] e pos) (VH i ge):=λAF s σ H D' I h=>sT hN hi hx he hs hf AF s σ H D' I (yC5 I h)
def fG(g:G):GS:=λE=>(g E).bind λp=>.ok (.nx p.2)
theorem yP(he:VE X e ge)(hs:IJ e AN pos.line X.env=pure AD:=by rfl):VS X (.Expr e pos) (fG ge):=(Dy he hs).imp λD' σ H h=>by
 obtain⟨τ,F,E,r,S,hg,k⟩:=h;obtain⟨p,e1,hg⟩:=pA3 hg;cases hg;exact{τ,F,E,p.1,p.2,S,e1,λv F1 H1 s1 S1 r1=>k σ F1 H1 s1 S1}
def YI(t:Ev->Out (Bool×Ev))(g:GS):Nat->GS
 |0,_=>.bad
 |n+1,E=>(t E).bind λp=>if p.1=AK then(g p.2).bind λr=>match r with
   |.nx E1=>YI t g n E1
   |.ct E1=>YI t g n E1
   |.bk E1=>.ok (.nx E1)
   |.rt b d E1=>.ok (.rt b d E1)
  else .ok (.nx p.2)
theorem Ep{t:Ev->Out (Bool×Ev)}(n:Nat)(hp:bZ (A6 X.prog X.w) X.A X.env X.xe)(hc:VT X c t)(hb:bG X body g):VS X (.While c body [] pos) (YI t g n):=(zTJ hp hc hb).imp λD' σ H h=>by
 obtain⟨τ,F,E,r,S,hg,k⟩:=h;refine{λm σ1 H1=>∃F1 E1,Sim X.K X.H₀ τ F1 H1 σ1 E1/\Stp (ED σ E) F H F1 H1 (ED σ1 E1)/\YI t g m E1=.ok r,{n,F,E,S,.refl,hg},?_};rintro m σ1 H1 ⟨F1,E1,S1,s1,h1⟩
 cases m with
 |zero=>rw[YI] at h1;cases h1
 |succ m =>
  rw[YI] at h1;obtain⟨p,e1,h1⟩:=pA3 h1;refine{τ,F1,E1,p.1,p.2,S1,e1,λF2 H2 s2 S2=>?_};have bH:=s1.trans s2;dsimp only
  by_cases hp:p.1=AK
  .rw[if_pos hp] at h1 ⊢
   obtain⟨q,e2,h1⟩:=pA3 h1;refine{λσ3 H3=>∃F3 E3,Sim X.K X.H₀ τ F3 H3 σ3 E3/\Stp (ED σ E) F H F3 H3 (ED σ3 E3)/\YI t g m E3=.ok r,λσ3 H3 ⟨F3,E3,a1,a2,a3⟩=>{m,DG m,F3,E3,a1,a2,a3},τ,F2,p.2,q,S2,e2,?_}
   cases q with
   |nx E3=>exact λσ3 F3 H3 s3 S3=>{F3,E3,S3,bH.trans s3,h1}
   |ct E3=>exact λσ3 F3 H3 s3 S3=>{F3,E3,S3,bH.trans s3,h1}
   |bk E3=>cases h1;exact λσ3 F3 H3 s3 S3=>k σ3 F3 H3 (bH.trans s3) S3
   |rt b d E3=>cases h1;exact λσ3 v F3 H3 s3 S3 q=>k σ3 v F3 H3 (bH.trans s3) S3 (q.pre bH)
  .rw[if_neg hp] at h1 ⊢
   cases h1;exact k σ1 F2 H2 bH S2
end
def Walks(K:AC)(J:It)(F:Hp)(ds:List D):Prop:=∀(i:Nat) F1 H1,Le F F1->Sub F1 H1->(i<ds.length->J.go i H1)/\(i=ds.length->J.stop i H1)/\∀x H' d,ds[i]?=AA d->J.yld i H1 x H'->∃F',New F1 H1 F' H'/\Rep K F' x d
abbrev GI:=Ev->Out (List D×Ev)
def tI(K:AC)(H₀:Hp)(g:GI):TI:=λσ H R=>∃τ F E ds E',Sim K H₀ τ F H σ E/\g E=.ok (ds,E') /\
 ∀J F' H',Stp (ED σ E) F H F' H' (ED σ E')->Sim K H₀ τ F' H' σ E'->Walks K J F' ds->R J H'
theorem PI.imp{t t':TI}(h:PI X tg e t)(hi:∀σ H Q,t' σ H Q->t σ H Q):PI X tg e t':=λAF s σ H Q I q=>h AF s σ H Q I (hi σ H Q q)
abbrev VI(X:Cx)(tg e:CU)(g:GI):Prop:=PI X tg e (tI X.K X.H₀ g)
variable{gi:GI}
section
variable{K:AC}{ow:AR->Prop}{st:FC}{rest:List FC}{g g':GS}{ge:G}
def Xh(g:G):GI:=λE=>(g E).bind λp=>match p.1 with|.lst ds=>.ok (ds,p.2)|_=>.bad
def Xg(g:G):GI:=λE=>(g E).bind λp=>match p.1 with|.tup ds=>.ok (ds,p.2)|_=>.bad
theorem zPA{ds:List D}(h:SqL K F a vs)(r:Reps K F vs ds):Walks K (rD K a) F ds:=λi F1 H1 l s=>by
 have sq:SqL K H1 a vs:=h.imp (λh=>s.rd (l.rd h)) id;refine{λhi=>?_,λhi=>{vs,sq,by rw[r.length,hi];exact AL _},λx H' d e ⟨e1,y⟩=>?_}
 .have hv:i<vs.length:=by rw[r.length];exact hi
  exact{vs,vs[i],sq,by simp[hv]}
 .subst e1
  obtain⟨v,h1,h2⟩:=r.get e;rw[y vs sq] at h1;cases h1;exact{F1,.refl s,h2.le l}
theorem Rep.tupSq{ds:List D}(r:Rep K F v (.tup ds)):∃a vs,v=.ref a/\Reps K F vs ds/\∀F1 H1,Le F F1->Sub F1 H1->SqT K H1 a vs:=by
 cases r with
 |tup h r=>exact{_,_,rfl,r,λF1 H1 l s=>.inl (.inl (s _ _ (l.tup h)))}
 |@tupK a xs h n =>
  obtain⟨vs,h1,h2⟩:=Rep.sqT (F:=F) (H:=F) (λ_ _ e=>e) (.tupK h n);refine{a,vs,rfl,h2,λF1 H1 _ _=>?_};rcases h with h|h
  .rcases h with h|⟨o,h⟩<;>cases h
  .have:vs=xs.map V.str:=pA5 h2
   subst this;exact .inr h
theorem zRD{ds:List D}(sq:∀F1 H1,Le F F1->Sub F1 H1->SqT K H1 a vs)(r:Reps K F vs ds):Walks K (rB K a) F ds:=λi F1 H1 l s=>by
 have sq:=sq F1 H1 l s;refine{λhi=>?_,λhi=>{vs,sq,by rw[r.length,hi];exact AL _},λx H' d e ⟨e1,y⟩=>?_}
 .have hv:i<vs.length:=by rw[r.length];exact hi
  exact{vs,vs[i],sq,by simp[hv]}
 .subst e1
  obtain⟨v,h1,h2⟩:=r.get e;rw[y vs sq] at h1;cases h1;exact{F1,.refl s,h2.le l}
theorem zY3(h:VE X e ge):VI X tg e (Xh ge):=(zX8 h).imp λσ H Q h=>by
 obtain⟨τ,F,E,ds,E',S,hg,k⟩:=h;obtain⟨p,e1,hg⟩:=pA3 hg;refine{τ,F,E,p.1,p.2,S,e1,λv F1 H1 s1 S1 r1=>?_};split at hg
 .rename_i V9 ed
  cases hg;rw[ed] at r1;obtain⟨a,vs,rfl,h1,h2⟩:=r1.isRefL;exact{a,rfl,{vs,h1.imp S1.sub.rd id},k _ F1 H1 s1 S1 (zPA h1 h2)}
 .cases hg
theorem yC6(h:VE X e ge):VI X tg e (Xg ge):=(Oh h).imp λσ H Q h=>by
 obtain⟨τ,F,E,ds,E',S,hg,k⟩:=h;obtain⟨p,e1,hg⟩:=pA3 hg;refine{τ,F,E,p.1,p.2,S,e1,λv F1 H1 s1 S1 r1=>?_};split at hg
 .rename_i V9 ed
  cases hg;rw[ed] at r1;obtain⟨a,vs,rfl,h1,h2⟩:=r1.tupSq;exact{a,rfl,{vs,h2 F1 H1 (.refl _) S1.sub},k _ F1 H1 s1 S1 (zRD h2 h1)}
 .cases hg
def OU:List G->Ev->Out (List D×Ev)
 |[],E=>.ok ([],E)
 |g::gs,E=>(g E).bind λp=>(OU gs p.2).bind λq=>.ok (p.1::q.1,q.2)
def fT(K:AC)(H₀:Hp)(gs:List G):TA:=λσ H Q=>∃τ F E ds E',Sim K H₀ τ F H σ E/\OU gs E=.ok (ds,E') /\
 ∀vs F' H',Stp (ED σ E) F H F' H' (ED σ E')->Sim K H₀ τ F' H' σ E'->Reps K F' vs ds->Q vs H'
theorem PA.imp{t t':TA}(h:PA X es t)(hi:∀σ H Q,t' σ H Q->t σ H Q):PA X es t':=λp AF s σ H Q I q=>h p AF s σ H Q I (hi σ H Q q)
abbrev VA(X:Cx)(es:List CU)(gs:List G):Prop:=PA X es (fT X.K X.H₀ gs)
theorem FO:VA X [] []:=GG.imp λσ H Q h=>by
 obtain⟨τ,F,E,ds,E',S,hg,k⟩:=h;cases hg;exact k [] F H .refl S .nil
theorem zY4{gs:List G}{Q:List V->Hp->Prop}(h:fT K H₀ (ge::gs) σ H Q):sI (tV K H₀ ge) (fT K H₀ gs) σ H Q:=by
 obtain⟨τ,F,E,ds,E',S,hg,k⟩:=h;rw[OU] at hg;obtain⟨p,e1,hg⟩:=pA3 hg;obtain⟨q,e2,hg⟩:=pA3 hg;cases hg;exact{τ,F,E,p.1,p.2,S,e1,λv F1 H1 s1 S1 r1=>{τ,F1,p.2,q.1,q.2,S1,e2,λvs F2 H2 s2 S2 r2=>k (v::vs) F2 H2 (s1.trans s2) S2 (.cons (r1.le s2.le) r2)}}
theorem D8{gs:List G}(ha:VE X e ge)(hr:VA X es gs)(hs:AM (e::es) X.env=(AD,eval e X.env)::AM es X.env:=by rfl):VA X (e::es) (ge::gs):=(QY ha hr hs).imp λ_ _ _ h=>zY4 h
theorem fJ(h:n<10000):n<sizeLine:=AQ h 'd'
def few(n:Nat)(x:Out α):Out α:=if n<10000 then x else .bad
theorem ZF{x:Out α}{a:α}(h:few n x=.ok a):n<10000/\x=.ok a:=by
 unfold few at h;split at h
 .exact{by assumption,h}
 .cases h
def RD(gs:List G):G:=λE=>(OU gs E).bind λp=>few p.1.length (.ok (.tup p.1,p.2))
def KM(gs:List G):G:=λE=>(OU gs E).bind λp=>few p.1.length (.ok (.lst p.1,p.2))
theorem aZ{gs:List G}{x1}(h:VA X es gs):VE X (.Tuple es x1 pos) (RD gs):=(yCA h).imp λσ H Q h=>by
 obtain⟨τ,F,E,ds,E',S,hg,k⟩:=h;obtain⟨p,e1,hg⟩:=pA3 hg;obtain⟨hl,hg⟩:=ZF hg;cases hg;refine{τ,F,E,p.1,p.2,S,e1,λvs F1 H1 s1 S1 r1=>{by rw[r1.length];exact CW (fJ hl),λq hq=>?_}};have n:=New.laid (o:=.tup vs) S1.sub hq;exact k _ _ _ (s1.trans n.stp) (S1.new n) (.tup HC (r1.le n.1.le))
theorem VF{gs:List G}(h:VA X es gs):FE X (.List es pos) (KM gs):=(mT h).imp λσ H Q h=>by
 obtain⟨τ,F,E,ds,E',S,hg,k⟩:=h;obtain⟨p,e1,hg⟩:=pA3 hg;obtain⟨hl,hg⟩:=ZF hg;cases hg;refine{τ,F,E,p.1,p.2,S,e1,λvs F1 H1 s1 S1 r1=>{by rw[r1.length];exact CW (fJ hl),λq hq=>?_}};have n:=pA6 (H':=D5 H1 q (.lst vs)) S1.sub (Gr.new hq)
 have fq:F1 q=AN:=by
  cases z:F1 q with
  |none=>rfl
  |some o=>rw[S1.sub q o z] at hq;cases hq
 exact k q _ _ (s1.trans n.stp) (S1.new n) fq (s1.dom q hq) {vs,HC,r1} (S1.fresh hq)
def fF(t:Tg)(g:GS):List D->GS
 |[],E=>.ok (.nx E)
 |d::ds,E=>(XA t d E).bind λE1=>(g E1).bind λr=>match r with
  |.nx E2=>fF t g ds E2
  |.ct E2=>fF t g ds E2
  |.bk E2=>.ok (.nx E2)
  |.rt b d E2=>.ok (.rt b d E2)
def RB(gi:GI)(t:Tg)(g:GS):GS:=λE=>(gi E).bind λp=>fF t g p.1 p.2
theorem cM{iter:CU}{t:Tg}(hp:bZ (A6 X.prog X.w) X.A X.env X.xe)(hc:X.calm=AK)(hi:VI X tg iter gi)(hg:VG X tg t)(hb:bG X body g)
  (hs:∀x,D6 iter X.env x=pure x:=by intro _;rfl):VS X (.For tg iter body [] pos) (RB gi t g):=(sR hp hc hi hg hb hs).imp λD' σ H h=>by
 obtain⟨τ,F,E,r,S,hg,k⟩:=h;obtain⟨p,e1,hg⟩:=pA3 hg;refine{τ,F,E,p.1,p.2,S,e1,λJ F1 H1 s1 S1 w1=>?_};refine{λi m σ2 H2=>m=p.1.length-i/\i<=p.1.length/\∃F2 E2,Sim X.K X.H₀ τ F2 H2 σ2 E2/\Stp (ED σ E) F H F2 H2 (ED σ2 E2)/\Le F1 F2/\fF t g (p.1.drop i) E2=.ok r,{_,rfl,BY _,F1,p.2,S1,s1,.refl _,by rw[U6];exact hg},?_};rintro i m σ2 H2 ⟨rfl,Lb,F2,E2,S2,s2,l2,h2⟩;obtain⟨w2,w3,w4⟩:=w1 i F2 H2 l2 S2.sub
 by_cases hi:i<p.1.length
 .obtain⟨d,hd⟩:∃d,p.1[i]?=AA d:={p.1[i],by simp[hi]}
  have Lp:p.1.drop i=d::p.1.drop (i+1):=by
   rw[GQ hi];have:p.1[i]=d:=by rw[A7 hi] at hd;exact BL hd
   rw[this]
  rw[Lp,fF] at h2;obtain⟨E3,e3,h2⟩:=pA3 h2;obtain⟨q,e4,h2⟩:=pA3 h2;refine .inr {w2 hi,λσ5 H5=>∃F5 E5,Sim X.K X.H₀ τ F5 H5 σ5 E5/\Stp (ED σ E) F H F5 H5 (ED σ5 E5)/\Le F1 F5/\fF t g (p.1.drop (i+1)) E5=.ok r,λσ5 H5 ⟨F5,E5,a1,a2,a3,a4⟩=>{_,by omega,rfl,hi,F5,E5,a1,a2,a3,a4},λx H' y=>?_};obtain⟨F3,n3,r3⟩:=w4 x H' d hd y;refine{τ,F3,E2,d,E3,S2.new n3,r3,e3,λσ4 S4 h4 _=>{τ,F3,E3,q,S4,e4,?_}};have s4:Stp (ED σ E) F H F3 H' (ED σ4 E3):=(s2.trans n3.stp).weak h4;have l3:Le F1 F3:=l2.trans n3.1.le
  cases q with
  |nx E5=>exact λσ5 F5 H5 s5 S5=>{F5,E5,S5,s4.trans s5,l3.trans s5.le,h2}
  |ct E5=>exact λσ5 F5 H5 s5 S5=>{F5,E5,S5,s4.trans s5,l3.trans s5.le,h2}
  |bk E5=>cases h2;exact λσ5 F5 H5 s5 S5=>k σ5 F5 H5 (s4.trans s5) S5
  |rt b d E5=>cases h2;exact λσ5 v F5 H5 s5 S5 q=>k σ5 v F5 H5 (s4.trans s5) S5 (q.pre s4)
 .have hi:i=p.1.length:=by omega
  rw[NL 'o',fF] at h2;cases h2;exact .inl {w3 hi,k σ2 F2 H2 s2 S2}
end
abbrev Mr:=List Sl->Out (Bool×D×D)
noncomputable def hG(sl:Ev)(d:D):Ev:=match sl with
 |.own t _::r=>.own t d::r
 |sl=>sl
noncomputable def fin(sl:Ev)(E':Ev)(b:Bool)(d:D):Out (Bool×D×D):=match sl with
 |.own _ _::_=>match E' with
  |.own AK d'::_=>.ok (b,d,d')
  |_=>.bad
 |_=>.ok (b,d,.non)
def RU(n:Nat)(gb:GS):Mr:=λsl=>(gb (sl++BG (n-sl.length) .no)).bind λr=>match r with
 |.rt b d E'=>fin sl E' b d
 |.nx E'=>fin sl E' AD .non
 |_=>.bad
def Hz(sl:Ev):Prop:=∀(i:Nat) t d,sl[i]?=AA (.own t d)->i=0/\t=AK
def yIM(K:AC)(H F' H':Hp)(ow:AR->Prop):Bool->V->D->Prop
 |false,v,d=>Rep K F' v d
 |true,v,d=>∃a,v=.ref a/\F' a=AN/\OwnAt K F' H' a d/\H a=AN/\¬ow a
def N7(K:AC)(np:Nat)(m:Mr):Sp:=λvs H Q _=>vs.length=np/\∃τ F sl b d d',Sim K H τ F H (vs.map AA) sl/\Hz sl/\m sl=.ok (b,d,d') /\
 ∀v F' H',Stp (ED (vs.map AA) sl) F H F' H' (ED (vs.map AA) (hG sl d'))->Sim K H τ F' H' (vs.map AA) (hG sl d')->yIM K H F' H' (ED (vs.map AA) (hG sl d')) b v d->Q v H'
theorem yC7{sl:Ev}{b b':Bool}{d d0 d':D}(h:fin sl E' b d=.ok (b',d0,d')):b'=b/\d0=d/\∀t x r,sl=.own t x::r->∃r',E'=.own AK d'::r':=by
 unfold fin at h;split at h
 .split at h
  .cases h
   exact{rfl,rfl,λ_ _ _ _=>{_,rfl}}
  .cases h
 .rename_i hn
  cases h;refine{rfl,rfl,λt x r e=>?_};exact absurd e (by intro z;exact hn t x r z)
section
variable{K:AC}
theorem Fun.okC{st:FC}{ps:List CN}(F:Fun K x qual st f fd)(S:FnScope N ps (J7 st))(len:∀vs H Q E,sp vs H Q E->vs.length=ps.length)
  (K4:∀(G3:AI) (A:DP) (outer:List XZ) (s:AT) (H:Hp) (vs:List V) (Q:VK) (E:XK),G3=fd.code->Room k (A.deeper (G0 qual (J7 st) s.heap.objs.size f G3))->sp vs H Q E ->
   ∃t,PSs (TK L6 P w K mg base N qual (J7 st) f G3 A outer s H E).nox (W7 st) t/\t { nx:=λ_ H'=>Q .non H',rt:=Q } (start N vs) H):FnOk P w K mg base L6 (k+1) f fd ps sp:=by
 obtain⟨oc,od,kV,SY,pm,an,G3,ct,Z9,rfl,lk,L9⟩:=F.ex;refine Cf lk L9 S len λA outer s H vs Q E hr X3=>?_;obtain⟨t,h,q⟩:=K4 G3 A outer s H vs Q E rfl hr X3;exact{t,h.nox,q}
theorem Ci{st:FC}{ps:List CN}{gb:GS}(Fn:Fun K x qual st f fd)(S:FnScope N ps (J7 st))
  (K4:∀(G3:AI) (A:DP) (outer:List XZ) (s:AT) (H:Hp) (E:XK),G3=fd.code->Room k (A.deeper (G0 qual (J7 st) s.heap.objs.size f G3)) ->
   bG (TK L6 P w K mg base N qual (J7 st) f G3 A outer s H E).nox (W7 st) gb):FnOk P w K mg base L6 (k+1) f fd ps (N7 K ps.length (RU N.length gb)):=by
 refine Fn.okC S (λvs H Q E h=>h.1) λG3 A outer s H vs Q E Bn hr h=>{_,K4 G3 A outer s H E Bn hr,?_};obtain⟨hl,τ,F,sl,b,d,d',Sm,sh,hm,k⟩:=h;unfold RU at hm;obtain⟨r,e1,hm⟩:=pA3 hm;have lsl:sl.length=vs.length:=by rw[Sm.len,AJ]
 have i7:∀(i:Nat) t d,(sl++BG (N.length-sl.length) Sl.no)[i]?=AA (.own t d)->sl[i]?=AA (.own t d):=λi t d q=>by
  by_cases hi:i<sl.length
  .rw[B9 hi] at q;exact q
  .rw[CA (EZ hi),DN] at q
   split at q<;>cases q
 have Im:∀(i:Nat) d,(sl++BG (N.length-sl.length) Sl.no)[i]?=AA (.val d)->sl[i]?=AA (.val d):=λi d q=>by
  by_cases hi:i<sl.length
  .rw[B9 hi] at q;exact q
  .rw[CA (EZ hi),DN] at q
   split at q<;>cases q
 have rG:∀(i:Nat),i<sl.length->(start N vs)[i]?=(vs.map AA)[i]?:=λi hi=>by
  unfold start;rw[B9 (by rw[AJ];omega)]
 have Sm0:Sim K H τ F H (start N vs) (sl++BG (N.length-sl.length) .no):=by
  refine{Sm.sub,?_,λi d q=>?_,λi t d q=>?_,λi j t u d d2 a q1 q2 z1 z2=>?_}
  .unfold start
   rw[BN,BN,C5,C5,AJ,lsl]
  .have q:=Im i d q
   rw[rG i (AE.mp q).1];exact Sm.val i d q
  .have q:=i7 i t d q
   rw[rG i (AE.mp q).1];exact Sm.own i t d q
  .have q1:=i7 i _ _ q1
   have q2:=i7 j _ _ q2;rw[rG i (AE.mp q1).1] at z1;rw[rG j (AE.mp q2).1] at z2;exact Sm.inj i j t u d d2 a q1 q2 z1 z2
 have rJ:∀a,ED (start N vs) (sl++BG (N.length-sl.length) .no) a↔ED (vs.map AA) sl a:=λa=>by
  constructor
  .rintro⟨i,t,d,q1,q2⟩
   have q:=i7 i t d q1;rw[rG i (AE.mp q).1] at q2;exact{i,t,d,q,q2}
  .rintro⟨i,t,d,q1,q2⟩
   have hi:=(AE.mp q1).1;exact{i,t,d,by rw[B9 hi];exact q1,by rw[rG i hi];exact q2}
 -- the end,from what the body ends with
 have cY:∀{E':Ev} {b0:Bool} {d0:D},fin sl E' b0 d0=.ok (b,d,d')->∀σ' v F' H',Stp (ED (start N vs) (sl++BG (N.length-sl.length) .no)) F H F' H' (ED σ' E')->Sim K H τ F' H' σ' E' ->
   RetR K (ED (start N vs) (sl++BG (N.length-sl.length) .no)) H F' H' σ' E' b0 v d0->Q v H':=by
  intro E' b0 d0 hf σ' v F' H' s1 S1 rr;obtain⟨rfl,rfl,h3⟩:=yC7 hf
  have p0:∀(i:Nat) t x,(hG sl d')[i]?=AA (.own t x)->i=0/\t=AK/\x=d'/\∃x0 r,sl=.own AK x0::r:=λi t x q=>by
   cases sl with
   |nil=>simp[hG] at q
   |cons y r =>
    have DW:(∀t0 x0,y≠.own t0 x0)->(y::r)[i]?=AA (.own t x)->False:=λhn q=>by
     obtain⟨h0,ht⟩:=sh i t x q;subst h0;simp at q;exact hn _ _ q
    cases y with
    |no=>exact(DW (λ_ _ z=>Sl.noConfusion z) q).elim
    |val _=>exact(DW (λ_ _ z=>Sl.noConfusion z) q).elim
    |own t0 x0 =>
     cases i with
     |zero =>
      obtain⟨_,ht⟩:=sh 0 t0 x0 rfl;subst ht;have q:AA (Sl.own AK d')=AA (.own t x):=q;cases q;exact{rfl,rfl,rfl,x0,r,rfl}
     |succ i =>
      have:=(sh (i+1) t x q).1;omega
  have pv:∀(i:Nat) x,(hG sl d')[i]?=AA (.val x)->sl[i]?=AA (.val x):=λi x q=>by
   unfold hG at q;split at q
   .cases i with
    |zero=>simp at q
    |succ i=>simpa using q
   .exact q
  have vE:∀x0 r,sl=.own AK x0::r->∃a,(vs.map AA)[0]?=AA (AA (.ref a))/\τ=a/\σ'[0]?=AA (AA (.ref a))/\F' a=AN/\OwnAt K F' H' a d'/\(∀o u,H a≠AA (.frz o u))/\E'[0]?=AA (.own AK d'):=λx0 r e=>by
   obtain⟨r',e'⟩:=h3 AK x0 r e;have q0:E'[0]?=AA (.own AK d'):=by rw[e'];rfl
   obtain⟨a,a1,a2,a3,a4,a5⟩:=S1.own 0 AK d' q0;obtain⟨c,c1,c2,c3,c4,c5⟩:=Sm.own 0 AK x0 (by rw[e];rfl);have:a=c:=by rw[<-a5 rfl,<-c5 rfl]
   subst this;exact{a,c1,c5 rfl,a1,a2,a3,a4,q0}
  refine k v F' H' {λa o e hw n ho=>s1.keep a o e hw n λz=>ho ((rJ a).mp z),s1.dom,s1.le,λa o e=>(s1.new a o e).imp_right λz=>z.imp_right (rJ a).mp,λa ⟨i,t,x,q1,q2⟩=>?_}
   {S1.sub,?_,λi x q=>?_,λi t x q=>?_,λi j t u x y a q1 q2 _ _=>by rw[(p0 i t x q1).1,(p0 j u y q2).1]} ?_
  .obtain⟨rfl,rfl,rfl,x0,r,e⟩:=p0 i t x q1
   exact .inl {0,AK,x0,by rw[e];rfl,q2}
  .have:(hG sl d').length=sl.length:=by
    unfold hG;split<;>rfl
   rw[this];exact Sm.len
  .obtain⟨v,h1,h2⟩:=Sm.val i x (pv i x q)
   exact{v,h1,h2.le s1.le}
  .obtain⟨rfl,rfl,rfl,x0,r,e⟩:=p0 i t x q
   obtain⟨a,a1,a2,a3,a4,a5,a6,_⟩:=vE x0 r e;exact{a,a1,a4,a5,a6,λ_=>a2}
  .cases b with
   |false=>exact rr
   |true =>
    obtain⟨a,r1,r2,r3,r4,r5⟩:=rr
    have no:¬ED (vs.map AA) sl a:=by
     rintro⟨i,t,x,q1,q2⟩;obtain⟨rfl,rfl⟩:=sh i t x q1
     cases sl with
     |nil=>simp at q1
     |cons y r =>
      simp at q1;subst q1;obtain⟨c,c1,c2,c3,c4,c5,c6,c7⟩:=vE x r rfl;rw[q2] at c1;cases c1;exact r5 0 d' c7 c3
    refine{a,r1,r2,r3,r4.elim (λz=>absurd ((rJ a).mp z) no) id,?_};rintro⟨i,t,x,q1,q2⟩;obtain⟨rfl,rfl,rfl,x0,r,e⟩:=p0 i t x q1;exact no {0,AK,x0,by rw[e];rfl,q2}
 refine{τ,F,_,r,Sm0,e1,?_}
 cases r with
 |rt b0 d0 E'=>exact cY hm
 |nx E'=>exact λσ' F' H' s1 S1=>cY hm σ' .non F' H' s1 S1 .non
 |bk E'=>cases hm
 |ct E'=>cases hm
theorem W1{st:FC}{ps:List CN}{gb:GS}(Fn:Fun K x qual st f fd)(S:FnScope N ps (J7 st))
  (K4:∀(G3:AI) (A:DP) (outer:List XZ) (s:AT) (H:Hp) (E:XK),Room k (A.deeper (G0 qual (J7 st) s.heap.objs.size f G3)) ->
   bG (TK L6 P w K mg base N qual (J7 st) f G3 A outer s H E).nox (W7 st) gb):FnOk P w K mg base L6 (k+1) f fd ps (N7 K ps.length (RU N.length gb)) :=
 Ci Fn S λG3 A outer s H E _ hr=>K4 G3 A outer s H E hr
end
variable{m:Mr}
section
variable{K:AC}{ge:G}{gs:List G}
def N8(P:CO)(w:D2)(K:AC)(mg:CN->Option AI)(base:D3)(x:CN)(k np:Nat)(m:Mr):Prop :=
 ∃(f:AR) (fd:JO) (ps:List CN),FnOk P w K mg base L6 k f fd ps (N7 K np m)/\mg x=AA (.ref f)/\E6 K (.ref f)=AK/\Binds K fd ps []
theorem xW{ds:List D}(a:AR):¬ED σ (ds.map Sl.val) a:=λq0=>by
 obtain⟨i,t,d,e,_⟩:=q0;rw[AV] at e
 cases q:ds[i]? with
 |none=>rw[q] at e;cases e
 |some d'=>rw[q] at e;cases e
theorem Sim.args{ds:List D}(s:Sub F H)(r:Reps K F vs ds):Sim K H₀ τ F H (vs.map AA) (ds.map Sl.val):=by
 have no:∀(i:Nat) t d,(ds.map Sl.val)[i]?≠AA (.own t d):=λi t d e=>by
  rw[AV] at e
  cases q:ds[i]? with
  |none=>rw[q] at e;cases e
  |some d'=>rw[q] at e;cases e
 refine{s,by rw[AJ,AJ,r.length],λi d e=>?_,λi t d e=>absurd e (no i t d),λi j t u d d' a e=>absurd e (no i t d)};rw[AV] at e
 cases q:ds[i]? with
 |none=>rw[q] at e;cases e
 |some d' =>
  rw[q] at e;cases e;obtain⟨v,h1,h2⟩:=r.get q;exact{v,by rw[AV,h1];rfl,h2}
theorem Eo(ds:List D):Hz (ds.map Sl.val):=λi t d e=>by
 rw[AV] at e
 cases q:ds[i]? with
 |none=>rw[q] at e;cases e
 |some d'=>rw[q] at e;cases e
theorem New.share(n:New F1 H1 F2 H2)(h:H1 a=AN)(ho:H2 a=AA o)(hf:F2 a=AN):New F1 H1 (D5 F2 a o) H2:=by
 refine{{n.1.keep,n.1.dom,n.1.le.trans (.of_gr (Gr.new hf)),λb u e=>?_,λ_ z=>z.elim},λb u e=>?_}
 .by_cases hb:b=a
  .subst hb;exact .inr (.inl (.none h))
  .rw[EW hb] at e;exact n.1.new b u e
 .by_cases hb:b=a
  .subst hb;rw[HC] at e;rw[ho];exact e
  .rw[EW hb] at e;exact n.2 b u e
def LD(m:Mr)(gs:List G):G:=λE=>(OU gs E).bind λp=>(m (p.1.map Sl.val)).bind λq=>.ok (q.2.1,p.2)
def pP(m:Mr)(gs:List G):G:=λE=>(OU gs E).bind λp=>(m (p.1.map Sl.val)).bind λq=>if q.1=AK then .ok (q.2.1,p.2) else .bad
theorem mZ:∀{gs:List G} {E:Ev} {q:List D×Ev},OU gs E=.ok q->q.1.length=gs.length
 |[],_,_,h=>by rw[OU] at h;cases h;rfl
 |g::gs,E,q,h=>by
  rw[OU] at h;obtain⟨p,_,h⟩:=pA3 h;obtain⟨r,e2,h⟩:=pA3 h;cases h;rw[BC,BC,mZ e2]
theorem zY6(hn:gs.length=np){Q:VK}(h:tV K H₀ (LD m gs) σ H Q):sH (N7 K np m) [] E0 (fT K H₀ gs) σ H Q:=by
 obtain⟨τ,F,E,d,E',S,hg,k⟩:=h;obtain⟨p,e1,hg⟩:=pA3 hg;obtain⟨q,e2,hg⟩:=pA3 hg;cases hg;refine{τ,F,E,p.1,p.2,S,e1,λvs F1 H1 s1 S1 r1=>?_};dsimp only;rw[EA];refine{by rw[r1.length,mZ e1,hn],0,F1,_,q.1,q.2.1,q.2.2,Sim.args S1.sub r1,Eo _,e2,λv F2 H2 s2 S2 rr=>?_};have n:New F1 H1 F2 H2:={(s2.toF λa=>xW a).weak λ_ z=>z.elim,S2.sub}
 cases hb:q.1 with
 |false =>
  rw[hb] at rr;exact k v F2 H2 (s1.trans n.stp) (S1.new n) rr
 |true =>
  rw[hb] at rr;obtain⟨a,rfl,h1,h2,h3,h4⟩:=rr;obtain⟨o,ho,_⟩:=h2.ho;have n':=n.share h3 ho h1;exact k _ _ H2 (s1.trans n'.stp) (S1.new n') (h2.rep h1 ho)
theorem zUL(hn:gs.length=np){Q:VK}(h:tF K H₀ (pP m gs) σ H Q):sH (N7 K np m) [] E0 (fT K H₀ gs) σ H Q:=by
 obtain⟨τ,F,E,d,E',S,hg,k⟩:=h;obtain⟨p,e1,hg⟩:=pA3 hg;obtain⟨q,e2,hg⟩:=pA3 hg;split at hg
 .rename_i hb
  cases hg;refine{τ,F,E,p.1,p.2,S,e1,λvs F1 H1 s1 S1 r1=>?_};dsimp only;rw[EA];refine{by rw[r1.length,mZ e1,hn],0,F1,_,q.1,q.2.1,q.2.2,Sim.args S1.sub r1,Eo _,e2,λv F2 H2 s2 S2 rr=>?_};have n:New F1 H1 F2 H2:={(s2.toF λa=>xW a).weak λ_ z=>z.elim,S2.sub};rw[hb] at rr;obtain⟨a,rfl,h1,h2,h3,h4⟩:=rr;exact k a F2 H2 (s1.trans n.stp) (S1.new n) h1 (s1.dom a h3) h2 (S1.fresh h3)
 .cases hg
theorem TY(C:N8 X.prog X.w X.K X.mg X.base x k np m)(hr:Room k X.A)(ha:VA X (e::es) gs)(hn:gs.length=np:=by rfl)(hg:Gl X x:=by rfl)(UA:(x==("__debug__":CN))=AD:=by decide)
  (he:AM (e::es) X.env=(AD,eval e X.env)::AM es X.env:=by rfl) (JV:(DD pos (AM es X.env)).any (·.1)=AD:=by rfl):VE X (.Call (.Name x p) (e::es) [] pos) (LD m gs):=by
 obtain⟨f,fd,ps,Fn,hm,hk,hb⟩:=C;exact(yU Fn hr hg hm hk hb .nil xZ ha UA he JV).imp λ_ _ _ h=>zY6 hn h
theorem yC8(C:N8 X.prog X.w X.K X.mg X.base x k np m)(hr:Room k X.A)(ha:VA X (e::es) gs)(hn:gs.length=np:=by rfl)(hg:Gl X x:=by rfl)(UA:(x==("__debug__":CN))=AD:=by decide)
  (he:AM (e::es) X.env=(AD,eval e X.env)::AM es X.env:=by rfl) (JV:(DD pos (AM es X.env)).any (·.1)=AD:=by rfl):FE X (.Call (.Name x p) (e::es) [] pos) (pP m gs):=by
 obtain⟨f,fd,ps,Fn,hm,hk,hb⟩:=C;exact(yU Fn hr hg hm hk hb .nil xZ ha UA he JV).imp λ_ _ _ h=>zUL hn h
def LJ(m:Mr)(i:Nat)(gs:List G):G:=λE=>match E[i]? with
 |some (.own _ _)=>(OU gs E).bind λp=>match p.2[i]? with
  |some (.own t d)=>(m (.own AK d::p.1.map Sl.val)).bind λq=>.ok (q.2.1,p.2.set i (.own t q.2.2))
  |_=>.bad
 |_=>.bad
theorem pAF{ds:List D}{d:D}(s:Sub F H)(r:Reps K F vs ds)(h1:F a=AN)(h2:OwnAt K F H a d):Sim K H a F H ((V.ref a::vs).map AA) (.own AK d::ds.map Sl.val):=by
 have S:=Sim.args (K:=K) (H₀:=H) (τ:=a) s r
 have no:∀(i:Nat) t d',(Sl.own AK d::ds.map Sl.val)[i]?=AA (.own t d')->i=0/\t=AK/\d'=d:=λi t d' e=>by
  cases i with
  |zero=>cases e;exact{rfl,rfl,rfl}
  |succ i =>
   have e:(ds.map Sl.val)[i]?=AA (.own t d'):=by simpa using e
   rw[AV] at e
   cases q:ds[i]? with
   |none=>rw[q] at e;cases e
   |some d'=>rw[q] at e;cases e
 refine{s,by rw[AJ,BC,BC,AJ,r.length],λi d' e=>?_,λi t d' e=>?_,λi j t u d1 d2 b e1 e2 _ _=>by rw[(no i _ _ e1).1,(no j _ _ e2).1]}
 .cases i with
  |zero=>cases e
  |succ i=>simpa using S.val i d' (by simpa using e)
 .obtain⟨rfl,rfl,rfl⟩:=no i t d' e
  obtain⟨o,ho,hw⟩:=h2.ho;exact{a,rfl,h1,h2,λob u z=>by rw[ho] at z;cases z;exact hw,λ_=>rfl}
theorem Gy{ds:List D}{d:D}:Hz (.own AK d::ds.map Sl.val):=λi t d' e=>by
 cases i with
 |zero=>cases e;exact{rfl,rfl}
 |succ i =>
  have e:(ds.map Sl.val)[i]?=AA (.own t d'):=by simpa using e
  exact absurd (Eo ds i t d' e) (by
   rw[AV] at e
   cases q:ds[i]? with
   |none=>rw[q] at e;cases e
   |some d'=>rw[q] at e;cases e)
theorem kX{ds:List D}{b:AR}{d:D}(h:ED ((V.ref a::vs).map AA) (.own AK d::ds.map Sl.val) b):b=a:=by
 obtain⟨i,t,d',e1,e2⟩:=h;obtain⟨rfl,_⟩:=Gy i t d' e1;cases e2
 rfl
theorem zUM(hn:gs.length+1=np){Q:VK}(h:tV K H₀ (LJ m i gs) σ H Q):sH (N7 K np m) [] E0 (sI (aU i) (fT K H₀ gs)) σ H Q:=by
 obtain⟨τ,F,E,d,E',S,hg,k⟩:=h;unfold LJ at hg;split at hg
 .rename_i t0 d0 e0
  obtain⟨p,e1,hg⟩:=pA3 hg;split at hg
  .rename_i t d1 e3
   obtain⟨q,e2,hg⟩:=pA3 hg;cases hg;obtain⟨a,a1,_⟩:=S.own i _ _ e0;refine{_,a1,τ,F,E,p.1,p.2,S,e1,λvs F1 H1 s1 S1 r1=>?_};dsimp only;rw[EA];obtain⟨a',b1,b2,b3,b4,b5⟩:=S1.own i _ _ e3;rw[a1] at b1;cases b1;refine{by rw[BC,r1.length,mZ e1,hn],a,F1,_,q.1,q.2.1,q.2.2,pAF S1.sub r1 b2 b3,Gy,e2,λv F2 H2 s2 S2 rr=>?_};have s2:Stp (ED ((V.ref a::vs).map AA) (.own AK d1::p.1.map Sl.val)) F1 H1 F2 H2 (ED ((V.ref a::vs).map AA) (.own AK q.2.2::p.1.map Sl.val)):=s2;have S2:Sim K H1 a F2 H2 ((V.ref a::vs).map AA) (.own AK q.2.2::p.1.map Sl.val):=S2;have hi:i<p.2.length:=(AE.mp e3).1
   have II:∀(j:Nat) t' d',(p.2.set i (.own t q.2.2))[j]?=AA (.own t' d')->(j=i/\t'=t/\d'=q.2.2)\/(j≠i/\p.2[j]?=AA (.own t' d')):=λj t' d' z=>by
    by_cases hj:i=j
    .subst hj;rw[BF hi] at z;cases z;exact .inl {rfl,rfl,rfl}
    .rw[A5 hj] at z;exact .inr {E7 hj,z}
   have Yj:∀b,ED σ (p.2.set i (.own t q.2.2)) b->ED σ p.2 b:=λb q0=>by
    obtain⟨j,t',d',z1,z2⟩:=q0;rcases II j t' d' z1 with⟨rfl,_,_⟩|⟨_,z1⟩
    .exact{_,_,_,e3,z2}
    .exact{j,t',d',z1,z2}
   have Yt:ED σ p.2 a:={i,t,d1,e3,a1};have KW:Stp (ED σ p.2) F1 H1 F2 H2 (ED σ (p.2.set i (.own t q.2.2))):={λb o z hw n ho=>s2.keep b o z hw n λy=>ho (by rw[kX y];exact Yt),s2.dom,s2.le,λb o z=>(s2.new b o z).imp_right λy=>y.imp_right λy=>by rw[kX y];exact Yt,λb z=>.inl (Yj b z)}
   have Sm:Sim K H₀ τ F2 H2 σ (p.2.set i (.own t q.2.2)):=by
    refine{S2.sub,by rw[BW];exact S1.len,λj d' z=>?_,λj t' d' z=>?_,λj l t1 t2 x y b z1 z2 y1 y2=>?_}
    .by_cases hj:i=j
     .subst hj;rw[BF hi] at z;cases z
     .rw[A5 hj] at z
      obtain⟨v,h1,h2⟩:=S1.val j d' z;exact{v,h1,h2.le s2.le}
    .rcases II j t' d' z with⟨rfl,rfl,rfl⟩|⟨hj,z⟩
     .obtain⟨c,c1,c2,c3,_⟩:=S2.own 0 AK q.2.2 rfl
      cases c1;exact{a,a1,c2,c3,b4,b5}
     .obtain⟨c,c1,c2,c3,c4⟩:=S1.own j t' d' z
      obtain⟨o,ho,hw⟩:=c3.ho;have w8:c≠a:=λy=>hj (S1.inj j i t' t d' d1 a z e3 (by rw[c1,y]) a1);refine{c,c1,?_,c3.mono s2.le ((s2.keep c o ho hw c2 λy=>w8 (kX y)).trans ho.symm),c4}
      cases y:F2 c with
      |none=>rfl
      |some u =>
       rcases s2.new c u y with y|y|y
       .exact absurd c2 y
       .exact absurd hw (y o ho)
       .exact absurd (kX y) w8
    .have f:∀(j:Nat) t' d',(p.2.set i (.own t q.2.2))[j]?=AA (.own t' d')->∃nR Mm,p.2[j]?=AA (.own nR Mm):=λj t' d' z=>by
      rcases II j t' d' z with⟨rfl,_,_⟩|⟨_,z⟩
      .exact{_,_,e3}
      .exact{_,_,z}
     obtain⟨_,_,w1⟩:=f j _ _ z1;obtain⟨_,_,w2⟩:=f l _ _ z2;exact S1.inj j l _ _ _ _ b w1 w2 y1 y2
   cases hb:q.1 with
   |false =>
    rw[hb] at rr;exact k v F2 H2 (s1.trans KW) Sm rr
   |true =>
    rw[hb] at rr;obtain⟨c,rfl,h1,h2,h3,h4⟩:=rr;obtain⟨o,ho,_⟩:=h2.ho
    have nc:∀b,ED σ (p.2.set i (.own t q.2.2)) b->b≠c:=λb z y=>by
     subst y;exact S1.fresh h3 (Yj b z)
    refine k _ (D5 F2 c o) H2 (s1.trans {KW.keep,KW.dom,KW.le.trans (.of_gr (Gr.new h1)),λb u z=>?_,KW.own}) {λb u z=>?_,Sm.len,λj d' z=>?_,λj t' d' z=>?_,Sm.inj} (h2.rep h1 ho)
    .by_cases hb:b=c
     .subst hb;exact .inr (.inl (.none h3))
     .rw[EW hb] at z;exact KW.new b u z
    .by_cases hb:b=c
     .subst hb;rw[HC] at z;rw[ho];exact z
     .rw[EW hb] at z;exact Sm.sub b u z
    .obtain⟨v,y1,y2⟩:=Sm.val j d' z
     exact{v,y1,y2.le (.of_gr (Gr.new h1))}
    .obtain⟨b,y1,y2,y3,y4⟩:=Sm.own j t' d' z
     exact{b,y1,by rw[EW (nc b {j,t',d',z,y1})];exact y2,y3.mono (.of_gr (Gr.new h1)) rfl,y4}
  .cases hg
 .cases hg
theorem W6{q:YA}(i:Nat)(C:N8 X.prog X.w X.K X.mg X.base x k np m)(hr:Room k X.A)(ha:VA X es gs)(hn:gs.length+1=np:=by rfl)(hg:Gl X x:=by rfl)(UA:(x==("__debug__":CN))=AD:=by decide)
  (he:AM (.Name xn q::es) X.env=(AD,eval (.Name xn q) X.env)::AM es X.env:=by rfl) (JV:(DD pos (AM es X.env)).any (·.1)=AD:=by rfl)
  (hN:X.N[i]?=AA xn:=by rfl) (hv:Z8 X.env.scope xn:=by first|exact BO rfl|exact DY (BO rfl)|exact DY (DY rfl)) (hd:(xn==("__debug__":CN))=AD:=by decide)
  (L9:(xn==("__classdict__":CN))=AD:=by decide):VE X (.Call (.Name x p) (.Name xn q::es) [] pos) (LJ m i gs):=by
 obtain⟨f,fd,ps,Fn,hm,hk,hb⟩:=C;exact(yU Fn hr hg hm hk hb .nil xZ (QY (iI hN hv hd L9) ha he) UA he JV).imp λ_ _ _ h=>zUM hn h
end
theorem PTs.imp{t t':TT}(h:PTs X es t)(hi:∀σ H Q,t' σ H Q->t σ H Q):PTs X es t':=λAF s σ H Q I q=>h AF s σ H Q I (hi σ H Q q)
abbrev An(X:Cx)(es:List CU)(g:Ev->Out (Bool×Ev)):Prop:=PTs X es (tT X.K X.H₀ g)
def VD:Ev->Out (Bool×Ev):=λE=>.ok (AK,E)
theorem mX:An X [] VD:=ZG.imp λσ H Q h=>by
 obtain⟨τ,F,E,d,E',S,hg,k⟩:=h;cases hg;exact k F H .refl S
theorem mW{t:Ev->Out (Bool×Ev)}(h:VT X c t):An X [c] t:=zYS h
theorem zRE{l:List Nat}(h:l.Nodup){x:Nat}(hi:l[i]?=AA x)(hj:l[j]?=AA x):i=j:=by
 obtain⟨a1,a2⟩:=AE.mp hi;obtain⟨b1,b2⟩:=AE.mp hj;have p:=B0.mp h;rcases JY i j with z|z|z
 .exact absurd (a2.trans b2.symm) (p i j a1 b1 z)
 .exact z
 .exact absurd (b2.trans a2.symm) (p j i b1 a1 z)
noncomputable def WM(k:Nat)(js:List Nat)(E:Ev):Ev:=BG k .no++js.map λj=>(E[j]?).getD .no
noncomputable def j9(j:Nat):List Nat->Nat->Option Nat
 |[],_=>AN
 |x::xs,n=>if x=j then AA n else j9 j xs (n+1)
theorem Fk{j:Nat}:∀{js:List Nat} {n0 n:Nat},j9 j js n0=AA n->∃m,n=n0+m/\js[m]?=AA j
 |[],_,_,h=>by cases h
 |x::xs,n0,n,h=>by
  rw[j9] at h;split at h
  .rename_i hx;cases h;exact{0,rfl,by simp[hx]}
  .obtain⟨m,h1,h2⟩:=Fk h;exact{m+1,by lia,by simpa using h2}
theorem Tk{j:Nat}:∀{js:List Nat} {n0:Nat},j9 j js n0=AN->j∉js
 |[],_,_=>by simp
 |x::xs,n0,h=>by
  rw[j9] at h;split at h
  .cases h
  .rename_i hx
   have:=Tk h;simp only[A2,not_or];exact{λz=>hx z.symm,this}
def g9(Ec:Ev)(k:Nat)(js:List Nat)(j:Nat):Sl->Sl
 |.own t d=>match j9 j js 0 with
  |some n=>(Ec[k+n]?).getD .no
  |none=>.own t d
 |s=>s
def cF(Ec:Ev)(k:Nat)(js:List Nat):Nat->Ev->Ev
 |_,[]=>[]
 |j,s::E=>g9 Ec k js j s::cF Ec k js (j+1) E
abbrev XB(E Ec:Ev)(k:Nat)(js:List Nat):Ev:=cF Ec k js 0 E
theorem En(Ec:Ev)(k:Nat)(js:List Nat):∀(E:Ev) (j0 j:Nat),(cF Ec k js j0 E)[j]?=(E[j]?).map (g9 Ec k js (j0+j))
 |[],_,_=>by simp[cF]
 |s::E,j0,0=>by simp[cF]
 |s::E,j0,j+1=>by
  show(cF Ec k js (j0+1) E)[j]?=_;rw[En Ec k js E (j0+1) j,FW,show j0+1+j=j0+(j+1) by lia]
theorem Rj(Ec:Ev)(k:Nat)(js:List Nat):∀(E:Ev) (j0:Nat),(cF Ec k js j0 E).length=E.length
 |[],_=>rfl
 |s::E,j0=>by rw[cF,BC,BC,Rj Ec k js E (j0+1)]
theorem yO{E Ec:Ev}{s:Sl}(h:(XB E Ec k js)[j]?=AA s):(E[j]?=AA s/\((∃t d,s=.own t d)->j∉js))\/∃t d n,E[j]?=AA (.own t d)/\js[n]?=AA j/\s=(Ec[k+n]?).getD .no:=by
 rw[En,EV] at h
 cases q:E[j]? with
 |none=>rw[q] at h;cases h
 |some s0 =>
  rw[q] at h;have h:g9 Ec k js j s0=s:=BL h
  cases s0 with
  |no=>cases h;exact .inl {rfl,(λq0=>by obtain⟨_,_,z⟩:=q0;exact by cases z)}
  |val d=>cases h;exact .inl {rfl,(λq0=>by obtain⟨_,_,z⟩:=q0;exact by cases z)}
  |own t d =>
   cases f:j9 j js 0 with
   |none =>
    have:g9 Ec k js j (.own t d)=.own t d:=by unfold g9;rw[f]
    rw[this] at h;exact .inl {by rw[h],λ_=>Tk f}
   |some n =>
    obtain⟨m,h1,h2⟩:=Fk f;have:g9 Ec k js j (.own t d)=(Ec[k+n]?).getD .no:=by unfold g9;rw[f]
    rw[this] at h;exact .inr {t,d,m,rfl,h2,by rw[<-h];congr 2;lia}
theorem sY{E:Ev}{s:Sl}(h:(WM k js E)[i]?=AA s)(hs:s≠.no):∃n j,i=k+n/\js[n]?=AA j/\E[j]?=AA s:=by
 unfold WM at h
 by_cases hi:i<k
 .rw[B9 (by rw[C5];exact hi),DN,if_pos hi] at h
  exact absurd (BL h).symm hs
 .rw[CA (by rw[C5];lia),C5,AV] at h
  cases q:js[i-k]? with
  |none=>rw[q] at h;cases h
  |some j =>
   rw[q] at h;have h:(E[j]?).getD .no=s:=BL h;refine{i-k,j,by lia,q,?_}
   cases z:E[j]? with
   |none=>rw[z] at h;exact absurd h.symm hs
   |some s'=>rw[z] at h;rw[<-h];rfl
theorem pZ(h:js[n]?=AA j):(WO k js σ)[k+n]?=AA ((σ[j]?).getD AN):=by
 unfold WO;rw[CA (by rw[C5];lia),C5,AV,show k+n-k=n from NE _ _,h]
 rfl
variable{E1 E2:Ev}
section
variable{K:AC}{σ2:St}{E:Ev}{acc:AR}
theorem Sim.off(S:Sim K H₀ τ F H σ E)(hf:F acc=AN)(no:¬ED σ E acc):Sim K H₀ τ F (D5 H acc o) σ E:=by
 refine{λa u e=>?_,S.len,S.val,λi t d e=>?_,S.inj}
 .have:a≠acc:=λz=>by rw[z,hf] at e;cases e
  rw[EW this];exact S.sub a u e
 .obtain⟨a,h1,h2,h3,h4⟩:=S.own i t d e
  have:a≠acc:=λz=>no {i,t,d,e,by rw[<-z];exact h1};exact{a,h1,h2,h3.mono (.refl _) (EW this),h4}
theorem pAG(S:Sub F H)(h:H acc=AN):F acc=AN:=by
 cases e:F acc with
 |none=>rfl
 |some u=>rw[S acc u e] at h;cases h
theorem Cu(h:ED (WO k js σ) (WM k js E) a):∃(n j:Nat) (t:Bool) (d:D),js[n]?=AA j/\E[j]?=AA (.own t d)/\σ[j]?=AA (AA (.ref a)):=by
 obtain⟨i,t,d,e1,e2⟩:=h;obtain⟨n,j,rfl,h1,h2⟩:=sY e1 (by intro z;cases z);rw[pZ h1] at e2;refine{n,j,t,d,h1,h2,?_}
 cases q:σ[j]? with
 |none=>rw[q] at e2;cases e2
 |some z=>rw[q] at e2;cases e2;rfl
theorem Sim.enter(S:Sim K H₀ τ F H σ E)(k:Nat)(hj:js.Nodup)(ha:H acc=AN):Sim K (D5 H acc o) τ F (D5 H acc o) (WO k js σ) (WM k js E):=by
 have hf:=pAG S.sub ha;refine{λa u e=>?_,by unfold WM WO;simp,λi d e=>?_,λi t d e=>?_,λi j t u d d' a e1 e2 z1 z2=>?_}
 .have:a≠acc:=λz=>by rw[z,hf] at e;cases e
  rw[EW this];exact S.sub a u e
 .obtain⟨n,j,rfl,h1,h2⟩:=sY e (by intro z;cases z)
  obtain⟨v,h3,h4⟩:=S.val j d h2;exact{v,by rw[pZ h1,h3];rfl,h4}
 .obtain⟨n,j,rfl,h1,h2⟩:=sY e (by intro z;cases z)
  obtain⟨a,h3,h4,h5,h6,h7⟩:=S.own j t d h2;obtain⟨ob,ho,hw⟩:=h5.ho;have:a≠acc:=λz=>by rw[z,ha] at ho;cases ho
  exact{a,by rw[pZ h1,h3];rfl,h4,h5.mono (.refl _) (EW this),λw u z=>by rw[EW this,ho] at z;cases z;exact hw,h7}
 .obtain⟨n,l,rfl,h1,h2⟩:=sY e1 (by intro z;cases z)
  obtain⟨n',l',rfl,YY,V8⟩:=sY e2 (by intro z;cases z);rw[pZ h1] at z1;rw[pZ YY] at z2
  have w1:σ[l]?=AA (AA (.ref a)):=by
   cases q:σ[l]? with
   |none=>rw[q] at z1;cases z1
   |some z=>rw[q] at z1;cases z1;rfl
  have w2:σ[l']?=AA (AA (.ref a)):=by
   cases q:σ[l']? with
   |none=>rw[q] at z2;cases z2
   |some z=>rw[q] at z2;cases z2;rfl
  have:=S.inj l l' t u d d' a h2 V8 w1 w2;subst this;rw[zRE hj h1 YY]
theorem Sim.leave(S:Sim K H₀ τ F1 H1 σ E1)(ha:H1 acc=AN)(s:Stp (λa=>ED (WO k js σ) (WM k js E1) a\/a=acc) F1 (D5 H1 acc o) F2 H2 (ED σ2 E2))
  (S2:Sim K (D5 H1 acc o) τ F2 H2 σ2 E2) (hs:∀j:Nat,k<=j->σ2[j]?=(WO k js σ)[j]?) :
  Sim K H₀ τ F2 H2 σ (XB E1 E2 k js)/\Stp (ED σ E1) F1 H1 F2 H2 (ED σ (XB E1 E2 k js)):=by
 have cow:∀a,ED (WO k js σ) (WM k js E1) a->ED σ E1 a:=λa h=>let ⟨n,j,t,d,_,h2,h3⟩:=Cu h;{j,t,d,h2,h3};have ne:∀a u,H1 a=AA u->a≠acc:=λa u e z=>by rw[z,ha] at e;cases e
 have slot:∀(n j:Nat),js[n]?=AA j->σ2[k+n]?=AA ((σ[j]?).getD AN):=λn j h=>by rw[hs (k+n) (A3 _ _),pZ h]
 have dE:∀(j:Nat) t d,(XB E1 E2 k js)[j]?=AA (.own t d)->∃t' d',E1[j]?=AA (.own t' d'):=λj t d e=>by
  rcases yO e with⟨h,_⟩|⟨t',d',n,h,_⟩
  .exact{t,d,h}
  .exact{t',d',h}
 have st:Stp (ED σ E1) F1 H1 F2 H2 (ED σ (XB E1 E2 k js)):=by
  refine{λa u e hw n ho=>s.keep a u (by rw[EW (ne a u e)];exact e) hw n λz=>z.elim (λz=>ho (cow a z)) (ne a u e),λa e=>?_,s.le,λa u e=>?_,λa ⟨j,t,d,e1,e2⟩=>?_}
  .have:=s.dom a e
   by_cases h:a=acc
   .rw[h];exact ha
   .rw[EW h] at this;exact this
  .rcases s.new a u e with z|z|z|z
   .exact .inl z
   .by_cases h:a=acc
    .rw[h];exact .inr (.inl (.none ha))
    .exact .inr (.inl λo' e'=>z o' (by rw[EW h];exact e'))
   .exact .inr (.inr (cow a z))
   .rw[z];exact .inr (.inl (.none ha))
  .obtain⟨t',d',h⟩:=dE j t d e1
   exact .inl {j,t',d',h,e2}
 refine{{S2.sub,by rw[Rj];exact S.len,λj d e=>?_,λj t d e=>?_,λi j t u d d' a e1 e2 z1 z2=>?_},st}
 .rcases yO e with⟨h,_⟩|⟨t',d',n,h,h1,h2⟩
  .obtain⟨v,h1,h2⟩:=S.val j d h
   exact{v,h1,h2.le s.le}
  .have e2:E2[k+n]?=AA (.val d):=by
    cases q:E2[k+n]? with
    |none=>rw[q] at h2;cases h2
    |some z=>rw[q] at h2;rw[h2];rfl
   obtain⟨v,h3,h4⟩:=S2.val _ d e2;rw[slot n j h1] at h3;refine{v,?_,h4}
   cases q:σ[j]? with
   |none=>rw[q] at h3;cases h3
   |some z=>rw[q] at h3;cases h3;rfl
 .rcases yO e with⟨h,h'⟩|⟨t',d',n,h,h1,h2⟩
  .have hj:=h' {t,d,rfl}
   obtain⟨a,c1,c2,c3,c4⟩:=S.own j t d h;obtain⟨ob,ho,hw⟩:=c3.ho
   have nc:¬(ED (WO k js σ) (WM k js E1) a\/a=acc):=λz=>by
    rcases z with z|z
    .obtain⟨n,l,t2,d2,y1,y2,y3⟩:=Cu z
     have:=S.inj j l t t2 d d2 a h y2 c1 y3;subst this;exact hj (CC y1)
    .exact ne a ob ho z
   refine{a,c1,?_,c3.mono s.le ((s.keep a ob (by rw[EW (ne a ob ho)];exact ho) hw c2 nc).trans ho.symm),c4}
   cases y:F2 a with
   |none=>rfl
   |some u =>
    rcases s.new a u y with y|y|y
    .exact absurd c2 y
    .exact absurd hw (y ob (by rw[EW (ne a ob ho)];exact ho))
    .exact absurd y nc
  .have e2:E2[k+n]?=AA (.own t d):=by
    cases q:E2[k+n]? with
    |none=>rw[q] at h2;cases h2
    |some z=>rw[q] at h2;rw[h2];rfl
   obtain⟨a,h3,h4,h5,h6,h7⟩:=S2.own _ t d e2;rw[slot n j h1] at h3;obtain⟨a',c1,c2,c3,c4,c5⟩:=S.own j t' d' h;rw[c1] at h3;cases h3;exact{a,c1,h4,h5,c4,h7}
 .obtain⟨_,_,h1⟩:=dE i t d e1
  obtain⟨_,_,h2⟩:=dE j u d' e2;exact S.inj i j _ _ _ _ a h1 h2 z1 z2
end
section
variable{K:AC}
end
abbrev GM:=D->Ev->Out (D×Ev)
theorem Stp.more{ow:AR->Prop}{acc:AR}(x:Stp ow F H F1 H1 UY):Stp (λa=>ow a\/a=acc) F H F1 H1 (λa=>UY a\/a=acc) :=
 {λa o e w f n=>x.keep a o e w f λz=>n (.inl z),x.dom,x.le,λa o e=>(x.new a o e).imp id λz=>z.imp id .inl,λa q=>q.elim (λz=>(x.own a z).imp .inl id) λz=>.inl (.inr z)}
def Hk(K:AC)(H₀:Hp)(acc:AR)(k:Nat)(g:GM):TM:=λσ H N=>∃τ F E d d' E',Sim K H₀ τ F H σ E/\F acc=AN/\¬ED σ E acc/\OwnAt K F H acc d/\g d E=.ok (d',E') /\
 ∀σ' F' H',Stp (λa=>ED σ E a\/a=acc) F H F' H' (λa=>ED σ' E' a\/a=acc)->Sim K H₀ τ F' H' σ' E'->F' acc=AN->¬ED σ' E' acc->OwnAt K F' H' acc d'->(∀j:Nat,k<=j->σ'[j]?=σ[j]?)->N σ' H'
def cE(t:Tg)(tt:Ev->Out (Bool×Ev))(gm:GM):List D->GM
 |[],d,E=>.ok (d,E)
 |x::xs,d,E=>(XA t x E).bind λE1=>(tt E1).bind λb=>if b.1=AK then(gm d b.2).bind λq=>cE t tt gm xs q.1 q.2 else cE t tt gm xs d b.2
variable{tt:Ev->Out (Bool×Ev)}{gm:GM}
section
variable{K:AC}{E:Ev}{acc:AR}
theorem Ch{Ea Eb:Ev}{Fa Ha Fb Hb:Hp}{d:D}(st:Stp (ED σ' Ea) Fa Ha Fb Hb (ED σ' Eb))(a1:Fa acc=AN)(a2:¬ED σ' Ea acc)(a3:OwnAt K Fa Ha acc d):Fb acc=AN/\¬ED σ' Eb acc/\OwnAt K Fb Hb acc d:=by
 obtain⟨o,ho,hw⟩:=a3.ho;have hb:=st.keep acc o ho hw a1 a2;refine{?_,λz=>(st.own acc z).elim a2 λz=>by (rw[ho] at z;cases z),a3.mono st.le (hb.trans ho.symm)}
 cases z:Fb acc with
 |none=>rfl
 |some u =>
  rcases st.new acc u z with z|z|z
  .exact absurd a1 z
  .exact absurd hw (z _ ho)
  .exact absurd z a2
theorem yF4{t:Tg}{ds:List D}(IU:t.ltn k=AK){N:St->Hp->Prop}{d d':D}(S:Sim K H₀ τ F H σ E)(hf:F acc=AN)(no:¬ED σ E acc)(ho:OwnAt K F H acc d)(hw:Walks K J F ds)
  (hg:cE t tt gm ds d E=.ok (d',E'))
  (hN:∀σ' F' H',Stp (λa=>ED σ E a\/a=acc) F H F' H' (λa=>ED σ' E' a\/a=acc)->Sim K H₀ τ F' H' σ' E'->F' acc=AN->¬ED σ' E' acc->OwnAt K F' H' acc d'->(∀j:Nat,k<=j->σ'[j]?=σ[j]?)->N σ' H') :
  tWalkC J (tG K H₀ t) (tT K H₀ tt) (Hk K H₀ acc k gm) σ H N:=by
 refine{λi m σ2 H2=>m=ds.length-i/\i<=ds.length/\∃F2 E2 d2,Sim K H₀ τ F2 H2 σ2 E2/\Stp (λa=>ED σ E a\/a=acc) F H F2 H2 (λa=>ED σ2 E2 a\/a=acc) /\
   F2 acc=AN/\¬ED σ2 E2 acc/\OwnAt K F2 H2 acc d2/\(∀j:Nat,k<=j->σ2[j]?=σ[j]?)/\cE t tt gm (ds.drop i) d2 E2=.ok (d',E'),
  {_,rfl,BY _,F,E,d,S,Stp.refl,hf,no,ho,λ_ _=>rfl,by rw[U6];exact hg},?_}
 rintro i m σ2 H2 ⟨rfl,Lb,F2,E2,d2,S2,s2,f2,n2,o2,NB,g2⟩;obtain⟨w2,w3,w4⟩:=hw i F2 H2 s2.le S2.sub
 by_cases hi:i<ds.length
 .obtain⟨x,hd⟩:∃d,ds[i]?=AA d:={ds[i],by simp[hi]}
  have Lp:ds.drop i=x::ds.drop (i+1):=by
   rw[GQ hi];have:ds[i]=x:=by rw[A7 hi] at hd;exact BL hd
   rw[this]
  rw[Lp,cE] at g2;obtain⟨E3,e3,g2⟩:=pA3 g2;obtain⟨b,e4,g2⟩:=pA3 g2;refine .inr {w2 hi,λy H' yl=>?_};obtain⟨F3,n3,r3⟩:=w4 y H' x hd yl;obtain⟨f3,m3,o3⟩:=Ch (n3.stp (ow:=ED σ2 E2)) f2 n2 o2;refine{τ,F3,E2,x,E3,S2.new n3,r3,e3,λσ4 S4 o4 b4=>?_};have m4:¬ED σ4 E3 acc:=λz=>n2 (o4 acc z);have Za:∀j:Nat,k<=j->σ4[j]?=σ[j]?:=λj hj=>by rw[b4 k IU j hj,NB j hj]
  have s4:Stp (λa=>ED σ E a\/a=acc) F H F3 H' (λa=>ED σ4 E3 a\/a=acc):=(s2.trans n3.stp).weak λa z=>z.imp (o4 a) id;refine{τ,F3,E3,b.1,b.2,S4,e4,λF5 H5 s5 S5=>?_};obtain⟨f5,m5,o5⟩:=Ch s5 f3 m4 o3;have Yc:=s4.trans (s5.more (acc:=acc));dsimp only
  by_cases hb:b.1=AK
  .rw[if_pos hb] at g2 ⊢
   obtain⟨z,e6,g2⟩:=pA3 g2;refine{τ,F5,b.2,d2,z.1,z.2,S5,f5,m5,o5,e6,λσ6 F6 H6 s6 S6 f6 m6 o6 hs6=>?_};exact{_,by lia,rfl,hi,F6,z.2,z.1,S6,Yc.trans s6,f6,m6,o6,λj hj=>by rw[hs6 j hj,Za j hj],g2}
  .rw[if_neg hb] at g2 ⊢
   exact{_,by lia,rfl,hi,F5,b.2,d2,S5,Yc,f5,m5,o5,Za,g2}
 .have hi:i=ds.length:=by lia
  rw[NL 'l',cE] at g2;cases g2;exact .inl {w3 hi,hN σ2 F2 H2 s2 S2 f2 n2 o2 NB}
theorem yF5{F6 H6:Hp}(s6:Stp (ED σ E) F H F6 H6 (ED σ' E')):Stp (λa=>ED σ E a\/a=acc) F H F6 (D5 H6 acc o) (λa=>ED σ' E' a\/a=acc):=by
 have st:=s6.more (acc:=acc);refine{λa u e hw n ho=>by rw[EW (λy=>ho (.inr y))];exact st.keep a u e hw n ho,λa e=>?_,st.le,st.new,st.own}
 by_cases Zr:a=acc
 .rw[Zr,HC] at e;cases e
 .rw[EW Zr] at e;exact st.dom a e
def Cg(ge:G):GM:=λd E=>(ge E).bind λp=>match d with|.lst ds=>few ds.length (.ok (.lst (ds++[p.1]),p.2))|_=>.bad
theorem zUO{ge:G}{N:St->Hp->Prop}(h:Hk K H₀ acc k (Cg ge) σ H N):kE acc (tV K H₀ ge) σ H N:=by
 obtain⟨τ,F,E,d,d',E',S,f,n,o,hg,k⟩:=h;obtain⟨p,e1,hg⟩:=pA3 hg;split at hg
 .rename_i ds
  obtain⟨hz,hg⟩:=ZF hg;cases hg;refine{τ,F,E,p.1,p.2,S,e1,λy F6 H6 s6 S6 r6=>?_};obtain⟨f6,m6,ys,h6,r2⟩:=Ch s6 f n o;exact{ys,h6,by rw[r2.length];exact fJ hz,k σ F6 _ (yF5 s6) (S6.off f6 m6) f6 m6 {_,HC,r2.append (.cons r6 .nil)} λ_ _=>rfl}
 .cases hg
def yE(gi:GI)(k:Nat)(js:List Nat)(d0:D)(t:Tg)(tt:Ev->Out (Bool×Ev))(gm:GM):G:=λE=>(gi E).bind λp=>(cE t tt gm p.1 d0 (WM k js p.2)).bind λq=>.ok (q.1,XB p.2 q.2 k js)
theorem zUP{d0:D}{t:Tg}(hd0:∀(F H:Hp) (a:AR),OwnAt K F (D5 H a o) a d0)(IU:t.ltn k=AK)(hj:js.Nodup){Q:VK}(h:tF K H₀ (yE gi k js d0 t tt gm) σ H Q) :
  sU (tI K H₀ gi) k js o (λH=>tG K H t) (λH=>tT K H tt) (λH acc=>Hk K H acc k gm) σ H Q:=by
 obtain⟨τ,F,E,d,E',S,hg,kq⟩:=h;obtain⟨p,e1,hg⟩:=pA3 hg;obtain⟨q,e2,hg⟩:=pA3 hg;cases hg;refine{τ,F,E,p.1,p.2,S,e1,λJ F1 H1 s1 S1 w1 acc ha=>?_};have hf:=pAG S1.sub ha;have S0:=S1.enter (o:=o) k hj ha
 have no:¬ED (WO k js σ) (WM k js p.2) acc:=λz=>by
  obtain⟨n,j,t',d',_,z2,z3⟩:=Cu z;exact S1.fresh ha {j,t',d',z2,z3}
 refine yF4 IU S0 hf no (hd0 _ _ _) w1 e2 λσ2 F2 H2 s2 S2 f2 n2 o2 NB=>?_;have s2':Stp (λa=>ED (WO k js σ) (WM k js p.2) a\/a=acc) F1 (D5 H1 acc o) F2 H2 (ED σ2 q.2):=s2.weak λa z=>.inl z;obtain⟨S9,s9⟩:=S1.leave ha s2' S2 NB;refine kq acc F2 H2 (s1.trans s9) S9 f2 (s1.dom acc ha) o2 λz=>?_
 exact(s9.own acc z).elim (λy=>S1.fresh ha y) λy=>S1.fresh ha (by
   obtain⟨j,t',d',z1,z2⟩:=z;rcases yO z1 with⟨h,_⟩|⟨nR,Mm,n,h,_⟩
   .exact{j,t',d',h,z2}
   .exact{j,nR,Mm,h,z2})
theorem tWalkC.imp{J:It}{g:TG}{tt:TT}{tm Xw:TM}(hi:∀σ H N,tm σ H N->Xw σ H N){N:St->Hp->Prop}(mt:∀(σ:St) (H:Hp) (P P':Bool->Hp->Prop),(∀b H2,P b H2->P' b H2)->tt σ H P->tt σ H P')(mg:∀(x:V) (σ:St) (H:Hp) (P P':St->Hp->Prop),(∀σ2 H2,P σ2 H2->P' σ2 H2)->g x σ H P->g x σ H P')(h:tWalkC J g tt tm σ H N):tWalkC J g tt Xw σ H N:=by
 obtain⟨W,w0,turn⟩:=h;refine{W,w0,λi m σ H w=>(turn i m σ H w).imp id λ⟨go,st⟩=>{go,λx H' y=>mg _ _ _ _ _ (λσ2 H2 q=>mt _ _ _ _ (λb H3 q=>?_) q) (st x H' y)}}
 cases b with
 |true=>rw[if_pos rfl] at q ⊢;exact hi _ _ _ q
 |false=>rw[if_neg CH] at q ⊢;exact q
theorem zY9(σ:St)(H:Hp)(P P':Bool->Hp->Prop)(hp:∀b H2,P b H2->P' b H2)(h:tT K H₀ tt σ H P):tT K H₀ tt σ H P' :=
 let ⟨τ,F,E,b,E',S,hg,k⟩:=h;{τ,F,E,b,E',S,hg,λF' H' s S'=>hp _ _ (k F' H' s S')}
theorem zZA{t:Tg}(x:V)(σ:St)(H:Hp)(P P':St->Hp->Prop)(hp:∀b H2,P b H2->P' b H2)(h:tG K H₀ t x σ H P):tG K H₀ t x σ H P' :=
 let ⟨τ,F,E,d,E',S,r,hg,k⟩:=h;{τ,F,E,d,E',S,r,hg,λσ' a b c=>hp _ _ (k σ' a b c)}
theorem zZB{R R':It->Hp->Prop}(hp:∀J H2,R J H2->R' J H2)(h:tI K H₀ gi σ H R):tI K H₀ gi σ H R' :=
 let ⟨τ,F,E,ds,E',S,hg,k⟩:=h;{τ,F,E,ds,E',S,hg,λJ F' H' a b c=>hp _ _ (k J F' H' a b c)}
def N6(gi:GI)(k:Nat)(js:List Nat)(t:Tg)(tt:Ev->Out (Bool×Ev))(ge:G):G:=yE gi k js (.lst []) t tt (Cg ge)
theorem Pt{t:Tg}{ge:G}(IU:t.ltn k=AK)(hj:js.Nodup){Q:VK}(h:tF K H₀ (N6 gi k js t tt ge) σ H Q) :
  sU (tI K H₀ gi) k js (.lst []) (λH=>tG K H t) (λH=>tT K H tt) (λH acc=>kE acc (tV K H ge)) σ H Q :=
 zZB (λJ H2 q acc ha=>tWalkC.imp (λ_ _ _ z=>zUO z) (λσ H=>zY9 σ H) (λx σ H=>zZA x σ H) (q acc ha)) (zUP (o:=.lst []) (d0:=.lst []) (λF H a=>{[],HC,.nil}) IU hj h)
theorem cL{iter:CU}{t:Tg}{ge:G}(n:CompNm X scope cl own CZ js)(hc:X.calm=AK)(hi:VI X tg iter gi)
  (hg:∀C s H fp,VG (OV X scope cl (own++CZ) C s H fp) tg t) (ht:∀C s H fp,An (OV X scope cl (own++CZ) C s H fp) ifs tt) (he:∀C s H fp,VE (OV X scope cl (own++CZ) C s H fp) OE ge)
  (IU:t.ltn own.length=AK:=by rfl) (hj:js.Nodup:=by decide) (hs:∀x,D6 iter X.env x=pure x:=by intro _;rfl):FE X (.ListComp OE [{tg,iter,ifs,0}] scope pos) (N6 gi own.length js t tt ge) :=
 (zYU (g:=λH=>tG X.K H t) (tt:=λH=>tT X.K H tt) (te:=λH=>tV X.K H ge) n hc hi hg ht he hs).imp λ_ _ _ h=>Pt IU hj h
end
mutual
noncomputable def D.py:D->Option G1
 |.non=>AA .none
 |.bl b=>AA (.bool b)
 |.int i=>AA (.int i)
 |.str x=>if LB (.str x)=AK then AA (.str x) else AN
 |.tup xs=>(pAH xs).map .tuple
 |.lst xs=>(pAH xs).map .list
 |.dk _=>AN
 |.dt _=>AN
noncomputable def pAH:List D->Option (List G1)
 |[]=>AA []
 |d::ds=>match d.py,pAH ds with
  |some p,AA ps=>AA (p::ps)
  |_,_=>AN
end
section
variable{K:AC}
mutual
theorem Rep.dv(s:Sub F H):∀(d:D) {v:V} {p:G1},Rep K F v d->d.py=AA p->DV K H v p
 |.non,_,_,.non,e=>by rw[D.py] at e;cases e;exact .non
 |.bl b,_,_,.bl _,e=>by rw[D.py] at e;cases e;exact .bl b
 |.int i,_,_,.int _,e=>by rw[D.py] at e;cases e;exact .int i
 |.str x,_,_,.str _,e=>by
  rw[D.py] at e;split at e
  .rename_i h;cases e;exact .str x h
  .cases e
 |.tup xs,_,_,r,e=>by
  rw[D.py] at e;obtain⟨ps,h1,h2⟩:=BS.mp e;subst h2;obtain⟨a,vs,rfl,r,sq⟩:=r.tupSq;exact .tup (sq F H (.refl _) s) (Reps.dv s xs r h1)
 |.lst xs,_,_,.lst h r,e=>by
  rw[D.py] at e;obtain⟨ps,h1,h2⟩:=BS.mp e;subst h2;exact .lst (h.imp s.rd id) (Reps.dv s xs r h1)
 |.dk _,_,_,_,e=>by rw[D.py] at e;cases e
 |.dt _,_,_,_,e=>by rw[D.py] at e;cases e
theorem Reps.dv(s:Sub F H):∀(d:List D) {v:List V} {p:List G1},Reps K F v d->pAH d=AA p->DVs K H v p
 |[],_,_,.nil,e=>by rw[pAH] at e;cases e;exact .nil
 |d::ds,_,_,.cons h r,e=>by
  rw[pAH] at e;split at e
  .rename_i p ps e1 e2
   cases e;exact .cons (Rep.dv s d h e1) (Reps.dv s ds r e2)
  .cases e
end
end
noncomputable def UW(x y:D):Out D:=match x.py,y.py with
 |some p,AA q=>if min p.depth q.depth<=60 then .ok (.bl (C2 p q)) else .bad
 |_,_=>.bad
noncomputable def LZ(x y:D):Out D:=match x.py,y.py with
 |some p,AA q=>if min p.depth q.depth<=60 then .ok (.bl (!C2 p q)) else .bad
 |_,_=>.bad
section
variable{K:AC}{a b:CU}{ga gb ge:G}
theorem Om:UX K (zY K AD) UW:=λv u x y F H d Q s r1 r2 hf k=>by
 unfold UW at hf;split at hf
 .rename_i p q e1 e2
  split at hf
  .rename_i hm
   cases hf;exact{p,q,r1.dv s _ e1,r2.dv s _ e2,hm,k _ F H (.refl s) (.bl _)}
  .cases hf
 .cases hf
theorem yC9:UX K (zY K AK) LZ:=λv u x y F H d Q s r1 r2 hf k=>by
 unfold LZ at hf;split at hf
 .rename_i p q e1 e2
  split at hf
  .rename_i hm
   cases hf;exact{p,q,r1.dv s _ e1,r2.dv s _ e2,hm,k _ F H (.refl s) (.bl _)}
  .cases hf
 .cases hf
theorem Wk(hu:X.A.units+64<GT)(ha:VE X a ga)(hb:VE X b gb)(hm:DX .Eq b=AD:=by with_unfolding_all rfl):VT X (.Compare a [.Eq] [b] pos) (gB (g2 UW ga gb)):=iJ (Os hu) Om ha hb hm
theorem fE(hu:X.A.units+64<GT)(ha:VE X a ga)(hb:VE X b gb)(hm:DX .NotEq b=AD:=by with_unfolding_all rfl):VT X (.Compare a [.NotEq] [b] pos) (gB (g2 LZ ga gb)):=iJ (yCW hu) yC9 ha hb hm
theorem Ac(hu:X.A.units+64<GT)(ha:VE X a ga)(hb:VE X b gb)(hm:DX .Eq b=AD:=by with_unfolding_all rfl):VE X (.Compare a [.Eq] [b] pos) (g2 UW ga gb):=Ws (Os hu) Om ha hb hm
end
section
variable[DecidableEq κ]
noncomputable def M9(kvs:List (κ×D))(k:κ):Option D:=(kvs.find? λkv=>decide (kv.1=k)).map (·.2)
noncomputable def P4(kvs:List (κ×D))(k:κ)(v:D):List (κ×D) :=
 if(kvs.any λkv=>decide (kv.1=k))=AK then kvs.map (λkv=>if kv.1=k then(kv.1,v) else kv) else kvs++[(k,v)]
end
noncomputable def iC:D->Option Key
 |.int i=>AA (.inl i)
 |.str x=>AA (.inr x)
 |_=>AN
noncomputable def PH:List D->Option (List Int)
 |[]=>AA []
 |.int i::ds=>(PH ds).map (i::·)
 |_::_=>AN
theorem kT:∀{ds:List D} {ns:List Int},PH ds=AA ns->ds=ns.map D.int
 |[],_,h=>by rw[PH] at h;cases h;rfl
 |.int i::ds,_,h=>by
  rw[PH] at h;obtain⟨r,h1,h2⟩:=BS.mp h;subst h2;rw[kT h1];rfl
 |.non::_,_,h=>by simp[PH] at h
 |.bl _::_,_,h=>by simp[PH] at h
 |.str _::_,_,h=>by simp[PH] at h
 |.tup _::_,_,h=>by simp[PH] at h
 |.lst _::_,_,h=>by simp[PH] at h
 |.dk _::_,_,h=>by simp[PH] at h
 |.dt _::_,_,h=>by simp[PH] at h
theorem nB:∀ns:List Int,PH (ns.map D.int)=AA ns
 |[]=>rfl
 |n::ns=>by rw[AU,PH,nB ns];rfl
theorem yN:∀{a b:List Int},a.map (CQ:Int->Key)=b.map CQ->a=b
 |[],[],_=>rfl
 |[],_::_,h=>by simp at h
 |_::_,[],h=>by simp at h
 |x::a,y::b,h=>by
  rw[AU,AU] at h;injection h with h1 h2;injection h1 with h1;rw[h1,yN h2]
section
variable{K:AC}
theorem RepK.length{vs:List (Key×V)}{ds:List (Key×D)}(r:RepK K F vs ds):vs.length=ds.length:=r.rec1 (R:=λvs ds=>vs.length=ds.length) rfl λ_ _ ih=>congrArg (·+1) ih
theorem RepT.length{vs:List (List Key×V)}{ds:List (List Int×D)}(r:RepT K F vs ds):vs.length=ds.length:=r.rec1 (T:=λvs ds=>vs.length=ds.length) rfl λ_ _ ih=>congrArg (·+1) ih
def OpR1(K:AC)(F:Hp):Option V->Option D->Prop
 |some v,AA d=>Rep K F v d
 |none,AN=>True
 |_,_=>False
theorem RepK.get(k:Key){vs:List (Key×V)}{ds:List (Key×D)}(r:RepK K F vs ds):OpR1 K F (QW vs k) (M9 ds k):=by
 refine r.rec1 (R:=λvs ds=>OpR1 K F (QW vs k) (M9 ds k)) trivial ?_
 .intro k' v d vs ds h _ ih
  by_cases e:k'=k
  .have e1:QW ((k',v)::vs) k=AA v:=by simp[QW,e]
   have e2:M9 ((k',d)::ds) k=AA d:=by simp[M9,e]
   rw[e1,e2];exact h
  .have e1:QW ((k',v)::vs) k=QW vs k:=by simp[QW,e]
   have e2:M9 ((k',d)::ds) k=M9 ds k:=by simp[M9,e]
   rw[e1,e2];exact ih
theorem RepT.get(k:List Int){vs:List (List Key×V)}{ds:List (List Int×D)}(r:RepT K F vs ds):OpR1 K F (QW vs (k.map CQ)) (M9 ds k):=by
 refine r.rec1 (T:=λvs ds=>OpR1 K F (QW vs (k.map CQ)) (M9 ds k)) trivial ?_
 .intro k' v d vs ds h _ ih
  by_cases e:k'=k
  .have e1:QW ((k'.map CQ,v)::vs) (k.map CQ)=AA v:=by simp[QW,e]
   have e2:M9 ((k',d)::ds) k=AA d:=by simp[M9,e]
   rw[e1,e2];exact h
  .have e':¬k'.map (CQ:Int->Key)=k.map CQ:=λz=>e (yN z)
   have e1:QW ((k'.map CQ,v)::vs) (k.map CQ)=QW vs (k.map CQ):=by simp[QW,e']
   have e2:M9 ((k',d)::ds) k=M9 ds k:=by simp[M9,e]
   rw[e1,e2];exact ih
theorem OpR1.isSome{o:Option V}{p:Option D}(h:OpR1 K F o p):o.isSome=p.isSome:=by
 cases o<;>cases p<;>first|rfl|exact h.elim
theorem OpR1.some_of{o:Option V}{d:D}(h:OpR1 K F o (AA d)):∃v,o=AA v/\Rep K F v d:=by
 cases o with
 |none=>exact h.elim
 |some v=>exact{v,rfl,h}
theorem OpR1.none_of{o:Option V}(h:OpR1 K F o AN):o=AN:=by
 cases o with
 |none=>rfl
 |some v=>exact h.elim
def iB:D->D->Option (Option D)
 |.dk kvs,k=>(iC k).map (M9 kvs)
 |.dt kvs,.tup ks=>(PH ks).map (M9 kvs)
 |_,_=>AN
theorem pAI{u:V}{x y:D}{o:Option D}(s:Sub F H)(r1:Rep K F v x)(r2:Rep K F u y)(h:iB x y=AA o):∃a ov,v=.ref a/\hV H a u ov/\OpR1 K F ov o:=by
 cases x with
 |dk kvs =>
  obtain⟨k,h1,h2⟩:=BS.mp (show(iC y).map (M9 kvs)=AA o from h);subst h2
  cases r1 with
  |dk hr r =>
   refine{_,_,rfl,.inl {_,k,s.rd hr,?_,rfl},r.get k};cases y<;>first|cases h1|skip
   .obtain rfl:=r2.vI;rfl
   .obtain rfl:=r2.vS;rfl
 |dt kvs =>
  cases y with
  |tup ks =>
   obtain⟨ns,h1,h2⟩:=BS.mp (show(PH ks).map (M9 kvs)=AA o from h);subst h2;have:=kT h1;subst this
   cases r1 with
   |dt hr r =>
    generalize hk:ns.map D.int=kk at r2
    cases r2 with
    |tup hb rb =>
     subst hk;have:=rb.vint;subst this;refine{_,_,rfl,.inr {_,ns.map CQ,_,s.rd hr,rfl,?_,rfl},r.get ns};rw[D7];exact s _ _ hb
    |@tupK a xs hb nb =>
     cases xs with
     |nil=>exact absurd rfl nb
     |cons x xs =>
      cases ns with
      |nil=>cases hk
      |cons n ns=>cases hk
  |_=>cases h
 |_=>cases h
end
def RX(x y:D):Out D:=match y with
 |.lst ds=>match pAH ds,x.py with
  |some ps,AA p=>if p.depth<=60 then .ok (.bl (ps.any λd=>C2 d p)) else .bad
  |_,_=>.bad
 |.tup ds=>match pAH ds,x.py with
  |some ps,AA p=>if p.depth<=60 then .ok (.bl (ps.any λd=>C2 d p)) else .bad
  |_,_=>.bad
 |y=>match iB y x with
  |some o=>.ok (.bl o.isSome)
  |none=>.bad
def P5(x y:D):Out D:=(RX x y).bind λd=>match d with|.bl b=>.ok (.bl (!b))|_=>.bad
section
variable{K:AC}{a b:CU}{ga gb ge:G}
def qS(dA:Bool):R2:=λx y H Q=>∃a o,y=.ref a/\hV H a x o/\Q (.bl (if dA then !o.isSome else o.isSome)) H
theorem Sb(hu:X.A.units+64<GT):OpR X (EX .In) (qS AD):=λAF s σ H x y v u Q I rx ry h=>by
 obtain⟨a,o,rfl,g,q⟩:=h;cases ry;exact yIE 'l' I g rx λs3 I3=>{.bl _,H,I3,rfl,q}
theorem zLO(hu:X.A.units+64<GT):OpR X (EX .NotIn) (qS AK):=λAF s σ H x y v u Q I rx ry h=>by
 obtain⟨a,o,rfl,g,q⟩:=h;cases ry;exact zYL 'l' I g rx λs3 I3=>{.bl _,H,I3,rfl,q}
theorem Ps(dA:Bool){f:D->D->Out D}(hf:∀x y d,f x y=.ok d->∃b,RX x y=.ok (.bl b)/\d=.bl (if dA then !b else b)):UX K (λx y H Q=>qW K dA x y H Q\/qS dA x y H Q) f:=λv u x y F H d Q s r1 r2 h k=>by
 obtain⟨b,hi,rfl⟩:=hf x y d h
 have Yb:∀ds p (sq:SqL K H p ds\/SqT K H p ds) (xs:List D),Reps K F ds xs->u=.ref p->(match pAH xs,x.py with
   |some ps,AA p=>if p.depth<=60 then Out.ok (D.bl (ps.any λd=>C2 d p)) else .bad
   |_,_=>.bad)=.ok (.bl b)->qW K dA v u H Q:=λds p sq xs rr eu hh=>by
  split at hh
  .rename_i ps q e1 e2
   split at hh
   .rename_i hd
    cases hh;exact{p,ds,ps,q,eu,sq,rr.dv s _ e1,r1.dv s _ e2,hd,k _ F H (.refl s) (.bl _)}
   .cases hh
  .cases hh
 have Mk:(match iB y x with|some o=>Out.ok (D.bl o.isSome)|none=>.bad)=.ok (.bl b)->qS dA v u H Q:=λhh=>by
  split at hh
  .rename_i o eo
   cases hh;obtain⟨a,ov,rfl,g,ro⟩:=pAI s r2 r1 eo;refine{a,ov,rfl,g,?_};rw[ro.isSome];exact k _ F H (.refl s) (.bl _)
  .cases hh
 cases y with
 |lst ds =>
  obtain⟨p,vs,rfl,hr,rr⟩:=r2.isRefL;exact .inl (Yb vs p (.inl (hr.imp s.rd id)) ds rr rfl hi)
 |tup ds =>
  obtain⟨p,vs,rfl,rr,sq⟩:=r2.tupSq;exact .inl (Yb vs p (.inr (sq F H (.refl _) s)) ds rr rfl hi)
 |_=>exact .inr (Mk hi)
theorem Ol{x y d:D}(h:RX x y=.ok d):∃b,d=.bl b:=by
 unfold RX at h;split at h
 .split at h
  .split at h
   .cases h;exact{_,rfl}
   .cases h
  .cases h
 .split at h
  .split at h
   .cases h;exact{_,rfl}
   .cases h
  .cases h
 .split at h
  .cases h;exact{_,rfl}
  .cases h
theorem Oj:UX K (λx y H Q=>qW K AD x y H Q\/qS AD x y H Q) RX:=Ps AD λx y d h=>by
 obtain⟨b,rfl⟩:=Ol h;exact{b,h,rfl}
theorem zRK:UX K (λx y H Q=>qW K AK x y H Q\/qS AK x y H Q) P5:=Ps AK λx y d h=>by
 obtain⟨d',h1,h2⟩:=pA3 h;obtain⟨b,rfl⟩:=Ol h1;cases h2;exact{b,h1,rfl}
theorem Wj(hu:X.A.units+64<GT)(ha:VE X a ga)(hb:VE X b gb)(hm:DX .In b=AD:=by with_unfolding_all rfl):VT X (.Compare a [.In] [b] pos) (gB (g2 RX ga gb)):=iJ ((Oq hu).or (Sb hu)) Oj ha hb hm
theorem yIN(hu:X.A.units+64<GT)(ha:VE X a ga)(hb:VE X b gb)(hm:DX .In b=AD:=by with_unfolding_all rfl):VE X (.Compare a [.In] [b] pos) (g2 RX ga gb):=Ws ((Oq hu).or (Sb hu)) Oj ha hb hm
theorem p7(hu:X.A.units+64<GT)(ha:VE X a ga)(hb:VE X b gb)(hm:DX .NotIn b=AD:=by with_unfolding_all rfl):VT X (.Compare a [.NotIn] [b] pos) (gB (g2 P5 ga gb)):=iJ ((zQV hu).or (zLO hu)) zRK ha hb hm
noncomputable def aS(x y:D):Out D:=match y with
 |.non=>match x with
  |.non=>.ok (.bl AK)
  |_=>.ok (.bl AD)
 |_=>.bad
noncomputable def sF(x y:D):Out D:=match y with
 |.non=>match x with
  |.non=>.ok (.bl AD)
  |_=>.ok (.bl AK)
 |_=>.bad
theorem Rep.nonV{x:D}(r:Rep K F v x):v=.non↔x=.non:=by
 constructor
 .intro e;subst e;cases r;rfl
 .intro e;subst e;cases r;rfl
theorem yDC{x y d:D}(h:aS x y=.ok d):y=.non/\d=.bl (open Classical in decide (x=.non)):=by
 cases y with
 |non=>cases x<;>(injection h with h;exact{rfl,by rw[<-h];simp})
 |_=>cases h
theorem zZC{x y d:D}(h:sF x y=.ok d):y=.non/\d=.bl (!(open Classical in decide (x=.non))):=by
 cases y with
 |non=>cases x<;>(injection h with h;exact{rfl,by rw[<-h];simp})
 |_=>cases h
theorem zZD:UX K (λx y H Q=>y=.non/\Q (.bl (decide (x=.non))) H) aS:=λv u x y F H d Q s r1 r2 hf k=>by
 have h:=yDC hf;refine{r2.nonV.mpr h.1,k _ F H (.refl s) ?_};rw[h.2,decide_eq_decide.mpr r1.nonV];exact .bl _
theorem zUQ:UX K (λx y H Q=>y=.non/\Q (.bl (!decide (x=.non))) H) sF:=λv u x y F H d Q s r1 r2 hf k=>by
 have h:=zZC hf;refine{r2.nonV.mpr h.1,k _ F H (.refl s) ?_};rw[h.2,decide_eq_decide.mpr r1.nonV];exact .bl _
theorem yD(ha:VE X a ga)(hb:VE X b gb)(hm:DX .Is b=AD:=by with_unfolding_all rfl):VT X (.Compare a [.Is] [b] pos) (gB (g2 aS ga gb)):=iJ yB8 zZD ha hb hm
theorem zZE(ha:VE X a ga)(hb:VE X b gb)(hm:DX .IsNot b=AD:=by with_unfolding_all rfl):VT X (.Compare a [.IsNot] [b] pos) (gB (g2 sF ga gb)):=iJ zYA zUQ ha hb hm
def ZH(x y:D):Out D:=match x,y with
 |.int i,.int j=>.ok (.bl (decide (i<j)))
 |.tup xs,.tup ys=>match PH xs,PH ys with
  |some ns,AA ms=>.ok (.bl (HT.lexLt ns ms))
  |_,_=>.bad
 |_,_=>.bad
theorem Rep.intsT{ds:List D}(s:Sub F H)(r:Rep K F v (.tup ds))(h:PH ds=AA ns):∃a,v=.ref a/\SqT K H a (ns.map V.int):=by
 have:=kT h;subst this;obtain⟨a,vs,rfl,rr,sq⟩:=r.tupSq;have:=rr.vint;subst this;exact{a,rfl,sq F H (.refl _) s}
theorem yDD:UX K (λx y H Q=>cQ (λi j=>.bl (decide (i<j))) x y H Q\/Vo K x y H Q) ZH:=λv u x y F H d Q s r1 r2 hf k=>by
 unfold ZH at hf;split at hf
 .cases hf;obtain rfl:=r1.vI;obtain rfl:=r2.vI
  exact .inl {_,_,rfl,rfl,k _ F H (.refl s) (.bl _)}
 .split at hf
  .rename_i e1 e2
   cases hf;obtain⟨a,rfl,h1⟩:=r1.intsT s e1;obtain⟨b,rfl,h2⟩:=r2.intsT s e2;exact .inr {a,b,_,_,rfl,rfl,h1,h2,k _ F H (.refl s) (.bl _)}
  .cases hf
 .cases hf
noncomputable def Ab(p:Int->Int->Bool)(x y:D):Out D:=match x,y with
 |.int i,.int j=>.ok (.bl (p i j))
 |_,_=>.bad
theorem Pq(p:Int->Int->Bool):UX K (cQ λi j=>.bl (p i j)) (Ab p):=λv u x y F H d Q s r1 r2 hf k=>by
 unfold Ab at hf;split at hf
 .cases hf;obtain rfl:=r1.vI;obtain rfl:=r2.vI
  exact{_,_,rfl,rfl,k _ F H (.refl s) (.bl _)}
 .cases hf
abbrev Hq:=Ab λi j=>decide (j<i)
abbrev Hr:=Ab λi j=>decide (j<=i)
theorem xV(hu:X.A.units+64<GT)(ha:VE X a ga)(hb:VE X b gb)(hm:DX .Lt b=AD:=by with_unfolding_all rfl):VT X (.Compare a [.Lt] [b] pos) (gB (g2 ZH ga gb)):=iJ (uA.or (yCE (AS (A3 _ _) hu))) yDD ha hb hm
theorem yF6(ha:VE X a ga)(hb:VE X b gb)(hm:DX .Gt b=AD:=by with_unfolding_all rfl):VT X (.Compare a [.Gt] [b] pos) (gB (g2 Hq ga gb)):=iJ yFJ (Pq _) ha hb hm
theorem yF7(ha:VE X a ga)(hb:VE X b gb)(hm:DX .GtE b=AD:=by with_unfolding_all rfl):VT X (.Compare a [.GtE] [b] pos) (gB (g2 Hr ga gb)):=iJ yFK (Pq _) ha hb hm
end
theorem yM{t:AR}(x:h.IsListIter it t i)(k:∀o,h.get? it=AA o->h'.get? it=AA o):h'.IsListIter it t i:=let ⟨o,e,r⟩:=x;{o,k o e,r}
theorem yL{t:AR}(k:h.IsListIter t l i)(hs:DM a h h')(ne:t≠a):h'.IsListIter t l i:=yM k λo e=>hs.extBut _ _ ne e
theorem pAJ(I:Inv X AF σ H s)(hf:∀b∈fp,FpOk X AF H b)(h:SqL X.K H a xs):a∉fp:=λz=>by
 obtain⟨f0,f1,f2,f3,f4,f5⟩:=hf a z;rcases h with h|⟨o,CI,n,hk,_⟩
 .rcases h with h|⟨o,h⟩
  .rw[f0] at h;cases h
  .rw[f0] at h;cases h
 .have hb:=I.ok.mod.kin a o hk
  rcases f3 with f3|f3
  .exact I.ok.noex a o hb f3
  .exact absurd (AQ (A9 hb) I.ok.bsz) (WI.mpr f3)
structure EnStL(h:D3)(n l:AR)(i:Nat):Prop where
 eo:∃f0 f1 II,fC h n f0 f1 i II/\F0 f0
 k1:h.IsListIter n l i
theorem EnStL.keep{n:AR}(z:EnStL h n l i)(k:∀b∈[n,n+1],∀o,h.get? b=AA o->h'.get? b=AA o):EnStL h' n l i:=by
 obtain⟨f0,f1,II,e,r⟩:=z.eo;exact{{f0,f1,II,k _ 's' _ e,r},yM z.k1 (k _ 's')}
theorem zUS{n:AR}{xs:Array AI}{x:AI}{Q:Option AI->AT->Prop}(z:EnStL s.heap n l i)(o1:l≠n)(o2:l≠n+1)(hl:s.heap.IsList l xs)(hx:xs[i]?=AA x)
  (hQ:∀h' t,EnStL h' n l (i+1)->KH h' s.heap.objs.size (.int i t) x->h'.objs.size=s.heap.objs.size+1->(∀b o,b≠n->b≠n+1->s.heap.get? b=AA o->h'.get? b=AA o)->Q (AA (.ref s.heap.objs.size)) { s with heap:=h',toks:=s.toks+1 }) :
  A0 (A6 prog w) A (JX (.ref (n+1))) Q E s:=by
 obtain⟨f0,f1,II,he,hf⟩:=z.eo;have k1:=z.k1;have hT:s.TypeIs (.ref (n+1)) "enumerate":={_,he,rfl};have aD:n≠n+1:=fL 'd';unfold JX;refine AB (GL (C9 (name:=EU "__next__") hT F8 (C8 F8 hT RQ ?_ (Q4 _))));show A0 _ _ (R6 (.ref (n+1)) 2 >>= _) _ _ _;refine AB (CS he rfl (x:=.ref n) rfl ?_);refine AB (wpAny_nextOf_list_item k1 hl hx λJU Ju EY=>?_);have pA:fC JU n f0 f1 i II:=EY.extBut _ _ aD.symm he;show A0 _ _ (R6 (.ref (n+1)) 3 >>= _) _ _ _;refine AB (CS pA rfl (x:=DC i) rfl ?_);show A0 _ _ (R6 (.ref (n+1)) 4 >>= _) _ _ _;refine AB (CS pA rfl (x:=.none) rfl ?_);show A0 _ _ (mkInt i >>= _) _ _ _;refine AB (jL ?_);show A0 _ _ (OG (.ref (n+1)) 3 (DC ((i:Int)+1)) >>= _) _ _ _;refine AB (CV pA 's' λNA o9 RF=>?_);replace o9:fC NA n f0 f1 ((i:Int)+1) II:=o9;replace RF:DM (n+1) JU NA:=RF;show A0 _ _ (OG (.ref (n+1)) 4 .none >>= _) _ _ _;refine AB (CV o9 's' λOY o8 V2=>?_);replace o8:fC OY n f0 f1 ((i:Int)+1) II:=o8;replace V2:DM (n+1) NA OY:=V2;refine AB (MR (items:=[.int i s.toks,x]) ?_);have hsz:OY.objs.size=s.heap.objs.size:=by rw[V2.1,RF.1,EY.1]
 have xD:fC (OY.push { cls:=.type "tuple",data:=.seq #[.int i s.toks,x] }) n f0 f1 ((i:Int)+1) II:=AG _ o8;have vC:KH (OY.push { cls:=.type "tuple",data:=.seq #[.int i s.toks,x] }) s.heap.objs.size (.int i s.toks) x:=by rw[<-hsz];exact AW _ rfl
 have nM:(OY.push { cls:=.type "tuple",data:=.seq #[.int i s.toks,x] }).objs.size=s.heap.objs.size+1:=by rw[FF,hsz]
 have u0:∀b o,b≠n->b≠n+1->s.heap.get? b=AA o->(OY.push { cls:=.type "tuple",data:=.seq #[.int i s.toks,x] }).get? b=AA o:=λb o b1 b2 e=>AG _ (V2.extBut b o b2 (RF.extBut b o b2 (EY.extBut b o b1 e)));have vR:(OY.push { cls:=.type "tuple",data:=.seq #[.int i s.toks,x] }).IsListIter n l (i+1):=yM (yL (yL Ju RF aD) V2 aD) λo e=>AG _ e;show A0 _ _ (C0 (.ref (n+1)) >>= _) _ _ { s with heap:=OY.push { cls:=.type "tuple",data:=.seq #[.int i s.toks,x] },toks:=s.toks+1 };have OE:n+1<s.heap.objs.size:=A9 he;rw[show(DK OY.objs.size)=DK s.heap.objs.size by rw[hsz]];generalize OY.push { cls:=.type "tuple",data:=.seq #[.int i s.toks,x] }=NQ at xD vC nM u0 vR ⊢;refine AB (zQZ (s:={ s with heap:=NQ,toks:=s.toks+1 }) xD hf λb K1 g1 o7 YM=>?_);replace YM:DM (n+1) NQ K1:=YM;have vQ:=yL vR YM aD;have vA:KH K1 s.heap.objs.size (.int i s.toks) x:=YM.extBut _ _ (FS OE) vC;have uZ:∀b o,b≠n->b≠n+1->s.heap.get? b=AA o->K1.get? b=AA o:=λb o b1 b2 e=>YM.extBut b o b2 (u0 b o b1 b2 e)
 cases b with
 |false =>
  simp only[DT,if_false];exact wpAny_pure {_,rfl,wpAny_pure (hQ K1 _ {{_,_,_,o7,hf},vQ} vA (YM.1.trans nM) uZ)}
 |true =>
  simp only[if_true];refine AB (E4 ?_);refine AB (CS o7 rfl (x:=II) rfl ?_);refine AB (CV o7 's' λnV oZ i4=>?_);replace oZ:fC nV n f0 g1 ((i:Int)+1) x:=oZ;replace i4:DM (n+1) K1 nV:=i4;refine AB ?_;unfold HF;refine AB (CV oZ 's' λdF oY iZ=>?_);replace oY:fC dF n (DC s.heap.objs.size) g1 ((i:Int)+1) x:=oY;replace iZ:DM (n+1) nV dF:=iZ;refine CV oY 's' λSR oX iY=>?_;replace oX:fC SR n (DC s.heap.objs.size) AD ((i:Int)+1) x:=oX;replace iY:DM (n+1) dF SR:=iY;have up:∀b o,b≠n+1->K1.get? b=AA o->SR.get? b=AA o:=λb o hb e=>iY.extBut b o hb (iZ.extBut b o hb (i4.extBut b o hb e));exact AB (QP (wpAny_pure {_,rfl,wpAny_pure (hQ SR _ {{_,_,_,oX,.inr {_,rfl}},yM vQ λo e=>up _ o aD e} (up _ _ (FS OE) vA) (iY.1.trans (iZ.1.trans (i4.1.trans (YM.1.trans nM)))) λb o b1 b2 e=>up b o b2 (uZ b o b1 b2 e))}))
theorem zZF{n:AR}{xs:Array AI}{Q:Option AI->AT->Prop}(hh:A.handled=AN)(z:EnStL s.heap n l i)(hl:s.heap.IsList l xs)(hx:xs[i]?=AN)
  (hQ:∀h',(∀b o,b≠n->s.heap.get? b=AA o->h'.get? b=AA o)->Q AN { s with heap:=h' }):A0 (A6 prog w) A (JX (.ref (n+1))) Q E s:=by
 obtain⟨f0,f1,II,he,hf⟩:=z.eo;have hT:s.TypeIs (.ref (n+1)) "enumerate":={_,he,rfl};unfold JX;refine AB (GL (C9 (name:=EU "__next__") hT F8 (C8 F8 hT RQ ?_ (Q4 _))));show A0 _ _ (R6 (.ref (n+1)) 2 >>= _) _ _ _;refine AB (CS he rfl (x:=.ref n) rfl ?_);refine AB (wpAny_nextOf_list_end hh z.k1 hl hx λh' e hs he'=>?_);obtain⟨o,ho,hc⟩:=he';exact AB (WD (T:="StopIteration") (b:=AK) {o,ho,hc} Y2 (wpAny_pure (hQ _ hs)))
theorem yDE{n:AR}{Q:Unit → AT → Prop}(z : EnStL s.heap n l i)(h : ∀ h', EnStL h' n l i → DM (n + 1) s.heap h' → Q () { s with heap := h' }) :
    A0 (A6 prog w) A (FP tg (.ref (n + 1)) u) Q E s := by
  have hz := h s.heap z (kP _ _);obtain ⟨f0, f1, II, e, hf⟩ := id z.eo;unfold FP
  cases tg <;> first
    | exact wpAny_pure hz
    | (cases u <;> first
        | exact wpAny_pure hz
        | (
          refine AB (wpAny_load e ?_);dsimp only;split
          · refine AB (E4 ?_)
            show A0 _ _ (OG (.ref (n + 1)) 0 .none) Q E s;exact CV e 's' fun h' fZ SU => h h' {{.none, f1, II, fZ, .inl rfl}, yL z.k1 SU (fL 'd')} SU
          · exact wpAny_pure hz))
theorem Ra{n:AR}(z:EnStL s.heap n l i)(h:Q (.ref (n+1)) s):A0 (A6 prog w) A (O1 (.ref (n+1))) Q E s:=by
 obtain⟨f0,f1,II,e,hf⟩:=z.eo;have hT:s.TypeIs (.ref (n+1)) "enumerate":={_,e,rfl};refine UB hT R8 (C8 R8 hT PySem.F.entry_enumerate_iter ?_ (PySem.F.args_enumerate_iter_1 _));show A0 _ _ (ret (.ref (n+1))) _ _ s;exact wpAny_pure {_,rfl,"enumerate",_,hT,F8.lookup,h}
noncomputable abbrev Aj(h:D3)(l:AR):D3:=h.push { cls:=.type "list_iterator",data:=.fields #[.ref l,.int 0 0] }
abbrev Hu(h:D3)(l:AR):D3:=(Aj h l).push { cls:=.type "enumerate",data:=.fields #[.none,.bool AD,.ref h.objs.size,DC 0,.none,.none] }
theorem zPB(l:AR)(xs:Array AI) :
  Meets (ES.«enumerate.__new__» {[.type "enumerate",.ref l],[]}) (λ_ R s=>s.heap.IsList l xs/\R (.ok (.ret (.ref (Aj s.heap l).objs.size))) { s with heap:=Hu s.heap l }) :=
 .of_wp λprog w A R s h=>by
  obtain⟨hp,g,d,tk,os⟩:=s;obtain⟨hl,h⟩:=h;have Kf:=sub_enumerate;have hL:Heap.IsList (X9 {hp,g,d,tk,os}) l xs:=hl
  wp_walk
  refine wpAny_stack_any λst=>wpAny_pure ?_;split
  .rename_i c _ _ _ _ _
   cases(c==UH "enumerate")
   .wp_walk using IQ hL
    exact{_,rfl,h}
   .wp_walk using IQ hL
    exact{_,rfl,h}
  .wp_walk using IQ hL
   exact{_,rfl,h}
theorem zRN{xs:Array AI}(hl:s.heap.IsList l xs)
  (h:∀h',EnStL h' s.heap.objs.size l 0->(∀b o,s.heap.get? b=AA o->h'.get? b=AA o)->Q (.ref (s.heap.objs.size+1)) { s with heap:=h' }) :
  A0 (A6 prog w) A (call (.type "enumerate") [.ref l]) Q E s:=by
 refine callType_new PySem.F.called_enumerate 'd' (PySem.F.typeCall_enumerate_1 _) (PySem.F.newCall_enumerate_1 _) (λobj=>PySem.F.args_object_init_2 obj _) PySem.F.entry_enumerate_new (zPB l xs) {hl,?_};have z1:(Aj s.heap l).objs.size=s.heap.objs.size+1:=FF ..;have g2:(Hu s.heap l).get? (Aj s.heap l).objs.size=AA _:=AW _ rfl;have g1:(Hu s.heap l).get? s.heap.objs.size=AA _:=AG _ (AW _ rfl);show _/\_;rw[z1] at g2;rw[z1];exact{{_,g2,rfl},h _ {{.none,AD,.none,g2,.inl rfl},{_,g1,rfl,rfl}} λb o e=>AG _ (AG _ e)}
def Uy(K:AC)(a:AR):It :=
 {λi H=>∃xs x,SqL K H a xs/\xs[i]?=AA x,λi H v H'=>∃p x,v=.ref p/\H p=AN/\H'=D5 H p (.tup [.int i,x])/\∀xs,SqL K H a xs->xs[i]?=AA x,λi H=>∃xs,SqL K H a xs/\xs.length<=i}
theorem zPC{K:AC}(a n:AR):Turn P w K tg (Uy K a) [n,n+1] (n+1) (λi h=>EnStL h n a i) where
 mem:=by simp
 obj:=λi h st c hc=>by
  obtain⟨f0,f1,II,e,_⟩:=st.eo;obtain⟨o0,e0,_,d0⟩:=st.k1;simp only[A2,BX,or_false] at hc;rcases hc with rfl|rfl
  .exact{_,e0,λv z=>by rw[d0] at z;cases z}
  .exact{_,e,λv z=>by have z':OR _=O5 v:=z;cases z'}
 keep:=λi h h' st k=>st.keep k
 item:=by
  intro X hP hw hK hc i AF s σ H E I hf st hg;subst hP hw hK;obtain⟨xs,x,hq,hx⟩:=hg;obtain⟨CI,rv,p,hz⟩:=I.list hq;obtain⟨u,hu,ru⟩:=rv.get hx;have Ji:=pAJ I hf hq;simp only[A2,BX,or_false,not_or] at Ji;refine zUS st Ji.1 Ji.2 (show s.heap.IsList a CI.toArray from p.isList) (x:=u) (by simpa using hu) λh' t CP hp hsz hk=>?_;refine{_,rfl,yDE (s:={ s with heap:=h',toks:=s.toks+1 }) CP λh2 st2 NB=>?_};obtain⟨f0,f1,II,e4,_⟩:=id st.eo;have IU:∀c∈[n,n+1],c<s.heap.objs.size:=λc hc=>lt2 hc (A9 e4)
  have I1:Inv X AF σ (D5 H s.heap.objs.size (.tup [.int i,x])) { s with heap:=s.heap.push { cls:=.type "tuple",data:=.seq #[.int i t,u] } } :=
   I.laid (t':=s.toks) (λb u e=>AG _ e) (AL _) {by show 2<=sizeLine;decide,[.int i t,u],.cons {t,rfl} (.cons ru .nil),{_,AW _ rfl,rfl,rfl,0,rfl}}
  have wU:∀c∈[n,n+1],FpOk X AF (D5 H s.heap.objs.size (.tup [.int i,x])) c:=λc hc=>{by rw[EW (BZ (IU c hc))];exact(hf c hc).1,(hf c hc).2}
  have I2:Inv X AF σ (D5 H s.heap.objs.size (.tup [.int i,x])) { s with heap:=h2,toks:=s.toks+1 }:=I1.turnedL (t':=s.toks+1) wU λc o hc e=>by
   simp only[A2,BX,or_false,not_or] at hc;refine NB.extBut _ _ hc.2 ?_
   by_cases dY:c=s.heap.objs.size
   .subst dY
    rw[AW _ rfl] at e;cases e;exact hp
   .have e':s.heap.get? c=AA o:=by
     rw[MF _ _ _ dY] at e;exact e
    exact hk c o hc.1 hc.2 e'
  exact{.ref s.heap.objs.size,_,I2,rfl,{_,x,rfl,I.fresh,rfl,λzs hz=>by rw[I.list_inj hz hq];exact hx},st2,λc hc=>(wU c hc).1}
 done:=by
  intro X hP hw hK hc i AF s σ H E I hf st hg;subst hP hw hK;obtain⟨xs,hq,hx⟩:=hg;obtain⟨CI,rv,p,hz⟩:=I.list hq;have hl:=rv.length;refine zZF (I.ok.hd hc) st (show s.heap.IsList a CI.toArray from p.isList) (by simp;lia) λh' hk=>{rfl,I.turnedL (t':=s.toks) hf λc o hc e=>?_};simp only[A2,BX,or_false,not_or] at hc;exact hk c o hc.1 e
 self:=λ_ _ _ _ _ st h=>Ra st h
def yDF(K:AC)(ta:TA):TI:=λσ H R=>ta σ H λvs H1=>∃a,vs=[.ref a]/\(∃xs,SqL K H1 a xs)/\R (Uy K a) H1
theorem zUT{a:CU}{ta:TA}(hg:Gl X "enumerate")(hm:X.mg "enumerate"=AN)(ha:PA X [a] ta)(hs:AM [a] X.env=[(AD,eval a X.env)]:=by rfl):PI X tg (.Call (.Name "enumerate" p) [a] [] pos) (yDF X.K ta):=by
 intro AF s σ H R I h;refine Call_ (iH I hg hm (u:=.type "enumerate") (by decide +kernel) (EO (GY (ha pos AF s σ H _ I h) λus s1 ⟨vs,H1,I1,r1,q1⟩=>?_) hs rfl));obtain⟨c,e,⟨xs,X4⟩,q⟩:=q1;subst e
 cases r1 with
 |cons r rr =>
  cases rr
  (first|obtain rfl:=r.vI|obtain rfl:=r.vB|obtain rfl:=r.vS|obtain rfl:=r.vN|cases r)
  obtain⟨YQ,uV,p1,rO⟩:=I1.list X4;refine zRN (show s1.heap.IsList c YQ.toArray from p1.isList) λh' st k=>?_;refine Ra (s:={ s1 with heap:=h' }) st ?_;exact{s1.heap.objs.size+1,[s1.heap.objs.size,s1.heap.objs.size+1],_,_,H1,rfl,I1.kept (t':=s1.toks) k,zPC c _,st,λb hb=>I1.fpOk (Xf hb) (I1.hok.fresh (Xf hb)),q}
section
variable{K:AC}{a b:CU}{ga gb gc ge:G}{gs:List G}{id T:String}
def Wi(K:AC):R2:=λx y H Q=>∃l b xs zs,x=.ref l/\y=.ref b/\SqL K H l xs/\SqL K H b zs/\xs.length+zs.length<=sizeLine/\∀p,H p=AN->Q (.ref p) (D5 H p (.lst (xs++zs)))
theorem iT:OpR X (G6 .Add) (Wi X.K):=by
 intro AF s σ H x y v u Q I rx ry h;obtain⟨l,b,xs,zs,rfl,rfl,hH,hB,hz,q⟩:=h;cases rx;cases ry;obtain⟨CI,r,pl,z⟩:=I.list hH;obtain⟨L8,r2,pl2,z2⟩:=I.list hB;obtain⟨⟨oc,od,oda,Z9⟩,n,e,e1,e2,e3⟩:=pl;obtain⟨⟨Yl,Yk,oda',Jd⟩,n',e',Mj,Mi,e3'⟩:=pl2;dsimp only at e1 e2 e3 Mj Mi e3';subst e1 e2 e3 Mj Mi e3';have hl:=r.length;have bN:=r2.length;refine UF {_,e,rfl} {_,e',rfl} noFill_list_add seq_list_add F.slot_list_add F.entry_list_add (F.args_list_add_2 _ _) (list_addW l b CI.toArray L8.toArray n n' AN AN Z9 Jd (by rw[A4,A4];lia)) {e,e',?_};have ea:CI.toArray++L8.toArray=(CI++L8).toArray:=by simp
 rw[ea];exact{.ref _,_,I.lnew (t':=s.toks) (r.append r2) (by rw[BN];lia),rfl,q _ I.fresh}
def Wh(K:AC):R2:=λx y H Q=>∃a b xs ys,x=.ref a/\y=.ref b/\SqT K H a xs/\SqT K H b ys/\xs.length+ys.length<=sizeLine/\(xs=[]->Q (.ref b) H)/\(ys=[]->Q (.ref a) H)/\∀p,H p=AN->Q (.ref p) (D5 H p (.tup (xs++ys)))
theorem iS:OpR X (G6 .Add) (Wh X.K):=by
 intro AF s σ H x y v u Q I rx ry h;obtain⟨a,b,xs,ys,rfl,rfl,ha,hb,hz,q1,q2,q3⟩:=h;cases rx;cases ry;obtain⟨CI,r1,p1,_⟩:=I.tuple ha;obtain⟨L8,r2,p2,_⟩:=I.tuple hb;refine zYX p1 p2 (λz=>{.ref b,H,I,rfl,q1 (r1.nil_iff.mp z)}) (λ_ z=>{.ref a,H,I,rfl,q2 (r2.nil_iff.mp z)}) (λ_ z=>?_) (by rw[<-r1.length,<-r2.length];exact hz);exact{.ref s.heap.objs.size,_,I.laid (t':=s.toks) (o:=.tup (xs++ys)) (λb ob q=>AG _ q) (AL _) {by rw[BN];exact hz,_,r1.append r2,IsTupP.new _ _},rfl,q3 _ I.fresh}
theorem cV(h:n<10000):n<=sizeLine:=CW (fJ h)
def MZ(x y:D):Out D:=match x,y with
 |.int i,.int j=>.ok (.int (i+j))
 |.lst xs,.lst ys=>few (xs.length+ys.length) (.ok (.lst (xs++ys)))
 |.tup xs,.tup ys=>few (xs.length+ys.length) (.ok (.tup (xs++ys)))
 |.str s,.str t=>few (s.length+t.length) (.ok (.str (s++t)))
 |_,_=>.bad
abbrev Wg(K:AC):R2:=λx y H Q=>cQ (λi j=>.int (i+j)) x y H Q\/Wi K x y H Q\/Wh K x y H Q\/(∃i j,x=.str i/\y=.str j/\i.length+j.length<=sizeLine/\Q (.str (i++j)) H)
theorem zZG:OpR X (G6 .Add) (Wg X.K):=nJ.or (iT.or (iS.or zO0))
theorem zZH:UX K (Wg K) MZ:=λv u x y F H d Q s r1 r2 hf k=>by
 unfold MZ at hf;split at hf
 .cases hf;obtain rfl:=r1.vI;obtain rfl:=r2.vI
  exact .inl {_,_,rfl,rfl,k _ F H (.refl s) (.int _)}
 .obtain⟨hl,hf⟩:=ZF hf
  cases hf;obtain⟨a,vs,rfl,h1,h2⟩:=r1.isRefL;obtain⟨b,ws,rfl,h3,h4⟩:=r2.isRefL;refine .inr (.inl {a,b,vs,ws,rfl,rfl,h1.imp s.rd id,h3.imp s.rd id,by rw[h2.length,h4.length];exact cV hl,λq hq=>?_});have n:=New.laid (o:=.lst (vs++ws)) s hq;exact k _ _ _ n (.lst (.inl (.inl HC)) ((h2.append h4).le n.1.le))
 .obtain⟨hl,hf⟩:=ZF hf
  cases hf;obtain⟨a,vs,rfl,h2,h1⟩:=r1.tupSq;obtain⟨b,ws,rfl,h4,h3⟩:=r2.tupSq;refine .inr (.inr (.inl {a,b,vs,ws,rfl,rfl,h1 F H (.refl _) s,h3 F H (.refl _) s,by rw[h2.length,h4.length];exact cV hl,λz=>?_,λz=>?_,λq hq=>?_}))
  .have:=h2.nil_iff.mp z
   subst this;exact k _ F H (.refl s) r2
  .have:=h4.nil_iff.mp z
   subst this;rw[EA] at k;exact k _ F H (.refl s) r1
  .have n:=New.laid (o:=.tup (vs++ws)) s hq
   exact k _ _ _ n (.tup HC ((h2.append h4).le n.1.le))
 .obtain⟨hl,hf⟩:=ZF hf
  cases hf;obtain rfl:=r1.vS;obtain rfl:=r2.vS;exact .inr (.inr (.inr {_,_,rfl,rfl,cV hl,k _ F H (.refl s) (.str _)}))
 .cases hf
theorem ZE(ha:VE X a ga)(hb:VE X b gb):VE X (.BinOp a .Add b pos) (g2 MZ ga gb):=qT zZG zZH ha hb
noncomputable def jZ(x y:D):Out D:=match x,y with
 |.int i,.int j=>.ok (.int (i-j))
 |_,_=>.bad
theorem zZI:UX K (cQ λi j=>.int (i-j)) jZ:=λv u x y F H d Q s r1 r2 hf k=>by
 unfold jZ at hf;split at hf
 .cases hf;obtain rfl:=r1.vI;obtain rfl:=r2.vI
  exact{_,_,rfl,rfl,k _ F H (.refl s) (.int _)}
 .cases hf
theorem Cb(ha:VE X a ga)(hb:VE X b gb):VE X (.BinOp a .Sub b pos) (g2 jZ ga gb):=qT yB3 zZI ha hb
def guard(c:Prop)[Decidable c](y:Out α):Out α:=if c then y else .bad
theorem Z4{c:Prop}[Decidable c]{y:Out α}{z:α}(h:guard c y=.ok z):c/\y=.ok z:=by
 unfold guard at h;split at h
 .exact{by assumption,h}
 .cases h
def pU(i:Int):Prop:=-(2 ^ 64)<i/\i<2 ^ 64
instance (i:Int):Decidable (pU i):=inferInstanceAs (Decidable (_/\_))
def YE(x y:D):Out D:=match x,y with
 |.int i,.int j=>guard (pU i\/pU j) (.ok (.int (i * j)))
 |_,_=>.bad
theorem zZK:UX K (rI CMul λi j=>.int (i * j)) YE:=λv u x y F H d Q s r1 r2 hf k=>by
 unfold YE at hf;split at hf
 .obtain⟨hc,hf⟩:=Z4 hf
  cases hf;obtain rfl:=r1.vI;obtain rfl:=r2.vI;exact{_,_,rfl,rfl,hc,k _ F H (.refl s) (.int _)}
 .cases hf
theorem xU(ha:VE X a ga)(hb:VE X b gb):VE X (.BinOp a .Mult b pos) (g2 YE ga gb):=qT yB4 zZK ha hb
def mM(x y:D):Out D:=match x,y with
 |.int i,.int j=>guard (0<j/\j<2 ^ 200) (.ok (.int (i / j)))
 |_,_=>.bad
def Wf(_ j:Int):Prop:=0<j/\j<2 ^ 200
theorem zUV:OpR X (G6 .FloorDiv) (rI Wf λi j=>.int (i / j)):=Ai λi j _ _ _ _ _ hc q=>by
 refine floordiv_int (by have:=hc.1;lia) (by rw[Int.fdiv_eq_ediv_of_nonneg _ (LH hc.1)];exact q) (.inl (PyProof.noPylong_of_log2 ?_));have h1:=hc.1;have h2:=hc.2;refine AQ ((Nat.log2_lt 'l').mpr (show j.natAbs<2 ^ 200 by lia)) 'd'
theorem zUW:UX K (rI Wf λi j=>.int (i / j)) mM:=λv u x y F H d Q s r1 r2 hf k=>by
 unfold mM at hf;split at hf
 .obtain⟨hc,hf⟩:=Z4 hf
  cases hf;obtain rfl:=r1.vI;obtain rfl:=r2.vI;exact{_,_,rfl,rfl,hc,k _ F H (.refl s) (.int _)}
 .cases hf
theorem Nt(ha:VE X a ga)(hb:VE X b gb):VE X (.BinOp a .FloorDiv b pos) (g2 mM ga gb):=qT zUV zUW ha hb
def UR(x y:D):Out D:=match x,y with
 |.int i,.int j=>guard (0<j) (.ok (.int (i % j)))
 |_,_=>.bad
theorem zZL:UX K (rI (λ_ j=>0<j) λi j=>.int (i % j)) UR:=λv u x y F H d Q s r1 r2 hf k=>by
 unfold UR at hf;split at hf
 .obtain⟨hc,hf⟩:=Z4 hf
  cases hf;obtain rfl:=r1.vI;obtain rfl:=r2.vI;exact{_,_,rfl,rfl,hc,k _ F H (.refl s) (.int _)}
 .cases hf
theorem j8(ha:VE X a ga)(hb:VE X b gb):VE X (.BinOp a .Mod b pos) (g2 UR ga gb):=qT yB5 zZL ha hb
def aR(x y:D):Out D:=match x,y with
 |.int i,.int j=>guard (0<=j/\j<=1000000/\i.natAbs<2 ^ 64) (.ok (.int (i ^ j.toNat)))
 |_,_=>.bad
theorem zZM:UX K (rI Vq λi j=>.int (i ^ j.toNat)) aR:=λv u x y F H d Q s r1 r2 hf k=>by
 unfold aR at hf;split at hf
 .obtain⟨hc,hf⟩:=Z4 hf
  cases hf;obtain rfl:=r1.vI;obtain rfl:=r2.vI;exact{_,_,rfl,rfl,hc,k _ F H (.refl s) (.int _)}
 .cases hf
theorem xT(ha:VE X a ga)(hb:VE X b gb):VE X (.BinOp a .Pow b pos) (g2 aR ga gb):=qT yB6 zZM ha hb
noncomputable def qR(x:D):Out D:=match x with
 |.int i=>.ok (.int (-i))
 |_=>.bad
theorem zZN:Hx K (rU λi=>.int (-i)) qR:=λv x F H d Q s r hf k=>by
 unfold qR at hf;split at hf
 .cases hf;obtain rfl:=r.vI
  exact{_,rfl,k _ F H (.refl s) (.int _)}
 .cases hf
theorem yF8(ha:VE X a ga):VE X (.UnaryOp .USub a pos) (g1 qR ga):=yIJ yB7 zZN ha
def qQ(x y:D):Out D:=match x,y with
 |.lst xs,.int k=>guard (-(2 ^ 63)<=k/\k<2 ^ 63/\xs.length * k.toNat<10000) (.ok (.lst (BG k.toNat xs).flatten))
 |_,_=>.bad
theorem yF9{gs:List G}(ha:VA X es gs)(hb:VE X b gb):FE X (.BinOp (.List es i8) .Mult b pos) (g2 qQ (KM gs) gb):=(yA yCJ (mT ha) hb).imp λσ H Q h=>by
 obtain⟨τ,F,E,d,E',S,hg,k⟩:=h;obtain⟨p,ea,hg⟩:=pA3 hg;obtain⟨q,eb,hg⟩:=pA3 hg;obtain⟨z,ef,hg⟩:=pA3 hg;cases hg;obtain⟨p0,ea0,eq⟩:=pA3 ea;obtain⟨hl,eq⟩:=ZF eq;cases eq;refine{τ,F,E,p0.1,p0.2,S,ea0,λvs F1 H1 s1 S1 r1=>{by rw[r1.length];exact cV hl,λl rS=>?_}};have n:=New.laid (o:=.lst vs) S1.sub rS;have S2:=S1.new n;refine{τ,_,p0.2,q.1,q.2,S2,eb,λu F3 H3 s3 S3 r3=>?_};unfold qQ at ef;split at ef
 .rename_i xs kk e1 e2
  obtain⟨⟨g1,g2,g3⟩,ef⟩:=Z4 ef;cases ef;cases e1;rw[e2] at r3;obtain rfl:=r3.vI;have hv:=r1.length;have rl:Rd F3 l (.lst vs):=s3.le.rd (.inl HC)
  have hH:H3 l=AA (.lst vs):=by
   rcases rl with z|⟨o,z⟩
   .exact S3.sub _ _ z
   .have:=s3.le l _ (HC (H:=F1) (o:=.lst vs))
    rcases this with y|⟨y,_⟩|⟨_,_,_,y,_⟩
    .rw[z] at y;cases y
    .exact y.elim
    .cases y
  refine{l,kk,vs,rfl,rfl,hH,g1,g2,by rw[hv];exact cV g3,λq' hq=>?_};have n2:=pA6 (H':=D5 H3 q' (.lst (BG kk.toNat vs).flatten)) S3.sub (Gr.new hq);have st:=((s1.trans (n.stp (ow:=ED σ p0.2))).trans s3).trans (n2.stp (ow:=ED σ q.2));exact k q' _ _ st (S3.new n2) (pAG S3.sub hq) (((s1.trans (n.stp (ow:=ED σ p0.2))).trans s3).dom q' hq) {_,HC,((r1.le n.1.le).le s3.le).rep kk.toNat} (S3.fresh hq)
 .cases ef
theorem Reps.atI{vs:List V}{ds:List D}{i:Int}{d:D}(r:Reps K F vs ds)(h:L2.atI ds i=AA d):∃v,L2.atI vs i=AA v/\Rep K F v d:=by
 unfold L2.atI at h ⊢;rw[r.length]
 cases q:YH ds.length i with
 |none=>rw[q] at h;cases h
 |some j =>
  rw[q] at h;obtain⟨v,h1,h2⟩:=r.get (show ds[j]?=AA d from h);exact{v,h1,h2}
def E8(x y:D):Out D:=match x,y with
 |.lst ds,.int i=>match L2.atI ds i with
  |some d=>.ok d
  |none=>.bad
 |.tup ds,.int i=>match L2.atI ds i with
  |some d=>.ok d
  |none=>.bad
 |.str z,.int i=>few z.length (match L2.atI z.cps.toList i with
  |some c=>.ok (.str {#[c]})
  |none=>.bad)
 |x,y=>match iB x y with
  |some (AA d)=>.ok d
  |_=>.bad
def yK:R2:=λx y H Q=>∃a v,x=.ref a/\hV H a y (AA v)/\Q v H
theorem Pp(hu:X.A.units+64<GT):IxR X yK:=by
 intro JQ PL AF s σ H x y v u Q I rx ry h hs;obtain⟨a,w,rfl,g,q⟩:=h;cases rx;refine tail_any (zMU I g) PySem.F.slot_dict_getitem.lookup (zQJ (A:=X.A) 'l' I g ry λw' s3 I3 KO=>{w,H,I3,KO,q}) hs
theorem yDK:UX K (λx y H Q=>Xa K x y H Q\/yK x y H Q) E8:=λv u x y F H d Q s r1 r2 hf k=>by
 have Mk:(match iB x y with|some (AA d)=>Out.ok d|_=>.bad)=.ok d->yK v u H Q:=λhh=>by
  split at hh
  .rename_i d' eo
   cases hh;obtain⟨a,ov,rfl,g,ro⟩:=pAI s r1 r2 eo;obtain⟨w,rfl,KO⟩:=ro.some_of;exact{a,w,rfl,g,k _ F H (.refl s) KO}
  .cases hh
 unfold E8 at hf;split at hf
 .split at hf
  .rename_i d' e
   cases hf;obtain⟨a,vs,rfl,h1,h2⟩:=r1.isRefL;obtain⟨w,h3,h4⟩:=h2.atI e;obtain rfl:=r2.vI;exact .inl (.inl {a,vs,_,w,rfl,rfl,h1.imp s.rd id,h3,k _ F H (.refl s) h4})
  .cases hf
 .split at hf
  .rename_i d' e
   cases hf;obtain⟨a,vs,rfl,h2,h1⟩:=r1.tupSq;obtain⟨w,h3,h4⟩:=h2.atI e;obtain rfl:=r2.vI;exact .inl (.inr (.inl {a,vs,_,w,rfl,rfl,h1 F H (.refl _) s,h3,k _ F H (.refl s) h4}))
  .cases hf
 .obtain⟨hl,hf⟩:=ZF hf
  split at hf
  .rename_i c e
   cases hf;obtain rfl:=r1.vS;obtain rfl:=r2.vI;exact .inl (.inr (.inr {_,_,c,rfl,rfl,cV hl,e,k _ F H (.refl s) (.str _)}))
  .cases hf
 .exact .inr (Mk hf)
theorem MI(hu:X.A.units+64<GT)(ha:VE X a ga)(hb:VE X b gb)(hs:Qb b:=by intro _ _;rfl):VE X (.Subscript a b pos) (g2 E8 ga gb):=(Ce (nL.or (Pp hu)) ha hb hs).imp λ_ _ _ h=>xY yDK h
noncomputable def X0(xs:List α)(lo hi:Option Int):List α:=(xs.drop (HT.sIx xs.length 0 lo)).take (HT.sIx xs.length xs.length hi-HT.sIx xs.length 0 lo)
theorem Reps.cut{ds:List D}(r:Reps K F vs ds)(lo hi:Option Int):Reps K F (ZD vs lo hi) (X0 ds lo hi):=by
 unfold ZD X0;rw[r.length];exact(r.drop _).take _
def yIO(K:AC):V->Option Int->Option Int->Hp->VK->Prop:=λx lo hi H Q=>∃a xs,x=.ref a/\SqT K H a xs/\(ZD xs lo hi=xs->Q (.ref a) H)/\∀p,H p=AN->Q (.ref p) (D5 H p (.tup (ZD xs lo hi)))
theorem iP:SlR X (yIO X.K):=by
 intro AF s σ H x v vl vu lo hi sl Q I rx hs pl pu h;obtain⟨a,xs,rfl,hx,q1,q2⟩:=h
 by_cases hw:HT.sIx xs.length 0 lo=0/\HT.sIx xs.length xs.length hi=xs.length
 .cases rx
  obtain⟨CI,r,ht,hz⟩:=I.tuple hx;have ET:CI.toArray.size=xs.length:=by rw[A4];exact r.length.symm
  refine{"tuple",_,EC.lookup,ht.typeIs,?_};exact zEI ht hs pl pu (by rw[ET];exact hw) {.ref a,H,I,rfl,q1 (zQW hw)}
 .exact yCD AF s σ H (.ref a) v vl vu lo hi sl Q I rx hs pl pu {a,xs,rfl,hx,hw,q2}
def Ca:Option G->Ev->Out (Option Int×Ev)
 |none,E=>.ok (AN,E)
 |some g,E=>(g E).bind λp=>match p.1 with|.int i=>.ok (AA i,p.2)|_=>.bad
def tPt(K:AC)(H₀:Hp)(g:Option G):TO:=λσ H Q=>∃τ F E o E',Sim K H₀ τ F H σ E/\Ca g E=.ok (o,E')/\∀F' H',Stp (ED σ E) F H F' H' (ED σ E')->Sim K H₀ τ F' H' σ E'->Q o H'
theorem PO.imp{oe:Option CU}{t t':TO}(h:PO X oe t)(hi:∀σ H Q,t' σ H Q->t σ H Q):PO X oe t':=λAF s σ H Q I q=>h AF s σ H Q I (hi σ H Q q)
abbrev VO(X:Cx)(oe:Option CU)(g:Option G):Prop:=PO X oe (tPt X.K X.H₀ g)
theorem zZP:VO X AN AN:=iR.imp λσ H Q h=>by
 obtain⟨τ,F,E,o,E',S,hg,k⟩:=h;cases hg;exact k F H .refl S
theorem Dz(h:VE X e ge):VO X (AA e) (AA ge):=(zYG h).imp λσ H Q h=>by
 obtain⟨τ,F,E,o,E',S,hg,k⟩:=h;obtain⟨p,ea,hg⟩:=pA3 hg;refine{τ,F,E,p.1,p.2,S,ea,λv F1 H1 s1 S1 r1=>?_};split at hg
 .rename_i i ei
  cases hg;rw[ei] at r1;obtain rfl:=r1.vI;exact{i,rfl,k F1 H1 s1 S1}
 .cases hg
def Ux(x:D)(lo hi:Option Int):Out D:=match x with
 |.tup ds=>.ok (.tup (X0 ds lo hi))
 |.lst ds=>.ok (.lst (X0 ds lo hi))
 |_=>.bad
def mR(g:G)(lo hi:Option G):G:=λE=>(g E).bind λp=>(Ca lo p.2).bind λq=>(Ca hi q.2).bind λr=>(Ux p.1 q.1 r.1).bind λd=>.ok (d,r.2)
theorem Po{lo hi:Option CU}{gl gh:Option G}(he:VE X e ge)(hl:VO X lo gl)(hh:VO X hi gh):VE X (.Subscript e (.Slice lo hi AN p2) pos) (mR ge gl gh):=(zTP (iP.or zYI) he hl hh).imp λσ H Q h=>by
 obtain⟨τ,F,E,d,E',S,hg,k⟩:=h;obtain⟨p,e1,hg⟩:=pA3 hg;obtain⟨q,e2,hg⟩:=pA3 hg;obtain⟨r,e3,hg⟩:=pA3 hg;obtain⟨z,e4,hg⟩:=pA3 hg;cases hg;refine{τ,F,E,p.1,p.2,S,e1,λv F1 H1 s1 S1 r1=>{τ,F1,p.2,q.1,q.2,S1,e2,λF2 H2 s2 S2=>{τ,F2,q.2,r.1,r.2,S2,e3,λF3 H3 s3 S3=>?_}}};have uX:=(r1.le s2.le).le s3.le;have st:=(s1.trans s2).trans s3;unfold Ux at e4;split at e4
 .rename_i ds ed
  cases e4;rw[ed] at uX;obtain⟨a,vs,rfl,h2,h1⟩:=uX.tupSq;refine .inl {a,vs,rfl,h1 F3 H3 (.refl _) S3.sub,λz=>k _ F3 H3 st S3 ?_,λq' hq=>?_}
  .have:X0 ds q.1 r.1=ds:=by
    have h5:=h2.cut q.1 r.1;rw[z] at h5;have h6:=h5.length;have h7:=h2.length;have h8:(X0 ds q.1 r.1).Sublist ds:=(Q6 _ _).trans (List.drop_sublist _ _);exact h8.eq_of_length 'l'
   rw[this];exact uX
  .have n:=New.laid (o:=.tup (ZD vs q.1 r.1)) S3.sub hq
   exact k _ _ _ (st.trans n.stp) (S3.new n) (.tup HC ((h2.cut q.1 r.1).le n.1.le))
 .rename_i ds ed
  cases e4;rw[ed] at uX;obtain⟨a,vs,rfl,h1,h2⟩:=uX.isRefL;refine .inr {a,vs,rfl,h1.imp S3.sub.rd id,λq' hq=>?_};have n:=New.laid (o:=.lst (ZD vs q.1 r.1)) S3.sub hq;exact k _ _ _ (st.trans n.stp) (S3.new n) (.lst (.inl (.inl HC)) ((h2.cut q.1 r.1).le n.1.le))
 .cases e4
def gN(f:List D->Out D)(gs:List G):G:=λE=>(OU gs E).bind λp=>(f p.1).bind λd=>.ok (d,p.2)
def j7(K:AC)(r:List V->Hp->VK->Prop)(f:List D->Out D):Prop:=∀vs xs F H d Q,Sub F H->Reps K F vs xs->f xs=.ok d->(∀z F' H',New F H F' H'->Rep K F' z d->Q z H')->r vs H Q
def sE(K:AC)(r:List V->Hp->VK->Prop)(f:List D->Out D):Prop:=∀vs xs F H d Q,Sub F H->Reps K F vs xs->f xs=.ok d->(∀a F' H',New F H F' H'->F' a=AN->H a=AN->OwnAt K F' H' a d->Q (.ref a) H')->r vs H Q
theorem We{f:List D->Out D}(hs:j7 K r f){Q:VK}(h:tV K H₀ (gN f gs) σ H Q):Ag r (fT K H₀ gs) σ H Q:=by
 obtain⟨τ,F,E,d,E',S,hg,k⟩:=h;obtain⟨p,e1,hg⟩:=pA3 hg;obtain⟨z,e2,hg⟩:=pA3 hg;cases hg;exact{τ,F,E,p.1,p.2,S,e1,λvs F1 H1 s1 S1 r1=>hs vs p.1 F1 H1 d Q S1.sub r1 e2 λz F2 H2 n r2=>k z F2 H2 (s1.trans n.stp) (S1.new n) r2}
theorem Wd{f:List D->Out D}(hs:sE K r f){Q:VK}(h:tF K H₀ (gN f gs) σ H Q):Ag r (fT K H₀ gs) σ H Q:=by
 obtain⟨τ,F,E,d,E',S,hg,k⟩:=h;obtain⟨p,e1,hg⟩:=pA3 hg;obtain⟨z,e2,hg⟩:=pA3 hg;cases hg;exact{τ,F,E,p.1,p.2,S,e1,λvs F1 H1 s1 S1 r1=>hs vs p.1 F1 H1 d Q S1.sub r1 e2 λa F2 H2 n h1 h2 h3=>k a F2 H2 (s1.trans n.stp) (S1.new n) h1 (s1.dom a h2) h3 (S1.fresh h2)}
theorem xS{f:List D->Out D}(hc:CallR X (.builtin id) r)(hs:j7 X.K r f)(hm:X.mg x=AN)(hv:GH x=AA (.builtin id))(ha:VA X (e::es) gs)(hg:Gl X x:=by rfl)(hn:x≠"__name__":=by decide)(UA:(x==("__debug__":CN))=AD:=by decide)
  (he:AM (e::es) X.env=(AD,eval e X.env)::AM es X.env:=by rfl) (JV:(DD pos (AM es X.env)).any (·.1)=AD:=by rfl):VE X (.Call (.Name x p) (e::es) [] pos) (gN f gs):=(tO hc hg hm hv ha hn UA he JV).imp λ_ _ _ h=>We hs h
theorem yGA{f:List D->Out D}(hc:CallR X (.builtin id) r)(hs:sE X.K r f)(hm:X.mg x=AN)(hv:GH x=AA (.builtin id))(ha:VA X (e::es) gs)(hg:Gl X x:=by rfl)(hn:x≠"__name__":=by decide)(UA:(x==("__debug__":CN))=AD:=by decide)
  (he:AM (e::es) X.env=(AD,eval e X.env)::AM es X.env:=by rfl) (JV:(DD pos (AM es X.env)).any (·.1)=AD:=by rfl):FE X (.Call (.Name x p) (e::es) [] pos) (gN f gs):=(tO hc hg hm hv ha hn UA he JV).imp λ_ _ _ h=>Wd hs h
theorem yIP{f:List D->Out D}(hc:CallR X (.type T) r)(hs:j7 X.K r f)(hm:X.mg x=AN)(hv:GH x=AA (.type T))(ha:VA X (e::es) gs)(hg:Gl X x:=by rfl)(hn:x≠"__name__":=by decide)(UA:(x==("__debug__":CN))=AD:=by decide)
  (he:AM (e::es) X.env=(AD,eval e X.env)::AM es X.env:=by rfl) (JV:(DD pos (AM es X.env)).any (·.1)=AD:=by rfl):VE X (.Call (.Name x p) (e::es) [] pos) (gN f gs):=(qC hc hg hm hv ha hn UA he JV).imp λ_ _ _ h=>We hs h
theorem yIQ{f:List D->Out D}(hc:CallR X (.type T) r)(hs:sE X.K r f)(hm:X.mg x=AN)(hv:GH x=AA (.type T))(ha:VA X (e::es) gs)(hg:Gl X x:=by rfl)(hn:x≠"__name__":=by decide)(UA:(x==("__debug__":CN))=AD:=by decide)
  (he:AM (e::es) X.env=(AD,eval e X.env)::AM es X.env:=by rfl) (JV:(DD pos (AM es X.env)).any (·.1)=AD:=by rfl):FE X (.Call (.Name x p) (e::es) [] pos) (gN f gs):=(qC hc hg hm hv ha hn UA he JV).imp λ_ _ _ h=>Wd hs h
end
def Hn(a b:Int):Bool:=decide (a<=b)
def mK(ns:List Int):List Int:=ns.mergeSort Hn
theorem zPD(ns:List Int):(mK ns).Perm ns:=PC _ _
theorem zUZ(ns:List Int):(mK ns).Pairwise (·<=·):=by
 have:=M5 (le:=Hn) (λa b c h1 h2=>decide_eq_true (N5 (of_decide_eq_true h1) (of_decide_eq_true h2)))
  (λa b=>by unfold Hn;rcases Int.le_total a b with h|h<;>simp[h]) ns
 exact this.imp λh=>of_decide_eq_true h
theorem Qz{ms:List Int}(p:ms.Perm ns)(h:ms.Pairwise (·<=·)):ms=mK ns :=
 LG (le:=λa b:Int=>decide (a<=b)=AK) (λa b _ _ h1 h2=>l6 (of_decide_eq_true h1) (of_decide_eq_true h2)) (h.imp λh=>decide_eq_true h) ((zUZ ns).imp λh=>decide_eq_true h) (p.trans (zPD ns).symm)
def Z7(a b:Int×Int):Bool:=!T7 b a
def Z1(ps:List (Int×Int)):List (Int×Int):=ps.mergeSort Z7
theorem yJ{a b:Int×Int}:Z7 a b=AK↔a.1<b.1\/(a.1=b.1/\a.2<=b.2):=by
 unfold Z7 T7;simp only[MG,decide_eq_false_iff_not];lia
theorem tP(ps:List (Int×Int)):(Z1 ps).Perm ps:=PC _ _
theorem Qy(ps:List (Int×Int)):(Z1 ps).Pairwise (λa b=>Z7 a b=AK) :=
 M5 (λa b c h1 h2=>by rw[yJ] at *;lia) (λa b=>by
  have:Z7 a b=AK\/Z7 b a=AK:=by rw[yJ,yJ];lia
  simpa using this) ps
theorem zU0{ms ns:List (Int×Int)}(p:ms.Perm ns)(h:ms.Pairwise (λa b=>Z7 a b=AK)):ms=Z1 ns :=
 LG (le:=λa b=>Z7 a b=AK) (λa b _ _ h1 h2=>by
  rw[yJ] at h1 h2
  exact ZS 'l' 'l') h (Qy ns) (p.trans (tP ns).symm)
def G2(p:Int×Int):D:=.tup [.int p.1,.int p.2]
noncomputable def kO:List D->Option (List (Int×Int))
 |[]=>AA []
 |.tup [.int a,.int b]::ds=>(kO ds).map ((a,b)::·)
 |_::_=>AN
theorem zPE:∀{ds:List D} {ps:List (Int×Int)},kO ds=AA ps->ds=ps.map G2:=by
 intro ds
 induction ds with
 |nil=>intro ps h;rw[kO] at h;cases h;rfl
 |cons d ds ih =>
  intro ps h;unfold kO at h;split at h
  .rename_i e;cases e
  .rename_i a b r e
   cases e;obtain⟨q,h1,h2⟩:=BS.mp h;subst h2;rw[ih h1];rfl
  .cases h
theorem zM:∀ps:List (Int×Int),kO (ps.map G2)=AA ps
 |[]=>rfl
 |p::ps=>by
  show(kO (ps.map G2)).map (λr=>(p.1,p.2)::r)=_;rw[zM ps];rfl
section
variable{K:AC}{a b:CU}{ga gb gc ge:G}{gs:List G}
theorem Reps.perm(pm:zs.Perm ys):∀{ds:List D},Reps K F ys ds->∃es,es.Perm ds/\Reps K F zs es:=by
 induction pm with
 |nil=>intro ds r;cases r;exact{[],GB _,.nil}
 |cons a _ ih =>
  intro ds r
  cases r with
  |cons h t =>
   obtain⟨qs,q,r'⟩:=ih t;exact{_::qs,q.cons _,.cons h r'}
 |swap a b l =>
  intro ds r
  cases r with
  |cons h t =>
   cases t with
   |cons h' t'=>exact{_::_::_,HQ _ _ _,.cons h' (.cons h t')}
 |trans _ _ bJ ih2 =>
  intro ds r;obtain⟨qs,q,r'⟩:=ih2 r;obtain⟨us,q',uY⟩:=bJ r';exact{us,q'.trans q,uY}
theorem zU1{f:α->β}:∀{l1 l2:List β} (p:l1.Perm l2) (ns:List α),l2=ns.map f->∃ms:List α,l1=ms.map f/\ms.Perm ns:=by
 intro l1 l2 p
 induction p with
 |nil=>intro ns e;cases ns with|nil=>exact{[],rfl,GB _}|cons _ _=>cases e
 |cons a _ ih =>
  intro ns e
  cases ns with
  |nil=>cases e
  |cons n ns =>
   injection e with e1 e2;obtain⟨ms,h1,h2⟩:=ih ns e2;exact{n::ms,by rw[AU,e1,h1],h2.cons n}
 |swap a b l =>
  intro ns e
  match ns,e with
  |c::d::ns,e =>
   injection e with e1 e2;injection e2 with e2 e3;exact{d::c::ns,by rw[AU,AU,e1,e2,e3],HQ _ _ _}
 |trans _ _ bJ ih2 =>
  intro ns e;obtain⟨ms,h1,h2⟩:=ih2 ns e;obtain⟨ks,h3,h4⟩:=bJ ms h1;exact{ks,h3,h4.trans h2}
theorem Reps.prs(s:Sub F H):∀{ps:List (Int×Int)} {ys:List V},Reps K F ys (ps.map G2)->Prs H ys ps:=by
 intro ps
 induction ps with
 |nil=>intro ys r;cases r;exact .nil
 |cons p ps ih =>
  intro ys r
  cases r with
  |cons h r =>
  refine .cons ?_ (ih r);have h:Rep K F _ (.tup [.int p.1,.int p.2]):=h;generalize hk:[D.int p.1,.int p.2]=kk at h
  cases h with
  |tup hb rb =>
   subst hk
   cases rb with
   |cons h1 rb =>
    cases rb with
    |cons h2 rb =>
     cases rb;cases h1;cases h2;exact{_,rfl,s _ _ hb}
  |@tupK a xs hb nb =>
   cases xs with
   |nil=>cases hk
   |cons x xs=>cases hk
theorem zZQ(s:Sub F H)(hp:Prs H ys ps):Prs H ys qs->ps=qs:=by
 induction hp generalizing qs with
 |nil=>intro h;cases h;rfl
 |cons r t1 ih =>
  intro h
  cases h with
  |cons r2 t2 =>
   obtain⟨a,e1,h1⟩:=r;obtain⟨b,e2,h2⟩:=r2;rw[e1] at e2;cases e2;rw[h1] at h2;simp only[WY,HO.tup.injEq,ZV,V.int.injEq,and_true] at h2;rw[ih t2,ZS h2.1 h2.2]
def aY:List D->Out D
 |[.lst ds]=>match PH ds with
  |some ns=>.ok (.lst ((mK ns).map D.int))
  |none=>match kO ds with
   |some ps=>.ok (.lst ((Z1 ps).map G2))
   |none=>.bad
 |_=>.bad
abbrev zZR(K:AC):List V->Hp->VK->Prop:=λxs H Q=>(∃(l:AR) (ns:List Int),xs=[.ref l]/\SqL K H l (ns.map V.int)/\∀(ms:List Int) (q:AR),ms.Perm ns->ms.Pairwise (·<=·)->H q=AN->Q (.ref q) (D5 H q (.lst (ms.map V.int)))) \/
 (∃(l:AR) (ys:List V) (ps:List (Int×Int)),xs=[.ref l]/\SqL K H l ys/\Prs H ys ps/\∀(zs:List V) (qs:List (Int×Int)) (q:AR),zs.Perm ys->Prs H zs qs->qs.Perm ps->(qs.Pairwise λa b=>T7 b a=AD)->H q=AN->Q (.ref q) (D5 H q (.lst zs)))
theorem zRR:sE K (zZR K) aY:=λvs xs F H d Q s r hf k=>by
 unfold aY at hf;split at hf
 .rename_i ds
  cases r with
  |cons r rr =>
   cases rr;obtain⟨l,ys,rfl,h1,h2⟩:=r.isRefL;split at hf
   .rename_i ns en
    cases hf;have:=kT en;subst this;have:=h2.vint;subst this;refine .inl {l,ns,rfl,h1.imp s.rd id,λms q pm pw hq=>?_};rw[Qz pm pw];have n:=pA6 (H':=D5 H q (.lst ((mK ns).map V.int))) s (Gr.new hq);exact k q F _ n (pAG s hq) hq {_,HC,Reps.ints _}
   .split at hf
    .rename_i ps ep
     cases hf;have:=zPE ep;subst this;refine .inr {l,ys,ps,rfl,h1.imp s.rd id,h2.prs s,λzs qs q pz jB pq pw hq=>?_};obtain⟨es,pe,re⟩:=Reps.perm pz h2;obtain⟨qs',rfl,pq'⟩:=zU1 pe ps rfl;have:=zZQ s (re.prs s) jB;subst this;have:qs'=Z1 ps:=zU0 pq (pw.imp λh=>by unfold Z7;rw[h];rfl);subst this;have n:=pA6 (H':=D5 H q (.lst zs)) s (Gr.new hq);exact k q F _ n (pAG s hq) hq {_,HC,re}
    .cases hf
 .cases hf
theorem Em(hm:X.mg "sorted"=AN)(ha:VA X (e::es) gs)(hg:Gl X "sorted":=by rfl)(he:AM (e::es) X.env=(AD,eval e X.env)::AM es X.env:=by rfl)(JV:(DD pos (AM es X.env)).any (·.1)=AD:=by rfl) :
  FE X (.Call (.Name "sorted" p) (e::es) [] pos) (gN aY gs):=yGA (T8.or zI9) zRR hm (by decide +kernel) ha hg 'd' 'd' he JV
theorem zPF:CallR X (.builtin "len") (λxs H Q=>∃a kvs,xs=[V.ref a]/\Rd H a (.dT kvs)/\Q (.int kvs.length) H):=by
 intro AF s σ H xs us Q I r h;obtain⟨a,kvs,rfl,ha,q⟩:=h;obtain⟨u,rfl,ru⟩:=W5 r;cases ru;obtain⟨es,ep,KO,e1,e2,_⟩:=pR (ha.ok I.hok);have:=kL;refine zYV KO (by rw[F7] at e2;lia) λt tk=>{.int kvs.length,H,I.tok tk,{t,by rw[e1]},q}
theorem YK:CallR X (.builtin "len") (λxs H Q=>∃a kvs,xs=[V.ref a]/\Rd H a (.dK kvs)/\Q (.int kvs.length) H):=by
 intro AF s σ H xs us Q I r h;obtain⟨a,kvs,rfl,ha,q⟩:=h;obtain⟨u,rfl,ru⟩:=W5 r;cases ru;exact yFR I ha λt s' I'=>{.int kvs.length,H,I',{t,rfl},q}
def QV:List D->Out D
 |[.lst ds]=>.ok (.int ds.length)
 |[.tup ds]=>.ok (.int ds.length)
 |[.str z]=>few z.length (.ok (.int z.length))
 |[.dk kvs]=>.ok (.int kvs.length)
 |[.dt kvs]=>.ok (.int kvs.length)
 |_=>.bad
abbrev yGB(K:AC):List V->Hp->VK->Prop:=λxs H Q=>(∃p ys,xs=[.ref p]/\(SqL K H p ys\/SqT K H p ys)/\Q (.int ys.length) H)\/(∃z,xs=[.str z]/\z.length<=sizeLine/\Q (.int z.length) H) \/
 (∃a kvs,xs=[V.ref a]/\Rd H a (.dK kvs)/\Q (.int kvs.length) H)\/(∃a kvs,xs=[V.ref a]/\Rd H a (.dT kvs)/\Q (.int kvs.length) H)
theorem yDN:j7 K (yGB K) QV:=λvs xs F H d Q s r hf k=>by
 unfold QV at hf;split at hf
 .cases hf
  cases r with
  |cons r rr =>
   cases rr;obtain⟨l,ys,rfl,h1,h2⟩:=r.isRefL;exact .inl {l,ys,rfl,.inl (h1.imp s.rd id),by rw[h2.length];exact k _ F H (.refl s) (.int _)}
 .cases hf
  cases r with
  |cons r rr =>
   cases rr;obtain⟨l,ys,rfl,h2,h1⟩:=r.tupSq;exact .inl {l,ys,rfl,.inr (h1 F H (.refl _) s),by rw[h2.length];exact k _ F H (.refl s) (.int _)}
 .obtain⟨hl,hf⟩:=ZF hf
  cases hf
  cases r with
  |cons r rr =>
   cases rr;obtain rfl:=r.vS;exact .inr (.inl {_,rfl,cV hl,k _ F H (.refl s) (.int _)})
 .cases hf
  cases r with
  |cons r rr =>
   cases rr
   cases r with
   |dk h1 h2=>exact .inr (.inr (.inl {_,_,rfl,s.rd h1,by rw[h2.length];exact k _ F H (.refl s) (.int _)}))
 .cases hf
  cases r with
  |cons r rr =>
   cases rr
   cases r with
   |dt h1 h2=>exact .inr (.inr (.inr {_,_,rfl,s.rd h1,by rw[h2.length];exact k _ F H (.refl s) (.int _)}))
 .cases hf
theorem j6(hm:X.mg "len"=AN)(ha:VA X (e::es) gs)(hg:Gl X "len":=by rfl)(he:AM (e::es) X.env=(AD,eval e X.env)::AM es X.env:=by rfl)(JV:(DD pos (AM es X.env)).any (·.1)=AD:=by rfl) :
  VE X (.Call (.Name "len" p) (e::es) [] pos) (gN QV gs):=xS (VY.or (VX.or (YK.or zPF))) yDN hm (by decide +kernel) ha hg 'd' 'd' he JV
def Nr:List V->Hp->VK->Prop:=λxs H Q=>∃(d:AR) (kvs:List (Key×V)),xs=[.ref d]/\Rd H d (.dK kvs)/\∀q,H q=AN->Q (.ref q) (D5 H q (.lst (kvs.map λkv=>kV kv.1)))
theorem Sa:∀(ks:List Key) (us:List AI),us.length=ks.length->(∀(i:Nat) v,us[i]?=AA v->∃k,ks[i]?=AA k/\RelV (kV k) v)->Vals (ks.map kV) us
 |[],[],_,_=>.nil
 |k::ks,u::us,hl,h=>by
  obtain⟨n,e1,e2⟩:=h 0 u rfl;have e3:k=n:=by simpa using e1
  subst e3;exact .cons e2 (Sa ks us (by simpa using hl) λi v hv=>h (i+1) v (by simpa using hv))
 |[],_::_,hl,_=>by simp at hl
 |_::_,[],hl,_=>by simp at hl
theorem zPG(hc:X.calm=AK):CallR X (.type "list") Nr:=by
 intro AF s σ H xs us Q I r h;obtain⟨d,kvs,rfl,hd,q⟩:=h;obtain⟨u,rfl,ru⟩:=W5 r;cases ru;obtain⟨z,lo,vs,OB,dd⟩:=iG I.hok hd;obtain⟨ep,da⟩:=dd.dictAt;have rS:kvs.length=vs.length:=OB.length;refine PySem.W.kdl_call (PySem.W.kdl_dict (knd:=TZ X.prog X.w) (kvs:=vs) (ep:=ep) lo) (I.ok.hd hc) da 'l' λh' tk acc c' hk hS hI=>?_;obtain⟨hz,hi⟩:=hI
 have rv:Vals (kvs.map λkv=>kV kv.1) acc.toList:=by
  have:=Sa (kvs.map (·.1)) acc.toList (by simp;lia) λi v hv=>by
   obtain⟨k,xx,e1,e2⟩:=hi i v (by rw[<-C3];exact hv);refine{k,by rw[OB.keys,AV,e1];rfl,?_};rw[Tz] at e2;rcases cP e2 with⟨j,t,z1,z2⟩|⟨y,t,z1,z2⟩
   .rw[z1,z2];exact{t,rfl}
   .rw[z1,z2];exact{t,rfl}
  rw[D7] at this;exact this
 refine{.ref s.heap.objs.size,_,I.laid (o:=.lst (kvs.map λkv=>kV kv.1)) hk (AL _) {?_,acc.toList,c',rv,by simpa using hS},rfl,q _ I.fresh};rw[AJ];exact z
def jY:Key->D
 |.inl i=>.int i
 |.inr x=>.str x
theorem Pn(k:Key):Rep K F (kV k) (jY k):=by
 cases k with
 |inl i=>exact .int i
 |inr x=>exact .str x
theorem RepK.keys:∀{vs:List (Key×V)} {ds:List (Key×D)},RepK K F vs ds->Reps K F (vs.map λkv=>kV kv.1) (ds.map λkv=>jY kv.1)
 |_,_,.nil=>.nil
 |_,_,.cons (k:=k) _ r=>.cons (Pn k) (RepK.keys r)
def aX:List D->Out D
 |[.lst ds]=>.ok (.lst ds)
 |[.tup ds]=>.ok (.lst ds)
 |[.dk kvs]=>.ok (.lst (kvs.map λkv=>jY kv.1))
 |_=>.bad
abbrev yDO(K:AC):List V->Hp->VK->Prop:=λxs H Q=>(∃p ys,xs=[.ref p]/\(SqL K H p ys\/SqT K H p ys)/\∀l,H l=AN->Q (.ref l) (D5 H l (.lst ys)))\/Nr xs H Q
theorem zZS:sE K (yDO K) aX:=λvs xs F H d Q s r hf k=>by
 unfold aX at hf;split at hf
 .cases hf
  cases r with
  |cons r rr =>
   cases rr;obtain⟨l,ys,rfl,h1,h2⟩:=r.isRefL;exact .inl {l,ys,rfl,.inl (h1.imp s.rd id),λq hq=>k q F _ (pA6 s (Gr.new hq)) (pAG s hq) hq {_,HC,h2}}
 .cases hf
  cases r with
  |cons r rr =>
   cases rr;obtain⟨l,ys,rfl,h2,h1⟩:=r.tupSq;exact .inl {l,ys,rfl,.inr (h1 F H (.refl _) s),λq hq=>k q F _ (pA6 s (Gr.new hq)) (pAG s hq) hq {_,HC,h2}}
 .cases hf
  cases r with
  |cons r rr =>
   cases rr
   cases r with
   |dk h1 h2=>exact .inr {_,_,rfl,s.rd h1,λq hq=>k q F _ (pA6 s (Gr.new hq)) (pAG s hq) hq {_,HC,h2.keys}}
 .cases hf
theorem sM(hc:X.calm=AK)(hm:X.mg "list"=AN)(ha:VA X (e::es) gs)(hg:Gl X "list":=by rfl)(he:AM (e::es) X.env=(AD,eval e X.env)::AM es X.env:=by rfl)(JV:(DD pos (AM es X.env)).any (·.1)=AD:=by rfl) :
  FE X (.Call (.Name "list" p) (e::es) [] pos) (gN aX gs):=yIQ (VU.or (zPG hc)) zZS hm (by decide +kernel) ha hg 'd' 'd' he JV
noncomputable def ZZ:List D->Out D
 |[.lst ds]=>.ok (.tup ds)
 |[.tup ds]=>.ok (.tup ds)
 |_=>.bad
theorem yDP:j7 K (λxs H Q=>∃p ys,xs=[.ref p]/\((SqL K H p ys/\∀l,H l=AN->Q (.ref l) (D5 H l (.tup ys)))\/(SqT K H p ys/\Q (.ref p) H))) ZZ:=λvs xs F H d Q s r hf k=>by
 unfold ZZ at hf;split at hf
 .cases hf
  cases r with
  |cons r rr =>
   cases rr;obtain⟨l,ys,rfl,h1,h2⟩:=r.isRefL;refine{l,ys,rfl,.inl {h1.imp s.rd id,λq hq=>?_}};have n:=New.laid (o:=.tup ys) s hq;exact k _ _ _ n (.tup HC (h2.le n.1.le))
 .cases hf
  cases r with
  |cons r rr =>
   cases rr;obtain⟨l,ys,rfl,h2,h1⟩:=r.tupSq;exact{l,ys,rfl,.inr {h1 F H (.refl _) s,k _ F H (.refl s) r}}
 .cases hf
theorem kN(hm:X.mg "tuple"=AN)(ha:VA X (e::es) gs)(hg:Gl X "tuple":=by rfl)(he:AM (e::es) X.env=(AD,eval e X.env)::AM es X.env:=by rfl)(JV:(DD pos (AM es X.env)).any (·.1)=AD:=by rfl) :
  VE X (.Call (.Name "tuple" p) (e::es) [] pos) (gN ZZ gs):=yIP zIZ yDP hm (by decide +kernel) ha hg 'd' 'd' he JV
noncomputable def j5:List D->Option (List Bool)
 |[]=>AA []
 |.bl b::ds=>(j5 ds).map (b::·)
 |_::_=>AN
theorem zU2:∀{ds:List D} {bs:List Bool},j5 ds=AA bs->ds=bs.map D.bl:=by
 intro ds
 induction ds with
 |nil=>intro bs h;rw[j5] at h;cases h;rfl
 |cons d ds ih =>
  intro bs h
  cases d with
  |bl b =>
   rw[j5] at h;obtain⟨r,h1,h2⟩:=BS.mp h;subst h2;rw[ih h1];rfl
  |_=>simp[j5] at h
def l9:List D->Out D
 |[.lst ds]=>match j5 ds with
  |some bs=>.ok (.bl (bs.all id))
  |none=>.bad
 |_=>.bad
theorem yDQ:j7 K (Vg K) l9:=λvs xs F H d Q s r hf k=>by
 unfold l9 at hf;split at hf
 .split at hf
  .rename_i bs eb
   cases hf;have:=zU2 eb;subst this
   cases r with
   |cons r rr =>
    cases rr;obtain⟨l,ys,rfl,h1,h2⟩:=r.isRefL;have:=h2.vbl;subst this;exact{l,bs,rfl,h1.imp s.rd id,k _ F H (.refl s) (.bl _)}
  .cases hf
 .cases hf
theorem Wc(hc:X.calm=AK)(hm:X.mg "all"=AN)(ha:VA X (e::es) gs)(hg:Gl X "all":=by rfl)(he:AM (e::es) X.env=(AD,eval e X.env)::AM es X.env:=by rfl)(JV:(DD pos (AM es X.env)).any (·.1)=AD:=by rfl) :
  VE X (.Call (.Name "all" p) (e::es) [] pos) (gN l9 gs):=xS (zT5 hc) yDQ hm (by decide +kernel) ha hg 'd' 'd' he JV
noncomputable def iA:List D->Out D
 |[.int i,.int j]=>.ok (.int (if j<i then j else i))
 |_=>.bad
theorem zZU:j7 K (λxs H Q=>∃i j,xs=[.int i,.int j]/\Q (.int (if j<i then j else i)) H) iA:=λvs xs F H d Q s r hf k=>by
 unfold iA at hf;split at hf
 .cases hf
  cases r with
  |cons r rr=>cases rr with
   |cons r' rr=>cases rr;obtain rfl:=r.vI;(first|obtain rfl:=r'.vI|obtain rfl:=r'.vB|obtain rfl:=r'.vS|obtain rfl:=r'.vN|cases r');exact{_,_,rfl,k _ F H (.refl s) (.int _)}
 .cases hf
theorem Nq(hc:X.calm=AK)(hm:X.mg "min"=AN)(ha:VA X (e::es) gs)(hg:Gl X "min":=by rfl)(he:AM (e::es) X.env=(AD,eval e X.env)::AM es X.env:=by rfl)(JV:(DD pos (AM es X.env)).any (·.1)=AD:=by rfl) :
  VE X (.Call (.Name "min" p) (e::es) [] pos) (gN iA gs):=xS (zP9 hc) zZU hm (by decide +kernel) ha hg 'd' 'd' he JV
end
section
variable{K:AC}{E:Ev}{a b:CU}{ga gb gc ge:G}{gs:List G}
theorem Sim.setO{t:Bool}{d d':D}{ad:AR}(S:Sim K H₀ τ F H σ E)(e:E[i]?=AA (.own t d))(ea:σ[i]?=AA (AA (.ref ad)))(h:OwnAt K F (D5 H ad o) ad d') :
  Sim K H₀ τ F (D5 H ad o) σ (E.set i (.own t d'))/\Stp (ED σ E) F H F (D5 H ad o) (ED σ (E.set i (.own t d'))):=by
 obtain⟨a',a1,a2,a3,a4,a5⟩:=S.own i t d e;rw[ea] at a1;cases a1;have hi:i<E.length:=(AE.mp e).1;have ow:ED σ E ad:={i,t,d,e,ea}
 have II:∀(j:Nat) t' x,(E.set i (.own t d'))[j]?=AA (.own t' x)->(j=i/\t'=t/\x=d')\/(j≠i/\E[j]?=AA (.own t' x)):=λj t' x z=>by
  by_cases hj:i=j
  .subst hj;rw[BF hi] at z;cases z;exact .inl {rfl,rfl,rfl}
  .rw[A5 hj] at z;exact .inr {E7 hj,z}
 have Jw:∀(j:Nat) t' x,(E.set i (.own t d'))[j]?=AA (.own t' x)->∃nR x',E[j]?=AA (.own nR x'):=λj t' x z=>by
  rcases II j t' x z with⟨rfl,_,_⟩|⟨_,z⟩
  .exact{_,_,e}
  .exact{_,_,z}
 refine{{λb u z=>?_,by rw[BW];exact S.len,λj x z=>?_,λj t' x z=>?_,λj l t1 t2 x y b z1 z2=>?_},{λb u z _ n ho=>?_,λb z=>?_,.refl _,λb u z=>.inl (by rw[z];exact nofun),λb ⟨j,t',x,z1,z2⟩=>?_}}
 .have:b≠ad:=λy=>by rw[y,a2] at z;cases z
  rw[EW this];exact S.sub b u z
 .by_cases hj:i=j
  .subst hj;rw[BF hi] at z;cases z
  .rw[A5 hj] at z;exact S.val j x z
 .rcases II j t' x z with⟨rfl,rfl,rfl⟩|⟨hj,z⟩
  .exact{ad,ea,a2,h,a4,a5}
  .obtain⟨c,c1,c2,c3,c4⟩:=S.own j t' x z
   have hc:c≠ad:=λy=>hj (S.inj j i t' t x d ad z e (by rw[c1,y]) ea);exact{c,c1,c2,c3.mono (.refl _) (EW hc),c4}
 .obtain⟨_,_,w1⟩:=Jw j _ _ z1
  obtain⟨_,_,w2⟩:=Jw l _ _ z2;exact S.inj j l _ _ _ _ b w1 w2
 .rw[EW (λy=>ho (by rw[y];exact ow))];exact z
 .by_cases hb:b=ad
  .rw[hb,HC] at z;cases z
  .rw[EW hb] at z;exact z
 .obtain⟨nR,x',w⟩:=Jw j t' x z1
  exact .inl {j,nR,x',w,z2}
def Aa(K:AC)(r:V->List V->Hp->VK->Prop)(f:List D->List D->Out (D×List D)):Prop:=∀(F H:Hp) (l:AR) vs ds args xs d V9 Q,Sub F H->H l=AA (.lst vs)->Reps K F vs ds->Reps K F args xs->f ds xs=.ok (d,V9) ->
 (∀y kY,Rep K F y d->Reps K F kY V9->Q y (D5 H l (.lst kY)))->r (.ref l) args H Q
def SC(i:Nat)(f:List D->List D->Out (D×List D))(gs:List G):G:=λE=>match E[i]? with
 |some (.own _ (.lst _))=>(OU gs E).bind λp=>match p.2[i]? with
  |some (.own t (.lst ds))=>(f ds p.1).bind λq=>.ok (q.1,p.2.set i (.own t (.lst q.2)))
  |_=>.bad
 |_=>.bad
theorem Bz{r:V->List V->Hp->VK->Prop}{f:List D->List D->Out (D×List D)}(hs:Aa K r f){Q:VK}(h:tV K H₀ (SC i f gs) σ H Q) :
  ∃v,σ[i]?=AA (AA v)/\Ad K "list" v H/\fT K H₀ gs σ H λxs H2=>r v xs H2 Q:=by
 obtain⟨τ,F,E,d,E',S,hg,k⟩:=h;unfold SC at hg;split at hg
 .rename_i t0 lT e0
  obtain⟨p,e1,hg⟩:=pA3 hg;split at hg
  .rename_i t ds e2
   obtain⟨q,e3,hg⟩:=pA3 hg;cases hg;obtain⟨ad,a1,a2,⟨Xt,a3,_⟩,_⟩:=S.own i _ _ e0;refine{_,a1,.inl {rfl,Xt,SqL.of a3},τ,F,E,p.1,p.2,S,e1,λargs F1 H1 s1 S1 r1=>?_};obtain⟨ad',b1,b2,⟨vs,b3,b4⟩,_⟩:=S1.own i _ _ e2;rw[a1] at b1;cases b1;refine hs F1 H1 ad vs ds args p.1 q.1 q.2 Q S1.sub b3 b4 r1 e3 λy kY ry rvs=>?_;obtain⟨S2,s2⟩:=S1.setO (o:=.lst kY) (d':=.lst q.2) e2 a1 {kY,HC,rvs};exact k y F1 _ (s1.trans s2) S2 ry
  .cases hg
 .cases hg
variable{q:YA}
def VC(ds xs:List D):Out (D×List D):=match xs with
 |[d]=>few ds.length (.ok (.non,ds++[d]))
 |_=>.bad
theorem zRT:Aa K Dw VC:=λF H l vs ds args xs d V9 Q s h r ra hf k=>by
 unfold VC at hf;split at hf
 .obtain⟨hl,hf⟩:=ZF hf
  cases hf
  cases ra with
  |cons r1 rr =>
   cases rr;exact{l,vs,_,rfl,rfl,h,by rw[r.length];exact fJ hl,k _ _ .non (r.append (.cons r1 .nil))}
 .cases hf
noncomputable def fB(ds xs:List D):Out (D×List D):=match xs with
 |[]=>match ds[ds.length-1]? with
  |some d=>.ok (d,ds.dropLast)
  |none=>.bad
 |_=>.bad
theorem Reps.dropLast{vs:List V}{ds:List D}(r:Reps K F vs ds):Reps K F vs.dropLast ds.dropLast:=by
 rw[ZC,ZC,r.length];exact r.take _
theorem yDS:Aa K Vk fB:=λF H l vs ds args xs d V9 Q s h r ra hf k=>by
 unfold fB at hf;split at hf
 .split at hf
  .rename_i d' e
   cases hf;cases ra;obtain⟨v,h1,h2⟩:=r.get e;exact{l,vs,v,rfl,rfl,h,by rw[r.length];exact h1,k _ _ h2 r.dropLast}
  .cases hf
 .cases hf
def kI(ds xs:List D):Out (D×List D):=match xs with
 |[.int i]=>guard (0<=i/\i<ds.length/\ds.length<10000) (match ds[i.toNat]? with
  |some d=>.ok (d,ds.eraseIdx i.toNat)
  |none=>.bad)
 |_=>.bad
theorem zU3:Aa K Oe kI:=λF H l vs ds args xs d V9 Q s h r ra hf k=>by
 unfold kI at hf;split at hf
 .rename_i i
  obtain⟨⟨g1,g2,g3⟩,hf⟩:=Z4 hf;split at hf
  .rename_i d' e
   cases hf
   cases ra with
   |cons r1 rr =>
    cases rr;obtain rfl:=r1.vI;obtain⟨v,h1,h2⟩:=r.get e;exact{l,vs,i,i.toNat,v,rfl,rfl,h,by omega,by omega,by rw[r.length];exact WR g1 g2,h1,k _ _ h2 (r.eraseIdx _)}
  .cases hf
 .cases hf
theorem zF(i:Nat)(ha:VA X [e] gs)(hN:X.N[i]?=AA xn:=by rfl)(hv:Z8 X.env.scope xn:=by first|exact BO rfl|exact DY (BO rfl)|exact DY (DY rfl))(hd:(xn==("__debug__":CN))=AD:=by decide)(L9:(xn==("__classdict__":CN))=AD:=by decide)
  (NT:IK (.Name xn q) "append" X.env (eval (.Name xn q) X.env)=eval (.Name xn q) X.env:=by rfl)
  (YV:((DD FQ (AM [e] X.env)).all (λx=>!x.1)&&(UG FQ (NI [] X.env)).all (λx=>x.1.isSome)
   && decide ([e].length+([]:List KG).length+(if([]:List KG).isEmpty then 0 else 1)<30))=AK:=by rfl)
  (NS:(K5.endLine==FQ.line)=AK:=by rfl) (hs:AM [e] X.env=(AD,eval e X.env)::AM [] X.env:=by rfl) (OZ:(DD FQ (AM [] X.env)).any (·.1)=AD:=by rfl) :
  VE X (.Call (.Attribute (.Name xn q) "append" K5) [e] [] FQ) (SC i VC gs) :=
 (sG FT LW LU zK (iI hN hv hd L9) ha NT YV NS hs OZ).imp λσ H Q h=>Bz zRT h
theorem zZW(i:Nat)(ha:VA X [e] gs)(hN:X.N[i]?=AA xn:=by rfl)(hv:Z8 X.env.scope xn:=by first|exact BO rfl|exact DY (BO rfl)|exact DY (DY rfl))(hd:(xn==("__debug__":CN))=AD:=by decide)(L9:(xn==("__classdict__":CN))=AD:=by decide)
  (NT:IK (.Name xn q) "pop" X.env (eval (.Name xn q) X.env)=eval (.Name xn q) X.env:=by rfl)
  (YV:((DD FQ (AM [e] X.env)).all (λx=>!x.1)&&(UG FQ (NI [] X.env)).all (λx=>x.1.isSome)
   && decide ([e].length+([]:List KG).length+(if([]:List KG).isEmpty then 0 else 1)<30))=AK:=by rfl)
  (NS:(K5.endLine==FQ.line)=AK:=by rfl) (hs:AM [e] X.env=(AD,eval e X.env)::AM [] X.env:=by rfl) (OZ:(DD FQ (AM [] X.env)).any (·.1)=AD:=by rfl) :
  VE X (.Call (.Attribute (.Name xn q) "pop" K5) [e] [] FQ) (SC i kI gs) :=
 (sG FT WW WV zTR (iI hN hv hd L9) ha NT YV NS hs OZ).imp λσ H Q h=>Bz zU3 h
theorem yGC(i:Nat)(hN:X.N[i]?=AA xn:=by rfl)(hv:Z8 X.env.scope xn:=by first|exact BO rfl|exact DY (BO rfl)|exact DY (DY rfl))(hd:(xn==("__debug__":CN))=AD:=by decide)(L9:(xn==("__classdict__":CN))=AD:=by decide)
  (NT:IK (.Name xn q) "pop" X.env (eval (.Name xn q) X.env)=eval (.Name xn q) X.env:=by rfl) (NS:(K5.endLine==FQ.line)=AK:=by rfl) :
  VE X (.Call (.Attribute (.Name xn q) "pop" K5) [] [] FQ) (SC i fB []) :=
 (yCG FT WW WV yCI (iI hN hv hd L9) NT NS).imp λσ H Q h=>by
  obtain⟨v,h1,h2,τ,F,E,ds,E',S,hg,k⟩:=Bz yDS h;cases hg;exact{v,h1,h2,k [] F H .refl S .nil}
theorem RepK.put(k:Key){d:D}{vs:List (Key×V)}{ds:List (Key×D)}(r:RepK K F vs ds)(h:Rep K F v d):RepK K F (TJ vs k v) (P4 ds k d):=by
 have any:∀{vs:List (Key×V)} {ds:List (Key×D)},RepK K F vs ds->(vs.any λkv=>decide (kv.1=k))=(ds.any λkv=>decide (kv.1=k)):=by
  intro vs ds r
  induction vs generalizing ds with
  |nil=>cases r;rfl
  |cons x xs ih=>cases r with|cons h r=>rw[ER,ER,ih r]
 have mp:∀{vs:List (Key×V)} {ds:List (Key×D)},RepK K F vs ds->RepK K F (vs.map λkv=>if kv.1=k then(kv.1,v) else kv) (ds.map λkv=>if kv.1=k then(kv.1,d) else kv):=by
  intro vs ds r
  induction vs generalizing ds with
  |nil=>cases r;exact .nil
  |cons x xs ih =>
   cases r with
   |@cons k' v' d' _ _ h' r =>
    rw[AU,AU]
    by_cases e:k'=k
    .simp only[e,if_true];exact .cons h (ih r)
    .simp only[e,if_false];exact .cons h' (ih r)
 have ap:∀{vs:List (Key×V)} {ds:List (Key×D)},RepK K F vs ds->RepK K F (vs++[(k,v)]) (ds++[(k,d)]):=by
  intro vs ds r
  induction vs generalizing ds with
  |nil=>cases r;exact .cons h .nil
  |cons x xs ih=>cases r with|cons h' r=>exact .cons h' (ih r)
 unfold TJ P4;rw[any r];split
 .exact mp r
 .exact ap r
theorem RepT.put(k:List Int){d:D}{vs:List (List Key×V)}{ds:List (List Int×D)}(r:RepT K F vs ds)(h:Rep K F v d):RepT K F (TJ vs (k.map CQ) v) (P4 ds k d):=by
 have dec:∀k':List Int,decide (k'.map (CQ:Int->Key)=k.map CQ)=decide (k'=k):=λk'=>by
  by_cases e:k'=k
  .simp[e]
  .have e':¬k'.map (CQ:Int->Key)=k.map CQ:=λz=>e (yN z)
   simp[e,e']
 have any:∀{vs:List (List Key×V)} {ds:List (List Int×D)},RepT K F vs ds->(vs.any λkv=>decide (kv.1=k.map CQ))=(ds.any λkv=>decide (kv.1=k)):=by
  intro vs ds r
  induction vs generalizing ds with
  |nil=>cases r;rfl
  |cons x xs ih=>cases r with|@cons k' _ _ _ _ h r=>rw[ER,ER,ih r];show(decide _||_)=(decide _||_);rw[dec k']
 have mp:∀{vs:List (List Key×V)} {ds:List (List Int×D)},RepT K F vs ds->RepT K F (vs.map λkv=>if kv.1=k.map CQ then(kv.1,v) else kv) (ds.map λkv=>if kv.1=k then(kv.1,d) else kv):=by
  intro vs ds r
  induction vs generalizing ds with
  |nil=>cases r;exact .nil
  |cons x xs ih =>
   cases r with
   |@cons k' v' d' _ _ h' r =>
    rw[AU,AU]
    by_cases e:k'=k
    .simp only[e,if_true];exact .cons h (ih r)
    .have e':¬k'.map (CQ:Int->Key)=k.map CQ:=λz=>e (yN z)
     simp only[e,e',if_false];exact .cons h' (ih r)
 have ap:∀{vs:List (List Key×V)} {ds:List (List Int×D)},RepT K F vs ds->RepT K F (vs++[(k.map CQ,v)]) (ds++[(k,d)]):=by
  intro vs ds r
  induction vs generalizing ds with
  |nil=>cases r;exact .cons h .nil
  |cons x xs ih=>cases r with|cons h' r=>exact .cons h' (ih r)
 unfold TJ P4;rw[any r];split
 .exact mp r
 .exact ap r
def qP(x k v:D):Out D:=match x,k with
 |.lst ds,.int i=>match YH ds.length i with
  |some j=>.ok (.lst (ds.set j v))
  |none=>.bad
 |.dk kvs,k=>match iC k with
  |some k=>few kvs.length (.ok (.dk (P4 kvs k v)))
  |none=>.bad
 |.dt kvs,.tup ks=>match PH ks with
  |some ns=>few kvs.length (.ok (.dt (P4 kvs ns v)))
  |none=>.bad
 |_,_=>.bad
def RW(i:Nat)(gk gv:G):GS:=λE=>match E[i]? with
 |some (.own _ _)=>(gv E).bind λv=>(gk v.2).bind λk=>match k.2[i]? with
  |some (.own t d)=>(qP d k.1 v.1).bind λd'=>.ok (.nx (k.2.set i (.own t d')))
  |_=>.bad
 |_=>.bad
theorem fR{gk gv:G}(i:Nat)(hu:X.A.units+64<GT)(hk:VE X kx gk)(Ka:VE X JQ gv)
  (hN:X.N[i]?=AA xn:=by rfl) (hv:Z8 X.env.scope xn:=by first|exact BO rfl|exact DY (BO rfl)|exact DY (DY rfl)) (hd:(xn==("__debug__":CN))=AD:=by decide) (L9:(xn==("__classdict__":CN))=AD:=by decide)
  (hs:IJ JQ (AA (.Subscript (.Name xn q) kx XD)) SM.line X.env=pure AD:=by rfl)
  (oA:aE [.Subscript (.Name xn q) kx XD] JQ SM.line X.env=pure AD:=by rfl) (hw:aF [.Subscript (.Name xn q) kx XD] JQ X.env=pure AN:=by rfl)
  (h1:(HE [.Subscript (.Name xn q) kx XD] X.env).map (·.2)=[K7 (.Subscript (.Name xn q) kx XD) X.env]:=by rfl)
  (ha:∀v,K7 (.Subscript (.Name xn q) kx XD) X.env v=(do
   let ov <-MA [v] (eval (.Name xn q) X.env)
   let iv <-MA [v,ov] (eval kx X.env)
   KD XD
   MA [v,ov,iv] (setItem ov iv v)
   release [v,ov,iv] []):=by intro _;rfl):VS X (.Assign [.Subscript (.Name xn q) kx XD] JQ SM) (RW i gk gv):=λAF s σ H D' I h=>by
 obtain⟨τ,F,E,r,S,hg,k⟩:=h;unfold RW at hg;split at hg
 .rename_i t0 d0 e0
  obtain⟨v,e1,hg⟩:=pA3 hg;obtain⟨ky,e2,hg⟩:=pA3 hg;split at hg
  .rename_i t d e3
   obtain⟨d',e4,hg⟩:=pA3 hg;cases hg;obtain⟨ad,a1,_⟩:=S.own i _ _ e0;have pn:=iI (pos:=q) hN hv hd L9
   have fin:∀{F2 H2:Hp} {o:HO},Stp (ED σ E) F H F2 H2 (ED σ ky.2)->Sim X.K X.H₀ τ F2 H2 σ ky.2->OwnAt X.K F2 (D5 H2 ad o) ad d'->D'.nx σ (D5 H2 ad o):=λ{F2 H2 o} s2 S2 ow=>by
    obtain⟨S3,s3⟩:=S2.setO (o:=o) (d':=d') e3 a1 ow;exact k σ F2 _ (s2.trans s3) S3
   have own:∀{F2 H2:Hp},Sim X.K X.H₀ τ F2 H2 σ ky.2->OwnAt X.K F2 H2 ad d:=λ{F2 H2} S2=>by
    obtain⟨ad',b1,_,b3,_⟩:=S2.own i t d e3;rw[a1] at b1;cases b1;exact b3
   cases d with
   |lst ds =>
    refine Df Ka (yB1 pn hk zTQ ha) oA hw h1 AF s σ H D' I ?_;refine{τ,F,E,v.1,v.2,S,e1,λvv F1 H1 s1 S1 r1=>{_,a1,τ,F1,v.2,ky.1,ky.2,S1,e2,λkk F2 H2 s2 S2 r2=>?_}};obtain⟨vs,o1,o2⟩:=own S2;generalize hy:ky.1=y at e4 r2
    cases y with
    |int ii =>
     have e4:(match YH ds.length ii with|some j=>Out.ok (D.lst (ds.set j v.1))|none=>.bad)=.ok d':=e4;obtain rfl:=r2.vI;split at e4
     .rename_i j ej
      cases e4;exact{ad,vs,ii,j,rfl,rfl,o1,by rw[o2.length];exact ej,fin (s1.trans s2) S2 {_,HC,o2.set j (r1.le s2.le)}}
     .cases e4
    |_=>cases e4
   |dk kvs =>
    refine Du 'o' pn hk Ka hs AF s σ H D' I ?_;refine{τ,F,E,v.1,v.2,S,e1,λvv F1 H1 s1 S1 r1=>{_,a1,τ,F1,v.2,ky.1,ky.2,S1,e2,λkk F2 H2 s2 S2 r2=>?_}};obtain⟨vs,o1,o2⟩:=own S2;have e4:(match iC ky.1 with|some k=>few kvs.length (Out.ok (D.dk (P4 kvs k v.1)))|none=>.bad)=.ok d':=e4;split at e4
    .rename_i k' ek
     obtain⟨hl,e4⟩:=ZF e4;cases e4
     have pB:kk=kV k':=by
      generalize hy:ky.1=y at ek r2;cases y<;>first|cases ek|skip
      .obtain rfl:=r2.vI;rfl
      .obtain rfl:=r2.vS;rfl
     subst pB;exact{ad,_,rfl,DPut.kk o1 (by rw[o2.length];exact fJ hl),fin (s1.trans s2) S2 {_,HC,o2.put k' (r1.le s2.le)}}
    .cases e4
   |dt kvs =>
    refine Du 'o' pn hk Ka hs AF s σ H D' I ?_;refine{τ,F,E,v.1,v.2,S,e1,λvv F1 H1 s1 S1 r1=>{_,a1,τ,F1,v.2,ky.1,ky.2,S1,e2,λkk F2 H2 s2 S2 r2=>?_}};obtain⟨vs,o1,o2⟩:=own S2;generalize hy:ky.1=y at e4 r2
    cases y with
    |tup ks =>
     have e4:(match PH ks with|some ns=>few kvs.length (Out.ok (D.dt (P4 kvs ns v.1)))|none=>.bad)=.ok d':=e4;split at e4
     .rename_i ns ek
      obtain⟨hl,e4⟩:=ZF e4;cases e4;have:=kT ek;subst this;generalize lI:ns.map D.int=kk2 at r2
      cases r2 with
      |tup hb rb =>
       subst lI;have:=rb.vint;subst this;refine{ad,_,rfl,DPut.t (k:=ns.map CQ) o1 ?_ (by rw[o2.length];exact fJ hl),fin (s1.trans s2) S2 {_,HC,o2.put ns (r1.le s2.le)}};rw[D7];exact S2.sub _ _ hb
      |@tupK a xs hb nb =>
       cases xs with
       |nil=>exact absurd rfl nb
       |cons x xs =>
        cases ns with
        |nil=>cases lI
        |cons n ns=>cases lI
     .cases e4
    |_=>cases e4
   |_=>cases e4
  .cases hg
 .cases hg
end
section
variable{K:AC}{E:Ev}{a b:CU}{ga gb gc ge:G}{gs:List G}
noncomputable def Ae:D->String
 |.non=>"NoneType"
 |.bl _=>"bool"
 |.int _=>"int"
 |.str _=>"str"
 |.tup _=>"tuple"
 |.lst _=>"list"
 |.dk _=>"dict"
 |.dt _=>"dict"
def uC(t c:String):Bool:=t==c||(t=="bool"&&c=="int")
def pI(c:String)(g:G):G:=λE=>(g E).bind λp=>.ok (.bl (uC (Ae p.1) c),p.2)
theorem zU4{Ex:AI->AT->Prop}{bb:Bool}(I:Inv X AF σ H s){ad:AR}(h:SqL X.K H ad vs)
  (e:BQ X.K (.type "list") cv=AA bb) (hq:∀tk,Q (.bool bb) { s with toks:=tk }):A0 (A6 X.prog X.w) A (call (.builtin "isinstance") [.ref ad,cv]) Q Ex s:=by
 obtain⟨CI,r,pl,z⟩:=I.list h;obtain⟨o,h1,h2,_⟩:=pl.isList;exact DE PV I.kIn {o,h1,h2} e (λz=>nomatch z) hq
theorem Rz{Ex:AI->AT->Prop}{bb:Bool}(I:Inv X AF σ H s){ad:AR}(h:(∃kvs,Rd H ad (.dK kvs))\/∃kvs,Rd H ad (.dT kvs))
  (e:BQ X.K (.type "dict") cv=AA bb) (hq:∀tk,Q (.bool bb) { s with toks:=tk }):A0 (A6 X.prog X.w) A (call (.builtin "isinstance") [.ref ad,cv]) Q Ex s:=by
 rcases h with⟨kvs,h⟩|⟨kvs,h⟩
 .obtain⟨_,_,vs,_,o,es,ep,h1,h2,_⟩:=(show ObjOk X.prog X.w H s.heap ad (.dK kvs) from h.ok I.hok)
  exact DE LM I.kIn {o,h1,h2.1} e (λz=>nomatch z) hq
 .obtain⟨_,_,xs,_,o,es,ep,h1,h2,_⟩:=(show ObjOk X.prog X.w H s.heap ad (.dT kvs) from h.ok I.hok)
  exact DE LM I.kIn {o,h1,h2.1} e (λz=>nomatch z) hq
structure IsC(c:String):Prop where
 k:∀(K:AC) (t:String),t∈["NoneType","bool","int","str","tuple","list","dict"]->BQ K (.type t) (.type c)=AA (uC t c)
theorem yGD:IsC "int":={λK t h=>by simp only[A2,BX,or_false] at h;rcases h with rfl|rfl|rfl|rfl|rfl|rfl|rfl<;>rfl}
theorem zU5:IsC "bool":={λK t h=>by simp only[A2,BX,or_false] at h;rcases h with rfl|rfl|rfl|rfl|rfl|rfl|rfl<;>rfl}
theorem Ry:IsC "tuple":={λK t h=>by simp only[A2,BX,or_false] at h;rcases h with rfl|rfl|rfl|rfl|rfl|rfl|rfl<;>rfl}
def yDT(K:AC)(c:String):List V->Hp->VK->Prop:=λxs H Q=>∃v F d,xs=[v,.ty c]/\Sub F H/\Rep K F v d/\Q (.bl (uC (Ae d) c)) H
theorem zPJ{cn:String}(ic:IsC cn):CallR X (.builtin "isinstance") (yDT X.K cn):=by
 intro AF s σ H xs us Q I r h;obtain⟨v,F,d,rfl,sb,rd,q⟩:=h
 cases r with
 |cons r1 r2 =>
  cases r2 with
  |cons r2 r3 =>
   cases r3;cases r2;have fin:∀{bb:Bool} (tk:Nat),uC (Ae d) cn=bb->EP X AF σ Q (.bool bb) { s with toks:=tk }:=λtk e=>by subst e;exact{.bl _,H,I.tok tk,rfl,q}
   cases d with
   |non=>obtain rfl:=rd.vN;exact zL I r1 .non (ic.k _ _ 's') λtk=>fin tk rfl
   |bl b=>obtain rfl:=rd.vB;exact zL I r1 (.bl _) (ic.k _ _ 's') λtk=>fin tk rfl
   |int i=>obtain rfl:=rd.vI;exact zL I r1 (.int _) (ic.k _ _ 's') λtk=>fin tk rfl
   |str i=>obtain rfl:=rd.vS;exact zL I r1 (.str _) (ic.k _ _ 's') λtk=>fin tk rfl
   |lst ds =>
    obtain⟨l,ys,rfl,h1,h2⟩:=rd.isRefL;cases r1;exact zU4 I (h1.imp sb.rd id) (ic.k _ _ 's') λtk=>fin tk rfl
   |tup ds =>
    obtain⟨l,ys,rfl,h2,h1⟩:=rd.tupSq;cases r1;exact zT3 I (h1 F H (.refl _) sb) (ic.k _ _ 's') λtk=>fin tk rfl
   |dk kvs =>
    cases rd with
    |dk h1 _=>cases r1;exact Rz I (.inl {_,sb.rd h1}) (ic.k _ _ 's') λtk=>fin tk rfl
   |dt kvs =>
    cases rd with
    |dt h1 _=>cases r1;exact Rz I (.inr {_,sb.rd h1}) (ic.k _ _ 's') λtk=>fin tk rfl
theorem Ct{cn:String}{cx:CN}{cp:YA}(ic:IsC cn)(hm:X.mg "isinstance"=AN)(hmc:X.mg cx=AN)(hvc:GH cx=AA (.type cn))(ha:VE X a ga)(hg:Gl X "isinstance":=by rfl)(hgc:Gl X cx:=by rfl)(hnc:cx≠"__name__":=by decide)(hdc:(cx==("__debug__":CN))=AD:=by decide)
  (oA:AM [.Name cx cp] X.env=(AD,eval (.Name cx cp) X.env)::AM [] X.env:=by rfl)
  (he:AM (a::[.Name cx cp]) X.env=(AD,eval a X.env)::AM [.Name cx cp] X.env:=by rfl) (JV:(DD pos (AM [.Name cx cp] X.env)).any (·.1)=AD:=by rfl) :
  VE X (.Call (.Name "isinstance" p) [a,.Name cx cp] [] pos) (pI cn ga) :=
 (tO (zPJ ic) hg hm (by decide +kernel) (QY ha (QY (Qi (v:=.ty cn) hgc hmc hvc rfl hnc hdc) GG oA) he) 'd' 'd' he JV).imp λσ H Q h=>by
  obtain⟨τ,F,E,d,E',S,hg,k⟩:=h;obtain⟨q,e1,hg⟩:=pA3 hg;cases hg;exact{τ,F,E,q.1,q.2,S,e1,λv F1 H1 s1 S1 r1=>{v,F1,q.1,rfl,S1.sub,r1,k _ F1 H1 s1 S1 (.bl _)}}
theorem yI:FE X (.Dict [] [] pos) (gC (.dk [])):=cT.imp λσ H Q h q hq=>by
 obtain⟨τ,F,E,d,E',S,hg,k⟩:=h;cases hg;have n:=pA6 (H':=D5 H q (.dK [])) S.sub (Gr.new hq);exact k q F _ n.stp (S.new n) (pAG S.sub hq) hq {_,HC,.nil} (S.fresh hq)
theorem Pk:FE X (.Dict [] [] pos) (gC (.dt [])):=cS.imp λσ H Q h q hq=>by
 obtain⟨τ,F,E,d,E',S,hg,k⟩:=h;cases hg;have n:=pA6 (H':=D5 H q (.dT [])) S.sub (Gr.new hq);exact k q F _ n.stp (S.new n) (pAG S.sub hq) hq {_,HC,.nil} (S.fresh hq)
def Cs(gk gv:G):G:=λE=>(gk E).bind λp=>(gv p.2).bind λq=>match iC p.1 with
 |some k=>.ok (.dk [(k,q.1)],q.2)
 |none=>.bad
theorem yGE{y:D}{kk:V}{k':Key}(ek:iC y=AA k')(r2:Rep K F kk y):kk=kV k':=by
 cases y<;>first|cases ek|skip
 .obtain rfl:=r2.vI;rfl
 .obtain rfl:=r2.vS;rfl
theorem zZX{gk gv:G}{vx:CU}(hk:VE X kx gk)(hv:VE X vx gv):FE X (.Dict [AA kx] [vx] pos) (Cs gk gv):=(zYN (zTU hk hv zYM) rfl rfl 's' (by show 1<=15;decide)).imp λσ H Q h q hq=>by
 obtain⟨τ,F,E,d,E',S,hg,k⟩:=h;obtain⟨p,e1,hg⟩:=pA3 hg;obtain⟨r,e2,hg⟩:=pA3 hg;split at hg
 .rename_i k' ek
  cases hg;have n:=pA6 (H':=D5 H q (.dK [])) S.sub (Gr.new hq);have S0:=S.new n
  have keep:∀{Ea Eb:Ev} {Fa Ha Fb Hb:Hp},Stp (ED σ Ea) Fa Ha Fb Hb (ED σ Eb)->Fa q=AN->¬ED σ Ea q->Ha q=AA (.dK [])->Fb q=AN/\¬ED σ Eb q/\Hb q=AA (.dK []):=by
   intro Ea Eb Fa Ha Fb Hb st a1 a2 a3;refine{?_,λz=>(st.own q z).elim a2 λz=>by (rw[a3] at z;cases z),st.keep q _ a3 trivial a1 a2}
   cases z:Fb q with
   |none=>rfl
   |some u =>
    rcases st.new q u z with z|z|z
    .exact absurd a1 z
    .exact absurd trivial (z _ a3)
    .exact absurd z a2
  refine{τ,F,E,p.1,p.2,S0,e1,λkk F1 H1 s1 S1 r1=>{τ,F1,p.2,r.1,r.2,S1,e2,λvv F2 H2 s2 S2 r2=>?_}};obtain⟨f1,m1,h1⟩:=keep s1 (pAG S.sub hq) (S.fresh hq) HC;obtain⟨f2,m2,h2⟩:=keep s2 f1 m1 h1;have:=yGE ek r1;subst this;refine{h2,[(k',vv)],rfl,by show 1<=15;decide,?_}
  have st:Stp (ED σ E) F H F2 (D5 H2 q (.dK [(k',vv)])) (ED σ r.2):=by
   have bH:=((n.stp (ow:=ED σ E)).trans s1).trans s2;refine{λa u e hw nf ho=>?_,λa e=>?_,bH.le,bH.new,bH.own}
   .rw[EW (VL e hq)];exact bH.keep a u e hw nf ho
   .by_cases ha:a=q
    .rw[ha];exact hq
    .rw[EW ha] at e;exact bH.dom a e
  exact k q F2 _ st (S2.off f2 m2) f2 hq {_,HC,.cons r2 .nil} m2
 .cases hg
def cD(gd gk gx:G):G:=λE=>(gd E).bind λp=>(gk p.2).bind λq=>(gx q.2).bind λr=>match iB p.1 q.1 with
 |some o=>.ok (o.getD r.1,r.2)
 |none=>.bad
theorem Wb{gd gk gx:G}{o dx:CU}(hu:X.A.units+64<GT)(ho:VE X o gd)(hk:VE X kx gk)(hx:VE X dx gx)(m:M2 X o "get" K5 kx dx FQ:=by exact{rfl,rfl,rfl,rfl}):VE X (.Call (.Attribute o "get" K5) [kx,dx] [] FQ) (cD gd gk gx):=(zTV 'l' ho hk hx m).imp λσ H Q h=>by
 obtain⟨τ,F,E,d,E',S,hg,k⟩:=h;obtain⟨p,e1,hg⟩:=pA3 hg;obtain⟨q,e2,hg⟩:=pA3 hg;obtain⟨r,e3,hg⟩:=pA3 hg;split at hg
 .rename_i od eo
  cases hg;refine{τ,F,E,p.1,p.2,S,e1,λv F1 H1 s1 S1 r1=>?_}
  have isd:∃ad,v=.ref ad/\Ib H1 ad:=by
   generalize hy:p.1=y at eo r1
   cases y with
   |dk kvs=>cases r1 with|dk h1 _=>exact{_,rfl,.inl {_,S1.sub.rd h1}}
   |dt kvs=>cases r1 with|dt h1 _=>exact{_,rfl,.inr {_,S1.sub.rd h1}}
   |_=>cases eo
  obtain⟨ad,rfl,hd⟩:=isd;refine{ad,rfl,hd,τ,F1,p.2,q.1,q.2,S1,e2,λkk F2 H2 s2 S2 r2=>{τ,F2,q.2,r.1,r.2,S2,e3,λz F3 H3 s3 S3 r3=>?_}};obtain⟨a',ov,ea,g,ro⟩:=pAI S3.sub ((r1.le s2.le).le s3.le) (r2.le s3.le) eo;cases ea;refine{ov,g,k _ F3 H3 ((s1.trans s2).trans s3) S3 ?_}
  cases od with
  |none=>have:=ro.none_of;subst this;exact r3
  |some d0=>obtain⟨w,rfl,KO⟩:=ro.some_of;exact KO
 .cases hg
def Uw:D->Out Bool
 |.non=>.ok AD
 |.bl b=>.ok b
 |.int i=>.ok (i != 0)
 |.lst ds=>.ok (!ds.isEmpty)
 |.tup ds=>.ok (!ds.isEmpty)
 |.str z=>few z.length (.ok ((z.length:Int) != 0))
 |_=>.bad
def W0(g:G):Ev->Out (Bool×Ev):=λE=>(g E).bind λp=>(Uw p.1).bind λb=>.ok (b,p.2)
theorem Reps.isEmpty{vs:List V}{ds:List D}(r:Reps K F vs ds):vs.isEmpty=ds.isEmpty:=by (cases r)<;>rfl
theorem pX(ha:VE X a ga)(he:∀SJ,WG a X.env SJ=(do let v <-SJ;KD a.pos;MA [v] (truthy v)):=by intro _;rfl):VT X a (W0 ga):=(zTL ha he).imp λσ H Q h=>by
 obtain⟨τ,F,E,d,E',S,hg,k⟩:=h;obtain⟨p,e1,hg⟩:=pA3 hg;obtain⟨b,e2,hg⟩:=pA3 hg;cases hg;refine{τ,F,E,p.1,p.2,S,e1,λv F1 H1 s1 S1 r1=>{d,?_,k F1 H1 s1 S1}};generalize hy:p.1=y at e2 r1
 cases y with
 |non=>obtain rfl:=r1.vN;cases e2;rfl
 |bl b=>obtain rfl:=r1.vB;cases e2;rfl
 |int i=>obtain rfl:=r1.vI;cases e2;rfl
 |str z =>
  obtain rfl:=r1.vS;obtain⟨hl,e2⟩:=ZF e2;cases e2;exact{cV hl,rfl}
 |lst ds =>
  cases e2;obtain⟨l,ys,rfl,h1,h2⟩:=r1.isRefL;exact .inl {ys,h1.imp S1.sub.rd id,by rw[h2.isEmpty]}
 |tup ds =>
  cases e2;obtain⟨l,ys,rfl,h2,h1⟩:=r1.tupSq;exact .inr (.inl {ys,h1 F1 H1 (.refl _) S1.sub,by rw[h2.isEmpty]})
 |_=>cases e2
noncomputable def TX(lo:Int)(n:Nat):List D:=(DB n).map λi:Nat=>D.int (lo+(i:Int))
theorem Rx(lo:Int)(n:Nat):Walks K (rC lo n) F (TX lo n):=λi F1 H1 l s=>by
 have hl:(TX lo n).length=n:=by simp[TX]
 refine{λhi=>by rw[hl] at hi;exact hi,λhi=>by rw[hl] at hi;rw[hi];exact AL _,λx H' d e ⟨e1,y⟩=>?_};subst e1 y;unfold TX at e;rw[AV] at e
 cases q:(DB n)[i]? with
 |none=>rw[q] at e;cases e
 |some j =>
  rw[q] at e
  have:j=i:=by
   obtain⟨h1,h2⟩:=AE.mp q;rw[P9] at h2;exact h2.symm
  subst this;cases e;exact{F1,.refl s,.int _}
def mQ(i:Int):Prop:=-1000000<=i/\i<=1000000
instance (i:Int):Decidable (mQ i):=inferInstanceAs (Decidable (_/\_))
def cI(g:G):GI:=λE=>(g E).bind λp=>match p.1 with|.int j=>guard (mQ j) (.ok (TX 0 j.toNat,p.2))|_=>.bad
def sD(g g':G):GI:=λE=>(g E).bind λp=>(g' p.2).bind λq=>match p.1,q.1 with|.int i,.int j=>guard (mQ i/\mQ j) (.ok (TX i (j-i).toNat,q.2))|_,_=>.bad
theorem zJ(hm:X.mg "range"=AN)(ha:VE X a ga)(hg:Gl X "range":=by rfl)(hs:AM [a] X.env=[(AD,eval a X.env)]:=by rfl)(U0:AM [a] X.env=(AD,eval a X.env)::AM [] X.env:=by rfl):VI X tg (.Call (.Name "range" p) [a] [] pos) (cI ga):=(Sv hg hm (QY ha GG U0) hs).imp λσ H Q h=>by
 obtain⟨τ,F,E,ds,E',S,hg,k⟩:=h;obtain⟨q,e1,hg⟩:=pA3 hg;refine{τ,F,E,q.1,q.2,S,e1,λv F1 H1 s1 S1 r1=>?_};split at hg
 .rename_i j ej
  obtain⟨⟨g1,g2⟩,hg⟩:=Z4 hg;cases hg;rw[ej] at r1;obtain rfl:=r1.vI;exact{j,rfl,by lia,by lia,k _ F1 H1 s1 S1 (Rx 0 _)}
 .cases hg
theorem zRZ(hm:X.mg "range"=AN)(ha:VE X a ga)(hb:VE X b gb)(hg:Gl X "range":=by rfl)(hs:AM [a,b] X.env=[(AD,eval a X.env),(AD,eval b X.env)]:=by rfl)(NB:AM [b] X.env=[(AD,eval b X.env)]:=by rfl)
  (U0:AM [a,b] X.env=(AD,eval a X.env)::AM [b] X.env:=by rfl) (oA:AM [b] X.env=(AD,eval b X.env)::AM [] X.env:=by rfl):VI X tg (.Call (.Name "range" p) [a,b] [] pos) (sD ga gb):=(zP7 hg hm (QY ha (QY hb GG oA) U0) hs NB).imp λσ H Q h=>by
 obtain⟨τ,F,E,ds,E',S,hg,k⟩:=h;obtain⟨q,e1,hg⟩:=pA3 hg;obtain⟨r,e2,hg⟩:=pA3 hg;refine{τ,F,E,q.1,q.2,S,e1,λv F1 H1 s1 S1 r1=>{τ,F1,q.2,r.1,r.2,S1,e2,λu F2 H2 s2 S2 r2=>?_}};split at hg
 .rename_i i j ei ej
  obtain⟨⟨⟨g1,g2⟩,g3,g4⟩,hg⟩:=Z4 hg;cases hg;rw[ei] at r1;rw[ej] at r2;obtain rfl:=r1.vI;obtain rfl:=r2.vI;exact{i,j,rfl,{by lia,by lia,by lia,by lia},k _ F2 H2 (s1.trans s2) S2 (Rx i _)}
 .cases hg
noncomputable def j4(ds:List D):List D:=ds.zipIdx.map λp=>.tup [.int (p.2:Int),p.1]
theorem zU6{ds:List D}{d:D}(e:(j4 ds)[i]?=AA d):∃d0,ds[i]?=AA d0/\d=.tup [.int (i:Int),d0]:=by
 unfold j4 at e;rw[AV,List.getElem?_zipIdx] at e
 cases q:ds[i]? with
 |none=>rw[q] at e;cases e
 |some d0=>rw[q] at e;cases e;exact{d0,rfl,by simp}
def Cy(g:G):GI:=λE=>(g E).bind λp=>match p.1 with
 |.lst ds=>.ok (j4 ds,p.2)
 |_=>.bad
theorem zU7(hm:X.mg "enumerate"=AN)(ha:VE X a ga)(hg:Gl X "enumerate":=by rfl)(hs:AM [a] X.env=[(AD,eval a X.env)]:=by rfl)(U0:AM [a] X.env=(AD,eval a X.env)::AM [] X.env:=by rfl):VI X tg (.Call (.Name "enumerate" p) [a] [] pos) (Cy ga):=λAF s σ H R I h=>by
 obtain⟨τ,F,E,ds,E',S,wT,k⟩:=h;obtain⟨q,e1,wT⟩:=pA3 wT;have hl:∀lT:List D,(j4 lT).length=lT.length:=λlT=>by simp[j4]
 split at wT
 .rename_i lT ed
  cases wT;refine zUT hg hm (QY ha GG U0) hs AF s σ H R I {τ,F,E,q.1,q.2,S,e1,λv F1 H1 s1 S1 r1=>?_};rw[ed] at r1;obtain⟨l,ys,rfl,h1,h2⟩:=r1.isRefL;refine{l,rfl,{ys,h1.imp S1.sub.rd id},k _ F1 H1 s1 S1 λi F2 H2 l2 s2=>?_};have sq:SqL X.K H2 l ys:=h1.imp (λh=>s2.rd (l2.rd h)) id;refine{λhi=>?_,λhi=>{ys,sq,by rw[h2.length,hi,hl];exact AL _},λx H' d e ⟨pp,xx,ex,hp,eH,y⟩=>?_}
  .have hv:i<ys.length:=by rw[h2.length];rw[hl] at hi;exact hi
   exact{ys,ys[i],sq,by simp[hv]}
  .subst ex eH
   obtain⟨d0,z1,z2⟩:=zU6 e;subst z2;obtain⟨w,w1,w2⟩:=h2.get z1;rw[y ys sq] at w1;cases w1;have n:=New.laid (o:=.tup [.int i,xx]) s2 hp;exact{_,n,.tup HC (.cons (.int _) (.cons ((w2.le l2).le n.1.le) .nil))}
 .cases wT
def hU(ds es:List D):List D:=(ds.zip es).map λp=>.tup [p.1,p.2]
theorem zZY{ds es:List D}{d:D}(e:(hU ds es)[i]?=AA d):∃d0 d1,ds[i]?=AA d0/\es[i]?=AA d1/\d=.tup [d0,d1]:=by
 unfold hU at e;rw[AV] at e
 cases q:(ds.zip es)[i]? with
 |none=>rw[q] at e;cases e
 |some z =>
  rw[q] at e;cases e;obtain⟨h1,h2⟩:=GP.mp q;exact{_,_,h1,h2,rfl}
def qO(g g':G):GI:=λE=>(g E).bind λp=>(g' p.2).bind λq=>match p.1,q.1 with
 |.tup ds,.tup es=>.ok (hU ds es,q.2)
 |_,_=>.bad
theorem Np(hm:X.mg "zip"=AN)(ha:VE X a ga)(hb:VE X b gb)(hg:Gl X "zip":=by rfl)(hs:AM [a,b] X.env=[(AD,eval a X.env),(AD,eval b X.env)]:=by rfl)(NB:AM [b] X.env=[(AD,eval b X.env)]:=by rfl)
  (U0:AM [a,b] X.env=(AD,eval a X.env)::AM [b] X.env:=by rfl) (oA:AM [b] X.env=(AD,eval b X.env)::AM [] X.env:=by rfl):VI X tg (.Call (.Name "zip" p) [a,b] [] pos) (qO ga gb):=(yCV hg hm (QY ha (QY hb GG oA) U0) hs NB).imp λσ H Q h=>by
 obtain⟨τ,F,E,ds,E',S,hg,k⟩:=h;obtain⟨q,e1,hg⟩:=pA3 hg;obtain⟨r,e2,hg⟩:=pA3 hg;refine{τ,F,E,q.1,q.2,S,e1,λv F1 H1 s1 S1 r1=>{τ,F1,q.2,r.1,r.2,S1,e2,λu F2 H2 s2 S2 r2=>?_}};split at hg
 .rename_i lT es0 ei ej
  cases hg;rw[ei] at r1;rw[ej] at r2;obtain⟨l,ys,rfl,h2,h1⟩:=(r1.le s2.le).tupSq;obtain⟨m,zs,rfl,h4,h3⟩:=r2.tupSq;refine{l,m,rfl,{ys,h1 F2 H2 (.refl _) S2.sub},{zs,h3 F2 H2 (.refl _) S2.sub},k _ F2 H2 (s1.trans s2) S2 λi F3 H3 l3 s3=>?_};have sq:=h1 F3 H3 l3 s3;have Iu:=h3 F3 H3 l3 s3;have hl:(hU lT es0).length=min lT.length es0.length:=by simp[hU]
  refine{λhi=>?_,λhi=>{ys,zs,sq,Iu,?_},λx H' d e ⟨pp,xx,yy,ex,hp,eH,y1,y2⟩=>?_}
  .rw[hl] at hi
   have hv:i<ys.length:=by rw[h2.length];lia
   have hw:i<zs.length:=by rw[h4.length];lia
   exact{ys,zs,ys[i],zs[i],sq,Iu,by simp[hv],by simp[hw]}
  .rw[hl] at hi
   rw[h2.length,h4.length];lia
  .subst ex eH
   obtain⟨d0,d1,z1,z2,z3⟩:=zZY e;subst z3;obtain⟨w,w1,w2⟩:=h2.get z1;obtain⟨w',Xr,w2'⟩:=h4.get z2;rw[y1 ys sq] at w1;cases w1;rw[y2 zs Iu] at Xr;cases Xr;have n:=New.laid (o:=.tup [xx,yy]) s3 hp;exact{_,n,.tup HC (.cons ((w2.le l3).le n.1.le) (.cons ((w2'.le l3).le n.1.le) .nil))}
 .cases hg
def Ht(g:G):G:=λE=>(g E).bind λp=>match p.1 with|.int j=>guard (0<=j/\j<=1000) (.ok (.lst (TX 0 j.toNat),p.2))|_=>.bad
theorem zNA{rp SN:YA}(hc:X.calm=AK)(hm:X.mg "range"=AN)(wH:X.mg "list"=AN)(ha:VE X a ga)(hg:Gl X "range":=by rfl)(Lh:Gl X "list":=by rfl)
  (U0:AM [a] X.env=(AD,eval a X.env)::AM [] X.env:=by rfl) (oH:(DD SN (AM [] X.env)).any (·.1)=AD:=by rfl)
  (he:AM [.Call (.Name "range" rp) [a] [] SN] X.env=(AD,eval (.Call (.Name "range" rp) [a] [] SN) X.env)::AM [] X.env:=by rfl) (JV:(DD pos (AM [] X.env)).any (·.1)=AD:=by rfl) :
  FE X (.Call (.Name "list" p) [.Call (.Name "range" rp) [a] [] SN] [] pos) (Ht ga) :=
 (qC (zI4 hc) Lh wH (by decide +kernel) (QY (qC Ro hg hm (by decide +kernel) (QY ha GG U0) 'd' 'd' U0 oH) GG he) 'd' 'd' he JV).imp λσ H Q h=>by
  obtain⟨τ,F,E,d,E',S,hg,k⟩:=h;obtain⟨q,e1,hg⟩:=pA3 hg;refine{τ,F,E,q.1,q.2,S,e1,λv F1 H1 s1 S1 r1=>?_};split at hg
  .rename_i j ej
   obtain⟨⟨g1,g2⟩,hg⟩:=Z4 hg;cases hg;rw[ej] at r1;obtain rfl:=r1.vI;refine{j,rfl,λpp hp=>{pp,j.toNat,rfl,by rw[HC,PY g1],by lia,λl hl=>?_}};have n:=pA6 (H':=D5 (D5 H1 pp (.rng 0 j)) l (.lst ((DB j.toNat).map λi:Nat=>V.int (i:Int)))) S1.sub ((Gr.new hp).trans (Gr.new hl));have dR:H1 l=AN:=(Gr.new hp).dom l hl;refine k l F1 _ (s1.trans n.stp) (S1.new n) (pAG S1.sub dR) (s1.dom l dR) {_,HC,?_} (S1.fresh dR);have:TX 0 j.toNat=((DB j.toNat).map λi:Nat=>(i:Int)).map D.int:=by unfold TX;rw[D7];congr 1;funext i;simp
   rw[this,show((DB j.toNat).map λi:Nat=>V.int (i:Int))=((DB j.toNat).map λi:Nat=>(i:Int)).map V.int by rw[D7];rfl];exact Reps.ints _
  .cases hg
end
section
variable{K:AC}{E:Ev}{a b:CU}{g ga gb gc ge:G}{gs:List G}
def D.kids:D->Bool
 |.lst ds=>pA9 ds
 |.dk kvs=>pA9 (kvs.map (·.2))
 |.dt kvs=>pA9 (kvs.map (·.2))
 |_=>AD
def By(is:List Nat)(g:G):G:=λE=>(g (OS is E)).bind λp=>if p.1.kids=AK then .ok (p.1,E) else .bad
theorem RepK.flat2(ht:∀a vs,F a=AA (.tup vs)->F2 a=AA (.tup vs)){vs:List (Key×V)}{ds:List (Key×D)}(r:RepK K F vs ds):pA9 (ds.map (·.2))=AK->RepK K F2 vs ds:=(pAB ht).2.2.1 r
theorem RepT.flat2(ht:∀a vs,F a=AA (.tup vs)->F2 a=AA (.tup vs)){vs:List (List Key×V)}{ds:List (List Int×D)}(r:RepT K F vs ds):pA9 (ds.map (·.2))=AK->RepT K F2 vs ds:=(pAB ht).2.2.2 r
theorem yGF(is:List Nat)(h:FE X e g):FE X e (By is g):=by
 rintro AF s σ H Q I ⟨τ,F,E,d,E',S,hg,k⟩;obtain⟨p,eg,hg⟩:=pA3 hg;split at hg
 .rename_i hl
  cases hg;obtain⟨S1,no⟩:=S.lend is;refine GY (h AF s σ H (λv H'=>∃ad F' YN,v=.ref ad/\Stp (λ_=>False) (YF σ E is F H) H F' H' YN/\Sub F' H'/\F' ad=AN/\H ad=AN/\OwnAt X.K F' H' ad p.1) I {τ,_,_,p.1,p.2,S1,eg,λad F' H' st S' n1 n2 ow _=>{ad,F',_,rfl,st.toF no,S'.sub,n1,n2,ow}}) λu s' q0=>?_;obtain⟨v,H',I',rv,ad,F',YN,ev,st,sb,n1,n2,ow⟩:=q0;subst ev;obtain⟨t1,t2,t3,h1,_⟩:=S.back is st sb;have ht:∀a vs,F' a=AA (.tup vs)->W2 σ E is F' a=AA (.tup vs):=λa vs e=>h1 a _ e λo w ho=>{λz=>by subst z;exact ho,λz=>HO.noConfusion z}
  have nl:¬Lent σ E is ad:=λz=>by
   obtain⟨_,⟨o,ho,_⟩,_⟩:=S.owned z.ow;rw[n2] at ho;cases ho
  have hh:aT σ E is H H' ad=H' ad:=by unfold aT;rw[if_neg nl]
  refine{.ref ad,_,I'.thaw t1,rv,k ad _ _ t2 t3 (by unfold W2;rw[if_neg nl];exact n1) n2 ?_ (S.fresh n2)};generalize hy:p.1=y at ow hl
  cases y with
  |lst ds=>obtain⟨vs,q,r⟩:=ow;exact{vs,hh.trans q,Reps.flat2 ht r hl}
  |dk ds=>obtain⟨vs,q,r⟩:=ow;exact{vs,hh.trans q,RepK.flat2 ht r hl}
  |dt ds=>obtain⟨vs,q,r⟩:=ow;exact{vs,hh.trans q,RepT.flat2 ht r hl}
  |_=>exact ow.elim
 .cases hg
def pO(m:Mr)(gf:G)(gs:List G):G:=λE=>(gf E).bind λf=>(OU gs f.2).bind λp=>(m (.own AK f.1::p.1.map Sl.val)).bind λq=>.ok (q.2.1,p.2)
theorem zU9{gf:G}(hn:gs.length+1=np){Q:VK}(h:tV K H₀ (pO m gf gs) σ H Q):sH (N7 K np m) [] E0 (sI (tF K H₀ gf) (fT K H₀ gs)) σ H Q:=by
 obtain⟨τ,F,E,d,E',S,hg,k⟩:=h;obtain⟨f,e0,hg⟩:=pA3 hg;obtain⟨p,e1,hg⟩:=pA3 hg;obtain⟨q,e2,hg⟩:=pA3 hg;cases hg;refine{τ,F,E,f.1,f.2,S,e0,λad F0 H0 s0 S0 n1 n2 ow no=>{τ,F0,f.2,p.1,p.2,S0,e1,λvs F1 H1 s1 S1 r1=>?_}};obtain⟨o,ho,hw⟩:=ow.ho;have k1:H1 ad=AA o:=s1.keep ad o ho hw n1 no;have f1:F1 ad=AN:=s1.nF n1 ho hw no;have UY:OwnAt K F1 H1 ad f.1:=ow.mono s1.le (k1.trans ho.symm);have no1:¬ED σ p.2 ad:=λz=>(s1.own ad z).elim no λz=>by (rw[ho] at z;cases z)
 rw[EA];refine{by rw[BC,r1.length,mZ e1,hn],ad,F1,_,q.1,q.2.1,q.2.2,pAF S1.sub r1 f1 UY,Gy,e2,λv F2 H2 s2 S2 rr=>?_};have s2:Stp (ED ((V.ref ad::vs).map AA) (.own AK f.1::p.1.map Sl.val)) F1 H1 F2 H2 (ED ((V.ref ad::vs).map AA) (.own AK q.2.2::p.1.map Sl.val)):=s2;have ZN:∀b,ED σ p.2 b->b≠ad:=λb z y=>no1 (by rw[<-y];exact z)
 have Sm:Sim K H₀ τ F2 H2 σ p.2:=by
  refine{S2.sub,S1.len,λj d' z=>?_,λj t' d' z=>?_,S1.inj}
  .obtain⟨v,h1,h2⟩:=S1.val j d' z
   exact{v,h1,h2.le s2.le}
  .obtain⟨c,c1,c2,c3,c4⟩:=S1.own j t' d' z
   obtain⟨oc,jD,Yv⟩:=c3.ho;have w8:c≠ad:=ZN c {j,t',d',z,c1};exact{c,c1,s2.nF c2 jD Yv λy=>w8 (kX y),c3.mono s2.le ((s2.keep c oc jD Yv c2 λy=>w8 (kX y)).trans jD.symm),c4}
 have k7:=s0.trans s1
 have st:Stp (ED σ E) F H F2 H2 (ED σ p.2):=by
  refine{λb u z Jz n hb=>?_,λb z=>k7.dom b (s2.dom b z),k7.le.trans s2.le,λb u z=>?_,k7.own}
  .have hb1:=k7.keep b u z Jz n hb
   exact s2.keep b u hb1 Jz (k7.nF n z Jz hb) λy=>by rw[kX y,n2] at z;cases z
  .rcases s2.new b u z with y|y|y
   .cases w:F1 b with
    |none=>exact absurd w y
    |some u'=>exact k7.new b u' w
   .exact k7.nw y
   .rw[kX y];exact .inr (.inl (.none n2))
 cases hb:q.1 with
 |false =>
  rw[hb] at rr;exact k v F2 H2 st Sm rr
 |true =>
  rw[hb] at rr;obtain⟨c,rfl,h1,h2,h3,h4⟩:=rr;obtain⟨o',gH,_⟩:=h2.ho;have nc:∀b,ED σ p.2 b->b≠c:=λb z y=>by subst y;exact S1.fresh h3 z
  refine k _ (D5 F2 c o') H2 {st.keep,st.dom,st.le.trans (.of_gr (Gr.new h1)),λb u z=>?_,st.own} {λb u z=>?_,Sm.len,λj d' z=>?_,λj t' d' z=>?_,Sm.inj} (h2.rep h1 gH)
  .by_cases hb:b=c
   .subst hb;exact .inr (.inl (.none (k7.dom b h3)))
   .rw[EW hb] at z;exact st.new b u z
  .by_cases hb:b=c
   .subst hb;rw[HC] at z;rw[gH];exact z
   .rw[EW hb] at z;exact Sm.sub b u z
  .obtain⟨v,y1,y2⟩:=Sm.val j d' z
   exact{v,y1,y2.le (.of_gr (Gr.new h1))}
  .obtain⟨b,y1,y2,y3,y4⟩:=Sm.own j t' d' z
   exact{b,y1,by rw[EW (nc b {j,t',d',z,y1})];exact y2,y3.mono (.of_gr (Gr.new h1)) rfl,y4}
theorem zZ0{gf:G}(C:N8 X.prog X.w X.K X.mg X.base x k np m)(hr:Room k X.A)(hf:FE X e gf)(ha:VA X es gs)(hn:gs.length+1=np:=by rfl)(hg:Gl X x:=by rfl)(UA:(x==("__debug__":CN))=AD:=by decide)
  (he:AM (e::es) X.env=(AD,eval e X.env)::AM es X.env:=by rfl) (JV:(DD pos (AM es X.env)).any (·.1)=AD:=by rfl):VE X (.Call (.Name x p) (e::es) [] pos) (pO m gf gs):=by
 obtain⟨f,fd,ps,Fn,hm,hk,hb⟩:=C;exact(yU Fn hr hg hm hk hb .nil xZ (QY hf ha he) UA he JV).imp λ_ _ _ h=>zU9 hn h
theorem Fx{iter:CU}{t:Tg}{ge:G}(n:CompNm X scope cl own CZ js)(hc:X.calm=AK)(hi:VI X tg iter gi)
  (hg:∀C s H fp,VG (OV X scope cl (own++CZ) C s H fp) tg t) (ht:∀C s H fp,An (OV X scope cl (own++CZ) C s H fp) ifs tt) (he:∀C s H fp,VE (OV X scope cl (own++CZ) C s H fp) OE ge)
  (hN:X.N.Nodup) (hx:X.N[i]?=AA x) (hl:X.env.scope.names.lookup x=AA .local)
  (n6:IJ (.ListComp OE [{tg,iter,ifs,0}] scope pos) (AA (.Name x OC)) SM.line X.env=pure AK)
  (IU:t.ltn own.length=AK:=by rfl) (hj:js.Nodup:=by decide) (hs:∀x,D6 iter X.env x=pure x:=by intro _;rfl):VS X (.Assign [.Name x OC] (.ListComp OE [{tg,iter,ifs,0}] scope pos) SM) (IN (.nm i) (N6 gi own.length js t tt ge)) :=
 λAF s σ H D' I h=>by
  refine To (g:=λH=>tG X.K H t) (tt:=λH=>tT X.K H tt) (te:=λH=>tV X.K H ge) n hc hi hg ht he hN hx hl n6 hs AF s σ H D' I ?_;refine Pt IU hj (pA7 ?_);obtain⟨τ,F,E,r,S,hg,k⟩:=h;obtain⟨p,e1,hg⟩:=pA3 hg;obtain⟨E1,e2,hg⟩:=pA3 hg;cases hg;rw[XA] at e2;cases e2;refine{τ,F,E,p.1,p.2,S,e1,λv F1 H1 s1 S1 r1=>?_};obtain⟨S2,h2⟩:=S1.put (i:=i) r1;exact k _ F1 H1 (s1.weak h2) S2
theorem Fun.cal{ps:List CN}{st:FC}(Fn:Fun K x x st f fd)(h:FnOk P w K mg base L6 k f fd ps (N7 K np m))(hm:mg x=AA (.ref f))(hb:Binds K fd ps []):N8 P w K mg base x k np m:={f,fd,ps,h,hm,Fn.kp,hb}
end
theorem mD{Pr:α->Prop}:∀p∈([]:List α),Pr p:=λp hp=>nomatch hp
theorem fW{Pr:α->Prop}{a:α}(h:Pr a):∀p∈[a],Pr p:=λp hp=>by rw[A8.mp hp];exact h
theorem Hv{Pr:α->Prop}{a:α}{l:List α}(h:Pr a)(t:∀p∈l,Pr p):∀p∈a::l,Pr p:=λp hp=>by
 rcases A2.mp hp with rfl|hp
 .exact h
 .exact t p hp
theorem Am{Pr:α->Prop}{a b:α}(h1:Pr a)(h2:Pr b):∀p∈[a,b],Pr p:=Hv h1 (fW h2)
theorem Al{Pr:α->Prop}{a b c:α}(h1:Pr a)(h2:Pr b)(h3:Pr c):∀p∈[a,b,c],Pr p:=Hv h1 (Am h2 h3)
theorem Hw{Pr:α->Prop}{a b c d:α}(h1:Pr a)(h2:Pr b)(h3:Pr c)(h4:Pr d):∀p∈[a,b,c,d],Pr p:=Hv h1 (Al h2 h3 h4)
section
variable{a b:CU}{ga gb:G}
theorem yIR{t:Ev->Out (Bool×Ev)}(hc:VT X c t)(ha:FE X a ga)(hb:FE X b gb):FE X (.IfExp c a b pos) (uE t ga gb):=(Ri hc ha hb).imp λσ H Q q=>by
 obtain⟨τ,F,E,d,E',S,hg,k⟩:=q;obtain⟨p,ea,hg⟩:=pA3 hg;refine{τ,F,E,p.1,p.2,S,ea,λF1 H1 st1 S1=>?_}
 by_cases hp:p.1=AK
 .rw[if_pos hp] at hg ⊢
  exact{τ,F1,p.2,d,E',S1,hg,λad F2 H2 st2 S2 n1 n2 ow no=>k ad F2 H2 (st1.trans st2) S2 n1 (st1.dom ad n2) ow no}
 .rw[if_neg hp] at hg ⊢
  exact{τ,F1,p.2,d,E',S1,hg,λad F2 H2 st2 S2 n1 n2 ow no=>k ad F2 H2 (st1.trans st2) S2 n1 (st1.dom ad n2) ow no}
end
section
variable{K:AC}{ge:G}
theorem pAK{o:HL}{u:HO}(s:Sub F H)(h:F a=AA u)(hd:sJ u):New F H (D5 F a (.frz o u)) (D5 H a (.frz o u)):=by
 have hh:=s a u h;refine{{λb v e _ n _=>?_,λb e=>?_,λb v e=>?_,λb v e=>?_,λ_ z=>z.elim},λb v e=>?_}
 .rw[EW (λz=>by rw[z,h] at n;cases n)];exact e
 .by_cases hb:b=a
  .rw[hb,HC] at e;cases e
  .rw[EW hb] at e;exact e
 .by_cases hb:b=a
  .subst hb;rw[h] at e;cases e;exact .inr (.inl {hd,o,HC})
  .exact .inl (by rw[EW hb];exact e)
 .by_cases hb:b=a
  .subst hb;exact .inl (by rw[h];exact nofun)
  .rw[EW hb] at e;exact .inl (by rw[e];exact nofun)
 .by_cases hb:b=a
  .subst hb;rw[HC] at e ⊢;exact e
  .rw[EW hb] at e ⊢;exact s b v e
theorem New.tup{p:AR}{vs:List V}(s:Sub F H)(h:H p=AA (.tup vs)):∃F',New F H F' H/\F' p=AA (.tup vs):=by
 cases hf:F p with
 |some u =>
  have:=s p u hf;rw[h] at this;cases this;exact{F,.refl s,hf}
 |none =>
  refine{D5 F p (.tup vs),{{λ_ _ e _ _ _=>e,λ_ e=>e,.of_gr (Gr.new hf),λb v e=>?_,λ_ z=>z.elim},λb v e=>?_},HC}
  .by_cases hb:b=p
   .subst hb
    refine .inr (.inl λo e' hw=>?_);rw[h] at e';cases e';exact hw
   .rw[EW hb] at e;exact .inl (by rw[e];exact nofun)
  .by_cases hb:b=p
   .subst hb;rw[HC] at e;rw[h];exact e
   .rw[EW hb] at e;exact s b v e
def tW(k:List Int):D:=.tup (k.map D.int)
theorem RepT.keysAt{vs:List (List Key×V)}{ds:List (List Int×D)}(r:RepT K F vs ds):vs.map (·.1)=ds.map λkv=>kv.1.map CQ :=
 r.rec1 (T:=λvs ds=>vs.map (·.1)=ds.map λkv=>kv.1.map CQ) rfl λ_ _ ih=>congrArg (_::·) ih
theorem RepK.keysAt{vs:List (Key×V)}{ds:List (Key×D)}(r:RepK K F vs ds):vs.map (·.1)=ds.map (·.1) :=
 r.rec1 (R:=λvs ds=>vs.map (·.1)=ds.map (·.1)) rfl λ_ _ ih=>congrArg (_::·) ih
theorem Ub{o:HL}{kvs:List (Key×V)}{ds:List (Key×D)}(h:F a=AA (.frz o (.dK kvs)))(r:RepK K F kvs ds):Walks K (At a o kvs) F (ds.map λkv=>jY kv.1):=λi F1 H1 l s=>by
 have hf:F1 a=AA (.frz o (.dK kvs)):=by
  rcases l a _ h with z|⟨z,_⟩|⟨_,_,_,z,_⟩
  .exact z
  .exact z.elim
  .cases z
 have hh:=s _ _ hf;have hl:(ds.map λkv=>jY kv.1).length=kvs.length:=by rw[AJ,r.length]
 refine{λhi=>{AQ hi (CY hl),hh},λhi=>{by lia,hh},λx H' d e ⟨e1,k,ex,ek⟩=>?_};subst e1 ex;rw[r.keysAt,AV] at ek;rw[AV] at e
 cases q:ds[i]? with
 |none=>rw[q] at e;cases e
 |some kv =>
  rw[q] at e ek;cases e;cases ek;exact{F1,.refl s,Pn _}
theorem Ua{o:HL}{ds:List (List Int×D)}(h:F a=AA (.frz o (.dT kvs)))(r:RepT K F kvs ds):Walks K (Xm a o kvs) F (ds.map λkv=>tW kv.1):=λi F1 H1 l s=>by
 have hf:F1 a=AA (.frz o (.dT kvs)):=by
  rcases l a _ h with z|⟨z,_⟩|⟨_,_,_,z,_⟩
  .exact z
  .exact z.elim
  .cases z
 have hh:=s _ _ hf;have hl:(ds.map λkv=>tW kv.1).length=kvs.length:=by rw[AJ,r.length]
 refine{λhi=>{AQ hi (CY hl),hh},λhi=>{by lia,hh},λx H' d e ⟨e1,p,k,ex,ek,ep⟩=>?_};subst e1 ex;rw[r.keysAt,AV] at ek;rw[AV] at e
 cases q:ds[i]? with
 |none=>rw[q] at e;cases e
 |some kv =>
  rw[q] at e ek;cases e;cases ek;obtain⟨F',n,hp⟩:=New.tup s ep;refine{F',n,.tup hp ?_};rw[D7];exact Reps.ints kv.1
def JS(g:G):GI:=λE=>(g E).bind λp=>match p.1 with
 |.lst ds=>.ok (ds,p.2)
 |.tup ds=>.ok (ds,p.2)
 |.dk kvs=>.ok (kvs.map λkv=>jY kv.1,p.2)
 |.dt kvs=>.ok (kvs.map λkv=>tW kv.1,p.2)
 |_=>.bad
theorem W8(h:VE X e ge):VI X tg e (JS ge):=λAF s σ H R I q=>by
 obtain⟨τ,F,E,ds,E',S,hg,k⟩:=q;obtain⟨p,e1,hg⟩:=pA3 hg;split at hg
 .rename_i V9 ed
  cases hg;exact zY3 h AF s σ H R I {τ,F,E,ds,p.2,S,by unfold Xh;rw[e1];show(match p.1 with|.lst ds=>Out.ok (ds,p.2)|_=>.bad)=_;rw[ed],k}
 .rename_i V9 ed
  cases hg;exact yC6 h AF s σ H R I {τ,F,E,ds,p.2,S,by unfold Xg;rw[e1];show(match p.1 with|.tup ds=>Out.ok (ds,p.2)|_=>.bad)=_;rw[ed],k}
 .rename_i kvs ed
  cases hg
  -- which of both it is shows when the JQ is there
  refine GY (h AF s σ H (λx H1=>∃F1,Stp (ED σ E) F H F1 H1 (ED σ p.2)/\Sim X.K X.H₀ τ F1 H1 σ p.2/\Rep X.K F1 x (.dk kvs)) I {τ,F,E,p.1,p.2,S,e1,λv F1 H1 s1 S1 r1=>{F1,s1,S1,by rw[<-ed];exact r1}}) λv s1 q0=>?_;obtain⟨x,H1,I1,r1,F1,st,S1,rr⟩:=q0
  cases rr with
  |dk hr r =>
   rename_i a kv;cases r1;rcases hr with hr|⟨o,hr⟩
   .have ha:=S1.sub _ _ hr
    obtain⟨o,ho,I2⟩:=I1.freezeK ha;obtain⟨es,ep,KO,z1,z2,z3⟩:=mY (I1.hok a _ ha);obtain⟨o',q1,q2,q3⟩:=id KO.ex;rw[ho] at q1;cases q1;have n:=pAK (o:=o) S1.sub hr trivial;refine p8 KO λh' kk ki=>?_;refine{s1.heap.objs.size,[s1.heap.objs.size],_,_,_,rfl,I2.kept (t':=s1.toks) kk,zN a _ o kv es ep q3 z1,ki,λb hb=>?_,k _ _ _ (st.trans n.stp) (S1.new n) (Ub HC (r.le n.1.le))};have e:b=s1.heap.objs.size:=by simpa using hb
    subst e;exact I2.fpOk (AL _) (I2.hok.fresh (AL _))
   .have ha:=S1.sub _ _ hr
    obtain⟨ho,hx⟩:=I1.hok a _ ha;obtain⟨es,ep,KO,z1,z2,z3⟩:=mY hx;obtain⟨o',q1,q2,q3⟩:=id KO.ex;rw[ho] at q1;cases q1;refine p8 KO λh' kk ki=>?_;refine{s1.heap.objs.size,[s1.heap.objs.size],_,_,_,rfl,I1.kept (t':=s1.toks) kk,zN a _ o kv es ep q3 z1,ki,λb hb=>?_,k _ _ _ st S1 (Ub hr r)};have e:b=s1.heap.objs.size:=by simpa using hb
    subst e;exact I1.fpOk (AL _) (I1.hok.fresh (AL _))
 .rename_i kvs ed
  cases hg;refine GY (h AF s σ H (λx H1=>∃F1,Stp (ED σ E) F H F1 H1 (ED σ p.2)/\Sim X.K X.H₀ τ F1 H1 σ p.2/\Rep X.K F1 x (.dt kvs)) I {τ,F,E,p.1,p.2,S,e1,λv F1 H1 s1 S1 r1=>{F1,s1,S1,by rw[<-ed];exact r1}}) λv s1 q0=>?_;obtain⟨x,H1,I1,r1,F1,st,S1,rr⟩:=q0
  cases rr with
  |dt hr r =>
   rename_i a kv;cases r1;rcases hr with hr|⟨o,hr⟩
   .have ha:=S1.sub _ _ hr
    obtain⟨o,ho,I2⟩:=I1.freeze ha;obtain⟨es,ep,KO,z1,z2,z3⟩:=pR (I1.hok a _ ha);obtain⟨o',q1,q2,q3⟩:=id KO.ex;rw[ho] at q1;cases q1;have n:=pAK (o:=o) S1.sub hr trivial;refine p8 KO λh' kk ki=>?_;refine{s1.heap.objs.size,[s1.heap.objs.size],_,_,_,rfl,I2.kept (t':=s1.toks) kk,Sy a _ o kv es ep q3 z1,ki,λb hb=>?_,k _ _ _ (st.trans n.stp) (S1.new n) (Ua HC (r.le n.1.le))};have e:b=s1.heap.objs.size:=by simpa using hb
    subst e;exact I2.fpOk (AL _) (I2.hok.fresh (AL _))
   .have ha:=S1.sub _ _ hr
    obtain⟨ho,hx⟩:=I1.hok a _ ha;obtain⟨es,ep,KO,z1,z2,z3⟩:=pR hx;obtain⟨o',q1,q2,q3⟩:=id KO.ex;rw[ho] at q1;cases q1;refine p8 KO λh' kk ki=>?_;refine{s1.heap.objs.size,[s1.heap.objs.size],_,_,_,rfl,I1.kept (t':=s1.toks) kk,Sy a _ o kv es ep q3 z1,ki,λb hb=>?_,k _ _ _ st S1 (Ua hr r)};have e:b=s1.heap.objs.size:=by simpa using hb
    subst e;exact I1.fpOk (AL _) (I1.hok.fresh (AL _))
 .cases hg
end
theorem walk_v{l:RO}{d:DefRec}{K:Params->AC}{lv:Nat}(hn:l.most=AA 63)(wV:d.params.defaults=[])(hr:Room lv Q3)
  (hY:∀(w:D2) (h:D3),YP w h->(K w.params).In h) (tK:∀w:D2,Tabs (K w.params) q) (hm:∀ns:List Int,ns.length<=63->∃b d',m [.val (.lst (ns.map D.int))]=.ok (b,.bl AK,d'))
  (F:∀(w:D2) (mg:CN->Option AI) (fa:AR) (h:D3),(K w.params).In h->h.Ns BJ mg->mg d.name=AA (.ref fa) ->
   ∃fd:JO,(∀(s:AT) (u:AI),UO s fd {[u],[]} [("script",u)])/\∀base:D3,(K w.params).In base->base.Ns BJ mg->CB (K w.params) base->FnOk l.prog w (K w.params) mg base L6 lv fa fd ["script"] (N7 (K w.params) 1 m)) :
  gT q ZK XP YP l.row.toRowW d [] (λf vs=>aJ f vs) :=
 L2.walk_of (n:=63) (k:=lv) (x:="script") (CX:=λ_=>L6) (sp:=λw=>N7 (K w.params) 1 m) hn 'd' wV hr hY tK F (λw H a ns hl _ hS=>by
  obtain⟨b,d',e⟩:=hm ns hl;refine{rfl,0,H,_,b,_,d',{λ_ _ z=>z,rfl,λi d0 z=>?_,λi t d0 z=>?_,λi j t u d1 d2 a' z=>?_},λi t d0 z=>?_,e,λv F' H' st S r=>?_}
  .cases i with
   |zero=>cases z;exact{_,rfl,.lst hS (Reps.ints ns)}
   |succ i=>simp at z
  .cases i with
   |zero=>cases z
   |succ i=>simp at z
  .cases i with
   |zero=>cases z
   |succ i=>simp at z
  .cases i with
   |zero=>cases z
   |succ i=>simp at z
  .cases b with
   |false=>obtain rfl:=r.vB;rfl
   |true=>obtain⟨_,_,_,ow,_⟩:=r;exact ow.elim) λ_ _ _ _ _ z=>z
end L2
namespace L2
open PySem
theorem yDW{K:AC}{ps:List CN}:FnOk P w K mg base L6 k f fd ps (N7 K np λ_=>.bad) :=
 {(λvs H Q E h=>by obtain⟨_,_,_,_,_,_,_,_,_,hm,_⟩:=h;cases hm),(λA outer s H args us vs Q E hr e b v h=>by obtain⟨_,_,_,_,_,_,_,_,_,hm,_⟩:=h;cases hm)}
end L2
variable{c':AR}{q:CN}{RZ:AI}
namespace L2
open PySem PySem.Spec PyProof.Rows
section
variable{K:AC}{E:Ev}{acc:AR}
end
section
variable{K:AC}{E:Ev}{g:G}{q:YA}
end
theorem zPK{a b:Int}{c:AI}(l:List AI)(h:TriplesOk l)(e:Q2 pos (l++[DC a,DC b,c])=AA cv):Q2 pos l=AA cv\/cv=c:=by
 fun_induction TriplesOk l with
 |case1 =>
  simp only[HM,Q2,DC] at e;split at e
  .cases e;exact .inr rfl
  .cases e
 |case2 a' t b' u x rest ih =>
  simp only[M7,Q2] at e ⊢;split at e
  .rename_i hc;rw[if_pos hc];exact .inl e
  .rename_i hc;rw[if_neg hc];exact ih h e
 |case3 l h1 h2=>exact h.elim
def LamStp(T:AR)(q:CN)(H H':Hp):Prop:=H'=H\/∃ps bI c' o,H T=AA (.tbl q ps)/\H c'=AN/\c'≠T/\H'=D5 (D5 H T (.tbl q bI)) c' (.frz o (.own c'))
section
variable{σ:List (Option V)}
theorem Inv.pinNew{o:HL}(I:Inv X AF σ H s)(hfr:o.isFreed=AD)(hd:∀v,o.data≠.cell v):Inv X ((s.heap.objs.size,o)::AF) σ H { s with heap:=s.heap.push o,toks:=t' }:=by
 have I1:Inv X AF σ H { s with heap:=s.heap.push o,toks:=t' }:=I.un (t':=t') (Un.kept λb u e=>AG _ e) (I.hok.kept λb u e=>AG _ e);refine{I1.ok,I1.os,I1.bare,I1.base,I1.loc,I1.cell,I1.free,I1.freeC,λp hp=>?_,I1.hok,I1.len};rcases CG.mp hp with hp|hp
 .exact I1.pin p (DF _ hp)
 .rcases A2.mp hp with rfl|hp
  .exact{AW _ hfr,I.hok.fresh (AL _),FS I.lt,I.nofs (AL _),hd}
  .exact I1.pin p (BM _ hp)
theorem Inv.table{T:AR}{ps:Array AI}(I:Inv X AF σ H s)(hT:H T=AA (.tbl q ps))(hx:ZX T s.heap h')(lJ:s.heap.objs.size<=c')(jA:h'.CodeRec (.ref c') q)(Bh:h'.get? T=AA (K8 (ps++#[DC pos.line,DC pos.col,.ref c']))) :
  ∃o,Inv X AF σ (D5 (D5 H T (.tbl q (ps++#[DC pos.line,DC pos.col,.ref c']))) c' (.frz o (.own c'))) { s with heap:=h',toks:=t' }/\H c'=AN/\c'≠T:=by
 obtain⟨c0,o,vs,t,e0,jD,hd,hv⟩:=jA;cases e0;obtain⟨e1,tr,al⟩:=I.hok T _ hT;have gO:H c'=AN:=I.hok.fresh lJ;have oT:c'≠T:=λz=>by rw[z] at gO;rw[gO] at hT;cases hT
 have DW:∀b u,H b=AA u->b≠T->D5 (D5 H T (.tbl q (ps++#[DC pos.line,DC pos.col,.ref c']))) c' (.frz o (.own c')) b=AA u:=λb u e hb=>by
  rw[EW (λz=>by rw[z,gO] at e;cases e),EW hb];exact e
 have Zs:D5 (D5 H T (.tbl q (ps++#[DC pos.line,DC pos.col,.ref c']))) c' (.frz o (.own c')) T=AA (.tbl q (ps++#[DC pos.line,DC pos.col,.ref c'])):=by rw[EW (E7 oT),HC]
 have nT:∀b,H b=AN->b≠T:=λb e z=>by rw[z,hT] at e;cases e
 have vJ:∀b u,s.heap.get? b=AA u->H b=AN->D5 (D5 H T (.tbl q (ps++#[DC pos.line,DC pos.col,.ref c']))) c' (.frz o (.own c')) b=AN:=λb u e n=>by
  rw[EW (BZ (AQ (A9 e) lJ)),EW (nT b n)];exact n
 have nS:∀b u,H b=AA u->(∀ps,u≠.tbl q ps)->b≠T:=λb u e n z=>by rw[z,hT] at e;cases e;exact n _ rfl
 refine{o,I.un (t':=t') {λb u e n _ _=>hx b u (nT b n) e,λb u e n _ _=>{u.slots,hx b u (nT b n) e},λb u e n _=>vJ b u e n,λb u e _=>?_,λb xs e=>DW b _ e (nS b _ e λ_ z=>by cases z),λb ob u e=>DW b _ e (nS b _ e λ_ z=>by cases z),λb t bI e=>?_} (λb u e=>?_),gO,oT}
 .by_cases hb:b=T
  .subst hb;exact{_,Bh}
  .exact{u,hx b u hb e}
 .by_cases hb:b=T
  .subst hb
   rw[hT] at e;cases e;exact{_,Zs}
  .exact{#[],by rw[DW b _ e hb];simp}
 .by_cases hb:b=c'
  .subst hb
   rw[HC] at e;cases e;exact{jD,{_,jD}}
  .by_cases Lx:b=T
   .subst Lx
    rw[Zs] at e;cases e;refine{Bh,by rw[EL];exact TriplesOk_snoc _ _ _ _ tr,λp cv z=>?_};rw[EL] at z;rcases zPK _ tr z with z|z
    .obtain⟨c2,o2,Xs,t2,r1,r2,r3⟩:=al p cv z
     exact{c2,o2,Xs,t2,r1,DW c2 _ r2 (nS c2 _ r2 λ_ z=>by cases z),r3}
    .exact{c',o,vs,t,z,HC,hd,hv}
   .rw[EW hb,EW Lx] at e
    refine(I.hok b u e).stay (λd v hc z=>hx d v ?_ z) (λd z=>DW d _ z (nS d _ z λ_ y=>by cases y)) (λd xs z=>DW d _ z (nS d _ z λ_ y=>by cases y)) λd ob x z=>DW d _ z (nS d _ z λ_ y=>by cases y);rcases hc with rfl|hc
    .exact Lx
    .exact nS d _ hc λ_ y=>by cases y
theorem zVA{c T:AR}{clos:List (CN×AR)}{body:CU}
  (I:Inv X AF σ H s) (ZP:X.env.code=.ref c) (C:JH X.base c T) (tb:TB X.K T q) (hq:X.env.qual++("<lambda>":CN)=q) (wX:Y4 scope X.env=pure clos) (oQ:defaultsOf FG X.env=([],[]))
  (h:∀(f c':AR) (pm RZ:AI) (s':AT) (H':Hp) (o:HL),Inv X ((f,M4 "<lambda>" q FG body scope clos pm c' RZ)::AF) σ H' s'->LamStp T q H H'->H' c'=AA (.frz o (.own c'))->s'.heap.CodeRec (.ref c') q->s.heap.objs.size<=f->Q (.ref f) s') :
  A0 (A6 X.prog X.w) A (eval (.Lambda FG body scope pos) X.env) Q E s:=by
 refine PySem.W.kla_eval oQ ?_;rw[hq];obtain⟨ps,hT⟩:=I.tab T q tb;obtain⟨e1,tr,al⟩:=I.hok T _ hT;have hg:=I.mod.glob.keeps I.bk
 have hgT:BJ≠T:=λz=>by
  obtain⟨o,es,ep,e,hd,_⟩:=hg;rw[z,e1] at e;cases e;cases hd
 have Bo:s.heap.BuiltinsAt X.mg T:=by
  obtain⟨bm,ob,b1,b2,b3,b4,b5,b6⟩:=I.mod.bmain;have e3:=I.bk _ _ b3;refine{bm,ob,b1,b2,λz=>?_,λz=>?_,e3,b4,b5,b6}
  .obtain⟨o,es,ep,e,hd,_⟩:=hg
   rw[z,e] at e3;cases e3;rw[hd] at b6;cases b6
  .rw[z,e1] at e3;cases e3;cases b4
 cases hf:Q2 pos ps.toList with
 |none =>
  refine PySem.W.kla_makeFunction (mg:=X.mg) wX I.ok.glob hg ZP (C.keeps I.bk) e1 tr hf hgT Bo λc' RZ h' tk hx lJ IU jA Bh=>?_;obtain⟨o,I1,gO,oT⟩:=I.table (t':=tk) hT hx lJ jA Bh;have I2:=I1.pinNew (t':=tk) (o:=M4 "<lambda>" q FG body scope clos ((X.mg "__name__").getD .none) c' RZ) rfl λv z=>by cases z
  exact h _ c' _ RZ _ _ o I2 (.inr {_,_,c',o,hT,gO,oT,rfl}) HC (jA.push _) (AX lJ (CW IU))
 |some cv =>
  obtain⟨c',o,vs,t,rfl,r2,r3,r4⟩:=al _ _ hf;refine PySem.W.kla_makeFunctionHit (mg:=X.mg) wX I.ok.glob hg ZP (C.keeps I.bk) e1 tr hf Bo λRZ h' tk hk hsz=>?_;have I1:Inv X AF σ H { s with heap:=h',toks:=tk }:=I.un (t':=tk) (Un.kept hk) (I.hok.kept hk);have I2:=I1.pinNew (t':=tk) (o:=M4 "<lambda>" q FG body scope clos ((X.mg "__name__").getD .none) c' RZ) rfl λv z=>by cases z
  exact h _ c' _ RZ _ _ o I2 (.inl rfl) r2 {c',o,vs,t,rfl,(I2.hok _ _ r2).1,r3,r4} hsz
end
noncomputable def hZ(X:Cx)(A:DP)(q:CN)(scope:NJ)(cl:List (CN×AR))(nm:List CN)(f:AR)(cd:AI)(s:AT)(H:Hp):Cx where
 prog:=X.prog
 w:=X.w
 K:=X.K
 mg:=X.mg
 base:=X.base
 A:=A.deeper (PX q scope s.heap.objs.size f cd cl)
 N:=nm
 s₀:=s
 H₀:=H
 env:=PX q scope s.heap.objs.size f cd cl
 outer:=X.stack
 stack:=PX q scope s.heap.objs.size f cd cl::X.stack
 ex:=[]
 fn:=λ_=>AD
 calm:=AK
 pn:=[]
 xe:=λ_ _=>False
structure LamNm(X:Cx)(scope:NJ)(cl:List (CN×AR))(p:CN)(CZ:List CN)(js:List Nat):Prop where
 clos:Y4 scope X.env=pure cl
 kind:scope.kind=.function
 co:scope.isCoroutine=AD
 gen:scope.isGenerator=AD
 nocell:∀y∈scope.names,y.2≠.cell
 dom:∀y∈scope.names,y.2=.free->y.1∈CZ
 nm:cl.map (·.1)=CZ
 cells:∀p∈cl,X.env.cells.lookup p.1=AA p.2
 slot:CZ.map AA=js.map λj=>X.N[j]?
 vis:∀x∈CZ,X.env.kindOf x=AA .cell\/X.env.kindOf x=AA .free
 fr:∀x∈CZ,scope.names.lookup x=AA .free
 loc:scope.names.lookup p=AA .local
section
variable{p:CN}
theorem LamNm.cl_of(n:LamNm X scope cl p CZ js){c:AR}(h:cl.lookup x=AA c):X.env.cells.lookup x=AA c:=n.cells _ (tR h)
theorem LamNm.has(n:LamNm X scope cl p CZ js)(h:x∈CZ):∃c,cl.lookup x=AA c:=Gf (by rw[n.nm];exact h)
noncomputable def jX(js:List Nat)(v:V)(σ:St):St:=AA v::js.map λj=>(σ[j]?).getD AN
theorem zR1{tk:Nat}(n:LamNm X scope cl p CZ js)(I:Inv X AF σ H s)(hA:A.frames=AA X.stack)(hh:A.handled=AN)
  (jE:JU.Ns s.heap.objs.size (λy=>[(p,u)].reverse.lookup y)) (II:∀b o,s.heap.get? b=AA o->JU.get? b=AA o) (r:RelV v u) :
  Inv (hZ X A q scope cl (p::CZ) f cd s H) [] (jX js v σ) H { s with heap:=JU,toks:=tk }:=by
 have hl:js.length=CZ.length:=by
  have:=congrArg OP n.slot;simpa using this.symm
 refine{{I.tab,I.ok.mod,n.kind,rfl,rfl,AL _,λx y c h1 h2=>I.ok.inj x y c (n.cl_of h1) (n.cl_of h2),λx hx=>?_,(λx c h=>nomatch h),λ_=>hh,YC hA,.inr {rfl,rfl},(λb hb=>nomatch hb),
   I.bs,AX I.ok.bsz I.sz,(λb o e hb=>nomatch hb),(λb hb=>nomatch hb),I.stack,I.stkFree},
  rfl,I.bare,Un.kept II,{_,jE,λi x v' e1 e2 e3=>?_},λx c e=>?_,I.hok.fresh (AL _),λx c e=>I.freeC x c (n.cl_of e),(λp hp=>nomatch hp),I.hok.kept II,?_}
 .have hx:scope.names.lookup x=AA .cell\/scope.names.lookup x=AA .free:=hx
  rcases hx with h|h
  .exact absurd rfl (n.nocell _ (tR h))
  .exact n.has (n.dom _ (tR h) rfl)
 .cases i with
  |zero =>
   have e1:AA p=AA x:=e1;have e2:AA (AA v)=AA (AA v'):=e2;cases e1;cases e2;exact{u,r,.inl {n.loc,by show List.lookup p [(p,u)]=AA u;rw[M6,beq_self_eq_true]}}
  |succ i =>
   have e1:CZ[i]?=AA x:=e1;have e2:(js.map λj=>(σ[j]?).getD AN)[i]?=AA (AA v'):=e2;rw[AV] at e2
   cases ej:js[i]? with
   |none=>rw[ej] at e2;cases e2
   |some j =>
    rw[ej] at e2;have e2:AA ((σ[j]?).getD AN)=AA (AA v'):=e2
    have hj:X.N[j]?=AA x:=by
     have q:=congrArg (λl=>l[i]?) n.slot;simp only[AV,e1,ej,HI] at q;exact(BL q).symm
    have hv:σ[j]?=AA (AA v'):=by
     cases es:σ[j]? with
     |none=>rw[es] at e2;cases e2
     |some o=>rw[es] at e2;exact e2
    have bK:x∈CZ:=CC e1;obtain⟨m0,hn0,rS⟩:=I.loc
    have vis:Z8 X.env.scope x:=by
     rcases n.vis x bK with k|k
     .exact .inr (.inl k)
     .exact .inr (.inr k)
    obtain⟨u,r,lk⟩:=rS j x v' hj hv vis;refine{u,r,.inr {.inr (n.fr x bK),?_}};obtain⟨c,hc⟩:=n.has bK;refine{c,hc,?_};rcases lk with⟨k,_⟩|⟨_,c',bQ,z⟩
    .rcases n.vis x bK with k'|k'
     .rw[k] at k';cases k'
     .rw[k] at k';cases k'
    .rw[n.cl_of hc] at bQ
     cases bQ;obtain⟨o,ho,hd⟩:=z;exact{o,II _ _ ho,hd}
 .obtain⟨v,o,ho,hd⟩:=I.cell x c (n.cl_of e)
  exact{v,o,II _ _ ho,hd}
 .show(jX js v σ).length=(p::CZ).length
  unfold jX;rw[BC,BC,AJ,hl]
theorem zVB{body:CU}{t:TE}{Q:VK}(n:LamNm X scope cl p CZ js)(I:Inv X AF σ H s)(hA:A.frames=AA X.stack)(hr:Room 1 A)
  (ho:s.heap.get? f=AA (M4 "<lambda>" q FG body scope cl pm c' RZ)) (L9:s.heap.CodeRec (.ref c') q) (PQ:OH (eQ "<lambda>" q FG body scope cl pm (.ref c') RZ) {[u],[]}=pure [(p,u)])
  (hb:PE (hZ X A q scope cl (p::CZ) f (.ref c') s H) body t) (r:RelV v u) (hq:t (jX js v σ) H Q) :
  G5 (A6 X.prog X.w) A (.call (.ref f) {[u],[]}) (λr s'=>∃u',r=.ok (.ret u')/\CE X.stack X.prog X.w H s Q u' s') s:=by
 refine PySem.W.kla_callFunE (by have:=hr.dp;lia) ho rfl n.co n.gen rfl L9 ?_;rw[PQ];refine wpAny_pure ?_;refine jK n.nocell (λy hy=>by rw[A8.mp hy];exact n.loc) (λJU jE wC=>{I.nolimit.fresh _ wC,?_}) n.kind;have II:∀b o,s.heap.get? b=AA o->JU.get? b=AA o:=λb o e=>wC.extBut b o (BZ (A9 e)) (AG _ e);have I1:=zR1 (q:=q) (f:=f) (cd:=.ref c') (tk:=s.toks+1) n I hA hr.hd jE II r;show G5 _ _ (.expr body (PX q scope s.heap.objs.size f (.ref c') cl)) _ _;refine PySem.W.kla_codeExpr (DA (hb [] _ _ _ _ I1 hq) (λu' s' h=>?_) λe s' h=>h.elim);obtain⟨v',H',J,rv,qv⟩:=h;exact{u',rfl,v',H',J.os,J.bare,J.base,J.hok,rv,qv}
end
end L2
variable{p1:YA}
namespace L2
open PySem PySem.Spec PyProof.Rows PySem.W
theorem Paired.perm{F:α->β->Prop}{us ws:List β}(p:ws.Perm us):∀{xs:List α},Paired F xs us->∃ys,ys.Perm xs/\Paired F ys ws:=by
 induction p with
 |nil=>intro xs r;cases r;exact{[],GB _,.nil}
 |cons a _ ih =>
  intro xs r
  cases r with
  |cons h t =>
   obtain⟨ys,q,r'⟩:=ih t;exact{_::ys,q.cons _,.cons h r'}
 |swap a b l =>
  intro xs r
  cases r with
  |cons h t =>
   cases t with
   |cons h' t'=>exact{_::_::_,HQ _ _ _,.cons h' (.cons h t')}
 |trans _ _ bJ ih2 =>
  intro xs r;obtain⟨ys,q,r'⟩:=ih2 r;obtain⟨zs,q2,r2⟩:=bJ r';exact{zs,q2.trans q,r2}
theorem pAL:∀{kz:List Int},Vals ys us->Paired (λ(a:Int×V) (b:Int×AI)=>a.1=b.1/\RelV a.2 b.2) (kz.zip ys) (kz.zip us):=by
 intro kz r
 induction kz generalizing ys us with
 |nil=>exact .nil
 |cons k kz ih=>cases r with
  |nil=>exact .nil
  |cons h t=>exact .cons {rfl,h} (ih t)
theorem pAM:∀{a:List (Int×V)} {b:List (Int×AI)},Paired (λ(a:Int×V) (b:Int×AI)=>a.1=b.1/\RelV a.2 b.2) a b->Vals (a.map G8) (b.map G8)/\a.map Q5=b.map Q5
 |_,_,.nil=>{.nil,rfl}
 |_,_,.cons h t=>by
  obtain⟨h1,h2⟩:=pAM t;exact{.cons h.2 h1,by rw[AU,AU,h.1,h2]}
def aW(t:Hp->TE)(js:List Nat)(σ:St):List V->List Int->Hp->(List Int->Hp->Prop)->Prop
 |[],acc,H,R=>R acc H
 |y::ys,acc,H,R=>t H (jX js y σ) H λv H'=>∃k,v=.int k/\aW t js σ ys (acc++[k]) H' R
theorem yDX{L:AR}{m m':CN->Option AI}(a:h.Ns L m)(b:h.Ns L m'):m=m':=by
 obtain⟨o,es,ep,e,d,_,f⟩:=a;obtain⟨o',lQ,lR,e',d',_,f'⟩:=b;rw[e] at e';cases e';rw[d] at d';cases d'
 funext x
 rw[<-f x,f' x]
structure Mine(X:Cx)(AF:List (AR×HL))(b:AR):Prop where
 loc:b≠X.env.locals
 fs:b∉X.fs
 ab:X.s₀.heap.objs.size<=b
 bs:X.base.get? b=AN
 cel:∀x c,X.env.cells.lookup x=AA c->c≠b
 pin:∀p∈X.pn++AF,p.1≠b
theorem Inv.mine(I:Inv X AF σ H s){b:AR}(h:s.heap.objs.size<=b):Mine X AF b where
 loc:=FS (AQ I.lt h)
 fs:=I.nofs h
 ab:=AX I.sz h
 bs:=ZW (AX (AX I.ok.bsz I.sz) h)
 cel:=λx c e z=>by
  obtain⟨v,o,ho,_⟩:=I.cell x c e;subst z;exact GE _ (AQ (A9 ho) h)
 pin:=λp hp z=>by
  subst z;exact GE _ (AQ (A9 (I.pin p hp).1) h)
theorem Inv.stkNo(I:Inv X AF σ H s){b:AR}(m:Mine X AF b):b∉SI X.stack:=λhb=>by
 rcases A2.mp (I.stkSub b hb) with z|z
 .exact m.loc z
 .exact m.fs z
theorem Inv.unpin{p:AR×HL}(I:Inv X (p::AF) σ H s):Inv X AF σ H s :=
 {I.ok,I.os,I.bare,I.base,I.loc,I.cell,I.free,I.freeC,λq hq=>I.pin q ((CG.mp hq).elim (DF _) λz=>BM _ (A1 _ z)),I.hok,I.len}
def cH(Q:VK)(ys:List V):List Int->Hp->Prop:=λkz H=>∀ps:List (Int×V),ps.Perm (kz.zip ys)->(ps.Pairwise λa b=>a.1<=b.1)->∀D,H D=AN->Q (.ref D) (D5 H D (.lst (ps.map G8)))
section
variable{p:CN}{body:CU}{t:Hp->TE}{o:HL}
theorem zR3{kS:AR}{kA:Array AI}{e e1:Nat}{kz:List Int}{Q:VK}{P:eT->AT->Prop}
  (I:Inv X AF σ H s) (ma:Mine X AF a) (mk:Mine X AF kS) (Bl:kS≠a) (ea:s.heap.get? a=AA (D9 "list" #[] e1)) (ek:s.heap.get? kS=AA (D9 "list" kA e)) (na:H a=AN) (nk:H kS=AN)
  (hk:FX kA.toList kz) (ET:kz.length=CI.length) (gP:CI.length<64) (rv:Vals ys CI)
  (hq:cH Q ys kz H)
  (hP:∀s',EP X AF σ Q (.ref a) s'->P (.done (.ret .none)) s') :
  A0 (A6 X.prog X.w) A (ksk_end a AD CI.toArray e1 (.ref kS) kA) P E s:=by
 obtain⟨m,F⟩:=I.fr
 have N:News X.base X.env.locals s.heap ((tD X.base s.heap X.env.locals).filter (λp=>decide (p.1≠kS/\p.1≠a))++[(kS,D9 "list" kA e),(a,D9 "list" #[] e1)]):=λp hp=>by
  rcases CG.mp hp with hp|hp
  .exact zTI p (CF.mp hp).1
  .rcases A2.mp hp with rfl|hp
   .exact{ek,mk.loc,mk.bs}
   .rw[A8.mp hp];exact{ea,ma.loc,ma.bs}
 refine ksk_end_ (b:=AD) F N Bl (λp hp=>(of_decide_eq_true (CF.mp hp).2).1) (λp hp=>(of_decide_eq_true (CF.mp hp).2).2) hk ET gP λh' tk out c F' N' ko=>hP _ ?_;obtain⟨ps,pp,eo,pw⟩:=ko;obtain⟨qs,qp,qr⟩:=Paired.perm pp (pAL (kz:=kz) rv);obtain⟨r1,r2⟩:=pAM qr
 have dC:∀b ob,b≠X.env.locals->b≠kS->b≠a->s.heap.get? b=AA ob->h'.get? b=AA ob:=λb ob h1 h2 h3 eb=>by
  cases g:X.base.get? b with
  |some u =>
   have:=I.bk b u g;rw[eb] at this;cases this;exact F'.keep b _ g
  |none=>exact(N' (b,ob) (A1 _ (CF.mpr {zMN h1 g eb,decide_eq_true {h2,h3}}))).1
 have hL:∃oL,h'.get? X.env.locals=AA oL:=let ⟨oL,_,_,eL,_⟩:=F'.ns;{oL,eL};have rF:∀b u,H b=AA u->b≠X.env.locals/\b≠kS/\b≠a:=λb u eb=>{λz=>(by rw[z,I.free] at eb;cases eb),λz=>(by rw[z,nk] at eb;cases eb),λz=>(by rw[z,na] at eb;cases eb)};have up:∀b u,H b=AA u->D5 H a (.lst (qs.map G8)) b=AA u:=λb u eb=>by rw[EW (rF b u eb).2.2];exact eb
 have hz:(qs.map G8).length<64:=by
  rw[AJ,qp.length_eq,TU,ET,rv.length];exact AS (N9 _ _) gP
 refine{.ref a,D5 H a (.lst (qs.map G8)),I.step (g':=s.gens) (d':=s.drawn) (t':=tk) (ch:=[kS,a]) (λb hb=>?_) (λb ob h1 _ hc eb _=>dC b ob h1 (λz=>hc (by simp[z])) (λz=>hc (by simp[z])) eb)
  (λb ob h1 _ hc eb _=>{ob.slots,dC b ob h1 (λz=>hc (by simp[z])) (λz=>hc (by simp[z])) eb}) (λb ob hc eb n=>by rw[EW (λz=>hc (by simp[z]))];exact n) (λb ob hc eb=>?_)
  (λb xs eb=>up b _ eb) (λb ob u eb=>up b _ eb) (λb t ps eb=>{#[],by rw[up b _ eb];simp}) (λm0 wJ=>by rw[yDX wJ F.ns];exact F'.ns) (λb u eb=>?_) I.bare,rfl,hq qs qp ?_ a na}
 .rcases A2.mp hb with rfl|hb
  .exact{.inr mk.ab,mk.loc,mk.cel,mk.pin}
  .rw[A8.mp hb]
   exact{.inr ma.ab,ma.loc,ma.cel,ma.pin}
 .by_cases h1:b=X.env.locals
  .subst h1;exact hL
  .exact{ob,dC b ob h1 (λz=>hc (by simp[z])) (λz=>hc (by simp[z])) eb}
 .by_cases hb:b=a
  .subst hb
   rw[HC] at eb;cases eb;refine{by rw[F7];lia,out.toList,c,by rw[eo];exact r1,?_};have:=(N' (b,D9 "list" out c) (.head _)).1;simpa using this
  .rw[EW hb] at eb
   refine(I.hok b u eb).stay (λd v hc z=>?_) (λd z=>up d _ z) (λd xs z=>up d _ z) λd ob x z=>up d _ z;rcases hc with rfl|hc
   .obtain⟨h1,h2,h3⟩:=rF d u eb
    exact dC d v h1 h2 h3 z
   .obtain⟨h1,h2,h3⟩:=rF d _ hc
    exact dC d v h1 h2 h3 z
 .have:(qs.map Q5).Pairwise (·<=·):=by
   rw[r2,D0];exact pw.imp λh=>by simpa using h
  rw[D0] at this;exact this
end
section
variable{p:CN}{body:CU}{t:Hp->TE}{o:HL}
theorem zPL{kS:AR}{e1:Nat}{Q:VK}{P:eT->AT->Prop}{vs:Array AI}{tq:eP}(n:LamNm X scope cl p CZ js)
  (I:Inv X ((f,kla_obj "<lambda>" q FG body scope cl pm c' RZ)::AF) σ H s) (ma:Mine X ((f,kla_obj "<lambda>" q FG body scope cl pm c' RZ)::AF) a) (mk:Mine X ((f,kla_obj "<lambda>" q FG body scope cl pm c' RZ)::AF) kS) (Bl:kS≠a)
  (ea:s.heap.get? a=AA (D9 "list" #[] e1)) (ek:s.heap.get? kS=AA (D9 "list" #[] 0)) (na:H a=AN) (nk:H kS=AN) (hc:H c'=AA (.frz o (.own c'))) (ho:o.data=.fields vs) (hv:vs[1]?=AA (.str q tq))
  (gP:CI.length<64) (rv:Vals ys CI) (hA:A.frames=AA X.stack) (hr:Room 1 A) (PQ:∀u,OH (kla_fn "<lambda>" q FG body scope cl pm (.ref c') RZ) {[u],[]}=pure [(p,u)])
  (hb:∀s H,PE (hZ X A q scope cl (p::CZ) f (.ref c') s H) body (t H))
  (U1:aW t js σ ys [] H (cH Q ys))
  (hP:∀s',EP X AF σ Q (.ref a) s'->P (.done (.ret .none)) s') :
  A0 (A6 X.prog X.w) A (ksk_rest a (.ref f) AD CI.toArray e1 (.ref kS)) P E s:=by
 unfold ksk_rest;refine AB (E4 ?_)
 first
  |rw[List.forIn_toArray]
  |(rw[<-LI];simp only[List.toList_toArray])
  |rw[<-LI]
 refine AB (ksk_fold (λi s'=>∃kA e H' acc,Inv X ((f,kla_obj "<lambda>" q FG body scope cl pm c' RZ)::AF) σ H' s'/\s'.heap.get? a=AA (D9 "list" #[] e1)/\s'.heap.get? kS=AA (D9 "list" kA e)/\H' a=AN/\H' kS=AN /\
  FX kA.toList acc/\acc.length=i/\aW t js σ (ys.drop i) acc H' (cH Q ys)/\H' c'=AA (.frz o (.own c'))) CI 0 s
  {#[],0,H,[],I,ea,ek,na,nk,by simpa using IntsAre.nil,rfl,U1,hc} ?step ?done)
 case step =>
  rintro j x s' hx ⟨kA,e,H',acc,I',Bu,pB,rL,Ba,hk,ET,oO,bQ⟩;simp only[EV] at ET oO ⊢;have hj:j<CI.length:=(AE.mp hx).1;have hy:j<ys.length:=by rw[rv.length];exact hj
  obtain⟨u,hu,r⟩:=rv.get (A7 hy);rw[hx] at hu;cases hu;rw[GQ hy] at oO;have L9:s'.heap.CodeRec (.ref c') q:={c',o,vs,tq,rfl,(I'.hok _ _ bQ).1,ho,hv};have hfo:=(I'.pin _ (BM _ (.head _))).1
  have wZ:A0 (A6 X.prog X.w) A (call (.ref f) [x]) (λu' fY=>CE X.stack X.prog X.w H' s' (λv Bx=>∃k,v=.int k/\aW t js σ (ys.drop (j+1)) (acc++[k]) Bx (cH Q ys)) u' fY) (λ_ _=>False) s' :=
   S8 (MB (zVB n I' hA hr hfo L9 (PQ x) (hb s' H') r oO) λr fY h=>by
    obtain⟨u',rfl,ce⟩:=h
    exact ce)
  refine AB (GL (DA wZ (λu' fY he=>?_) λ_ _ hF=>hF.elim));obtain⟨v,Bx,os,bare,un,hok,rv',k,rfl,Ky⟩:=he;obtain⟨t2,rfl⟩:∃t2,u'=.int k t2:=rv';obtain⟨hh,g,d,Xx,Je⟩:=fY;obtain rfl:Je=s'.os:=os;have I2:=I'.call (h':=hh) (g':=g) (d':=d) (t':=Xx) (ch:=[]) un hok bare (λb z=>absurd z 's');have ek2:hh.get? kS=AA (D9 "list" kA e):=un.keep kS _ pB Ba (I'.stkNo mk) 's';have ea2:hh.get? a=AA (D9 "list" #[] e1):=un.keep a _ Bu rL (I'.stkNo ma) 's';have Ym:=un.free kS _ pB Ba 's';have na2:=un.free a _ Bu rL 's';have eA:=un.frzs _ _ _ bQ
  have hz:kA.size<=CI.length:=by
   have h1:=hk.length;rw[KZ] at h1;lia
  try dsimp only
  have s1:=GO hh kS (C6 (·.push (.int k t2)));obtain⟨e2,Lo⟩:∃c2,(hh.update kS (C6 (·.push (.int k t2)))).get? kS=AA (D9 "list" (kA.push (.int k t2)) c2):={_,XW ek2 (·.push (.int k t2))};refine AB (N1 ek2 rfl ?_ (by rw[F7];lia) (AX (CY (EH ..)) (by rw[F7];lia)));have I3:=I2.turned (h':=hh.update kS (C6 (·.push (.int k t2)))) (t':=Xx) (it:=kS) (λb ob hb eb=>(s1.2 b hb).trans eb) Ym mk.loc (.inr mk.ab) mk.cel mk.pin;have el:(kA.push (MV k t2)).toList=kA.toList++[MV k t2]:=by simp
  exact wpAny_pure {rfl,kA.push (.int k t2),e2,Bx,acc++[k],I3,(s1.2 a Bl.symm).trans ea2,Lo,na2,Ym,by rw[el];exact ksk_snoc hk,by rw[BN,ET];rfl,Ky,eA}
 case done =>
  rintro s' ⟨kA,e,H',acc,I',Bu,pB,rL,Ba,hk,ET,oO,bQ⟩;rw[EV] at ET oO;rw[NL (by rw[rv.length];exact AL _)] at oO
  try dsimp only
  refine AB (eO pB rfl ?_);refine zR3 I'.unpin {ma.loc,ma.fs,ma.ab,ma.bs,ma.cel,λp hp=>ma.pin p ?_} {mk.loc,mk.fs,mk.ab,mk.bs,mk.cel,λp hp=>mk.pin p ?_} Bl Bu pB rL Ba hk ET gP rv oO hP
  all_goals exact(CG.mp hp).elim (DF _) λz=>BM _ (A1 _ z)
end
section
variable{p:CN}{body:CU}{t:Hp->TE}{o:HL}
theorem zR4{Q:VK}{vs:Array AI}{tq:eP}(n:LamNm X scope cl p CZ js)
  (I:Inv X ((f,kla_obj "<lambda>" q FG body scope cl pm c' RZ)::AF) σ H s) (hc:H c'=AA (.frz o (.own c'))) (ho:o.data=.fields vs) (hv:vs[1]?=AA (.str q tq))
  (hl:SqL X.K H l ys) (gP:ys.length<64) (hr:Room 3 X.A) (PQ:∀u,OH (kla_fn "<lambda>" q FG body scope cl pm (.ref c') RZ) {[u],[]}=pure [(p,u)])
  (hb:∀s H,PE (hZ X X.A.in1.in1 q scope cl (p::CZ) f (.ref c') s H) body (t H)) (U1:aW t js σ ys [] H (cH Q ys)) :
  A0 (A6 X.prog X.w) X.A (call (.builtin "sorted") [.ref l] [(EU "key",.ref f)]) (EP X AF σ Q) X.xe s:=by
 obtain⟨CI,rv,pl,z⟩:=I.list hl;have ET:=rv.length;refine call_function_entry_kw kind_sorted plain_sorted entry_sorted (ksk_s1 _ _) ?_;unfold ES.«sorted»;refine AB (m:=checkCount "sorted" 1 1 _) (wpAny_pure ?_);refine AB (collect_list pl.isList ?_ (by rw[F7];lia));refine AB (R1 ?_ (by rw[F7];lia))
 have hsz:((s.heap.push (D9 "list" #[] 0)).update s.heap.objs.size (C6 (·++CI.toArray))).objs.size=s.heap.objs.size+1:=by
  rw[M8,Y1]
 have lF:(((s.heap.push (D9 "list" #[] 0)).update s.heap.objs.size (C6 (·++CI.toArray))).push (D9 "list" CI.toArray 0)).get? (s.heap.objs.size+1)=AA (D9 "list" CI.toArray 0):=by
  rw[<-hsz];exact AW _ rfl
 have keep:∀b o,s.heap.get? b=AA o->(((s.heap.push (D9 "list" #[] 0)).update s.heap.objs.size (C6 (·++CI.toArray))).push (D9 "list" CI.toArray 0)).get? b=AA o:=λb o q=>by
  have IU:b<s.heap.objs.size:=A9 q;rw[MF _ _ _ (by rw[hsz];exact BZ (IA IU)),PF _ _ _ _ (BZ IU),MF _ _ _ (BZ IU)];exact q
 have NB:(((s.heap.push (D9 "list" #[] 0)).update s.heap.objs.size (C6 (·++CI.toArray))).push (D9 "list" CI.toArray 0)).objs.size=s.heap.objs.size+2:=by rw[Y1,hsz]
 show A0 _ _ _ _ _ { s with heap:=((s.heap.push (D9 "list" #[] 0)).update s.heap.objs.size (C6 (·++CI.toArray))).push (D9 "list" CI.toArray 0) };rw[hsz];generalize hg0:((s.heap.push (D9 "list" #[] 0)).update s.heap.objs.size (C6 (·++CI.toArray))).push (D9 "list" CI.toArray 0)=g0 at lF keep NB;refine AB (DQ (wpAny_call_entry_kw slot_list_sort {_,lF,rfl} entry_list_sort ?body (ksk_l1 _ _)))
 case body =>
  show A0 (A6 X.prog X.w) X.A.in1.in1 (ES.«list.sort» {[.ref (s.heap.objs.size+1)],[(EU "key",.ref f)]}) _ _ _;rw[ksk_t1];have s1:=GO g0 (s.heap.objs.size+1) (C6 λ_=>(#[]:Array AI));obtain⟨e1,rR⟩:∃e1,(g0.update (s.heap.objs.size+1) (C6 λ_=>(#[]:Array AI))).get? (s.heap.objs.size+1)=AA (D9 "list" #[] e1):={_,XW lF λ_=>#[]};unfold ksk_tree;refine AB (eO lF rfl ?_);refine AB (N1 lF rfl ?_ (by rw[A4,F7];lia) (BY _));refine AB (WS rR rfl ?_);refine AB (MR ?_ (by show CI.length<=_;rw[F7];lia));refine AB (R1 ?_ (BY _));refine DQ ?_;have hg1:(g0.update (s.heap.objs.size+1) (C6 λ_=>(#[]:Array AI))).objs.size=s.heap.objs.size+2:=by rw[M8,NB]
  have k9:∀b o,s.heap.get? b=AA o->(((g0.update (s.heap.objs.size+1) (C6 λ_=>(#[]:Array AI))).push (D9 "tuple" CI.toArray 0)).push (D9 "list" #[] 0)).get? b=AA o:=λb o e =>
   AG _ (AG _ ((s1.2 b (BZ (IA (A9 e)))).trans (keep b o e)))
  have La:((g0.update (s.heap.objs.size+1) (C6 λ_=>(#[]:Array AI))).push (D9 "tuple" CI.toArray 0)).objs.size=s.heap.objs.size+3:=by rw[Y1,hg1]
  have I2:Inv X ((f,kla_obj "<lambda>" q FG body scope cl pm c' RZ)::AF) σ H { s with heap:=((g0.update (s.heap.objs.size+1) (C6 λ_=>(#[]:Array AI))).push (D9 "tuple" CI.toArray 0)).push (D9 "list" #[] 0) } :=
   I.un (t':=s.toks) (Un.kept k9) (I.hok.kept k9)
  refine zPL (s:={ s with heap:=((g0.update (s.heap.objs.size+1) (C6 λ_=>(#[]:Array AI))).push (D9 "tuple" CI.toArray 0)).push (D9 "list" #[] 0) }) (a:=s.heap.objs.size+1) (kS:=((g0.update (s.heap.objs.size+1) (C6 λ_=>(#[]:Array AI))).push (D9 "tuple" CI.toArray 0)).objs.size) n I2 (I.mine (KR _)) (I.mine (by rw[La];exact A3 _ 3)) (by rw[La];intro z;have:s.heap.objs.size+3=s.heap.objs.size+1:=z;lia)
   (AG _ (AG _ rR)) (AW _ rfl) (I.hok.fresh (KR _)) (I.hok.fresh (by rw[La];exact A3 _ 3)) hc ho hv (by rw[<-ET];exact gP) rv I.ok.frames hr.in1.in1 PQ hb U1 λs' h=>{_,rfl,?_}
  exact wpAny_pure {_,rfl,h}
end
theorem LamStp.rd{T:AR}(st:LamStp T q H H'){u:HO}(h:H a=AA u)(hu:∀ps,u≠.tbl q ps):H' a=AA u:=by
 rcases st with rfl|⟨ps,bI,c',o,hT,hc,oT,rfl⟩
 .exact h
 .rw[EW (λz=>by rw[z,hc] at h;cases h),EW (λz=>by rw[z,hT] at h;cases h;exact hu _ rfl)]
  exact h
theorem LamStp.sq{T:AR}{K:Frag}(st:LamStp T q H H')(h:SqL K H l ys):SqL K H' l ys :=
 h.imp (λz=>z.imp (λz=>st.rd z λ_ y=>by cases y) (λq0=>by obtain⟨o,z⟩:=q0;exact{o,st.rd z λ_ y=>by cases y})) id
def No(K:Frag)(T:AR)(q:CN)(tl:TE)(t:Hp->TE)(js:List Nat):TE:=λσ H Q=>tl σ H λx H1=>∃l ys,x=.ref l/\SqL K H1 l ys/\ys.length<64/\∀H2,LamStp T q H1 H2->aW t js σ ys [] H2 (cH Q ys)
section
variable{p:CN}{body:CU}{t:Hp->TE}{c T:AR}{l:CU}
theorem zVC(hm:X.mg "sorted"=AN)(hl:PE X l tl)(n:LamNm X scope cl p CZ js)(hr:Room 3 X.A)(ZP:X.env.code=.ref c)(C:CodeHd X.base c T)(tb:TB X.K T q)(hq:X.env.qual++("<lambda>":CN)=q)(oQ:defaultsOf FG X.env=([],[]))
  (PQ:∀pm c' RZ u,OH (kla_fn "<lambda>" q FG body scope cl pm (.ref c') RZ) {[u],[]}=pure [(p,u)]) (hb:∀f c' s H,PE (hZ X X.A.in1.in1 q scope cl (p::CZ) f (.ref c') s H) body (t H)) (hg:Gl X "sorted":=by rfl)
  (he:DD pos (AM [l] X.env)=(AD,eval l X.env)::DD pos (AM [] X.env):=by rfl) (JV:(DD pos (AM [l] X.env)).any (·.1)=AD:=by rfl)
  (gD:AM [l] X.env=(AD,eval l X.env)::AM [] X.env:=by rfl) :
  PE X (.Call (.Name "sorted" p1) [l] [{AA "key",.Lambda FG body scope i8,XG}] pos) (No X.K T q tl t js):=by
 intro AF s σ H Q I h;refine HV (iH I hg hm rfl ?_);refine callWith_kw (GY (QY hl GG gD pos AF s σ H (λvs H1=>∃l ys,vs=[.ref l]/\SqL X.K H1 l ys/\ys.length<64/\∀H2,LamStp T q H1 H2->aW t js σ ys [] H2 (cH Q ys)) I ?_) λus s1 h1=>?_) he JV rfl rfl
 .have h':tl σ H λx H1=>∃l ys,x=.ref l/\SqL X.K H1 l ys/\ys.length<64/\∀H2,LamStp T q H1 H2->aW t js σ ys [] H2 (cH Q ys):=h
  show tl σ H λx H1=>∃l ys,[x]=[.ref l]/\SqL X.K H1 l ys/\ys.length<64/\∀H2,LamStp T q H1 H2->aW t js σ ys [] H2 (cH Q ys)
  have ee:(λ(x:V) (H1:Hp)=>∃l ys,[x]=[V.ref l]/\SqL X.K H1 l ys/\ys.length<64/\∀H2,LamStp T q H1 H2->aW t js σ ys [] H2 (cH Q ys))=λx H1=>∃l ys,x=V.ref l/\SqL X.K H1 l ys/\ys.length<64/\∀H2,LamStp T q H1 H2->aW t js σ ys [] H2 (cH Q ys):=by
   funext x H1
   simp only[ZV,and_true]
  rw[ee];exact h'
 .obtain⟨vs,H1,I1,r,l',ys,rfl,hs,gP,hk⟩:=h1
  obtain⟨u,rfl,ru⟩:=W5 r;cases ru;show A0 _ _ (evalAll [(do let v <-eval (.Lambda FG body scope i8) X.env;KD pos;pure v)]) _ _ s1;refine wpAny_evalAll_cons (AB (zVA I1 ZP C tb hq n.clos oQ λf c' pm RZ s2 H2 o I2 st hc L9 hsz=>AB (JN (wpAny_pure (wpAny_evalAll_nil ?_)))));obtain⟨c2,o2,Xs,tq,e2,g2,d2,v2⟩:=L9;cases e2;have:=(I2.hok _ _ hc).1;rw[g2] at this;cases this;exact zR4 n I2 hc d2 v2 (st.sq hs) gP hr (PQ pm c' RZ) (hb f c') (hk H2 st)
end
end L2
variable{E2:L2.Ev}
namespace L2
open PySem PySem.Spec PyProof.Rows
def Nm(ge:G)(ds:List D)(y:D):Out Int:=(ge (.val y::ds.map .val)).bind λr=>match r.1 with|.int k=>.ok k|_=>.bad
def fA(ge:G)(ds:List D):List D->Out (List Int)
 |[]=>.ok []
 |y::ys=>(Nm ge ds y).bind λk=>(fA ge ds ys).bind λks=>.ok (k::ks)
noncomputable def shareJ:List Nat->Ev->Ev
 |[],E=>E
 |j::js,E=>shareJ js (match E[j]? with|some (.own _ d)=>E.set j (.val d)|_=>E)
noncomputable def valsJ(E:Ev):List Nat->Option (List D)
 |[]=>AA []
 |j::js=>match E[j]? with
  |some (.val d)=>(valsJ E js).map (d::·)
  |_=>AN
def qN(kz:List Int)(ys:List D)(qs:List (Int×D)):Prop:=qs.Perm (kz.zip ys)/\qs.Pairwise λa b=>a.1<=b.1
section
variable{K:AC}{E:Ev}{T:AR}
theorem LamStp.new(s:Sub F H)(st:LamStp T q H H'):∃F',New F H F' H':=by
 rcases st with rfl|⟨ps,bI,c',o,hT,hc,oT,rfl⟩
 .exact{F,.refl s}
 .have hFc:F c'=AN:=by
   cases e:F c' with
   |none=>rfl
   |some u=>rw[s _ _ e] at hc;cases hc
  have ot:∀a,a≠T->a≠c'->D5 (D5 H T (.tbl q bI)) c' (.frz o (.own c')) a=H a:=λa h1 h2=>by rw[EW h2,EW h1]
  have tt:D5 (D5 H T (.tbl q bI)) c' (.frz o (.own c')) T=AA (.tbl q bI):=by rw[EW (E7 oT),HC]
  refine{λa=>if a=T then(F T).map λ_=>.tbl q bI else F a,{λa u e hw _ _=>?_,λa e=>?_,λa u e=>?_,λa u e=>?_,λ_ z=>z.elim},λa u e=>?_}
  .rw[ot a (λz=>by rw[z,hT] at e;cases e;exact hw) (λz=>by rw[z,hc] at e;cases e)];exact e
  .by_cases h1:a=T
   .rw[h1,tt] at e;cases e
   .by_cases h2:a=c'
    .rw[h2];exact hc
    .rw[ot a h1 h2] at e;exact e
  .by_cases h1:a=T
   .subst h1
    have:=s _ _ e;rw[hT] at this;cases this;exact .inr (.inr {q,ps,bI,rfl,by rw[if_pos rfl,e];rfl})
   .exact .inl (by rw[if_neg h1];exact e)
  .by_cases h1:a=T
   .subst h1
    rw[if_pos rfl] at e
    cases e1:F a with
    |none=>rw[e1] at e;cases e
    |some v=>exact .inl nofun
   .rw[if_neg h1] at e;exact .inl (by rw[e];exact nofun)
  .dsimp only at e
   by_cases h1:a=T
   .subst h1
    rw[if_pos rfl] at e
    cases e1:F a with
    |none=>rw[e1] at e;cases e
    |some v=>rw[e1] at e;cases e;exact tt
   .rw[if_neg h1] at e
    rw[ot a h1 (λz=>by rw[z,hFc] at e;cases e)];exact s a u e
theorem Sim.shareJ:∀(js:List Nat) {F:Hp} {E:Ev},Sim K H₀ τ F H σ E->∃F',Stp (ED σ E) F H F' H (ED σ (L2.shareJ js E))/\Sim K H₀ τ F' H σ (L2.shareJ js E)
 |[],F,E,S=>{F,.refl,S}
 |j::js,F,E,S=>by
  unfold L2.shareJ;split
  .rename_i t d e
   obtain⟨a,F1,_,st,S1,_⟩:=S.share e;obtain⟨F2,st2,S2⟩:=Sim.shareJ js S1;exact{F2,st.trans st2,S2}
  .exact Sim.shareJ js S
theorem Sim.valsJ(S:Sim K H₀ τ F H σ E):∀{js:List Nat} {ds:List D},L2.valsJ E js=AA ds->∃ws,(js.map λj=>(σ[j]?).getD AN)=ws.map AA/\Reps K F ws ds
 |[],_,e=>by cases e;exact{[],rfl,.nil}
 |j::js,ds,e=>by
  unfold L2.valsJ at e;split at e
  .rename_i d ej
   cases e2:L2.valsJ E js with
   |none=>rw[e2] at e;cases e
   |some V9 =>
    rw[e2] at e;cases e;obtain⟨ws,h1,h2⟩:=S.valsJ e2;obtain⟨v,hv,hr⟩:=S.val j d ej;exact{v::ws,by rw[AU,h1,hv];rfl,.cons hr h2}
  .cases e
theorem yDY{ge:G}{ds:List D}(hv:L2.valsJ E js=AA ds){R:List Int->Hp->Prop}:∀{ys:List D} {vs:List V} {acc kz:List Int} {F H:Hp},Sim K H₀ τ F H σ E->Reps K F vs ys->fA ge ds ys=.ok kz ->
  (∀F' H',New F H F' H'->R (acc++kz) H')->aW (λH=>tV K H ge) js σ vs acc H R
  := by
 intro ys
 induction ys with
 |nil =>
  intro vs acc kz F H S r e k;cases r;cases e;have:=k F H (.refl S.sub);rw[EA] at this;exact this
 |cons y ys ih =>
  intro vs acc kz F H S r e k
  cases r with
  |@cons v _ kY _ ry rys =>
  unfold fA at e;obtain⟨k1,e1,e⟩:=pA3 e;obtain⟨ks,e2,e⟩:=pA3 e;cases e;unfold Nm at e1;obtain⟨rr,e3,e1⟩:=pA3 e1;obtain⟨ws,hws,rws⟩:=S.valsJ hv;have oS:jX js v σ=(v::ws).map AA:=by unfold jX;rw[hws];rfl
  show tV K H ge (jX js v σ) H _;rw[oS];refine{0,F,(y::ds).map Sl.val,rr.1,rr.2,Sim.args S.sub (.cons ry rws),e3,λv2 F2 H2 st S2 r2=>?_};split at e1
  .rename_i kk ek
   cases e1;rw[ek] at r2;obtain rfl:=r2.vI;have n:New F H F2 H2:={{λa o q1 q2 q3 _=>st.keep a o q1 q2 q3 (xW a),st.dom,st.le,λa o z=>(st.new a o z).imp_right λz=>z.imp_right λz=>(xW a z).elim,λ_ z=>z.elim},S2.sub}
   exact{_,rfl,ih (S.new n) (rys.le n.1.le) e2 λF' H' n'=>by
    rw[DH]
    exact k F' H' (n.trans n')}
  .cases e1
theorem yIS{ys:List D}:∀{kz:List Int},Reps K F vs ys->Paired (λ(b:Int×D) (a:Int×V)=>a.1=b.1/\Rep K F a.2 b.2) (kz.zip ys) (kz.zip vs):=by
 intro kz r
 induction kz generalizing vs ys with
 |nil=>exact .nil
 |cons k kz ih=>cases r with
  |nil=>exact .nil
  |cons h t=>exact .cons {rfl,h} (ih t)
theorem Wa:∀{a:List (Int×D)} {b:List (Int×V)},Paired (λ(b:Int×D) (a:Int×V)=>a.1=b.1/\Rep K F a.2 b.2) a b->Reps K F (b.map G8) (a.map G8)/\a.map Q5=b.map Q5
 |_,_,.nil=>{.nil,rfl}
 |_,_,.cons h t=>by
  obtain⟨h1,h2⟩:=Wa t;exact{.cons h.2 h1,by rw[AU,AU,h.1,h2]}
theorem zVD{gl ge:G}{Q:VK}(h:∃τ F E ys E1 ds kz,Sim K H₀ τ F H σ E/\gl E=.ok (.lst ys,E1)/\ys.length<64/\L2.valsJ (L2.shareJ js E1) js=AA ds/\fA ge ds ys=.ok kz /\
   ∀qs,qN kz ys qs->∀a F' H',Stp (ED σ E) F H F' H' (ED σ (L2.shareJ js E1))->Sim K H₀ τ F' H' σ (L2.shareJ js E1)->F' a=AN->H a=AN->OwnAt K F' H' a (.lst (qs.map G8))->¬ED σ (L2.shareJ js E1) a->Q (.ref a) H') :
  No K T q (tV K H₀ gl) (λH=>tV K H ge) js σ H Q:=by
 obtain⟨τ,F,E,ys,E1,ds,kz,S,e1,gP,hv,hk,k⟩:=h;refine{τ,F,E,_,_,S,e1,λv F1 H1 st1 S1 r1=>?_}
 cases r1 with
 |@lst l vs _ sq rs =>
 refine{l,vs,rfl,sq.imp S1.sub.rd id,by rw[rs.length];exact gP,λH2 ls=>?_};obtain⟨F2,n2⟩:=ls.new S1.sub;obtain⟨F3,KW,S3⟩:=(S1.new n2).shareJ js;have Ye:Reps K F3 vs ys:=(rs.le n2.1.le).le KW.le;refine yDY hv S3 Ye hk λF4 H4 n4 ps pp pw D hD=>?_;rw[HM] at pp;have rs4:=Ye.le n4.1.le;obtain⟨qs,qp,qr⟩:=Paired.perm pp (yIS (kz:=kz) rs4);obtain⟨r5,r6⟩:=Wa qr
 have hF:F4 D=AN:=by
  cases e:F4 D with
  |none=>rfl
  |some u=>rw[n4.2 _ _ e] at hD;cases hD
 have n5:New F4 H4 F4 (D5 H4 D (.lst (ps.map G8))):=pA6 n4.2 (Gr.new hD);have S4:=S3.new n4;have st:Stp (ED σ E) F H F4 (D5 H4 D (.lst (ps.map G8))) (ED σ (L2.shareJ js E1)):=(((st1.trans n2.stp).trans KW).trans n4.stp).trans n5.stp;refine k qs {qp,?_} D F4 _ st (S4.new n5) hF ?_ {_,HC,r5} (S4.fresh hD)
 .have:(qs.map Q5).Pairwise (·<=·):=by rw[r6,D0];exact pw
  rw[D0] at this;exact this
 .exact(((st1.trans n2.stp).trans KW).trans n4.stp:Stp (ED σ E) F H F4 H4 _).dom D hD
end
section
variable{K:AC}{g:GS}
end
def pN(gl:G)(js:List Nat)(ge:G):Ev->Out ((List D×List Int)×Ev):=λE=>(gl E).bind λp=>match p.1,valsJ (shareJ js p.2) js with
 |.lst ys,AA ds=>if ys.length<64 then(fA ge ds ys).bind λkz=>.ok ((ys,kz),shareJ js p.2) else .bad
 |_,_=>.bad
theorem zR5{gl ge:G}{E:Ev}{ys:List D}{kz:List Int}(h:pN gl js ge E=.ok ((ys,kz),E2)) :
  ∃E1 ds,gl E=.ok (.lst ys,E1)/\ys.length<64/\valsJ (shareJ js E1) js=AA ds/\fA ge ds ys=.ok kz/\E2=shareJ js E1:=by
 unfold pN at h;obtain⟨p,e,h⟩:=pA3 h;obtain⟨d,E1⟩:=p;dsimp only at h
 cases hv:valsJ (shareJ js E1) js with
 |none=>rw[hv] at h;cases d<;>cases h
 |some ds =>
  rw[hv] at h
  cases d with
  |lst ys' =>
   dsimp only at h
   by_cases hl:ys'.length<64
   .rw[if_pos hl] at h
    obtain⟨kz',e3,h⟩:=pA3 h;cases h;exact{E1,ds,e,hl,hv,e3,rfl}
   .rw[if_neg hl] at h;cases h
  |_=>cases h
open Classical in
def kH(gl:G)(js:List Nat)(ge:G):G:=λE=>(pN gl js ge E).bind λp=>if h:∃zs,∀qs,qN p.1.2 p.1.1 qs->qs.map G8=zs then .ok (.lst h.choose,p.2) else .bad
section
variable{body:CU}{c T:AR}{l:CU}{gl ge:G}
structure LamOk(X:Cx)(scope:NJ)(cl:List (CN×AR))(x:CN)(CZ:List CN)(js:List Nat)(q:CN)(FG:Arguments)(body:CU)(c T:AR):Prop where
 nm:LamNm X scope cl x CZ js
 room:Room 3 X.A
 code:X.env.code=.ref c
 hd:JH X.base c T
 tb:TB X.K T q
 qual:∃n:CN,X.env.qual=n/\n++("<lambda>":CN)=q
 dflt:defaultsOf FG X.env=([],[])
 bind:∀pm c' RZ u,OH (eQ "<lambda>" q FG body scope cl pm (.ref c') RZ) {[u],[]}=pure [(x,u)]
theorem LamOk.qu(n:LamOk X scope cl x CZ js q FG body c T):X.env.qual++("<lambda>":CN)=q:=by
 obtain⟨m,h1,h2⟩:=n.qual;rw[h1];exact h2
theorem Pw(hm:X.mg "sorted"=AN)(hl:VE X l gl)(n:LamOk X scope cl x CZ js q FG body c T)(hb:∀f c' s H,VE (hZ X X.A.in1.in1 q scope cl (x::CZ) f (.ref c') s H) body ge)(hg:Gl X "sorted":=by rfl)
  (he:DD pos (AM [l] X.env)=(AD,eval l X.env)::DD pos (AM [] X.env):=by rfl) (JV:(DD pos (AM [l] X.env)).any (·.1)=AD:=by rfl)
  (gD:AM [l] X.env=(AD,eval l X.env)::AM [] X.env:=by rfl) :
  FE X (.Call (.Name "sorted" p1) [l] [{AA "key",.Lambda FG body scope i8,XG}] pos) (kH gl js ge) :=
 (zVC (t:=λH=>tV X.K H ge) hm hl n.nm n.room n.code n.hd n.tb n.qu n.dflt n.bind hb hg he JV gD).imp λσ H Q h=>by
  obtain⟨τ,F,E,d,E',S,hg,k⟩:=h;unfold kH at hg;obtain⟨⟨⟨ys,kz⟩,E2⟩,e1,hg⟩:=pA3 hg;obtain⟨E1,ds,a1,a2,a3,a4,rfl⟩:=zR5 e1;split at hg
  .rename_i h
   cases hg;exact zVD {τ,F,E,ys,E1,ds,kz,S,a1,a2,a3,a4,λqs hq a F' H' st S' n1 n2 ow no=>k a F' H' st S' n1 n2 (by rw[<-h.choose_spec qs hq];exact ow) no}
  .cases hg
end
section
variable{st:CU}{ts:TE}
end
section
variable{st:CU}{ge gs:G}
end
theorem Wn{nm:List CN}{g:G}(hr:Room 3 X.A)
  (h:(hZ X X.A.in1.in1 q scope cl nm f cd s H).A.units+64<GT->VE (hZ X X.A.in1.in1 q scope cl nm f cd s H) e g):VE (hZ X X.A.in1.in1 q scope cl nm f cd s H) e g :=
 h (hr.in1.in1.deeper _).units
section
variable{K:AC}{c T:AR}{Yl:AI}{Yk:Option AR}{sl uT:Array (Option AI)}{vs:Array AI}
theorem tabIn_of(a:BV K BJ x=AA (AA (.ref f)))(l:K.lookup f=AA {oc,od,.func fd,sl})(hc:fd.code=.ref c)(m:K.lookup c=AA {Yl,Yk,.fields vs,uT})(hv:vs[11]?=AA (.ref T)):EN K x=AA (c,T):=by
 unfold EN;rw[a];simp only[l,hc,m,hv]
theorem zVE(a:BV K BJ x=AA AN):EN K x=AN:=by
 unfold EN;rw[a]
inductive TabE(K:AC)(q:CO)(x:CN):Option AR->Prop
 |no:BV K BJ x=AA AN->TabE K q x AN
 |tab {c T:AR} {d:DefRec}:EN K x=AA (c,T)->K.lookup T=AN->(recsOf q).find? (λe=>e.name==x)=AA d->TabE K q x (AA T)
theorem Tabs.of{q:CO}{ts:List (CN×Option AR)}(h:∀p∈ts,TabE K q p.1 p.2)(hn:ts.map (·.1)=iM)(ap:ts.Pairwise λa b=>a.2=AN\/a.2≠b.2):Tabs K q:=by
 have g:∀{x:CN} {t:Option AR},TabE K q x t->∀c T,EN K x=AA (c,T)->t=AA T/\K.lookup T=AN/\∃d,(recsOf q).find? (λe=>e.name==x)=AA d:=λ{x t} h c T e=>by
  cases h with
  |no z=>rw[zVE z] at e;cases e
  |tab z1 z2 z3=>rw[z1] at e;cases e;exact{rfl,z2,_,z3}
 have all:∀x∈iM,∃t,(x,t)∈ts:=λx hx=>by
  rw[<-hn] at hx;obtain⟨p,hp,rfl⟩:=CM.mp hx;exact{_,hp}
 refine{λx hx c T e=>let ⟨t,z⟩:=all x hx;(g (h _ z) c T e).2.2,λx hx c T e=>let ⟨t,z⟩:=all x hx;(g (h _ z) c T e).2.1,λx hx y hy c c' T e e'=>?_};obtain⟨t,z⟩:=all x hx;obtain⟨u,z'⟩:=all y hy;have a:=(g (h _ z) c T e).1;have b:=(g (h _ z') c' T e').1;dsimp only at a b;subst a b;clear g all hn hx hy h e e'
 induction ts with
 |nil=>cases z
 |cons p r ih =>
  obtain⟨a1,a2⟩:=P8.mp ap;rcases A2.mp z with e|z1<;>rcases A2.mp z' with e'|z2
  .rw[<-e] at e';cases e';rfl
  .subst e;rcases a1 _ z2 with w|w
   .cases w
   .exact absurd rfl w
  .subst e';rcases a1 _ z1 with w|w
   .cases w
   .exact absurd rfl w
  .exact ih a2 z1 z2
theorem tabs5{q:CO}{t1 t2 t3 t4 t5:Option AR}(h1:TabE K q "holders" t1)(h2:TabE K q "_law_table" t2)(h3:TabE K q "_law_back" t3)(h4:TabE K q "_law_kept_right" t4)(h5:TabE K q "law" t5)
  (ap:[t1,t2,t3,t4,t5].Pairwise λa b=>a=AN\/a≠b):Tabs K q :=
 Tabs.of (ts:=[("holders",t1),("_law_table",t2),("_law_back",t3),("_law_kept_right",t4),("law",t5)]) (λp hp=>by
  simp only[A2,BX,or_false] at hp;rcases hp with rfl|rfl|rfl|rfl|rfl
  .exact h1
  .exact h2
  .exact h3
  .exact h4
  .exact h5) rfl (D0 (f:=(G8:CN×Option AR->Option AR)) (R:=λa b=>a=AN\/a≠b) |>.mp ap)
end
end L2
namespace HT
open PySem PySem.Spec PyProof.Rows
end HT
namespace L2
open PySem PySem.Spec PyProof.Rows
section
variable{st:CU}{ts:TE}
end
end L2
namespace HT
open PySem PySem.Spec PyProof.Rows
section
open PySem.SeqAt
open PySem.AutoSeq1 (wpAny_loadPart')
open PySem.MeetsSeq PySem.MeetsSeq2 PySem.MeetsSeq3
end
end HT
variable{bm:List AI}{ZJ:String}{s₀:AT}{kn:CN}{WA:AR}{ie ik:Nat}
namespace L2
open PySem PySem.Spec PyProof.Rows
theorem El:∀(ns:List Int) (n:Int),ns.foldl min n∈n::ns/\∀x∈n::ns,ns.foldl min n<=x
 |[],n=>{BB,λx hx=>by rw[A8.mp hx];exact TV _}
 |m::ns,n=>by
  obtain⟨h1,h2⟩:=El ns (min n m);rw[KY];have h3:=h2 _ BB;refine{?_,λx hx=>?_}
  .rcases A2.mp h1 with e|h
   .rw[e]
    rcases Int.le_total n m with z|z
    .rw[Int.min_eq_left z];exact BB
    .rw[Int.min_eq_right z];exact A1 _ BB
   .exact A1 _ (A1 _ h)
  .rcases A2.mp hx with e|hx
   .rw[e];lia
   .rcases A2.mp hx with e|hx
    .rw[e];lia
    .exact h2 x (A1 _ hx)
section
variable{K:AC}{a b st:CU}{ga gb ge gs:G}{Mc:List G}
theorem zZ2{d:D}(r:Reps K F vs [d]):∃v,vs=[v]/\Rep K F v d:=by
 cases r with
 |cons r rr=>cases rr;exact{_,rfl,r}
end
section
variable{K:AC}
end
structure ExK(K:AC)(C:AR)(bm:List AI)(ZJ:String):Prop where
 ex:JZ K C bm ZJ=AK
 ga:K9 K (.ref C) "__getattribute__"=AA (AA (.builtin "BaseException.__getattribute__"))
 gb:K9 K (.ref C) "__getattr__"=AA AN
 ha:K9 K (.ref C) "__class__"=AA (AA (.builtin "object.__class__"))
 hn:ZR K (.builtin "object.__class__") "__get__"=AA (AA (.builtin "getset_descriptor.__get__"))
 ht:bX K (.builtin "object.__class__")=AA AK
 hm:UI K C (.type "object")=AA AK
 hb:UI K C (.type "BaseException")=AA AK
def XAt(x C:AR)(h:D3):Prop:=∃o,h.get? x=AA o/\o.cls=.ref C
section
variable{K:AC}{x:AR}
open PySem.W Builtin Builtin.ObjectAttr Builtin.Getset_descriptor in
theorem XAt.type(I:XAt x C h):Looks M h (typeOf (.ref x)) (.ref C):=by
 obtain⟨o,e,c⟩:=I;exact c▸(Looks.ld e).andThen .now
open PySem.W Builtin Builtin.ObjectAttr Builtin.Getset_descriptor in
theorem ExK.find(Z:ExK K C bm ZJ)(X:K.In h):Looks M h (find (.ref x) (.ref C) "__class__") (.bind (.builtin "getset_descriptor.__get__") (.builtin "object.__class__")) :=
 (looks_findIn X Z.ha).andThen ((show Looks M h (getOf (AA (.builtin "object.__class__"))) (AA (.builtin "getset_descriptor.__get__")) from looks_specialIn X Z.hn).andThen
  ((show Looks M h (dataDescriptor? (AA (.builtin "object.__class__")) (AA (.builtin "getset_descriptor.__get__"))) (AA (.builtin "getset_descriptor.__get__",.builtin "object.__class__")) from(looks_takesIn X Z.ht).andThen .now).andThen (Looks.tag .now)))
open PySem.W Builtin Builtin.ObjectAttr Builtin.Getset_descriptor in
theorem ExK.get(Z:ExK K C bm ZJ)(X:K.In s.heap)(I:XAt x C s.heap){tp:AI}(q:R (.ok (.ret (.ref C))) s):G5 (A6 prog w) A (.call (.builtin "getset_descriptor.__get__") {[.builtin "object.__class__",.ref x,tp],[]}) R s:=by
 obtain⟨hh,g,dr,t,os⟩:=s;have L0:=I.type (M:=A6 prog w);have L1:=looks_mroIn (M:=A6 prog w) X Z.hm;refine jP KF.slot_gs.plain KF.entry_gs (KF.slot_gs.check _ _ _ _ _ _ _ _ KF.type_class (KF.args_gs _ _ _) ?_);unfold ES.«getset_descriptor.__get__» descrGet;rw[dga_obj];refine AB (wpAny_pure ?_);unfold descrGetter descrCheckInstance descrNameAndClass isInstance;simp only[KF.owner_class]
 repeat lk
 refine{Code.quiet_builtin _ (by decide +kernel),codeAny_builtin KF.entry_class ?_};unfold ES.«object.__class__» shownTypeOf
 repeat lk
 exact q
open PySem.W Builtin Builtin.ObjectAttr Builtin.Getset_descriptor in
theorem ExK.cls(Z:ExK K C bm ZJ)(X:K.In s.heap)(I:XAt x C s.heap){Q:Option AI->AT->Prop}(q:Q (AA (.ref C)) { s with toks:=s.toks+1 }):A0 (A6 prog w) A (getAttr? (.ref x) "__class__") Q E s:=by
 obtain⟨hh,g,d,t,os⟩:=s;have L0:=I.type (M:=A6 prog w);have L1:=looks_findIn (M:=A6 prog w) X Z.ga;have L2:=Z.find (M:=A6 prog w) (x:=x) X;have L3:=looks_findIn (M:=A6 prog w) X Z.gb;have L4:=looks_mroIn (M:=A6 prog w) X Z.hb;have hk:builtinKind "BaseException.__getattribute__"=AA .slot:=by decide +kernel
 have n9:splitId "BaseException.__getattribute__"=AA ("BaseException","__getattribute__"):=by decide +kernel
 have ha:=λn=>F.args_bexc_ga (.ref x) n;have SS:(J8 "BaseException.__getattribute__"==J8 "object.__getattribute__")=AD:=by decide +kernel
 unfold getAttr? getAttrBy? getAttrBy;refine AB (wpAny_mkText (AB (GL (DQ (AB (L0.at (AB (L1.at ?_))))))));show A0 _ _ (if(onTheHeap (DK C)&&J8 "BaseException.__getattribute__"==J8 "object.__getattribute__")=AK then _ else getAttrByItsOwn _ _ _ _ _ _) _ _ _;rw[SS,l8,if_neg CH];unfold getAttrByItsOwn;refine AB (L3.at (AB (GL (DQ ?_))));show A0 _ _ (bindSpecial _ _ >>= _) _ _ _;rw[F.excAttr_ValueError.ga.bind];refine AB (wpAny_pure (S8 (jP F.excAttr_ValueError.ga.plain F.entry_bexc_ga ?_)));simp only[checkBuiltinCall,hk,n9];unfold isInstance
 repeat lk
 refine wpAny_run (h:=AN) (Z.get (s:={hh,g,d,t+1,os}) X I ?_);exact wpAny_pure (wpAny_pure (handed_on rfl (wpAny_pure q)))
open PySem.W Builtin Builtin.ObjectAttr Builtin.Getset_descriptor in
theorem ExK.kit(Z:ExK K C bm ZJ):KitX K (.ref x) (.ref C) (XAt x C) where
 ty:=λ_ _ _ I=>I.type
 it:=λ_ _ X _=>by
  have z:=Z.ex;unfold excIn at z;split at z
  .rename_i ho
   intro A' Q' E' s' k q;unfold isType loadHead;exact AB (wpAny_loadPart (k _ _ (X _ _ ho)) (wpAny_pure q))
  .cases z
 ne:=λh tp dd CI n sl X htp=>by
  refine RA.mpr λq=>?_;obtain rfl:C=tp:=Value.ref.inj (beq_iff_eq.mp q);have z:=Z.ex;unfold excIn at z;split at z
  .rename_i ho
   have e:=congrArg Obj.cls (BL ((X _ _ ho).symm.trans htp));exact absurd (Value.type.inj e) 'd'
  .cases z
 ca:=λX I k=>Z.cls X I k
end
structure Fly(P:CO)(w:D2)(C:AR)(outer:List XZ)(H:Hp)(s:AT)(a:AR)(H1:Hp)(h1:D3)(fr:List AR)(a0:AI)(s':AT):Prop where
 os:s'.os=s.os
 bare:NN s'.gens
 un:Un (SI outer) [] H H1 s.heap h1
 hok:HOk P w H1 h1
 frs_:∀b∈fr,H1 b=AN/\(b∈SI outer\/s.heap.objs.size<=b)/\∃o,h1.get? b=AA o/\∀vs,o.data≠.fields vs
 new:h1.get? a=AN
 fl:Heap.FlyingW (KE h1 fr) outer a (.ref C) a0 s'.heap
 up:h1.UpToSlots s'.heap
def X2(P:CO)(w:D2)(C:AR):CXT:=λouter H s E e s'=>∃a H1 h1 fr a0,e=.ref a/\Fly P w C outer H s a H1 h1 fr a0 s'/\E (.ref C) AN H1
section
variable{h2:D3}{fr:List AR}{a0:AI}
theorem Fly.kept(F:Fly P w C outer H s a H1 h1 fr a0 s')(st:(KE h1 fr).StaysIn h2)(up:h1.UpToSlots h2):Un (SI outer) [] H H1 s.heap h2/\HOk P w H1 h2:=by
 have any:∀b o,h1.get? b=AA o->(b∉fr->h2.get? b=AA o)/\∃o',h2.get? b=AA o'/\(b∈fr->∃sl,o'={ o with slots:=sl }):=λb o e=>by
  refine{λn=>st b o (OI _ e n),?_}
  by_cases hb:b∈fr
  .obtain⟨_,_,o',e',d⟩:=F.frs_ b hb
   rw[e] at e';cases e';obtain⟨sl,q⟩:=up b o e d;exact{_,q,λ_=>{sl,rfl}}
  .exact{o,st b o (OI _ e hb),λz=>absurd z hb}
 have II:∀b o,s.heap.get? b=AA o->b∉SI outer->b∉fr:=λb o e n z=>by
  rcases(F.frs_ b z).2.1 with q|q
  .exact n q
  .exact absurd (A9 e) (WI.mpr q)
 refine{{λb o e n hb hx=>(any b o (F.un.keep b o e n hb hx)).1 (II b o e hb),λb o e n hb hx=>?_,F.un.free,λb o e hx=>?_,F.un.tups,F.un.frzs,F.un.tbls},λb u e=>?_}
 .obtain⟨sl,q⟩:=F.un.slot b o e n hb hx
  by_cases hf:b∈fr
  .obtain⟨o',q1,q2⟩:=(any b _ q).2
   obtain⟨uT,rfl⟩:=q2 hf;exact{uT,q1}
  .exact{sl,(any b _ q).1 hf}
 .obtain⟨o',q⟩:=F.un.there b o e hx
  obtain⟨o2,q2,_⟩:=(any b o' q).2;exact{o2,q2}
 .refine(F.hok b u e).stay (λc v hc q=>(any c v q).1 λz=>?_) (λ_ q=>q) (λ_ _ q=>q) λ_ _ _ q=>q
  have n:=(F.frs_ c z).1;rcases hc with rfl|hc
  .rw[n] at e;cases e
  .rw[n] at hc;cases hc
end
section
variable{K:AC}{E:XK}
theorem zPM{vs:List AI}(I:Inv (TK (X2 P w C) P w K mg base N qual scope f cd A outer s₀ H₀ E) AF σ H s)(hx:Heap.MadeExcOf s.heap h' a (.ref C) vs)
  (q:E (.ref C) AN H):(TK (X2 P w C) P w K mg base N qual scope f cd A outer s₀ H₀ E).xe (.ref a) { s with heap:=h' }:=by
 have X7:∀env∈(TK (X2 P w C) P w K mg base N qual scope f cd A outer s₀ H₀ E).stack,∀b,env.frame=AA b->b∈SI (TK (X2 P w C) P w K mg base N qual scope f cd A outer s₀ H₀ E).stack:=λenv he b hb=>JE.mpr {env,he,hb};refine wpAny_leaves_madeW (base:=KE s.heap (SI (TK (X2 P w C) P w K mg base N qual scope f cd A outer s₀ H₀ E).stack)) I.ok.frames rfl (λb o e=>Y7 _ e) (PySem.W.funFrames_hide I.stack X7) hx λh2 t fl _ _ up=>?_;refine{a,H,s.heap,_,.ref t,rfl,{I.os,I.bare,I.base,I.hok,λb hb=>{I.stkFree b hb,?_,(I.stack.mem hb).2},hx.new,fl,(Heap.UpToSlots.of_keeps hx.keeps).trans up},q};rcases A2.mp (I.stkSub b hb) with e|e
 .exact .inr (CY e.symm)
 .exact .inl e
theorem zZ3(X:K.In h)(Z:JZ K C bm ZJ=AK):∃tl N nm q bs hd sn sub ab col dd k0 k1 k2 k3 k5 mN,h.get? C=AA (excClassObj nm q C N bs tl hd sn sub ab col dd k0 k1 k2 k3 k5 ZJ)/\h.Ns N mN/\mN "__init__"=AN/\OwnTail h bm tl:=by
 unfold JZ at Z;split at Z
 .rename_i dd cd sl ho
  split at Z
  .rename_i C' tl k0 k1 k2 k3 n k5 em es
   simp only[EK,beq_iff_eq,MG] at Z;obtain⟨⟨⟨⟨⟨e1,e2⟩,e3⟩,e4⟩,e5⟩,e6⟩:=Z;cases cd;cases sl;dsimp only at em e3 e5 e6 es;subst e1 e2 em e3 es;exact{tl,_,_,_,_,_,_,_,_,_,dd,k0,k1,k2,k3,k5,_,X _ _ ho,.of_isNs (PySem.W.isNs_of_in X e5),PySem.W.nsMap_none_of_in X e5 e6,PySem.W.tail_of_in X e4}
  .cases Z
 .cases Z
theorem zVF{np:YA}{ta:TA}{B ini:String}(FB:ExcBaseFacts B ZJ ini bm)(Z:JZ K C bm ZJ=AK)(hm:mg x=AA (.ref C))(hh:A.handled=AN)
  (ha:PA (TK (X2 P w C) P w K mg base N qual scope f cd A outer s₀ H₀ E) (e::es) ta) (hg:Gl (TK (X2 P w C) P w K mg base N qual scope f cd A outer s₀ H₀ E) x:=by rfl) (hd:(x==("__debug__":CN))=AD:=by decide)
  (he:AM (e::es) (G0 qual scope s₀.heap.objs.size f cd)=(AD,eval e (G0 qual scope s₀.heap.objs.size f cd))::AM es (G0 qual scope s₀.heap.objs.size f cd):=by rfl)
  (JV:(DD FQ (AM es (G0 qual scope s₀.heap.objs.size f cd))).any (·.1)=AD:=by rfl) :
  PS (TK (X2 P w C) P w K mg base N qual scope f cd A outer s₀ H₀ E) (.Raise (AA (.Call (.Name x np) (e::es) [] FQ)) AN pos) (λD σ H=>ta σ H λvs H1=>vs.length<=sizeLine/\E (.ref C) AN H1):=by
 intro AF s σ H D I h;obtain⟨tl,Nn,nm,q,bs,hdct,sn,sub,ab,col,dd,k0,k1,k2,k3,k5,mN,hC,hN,hni,TL⟩:=zZ3 (K:=K) (h:=base) I.ok.mod.kin Z;refine wpAny_Raise_call_subT (C:=C) (nm:=nm) (q:=q) (N:=Nn) (bs:=bs) (bm:=tl) (hdct:=hdct) (sn:=sn) (sub:=sub) (ab:=ab) (col:=col) (dd:=dd) (k0:=k0) (k1:=k1) (k2:=k2) (k3:=k3) (k5:=k5) FB (mN:=mN) (TL.hasType FB.hasBase) hh ?_ hni (pW I hg hm {rfl,?_} hd)
 .show(DD FQ (AM (e::es) (G0 qual scope s₀.heap.objs.size f cd))).any (·.1)=AD
  rw[he];exact JV
 .have h:=ha FQ AF s σ H _ I h
  show A0 _ _ (evalArgs (.ref C) AK (DD FQ (AM (e::es) (G0 qual scope s₀.heap.objs.size f cd))) []) _ _ _;have h:A0 (A6 P w) _ (spliced (DD FQ (AM (e::es) (G0 qual scope s₀.heap.objs.size f cd)))) _ _ s:=h;rw[he] at h ⊢;refine OK (DA h (λus s2 q=>?_) λ_ _ y=>y);obtain⟨vs,H1,I1,r,z,q⟩:=q;exact{rfl,by rw[<-r.length];exact z,I1.bk _ _ hC,hN.keeps I1.bk,TL.keeps I1.bk,λh' a m=>zPM I1 m q}
end
theorem Inv.frame{t:Nat}{m':CN->Option AI}(I:Inv X AF σ H s)(hs:DM X.env.locals s.heap h')(hn:h'.Ns X.env.locals m')(hl:σ'.length=σ.length)
  (hv:∀(i:Nat) (x:CN) (v:V),X.N[i]?=AA x->σ'[i]?=AA (AA v)->Z8 X.env.scope x->∃u,RelV v u/\Vv X.env h' m' x u):Inv X AF σ' H { s with heap:=h',toks:=t }:=by
 obtain⟨m,⟨oL,es,ep,lF,r⟩,_⟩:=id I.loc;have ne:∀b o,X.s₀.heap.get? b=AA o->b≠X.env.locals:=λb o e=>BZ (AQ (A9 e) I.ok.above);refine{I.ok,I.os,I.bare,{λb o e n hb hx=>(hs.2 b (ne b o e)).trans (I.base.keep b o e n hb hx),λb o e n hb hx=>?_,I.base.free,λb o e hx=>?_,I.base.tups,I.base.frzs,I.base.tbls},{m',hn,hv},λy c e=>?_,I.free,I.freeC,λp hp=>?_,λb u e=>?_,hl.trans I.len}
 .obtain⟨sl,e1⟩:=I.base.slot b o e n hb hx
  exact{sl,(hs.2 b (ne b o e)).trans e1}
 .obtain⟨o',e1⟩:=I.base.there b o e hx
  exact{o',(hs.2 b (ne b o e)).trans e1}
 .obtain⟨v,z⟩:=I.cell y c e
  exact{v,z.sameBut hs (I.cne y c e)}
 .obtain⟨e,n,ne,nf,d⟩:=I.pin p hp
  exact{(hs.2 p.1 ne).trans e,n,ne,nf,d}
 .refine(I.hok b u e).stay (λc v hc q=>(hs.2 c ?_).trans q) (λ_ q=>q) (λ_ _ q=>q) λ_ _ _ q=>q
  rintro rfl;rcases hc with rfl|hc
  .rw[I.free] at e;cases e
  .rw[I.free] at hc;cases hc
theorem zR7{Q:Unit->AT->Prop}(I:Inv X AF σ H s)(hN:X.N.Nodup)(hi:X.N[i]?=AA x)(hk:X.env.scope.names.lookup x=AA .local)(hv:σ[i]?=AA (AA v))
  (h:∀s',Inv X AF (σ.set i AN) H s'->Q () s'):A0 M A (unbindName X.env x) Q E s:=by
 obtain⟨m,hn,hl⟩:=id I.loc;obtain⟨u,_,q⟩:=hl i x v hi hv (.inl hk);rcases q with⟨_,hm⟩|⟨q,_⟩
 .refine wpAny_unbindName_local hk hn hm (by rw[I.ok.kind];rfl) λh' z wG hs=>h _ (I.frame hs wG (BW ..) λj y w e1 e2 e3=>?_)
  have hj:i≠j:=λe=>by
   subst e;rw[BF (AE.mp hv).1] at e2;cases e2
  rw[A5 hj] at e2;obtain⟨u',r',q⟩:=hl j y w e1 e2 e3;have hy:y≠x:=λe=>hj (zH hN hi (e▸e1));refine{u',r',?_};rcases q with⟨k,e⟩|⟨k,c,e,z'⟩
  .exact .inl {k,(if_neg hy).trans e}
  .exact .inr {k,c,e,z'.sameBut hs (I.cne y c e)}
 .have q:X.env.scope.names.lookup x=AA .cell\/X.env.scope.names.lookup x=AA .free:=q
  rw[hk] at q;rcases q with q|q<;>cases q
noncomputable def Cx.hot(X:Cx)(a:AR):Cx:={ X with A:=X.A.mark (AA (.ref a)),calm:=AD,xe:=λ_ _=>False }
theorem Inv.heat(I:Inv X AF σ H s)(a:AR):Inv (X.hot a) AF σ H s :=
 {{I.ok.tab,I.ok.mod,I.ok.kind,I.ok.glob,I.ok.blt,I.ok.above,I.ok.inj,I.ok.has,I.ok.cab,(λz=>by cases z),I.ok.frames,I.ok.stk,I.ok.exf,I.ok.bs,I.ok.bsz,I.ok.noex,I.ok.exfs,I.ok.funs,I.ok.frf},I.os,I.bare,I.base,I.loc,I.cell,I.free,I.freeC,I.pin,I.hok,I.len}
theorem pAN(ok:X.Ok)(I:Inv (X.hot a) AF σ H s):Inv X AF σ H s:={ok,I.os,I.bare,I.base,I.loc,I.cell,I.free,I.freeC,I.pin,I.hok,I.len}
def Cd(A:DP):DP:={ A with handled:=AN }
def Ak(P:CO)(w:D2)(K:AC)(mg:CN->Option AI)(base:D3)(N:List CN)(qual:CN)(scope:NJ)(f:AR)(cd:AI)(A:DP)(outer:List XZ)(s:AT)(H:Hp):Cx :=
 { TK L6 P w K mg base N qual scope f cd A outer s H E0 with calm:=AD,xe:=λ_ _=>False }
section
variable{K:AC}
theorem yIT{st:FC}{ps:List CN}{Q:VK}(F:Fun K x qual st f fd)(S:FnScope N ps (J7 st))
  (hr:Room (k+1) (Cd A)) (e0:Env0 P w K mg base A outer s H) (hb:UO s fd {us,[]} (ps.zip us)) (hl:vs.length=ps.length) (r:Vals vs us)
  (K4:∀G3,∃t,PSs (Ak P w K mg base N qual (J7 st) f G3 A outer s H) (W7 st) t/\t { nx:=λ_ H'=>Q .non H',rt:=Q } (start N vs) H) :
  G5 (A6 P w) A (.call (.ref f) {us,[]}) (CR L6 outer P w H s Q E0) s:=by
 obtain⟨oc,od,kV,SY,pm,an,G3,ct,Z9,rfl,lk,L9⟩:=F.ex;have KX:K.In s.heap:=e0.mod.kin.keeps λb o e=>(e0.bs b o e).1;have Js:s.heap.NoLimit:=e0.mod.nolimit.keeps λb o e=>(e0.bs b o e).1;refine gS (A:=A) hr.depth (KX _ _ lk) rfl S.co S.gen rfl (Y9 KX L9) (hb _ _ _ _ ?_);refine Y0 S.kind (λy hy=>?_) λenv he s1 x=>?_
 .rcases S.par y.1 (JB hy).1 with q|q
  .exact .inl q
  .exact .inr {q,MX _ _ _ (.inl q)}
 subst he;refine{Js.keeps x.toInCall.keep,codeAny_func ?_};obtain⟨t,ht,hq⟩:=K4 G3;have e1:Env0 P w K mg base (Cd A) outer s H:={e0.tab,e0.frames,e0.mod,e0.bs,e0.bsz,e0.funs,e0.frf,e0.hok,e0.bare};have I:=So (CX:=L6) (E:=E0) (qual:=qual) (f:=f) (cd:=G3) S hr.hd e1 hl r x
 have I:Inv (Ak P w K mg base N qual (J7 st) f G3 A outer s H) [] (start N vs) H s1 :=
  {{I.ok.tab,I.ok.mod,I.ok.kind,I.ok.glob,I.ok.blt,I.ok.above,I.ok.inj,I.ok.has,I.ok.cab,(λz=>by cases z),I.ok.frames,I.ok.stk,I.ok.exf,I.ok.bs,I.ok.bsz,I.ok.noex,I.ok.exfs,I.ok.funs,I.ok.frf},I.os,I.bare,I.base,I.loc,I.cell,I.free,I.freeC,I.pin,I.hok,I.len}
 refine DA (ht [] s1 (start N vs) H _ I hq) (λfl s' hs=>?_) λe s' hs=>hs.elim
 cases fl with
 |ret u =>
  obtain⟨v,σ',H',J,rv,q⟩:=hs;exact{v,H',J.os,J.bare,J.base,J.hok,rv,q}
 |next =>
  obtain⟨σ',H',J,q⟩:=hs;exact{.non,H',J.os,J.bare,J.base,J.hok,rfl,q}
 |brk=>obtain⟨_,_,_,q⟩:=hs;exact q.elim
 |cont=>obtain⟨_,_,_,q⟩:=hs;exact q.elim
end
def Wx(a:AR)(b:Bool):TE:=λσ H Q=>σ[0]?=AA (AA (.ref a))/\Q (.bl b) H
def qZ(a:AR)(bs:List Bool):TA:=λσ H Q=>σ[0]?=AA (AA (.ref a))/\Q (bs.map V.bl) H
theorem cK{n:CN}{ce:CU}{cv:V}{uc:AI}{b:Bool}(hX:∀AF σ H s,Inv X AF σ H s->XAt a C s.heap)(Z:ExK X.K C bm ZJ)(hm:X.mg "isinstance"=AN)(hc:PE X ce (tC cv))(hv:∀u,RelV cv u->u=uc)(he:BQ X.K (.ref C) uc=AA b)
  (hN:X.N[0]?=AA n:=by rfl) (hl:Z8 X.env.scope n:=by first|exact BO rfl|exact DY (BO rfl)) (hg:Gl X "isinstance":=by rfl) (hd:(n==("__debug__":CN))=AD:=by decide) (L9:(n==("__classdict__":CN))=AD:=by decide)
  (h1:AM [.Name n p1,ce] X.env=(AD,eval (.Name n p1) X.env)::AM [ce] X.env:=by rfl) (h2:AM [ce] X.env=(AD,eval ce X.env)::AM [] X.env:=by rfl) (JV:(DD pos (AM [ce] X.env)).any (·.1)=AD:=by rfl) :
  PE X (.Call (.Name "isinstance" p) [.Name n p1,ce] [] pos) (Wx a b):=by
 have hc:CallR X (.builtin "isinstance") (λxs H Q=>xs=[.ref a,cv]/\Q (.bl b) H)/\PE X ce (tC cv):={λAF s σ H xs us Q I r h=>by
  obtain⟨rfl,q⟩:=h
  cases r with
  |cons r1 r2 =>
   cases r2 with
   |cons r2 r3 =>
    cases r3;cases r1;obtain rfl:=hv _ r2
    exact DE Z.kit I.kIn (hX _ _ _ _ I) he (λz=>nomatch z) λtk=>{.bl b,H,I.tok tk,rfl,q},hc}
 refine(tO hc.1 hg hm Boot.isinstance (QY (iI hN hl hd L9) (QY hc.2 GG h2) h1) 'd' 'd' h1 JV).imp λσ H Q h=>?_;exact{_,h.1,rfl,h.2}
theorem Cw:PA X [] (qZ a []):=λpos AF s σ H Q I h=>GG pos AF s σ H Q I h.2
theorem cJ{b:Bool}{bs:List Bool}(h:PE X e (Wx a b))(r:PA X es (qZ a bs))(hs:AM (e::es) X.env=(AD,eval e X.env)::AM es X.env:=by rfl):PA X (e::es) (qZ a (b::bs)) :=
 λpos AF s σ H Q I q=>QY h r hs pos AF s σ H Q I {q.1,q.1,q.2}
def yD1(a:AR)(l1 l2 l3:List Bool):TS:=mE (j2 (qY (qZ a l1)) (bB 1)) (mE (j2 (kU Gu (aU 1) (qY (qZ a l2))) (bB 1)) (Vu (kU Gu (aU 1) (qY (qZ a l3)))))
def KU(P:CO)(w:D2)(K:AC)(mg:CN->Option AI)(base:D3)(f C:AR)(bs:List Bool):Prop :=
 ∀(A:DP) (outer:List XZ) (s:AT) (H:Hp) (a:AR) (Q:VK),Room 2 (Cd A)->Env0 P w K mg base A outer s H->XAt a C s.heap->H a=AN->a∉SI outer ->
  (∀p H',Gr H H'->H p=AN->H' p=AA (.lst (bs.map V.bl))->Q (.ref p) H')->G5 (A6 P w) A (.call (.ref f) {[.ref a],[]}) (CR L6 outer P w H s Q E0) s
section
variable{K:AC}{st:FC}{l1 l2 l3:List Bool}
theorem zVG{n:CN}(Fn:Fun K x x st f fd)(S:FnScope [n,kn] [n] (J7 st))(hb:Binds K fd [n] [])(hz:l1.length+l2.length+l3.length<=100)
  (K4:∀G3 A outer s H a,(∀AF σ H' s',Inv (Ak P w K mg base [n,kn] x (J7 st) f G3 A outer s H) AF σ H' s'->XAt a C s'.heap)->PSs (Ak P w K mg base [n,kn] x (J7 st) f G3 A outer s H) (W7 st) (yD1 a l1 l2 l3)) :
  KU P w K mg base f C (l1++l2++l3):=λA outer s H a Q hr e0 ha hn ho k=>by
 obtain⟨o,rR,ZM⟩:=ha;refine yIT (k:=1) (vs:=[.ref a]) (us:=[.ref a]) Fn S hr e0 ?_ rfl (.cons rfl .nil) λG3=>{_,K4 G3 A outer s H a λAF σ H' s' I=>{o,I.base.keep a o rR hn ho (by exact BX),ZM},?_}
 .exact hb s [.ref a] (e0.mod.kin.keeps λb o e=>(e0.bs b o e).1) rfl
 .have z:∀n,n<=100->n<=sizeLine:=λn h=>AX h 'd'
  refine{rfl,by rw[AJ];exact z _ 'l',λp1 h1=>{_,rfl,rfl,by rw[AJ];exact z _ 'l',λp2 h2=>?_}};have n21:=VL (HC (H:=H) (a:=p1) (o:=.lst (l1.map V.bl))) h2;refine{p1,p2,_,_,rfl,rfl,by rw[EW n21];exact HC,HC,by rw[AJ,AJ];exact z _ 'l',λp3 h3=>?_};refine{_,rfl,rfl,by rw[AJ];exact z _ 'l',λp4 h4=>?_};have n43:=VL (HC (a:=p3)) h4;refine{p3,p4,_,_,rfl,rfl,by rw[EW n43];exact HC,HC,by simp only[AJ,BN];exact z _ 'l',λp5 h5=>?_};refine k p5 _ ((((Gr.new h1).trans (Gr.new h2)).trans (Gr.new h3)).trans ((Gr.new h4).trans (Gr.new h5))) ?_ ?_
  .exact Gr.dom ((((Gr.new h1).trans (Gr.new h2)).trans (Gr.new h3)).trans (Gr.new h4)) _ h5
  .rw[HC,HN,HN]
end
theorem ObjOk.there(x:ObjOk P w H h a o):∃ob,h.get? a=AA ob:=by
 cases o with
 |lst xs=>obtain⟨_,_,_,_,e⟩:=x;exact{_,e}
 |tup xs=>obtain⟨_,_,_,o,e,_⟩:=x;exact{_,e}
 |dK kvs=>obtain⟨_,_,_,_,o,es,ep,e,_⟩:=x;exact{_,e}
 |dT kvs=>obtain⟨_,_,_,_,o,es,ep,e,_⟩:=x;exact{_,e}
 |set S n=>obtain⟨ob,es,ep,t,e,c⟩:=x;exact{_,e}
 |ins C dx fs=>obtain⟨_,_,_,e,_⟩:=x;exact{_,e}
 |own y=>exact x
 |xd fs=>obtain⟨mA,⟨od,es,ep,e,c⟩,r⟩:=x;exact{_,e}
 |rng lo hi=>obtain⟨t,u,v,e⟩:=x;exact{_,e}
 |frz ob u=>exact{_,x.1}
 |tbl q ps=>exact{_,x.1}
 |met f y=>exact{_,x}
 |ext φ=>exact x.2.1
theorem zVH{bs:List Bool}{W n kf:CN}{np XN p3 p4:YA}{fr:List AR}{a0:AI}{D:Ends}(I:Inv X AF σ H s)(F:Fly X.prog X.w C X.stack H s a H1 h1 fr a0 s')
  (KK:KU X.prog X.w X.K X.mg X.base f C bs) (hr:Room 2 X.A) (hkf:X.mg kf=AA (.ref f)) (hkk:E6 X.K (.ref f)=AK) (hW:X.mg W=AA (.ref WA)) (hx:N2 X.K (.ref C) (.ref WA)=AA AK)
  (hN:X.N.Nodup) (hi:X.N[ie]?=AA n) (hj:X.N[ik]?=AA kn) (K3:ie≠ik) (X7:X.env.scope.names.lookup n=AA .local) (SV:X.env.scope.names.lookup kn=AA .local)
  (stk:X.stack=X.env::X.outer) (hf:X.env.frame=AA X.env.locals)
  (q:∀p H',Gr H1 H'->H1 p=AN->H' p=AA (.lst (bs.map V.bl))->D.nx ((σ.set ik (AA (.ref p))).set ie AN) H')
  (Lj:Gl X W:=by rfl) (Li:Gl X kf:=by rfl) (Lu:(W==("__debug__":CN))=AD:=by decide) (Ls:(kf==("__debug__":CN))=AD:=by decide) (Lq:(n==("__debug__":CN))=AD:=by decide) (rV:(n==("__classdict__":CN))=AD:=by decide)
  (he:AM [.Name n p1] X.env=(AD,eval (.Name n p1) X.env)::AM [] X.env:=by rfl) (n6:IJ (.Call (.Name kf p2) [.Name n p1] [] XG) (AA (.Name kn p3)) XN.line X.env=pure AD:=by rfl) :
  A0 (A6 X.prog X.w) X.A (bS (.ref a) X.env) (λ_ RF=>A0 (A6 X.prog X.w) X.A (setFlight (.ref a) AN) (λ_ V2 =>
   A0 (A6 X.prog X.w) X.A (handleBy (.ref a) X.env [.ExceptHandler (AA (.Name W np)) (AA n) [.Assign [.Name kn p3] (.Call (.Name kf p2) [.Name n p1] [] XG) XN] p4]) (SP X AF D) X.xe V2) X.xe RF) X.xe s':=by
 have vP:∀h5,(KE h1 fr).StaysIn h5->h1.UpToSlots h5->Inv X AF σ H1 { s' with heap:=h5 }:=λh5 st up=>by
  obtain⟨un,hok⟩:=F.kept st up;exact I.call' (s':={ s' with heap:=h5 }) (ch:=[]) F.os un hok F.bare λb z=>absurd z 's'
 have na:H1 a=AN:=by
  cases z:H1 a with
  |none=>rfl
  |some u =>
   obtain⟨o,e⟩:=(F.hok a u z).there;rw[F.new] at e;cases e
 have aL:a∉SI X.stack:=λz=>by
  obtain⟨_,o,e,_⟩:=I.stack.mem z;obtain⟨o',e'⟩:=F.un.there a o e 's';rw[F.new] at e';cases e'
 have aL':a≠X.env.locals:=λz=>aL (by rw[stk,z];unfold SI;rw[IW,hf];exact BB);refine wpAny_looks_onW (by rw[I.ok.frames,stk]) hf (stk▸F.fl) λh4 Lm up4=>?_;refine wpAny_landsW Lm λh5 Me Au=>?_;have Au:=(F.up.trans up4).trans Au;have I5:=vP h5 Me.1 Au;refine wpAny_handleBy_cons (codeAny_handlers_test (pW (I5.heat a) Lj hW ?_ Lu)) (by intro z;cases z);refine(PySem.W.exm_one I5.kIn (XAt.type Me.there) hx).here ?_;refine codeAny_handlers_suite_as ?_;refine lands_againW Me λh6 Zx up6=>?_;have I6:=vP h6 Zx.1 (Au.trans up6);obtain⟨oa,vs,ea,ca,da,_⟩:=Zx.first;refine Ff (v:=.ref a) I6 hN hi (.inl X7) rfl (λs7 I7 hs7=>?_) (.inr X7);obtain⟨c,sb,hc⟩:=hs7
 have ea7:s7.heap.get? a=AA oa:=by
  refine(sb.2 a λz=>?_).trans ea;rcases hc with hc|hc
  .exact aL' (z.trans hc)
  .obtain⟨v,o,e,d⟩:=I6.cell n c hc
   have e:h6.get? c=AA o:=e;rw[<-z,ea] at e;cases e;rw[da] at d;cases d
 have I7:Inv (X.hot a) ((a,oa)::AF) _ H1 s7:=(I7.heat a).pins_of λp hp=>by
  rcases A2.mp hp with rfl|hp
  .exact{ea7,na,aL',λz=>aL (by rw[stk];unfold SI;rw[IW,hf];exact A1 _ z),λv d=>by rw[da] at d;cases d}
  .exact I7.pin p (BM _ hp)
 have Lc:ie < σ.length:=by rw[I.len];exact(AE.mp hi).1
 have ZN:n≠kn:=λe=>K3 (zH hN hi (e▸hj))
 have uS:A0 (A6 X.prog X.w) (X.hot a).A (execs [.Assign [.Name kn p3] (.Call (.Name kf p2) [.Name n p1] [] XG) XN] X.env) (λfl s8=>fl=.next/\∃p H',Gr H1 H'/\H1 p=AN/\H' p=AA (.lst (bs.map V.bl))/\Inv (X.hot a) ((a,oa)::AF) ((σ.set ie (AA (.ref a))).set ik (AA (.ref p))) H' s8) (λ_ _=>False) s7:=by
  refine K6 (DA (Q:=λfl s8=>fl=.next/\∃p H',Gr H1 H'/\H1 p=AN/\H' p=AA (.lst (bs.map V.bl))/\Inv (X.hot a) ((a,oa)::AF) ((σ.set ie (AA (.ref a))).set ik (AA (.ref p))) H' s8) ?_ (λfl s8 z=>?_) λ_ _ z=>z)
  .refine UC (HV (pW (X:=X.hot a) I7 Li hkf ?_ Ls)) n6
   refine O4 (h₀:=X.base) I7.ok.mod.kin hkk (GY (QY (iI (X:=X.hot a) hi (.inl X7) Lq rV) GG he XG _ s7 _ H1 (λvs H2=>vs=[.ref a]/\H2=H1) I7 {_,BF Lc,rfl,rfl}) λus s8 z=>?_) he rfl;obtain⟨vs,H2,I8,r8,rfl,rfl⟩:=z
   cases r8 with
   |cons r8 r9 =>
    cases r8;cases r9;refine{I8.kIn,S8 (MB (KK (X.hot a).A X.stack s8 H2 a (λv H'=>∃p,v=.ref p/\Gr H2 H'/\H2 p=AN/\H' p=AA (.lst (bs.map V.bl))) {rfl,hr.dp,hr.un,hr.gd} I8.env0 ?_ na aL λp H' g1 g2 g3=>{p,rfl,g1,g2,g3}) λr s9 hq=>?_)}
    .exact{oa,(I8.pin (a,oa) (BM _ BB)).1,ca}
    .cases r with
     |error e=>exact hq.elim
     |ok fl =>
      cases fl with
      |ret u =>
       obtain⟨v,H3,I9,rv,p,rfl,g1,g2,g3⟩:=I8.after hq;cases rv;exact zG (X:=X.hot a) (v:=.ref p) I9 hN hj (.inl SV) rfl (λJb xM=>{rfl,p,H3,g1,g2,g3,xM}) (.inr SV)
      |next=>exact hq.elim
      |brk=>exact hq.elim
      |cont=>exact hq.elim
  .obtain⟨rfl,z⟩:=z
   exact IG {rfl,z}
 refine DA uS (λfl s8 z=>?_) λ_ _ z=>z.elim;obtain⟨rfl,p,H',g,hp,hl,I8⟩:=z;have I8:=(pAN I.ok I8).pins_of (pins':=AF) λp hp=>I8.pin p (BM _ (A1 _ hp));refine AB (wpAny_bindName (zG I8 hN hi (.inl X7) (v:=.non) rfl (λs9 I9=>?_) (.inr X7)));refine NZ (zR7 I9 hN hi X7 (v:=.non) (by rw[BF (by rw[BW,BW];exact Lc)]) λJb xM=>?_);refine{(σ.set ik (AA (.ref p))).set ie AN,H',xM.weak (by simp only[BW]) λi v e=>?_,q p H' g hp hl}
 by_cases h1:ie=i
 .subst h1
  rw[BF (by rw[BW];exact Lc)] at e;cases e
 .rw[A5 h1] at e
  rw[A5 h1,A5 h1]
  by_cases h2:ik=i
  .subst h2
   have dW:ik < σ.length:=by rw[I.len];exact(AE.mp hj).1
   rw[BF dW] at e;rw[BF (by rw[BW];exact dW)];exact e
  .rw[A5 h2] at e
   rw[A5 h2,A5 h1];exact e
abbrev GX:=Ev->Out Ev
def tX(K:AC)(H₀:Hp)(W:Hp->Prop)(g:GX):TS:=λ_ σ H=>∃τ F E E',Sim K H₀ τ F H σ E/\g E=.ok E'/\∀F' H',Stp (ED σ E) F H F' H' (λ_=>False)->Sub F' H'->W H'
def Uv(gs:List G):GX:=λE=>(OU gs E).bind λp=>few p.1.length (.ok p.2)
def z9(t:Ev->Out (Bool×Ev))(g:GX):GX:=λE=>(t E).bind λp=>if p.1=AK then g p.2 else .bad
def xP(g:GS)(gx:GX):GX:=λE=>(g E).bind λr=>match r with|.nx E1=>gx E1|_=>.bad
section
variable{K:AC}{E:XK}
theorem zR9{np:YA}{gs:List G}{rest:List FC}{B ini:String}(FB:ExcBaseFacts B ZJ ini bm)(Z:JZ K C bm ZJ=AK)(hm:mg x=AA (.ref C))(hh:A.handled=AN)
  (ha:VA (TK (X2 P w C) P w K mg base N qual scope f cd A outer s₀ H₀ E) (e::es) gs) (hg:Gl (TK (X2 P w C) P w K mg base N qual scope f cd A outer s₀ H₀ E) x:=by rfl) (hd:(x==("__debug__":CN))=AD:=by decide)
  (he:AM (e::es) (G0 qual scope s₀.heap.objs.size f cd)=(AD,eval e (G0 qual scope s₀.heap.objs.size f cd))::AM es (G0 qual scope s₀.heap.objs.size f cd):=by rfl)
  (JV:(DD FQ (AM es (G0 qual scope s₀.heap.objs.size f cd))).any (·.1)=AD:=by rfl) :
  PSs (TK (X2 P w C) P w K mg base N qual scope f cd A outer s₀ H₀ E) (.Raise (AA (.Call (.Name x np) (e::es) [] FQ)) AN pos::rest) (tX K H₀ (λH'=>E (.ref C) AN H') (Uv gs)) :=
 (bF (zVF FB Z hm hh ha hg hd he JV) Sw).imp λD σ H h=>by
  obtain⟨τ,F,E1,E2,S,hg,k⟩:=h;obtain⟨p,e1,hg⟩:=pA3 hg;obtain⟨hl,hg⟩:=ZF hg;exact{τ,F,E1,p.1,p.2,S,e1,λvs F1 H1 s1 S1 r1=>{by rw[r1.length];exact CW (fJ hl),k F1 H1 (s1.weak λ_ z=>z.elim) S1.sub}}
end
variable{gx:GX}
section
variable{W:Hp->Prop}
theorem yD2{a rest:List FC}{t:Ev->Out (Bool×Ev)}(hc:VT X c t)(ha:PSs X a (tX X.K X.H₀ W gx)):PSs X (.If c a [] pos::rest) (tX X.K X.H₀ W (z9 t gx)) :=
 (bF (Ck hc ha VM) Sw).imp λD σ H h=>by
  obtain⟨τ,F,E1,E2,S,hg,k⟩:=h;obtain⟨p,e1,hg⟩:=pA3 hg;refine{τ,F,E1,p.1,p.2,S,e1,λF1 H1 s1 S1=>?_}
  by_cases hp:p.1=AK
  .rw[if_pos hp] at hg ⊢
   exact{τ,F1,p.2,E2,S1,hg,λF2 H2 s2 b=>k F2 H2 (s1.trans s2) b}
  .rw[if_neg hp] at hg;cases hg
theorem zVJ{st:FC}{rest:List FC}{g:GS}(h1:VS X st g)(h2:PSs X rest (tX X.K X.H₀ W gx)):PSs X (st::rest) (tX X.K X.H₀ W (xP g gx)) :=
 (bF h1 h2).imp λD σ H h=>by
  obtain⟨τ,F,E1,E2,S,hg,k⟩:=h;obtain⟨r,e1,hg⟩:=pA3 hg;refine{τ,F,E1,r,S,e1,?_}
  cases r with
  |nx E3=>exact λσ' F' H' st S'=>{τ,F',E3,E2,S',hg,λF2 H2 s2 b=>k F2 H2 (st.trans s2) b}
  |bk E3=>cases hg
  |ct E3=>cases hg
  |rt b d E3=>cases hg
end
theorem Sim.pad{K:AC}{ds:List D}(N:List CN)(s:Sub F H)(r:Reps K F vs ds):Sim K H₀ τ F H (start N vs) (ds.map Sl.val++BG (N.length-ds.length) .no):=by
 have lv:=r.length;have S:=Sim.args (K:=K) (H₀:=H₀) (τ:=τ) s r
 have cut:∀(i:Nat) x,(ds.map Sl.val++BG (N.length-ds.length) Sl.no)[i]?=AA x->x≠.no->i<ds.length/\(ds.map Sl.val)[i]?=AA x:=λi x q n=>by
  by_cases hi:i<ds.length
  .rw[B9 (by rw[AJ];exact hi)] at q;exact{hi,q}
  .rw[CA (by rw[AJ];exact EZ hi),DN] at q
   split at q
   .cases q;exact absurd rfl n
   .cases q
 have no:∀(i:Nat) t d,(ds.map Sl.val++BG (N.length-ds.length) Sl.no)[i]?≠AA (.own t d):=λi t d q=>by
  have:=(cut i _ q λz=>by cases z).2;rw[AV] at this
  cases z:ds[i]? with
  |none=>rw[z] at this;cases this
  |some x=>rw[z] at this;cases this
 refine{s,?_,λi d q=>?_,λi t d q=>absurd q (no i t d),λi j t u d e a q=>absurd q (no i t d)}
 .unfold start
  rw[BN,BN,C5,C5,AJ,AJ,lv]
 .obtain⟨hi,q⟩:=cut i _ q λz=>by cases z
  unfold start;rw[B9 (by rw[AJ,lv];exact hi)];exact S.val i d q
def Ah(K:AC)(C:AR)(np:Nat)(mx:List D->Out Ev):Sp:=λvs H _ E=>vs.length=np/\∃F ds z,Sub F H/\Reps K F vs ds/\mx ds=.ok z/\∀F' H',New F H F' H'->E (.ref C) AN H'
noncomputable def Uu(n:Nat)(g:GX):List D->Out Ev:=λds=>g (ds.map Sl.val++BG (n-ds.length) .no)
def Gn(P:CO)(w:D2)(K:AC)(mg:CN->Option AI)(base:D3)(C:AR)(x:CN)(k np:Nat)(mx:List D->Out Ev):Prop :=
 ∃(f:AR) (fd:JO) (ps:List CN),FnOk P w K mg base (X2 P w C) k f fd ps (Ah K C np mx)/\mg x=AA (.ref f)/\E6 K (.ref f)=AK/\Binds K fd ps []
section
variable{K:AC}
theorem yIU{st:FC}{ps:List CN}(Fn:Fun K x qual st f fd)(S:FnScope N ps (J7 st))
  (K4:∀(G3:AI) (A:DP) (outer:List XZ) (s:AT) (H:Hp) (E:XK),Room k (A.deeper (G0 qual (J7 st) s.heap.objs.size f G3))->A.handled=AN ->
   PSs (TK (X2 P w C) P w K mg base N qual (J7 st) f G3 A outer s H E) (W7 st) (tX K H (λH'=>E (.ref C) AN H') gx)):FnOk P w K mg base (X2 P w C) (k+1) f fd ps (Ah K C ps.length (Uu N.length gx)):=by
 obtain⟨oc,od,kV,SY,pm,an,G3,ct,Z9,rfl,lk,L9⟩:=Fn.ex;refine Cf lk L9 S (λvs H Q E h=>h.1) λA outer s H vs Q E hr X3=>{_,K4 G3 A outer s H E hr hr.hd,?_};obtain⟨hl,F,ds,z,sb,r,hm,q⟩:=X3;have S:=Sim.pad (K:=K) (H₀:=H) (τ:=f) N sb r;refine{f,F,_,z,S,hm,λF' H' st Ja=>q F' H' {{λa o e1 e2 e3 _=>st.keep a o e1 e2 e3 λz=>?_,st.dom,st.le,λa o e=>?_,λ_ z=>z.elim},Ja}}
 .obtain⟨i,t,d,e,_⟩:=z
  by_cases hi:i<ds.length
  .rw[B9 (by rw[AJ];exact hi),AV,A7 hi] at e;cases e
  .rw[CA (by rw[AJ];exact EZ hi),DN] at e
   split at e<;>cases e
 .rcases st.new a o e with z|z|⟨i,t,d,e,_⟩
  .exact .inl z
  .exact .inr (.inl z)
  .by_cases hi:i<ds.length
   .rw[B9 (by rw[AJ];exact hi),AV,A7 hi] at e;cases e
   .rw[CA (by rw[AJ];exact EZ hi),DN] at e
    split at e<;>cases e
theorem pAO{ps:List CN}{st:FC}{mx:List D->Out Ev}(Fn:Fun K x x st f fd)(h:FnOk P w K mg base (X2 P w C) k f fd ps (Ah K C np mx))(hm:mg x=AA (.ref f))(hb:Binds K fd ps []):Gn P w K mg base C x k np mx:={f,fd,ps,h,hm,Fn.kp,hb}
end
def mB(g:GS)(gs:List G)(mx:List D->Out Ev)(ik ie:Nat)(bs:List Bool):GS:=λE=>match g E with
 |.ok r=>.ok r
 |_=>(OU gs E).bind λp=>(mx p.1).bind λ_=>.ok (.nx ((p.2.set ik (.val (.lst (bs.map D.bl)))).set ie .no))
theorem Sim.lose{K:AC}{E:Ev}{u:Option V}(S:Sim K H₀ τ F H σ E):Sim K H₀ τ F H (σ.set i u) (E.set i .no)/\∀a,ED (σ.set i u) (E.set i .no) a->ED σ E a:=by
 have II:∀(j:Nat) x,(E.set i Sl.no)[j]?=AA x->x≠.no->E[j]?=AA x/\(σ.set i u)[j]?=σ[j]?:=λj x q n=>by
  by_cases hj:i=j
  .subst hj
   by_cases hi:i<E.length
   .rw[BF hi] at q;cases q;exact absurd rfl n
   .rw[ZB (by rw[BW];exact EZ hi)] at q;cases q
  .rw[A5 hj] at q;exact{q,A5 hj}
 have ow:∀{j:Nat} {t d},(E.set i Sl.no)[j]?=AA (.own t d)->E[j]?=AA (.own t d)/\(σ.set i u)[j]?=σ[j]?:=λ{j t d} q=>II j _ q λz=>by cases z
 refine{{S.sub,by rw[BW,BW];exact S.len,λj d q=>?_,λj t d q=>?_,λj k t1 t2 d1 d2 a q1 q2 z1 z2=>?_},λa ⟨j,t,d,q1,q2⟩=>?_}
 .obtain⟨q1,q2⟩:=II j _ q λz=>by cases z
  rw[q2];exact S.val j d q1
 .rw[(ow q).2];exact S.own j t d (ow q).1
 .rw[(ow q1).2] at z1
  rw[(ow q2).2] at z2;exact S.inj j k _ _ _ _ a (ow q1).1 (ow q2).1 z1 z2
 .rw[(ow q1).2] at q2
  exact{j,t,d,(ow q1).1,q2}
theorem Pf{K:AC}{F:Hp}:∀(bs:List Bool),Reps K F (bs.map V.bl) (bs.map D.bl)
 |[]=>.nil
 |b::bs=>.cons (.bl b) (Pf bs)
theorem yD3{fk:AR}{bs:List Bool}{W n kf tn:CN}{nw XN p3 p4 p5 p6:YA}{gs:List G}{g:GS}{mx:List D->Out Ev}
  (hb:VS X (.Assign [.Name tn p5] (.Call (.Name x p6) (e::es) [] FQ) K5) g) (CL:Gn X.prog X.w X.K X.mg X.base C x k np mx) (hr:Room k X.A) (ha:VA X (e::es) gs)
  (KK:KU X.prog X.w X.K X.mg X.base fk C bs) (oD:Room 2 X.A) (hkf:X.mg kf=AA (.ref fk)) (hkk:E6 X.K (.ref fk)=AK) (hW:X.mg W=AA (.ref WA)) (hx:N2 X.K (.ref C) (.ref WA)=AA AK)
  (hN:X.N.Nodup) (hi:X.N[ie]?=AA n) (hj:X.N[ik]?=AA kn) (K3:ie≠ik) (X7:X.env.scope.names.lookup n=AA .local) (SV:X.env.scope.names.lookup kn=AA .local)
  (stk:X.stack=X.env::X.outer:=by rfl) (hf:X.env.frame=AA X.env.locals:=by rfl) (v4:X.xe=λ_ _=>False:=by rfl) (Zn:gs.length=np:=by rfl)
  (Lj:Gl X W:=by rfl) (Li:Gl X kf:=by rfl) (hgx:Gl X x:=by rfl) (Lu:(W==("__debug__":CN))=AD:=by decide) (Ls:(kf==("__debug__":CN))=AD:=by decide) (hdx:(x==("__debug__":CN))=AD:=by decide) (Lq:(n==("__debug__":CN))=AD:=by decide) (rV:(n==("__classdict__":CN))=AD:=by decide)
  (he:AM [.Name n p1] X.env=(AD,eval (.Name n p1) X.env)::AM [] X.env:=by rfl) (n6:IJ (.Call (.Name kf p2) [.Name n p1] [] XG) (AA (.Name kn p3)) XN.line X.env=pure AD:=by rfl)
  (Lo:AM (e::es) X.env=(AD,eval e X.env)::AM es X.env:=by rfl) (JV:(DD FQ (AM es X.env)).any (·.1)=AD:=by rfl) (hsx:IJ (.Call (.Name x p6) (e::es) [] FQ) (AA (.Name tn p5)) K5.line X.env=pure AD:=by rfl) :
  VS X (.Try [.Assign [.Name tn p5] (.Call (.Name x p6) (e::es) [] FQ) K5] [.ExceptHandler (AA (.Name W nw)) (AA n) [.Assign [.Name kn p3] (.Call (.Name kf p2) [.Name n p1] [] XG) XN] p4] [] [] pos) (mB g gs mx ik ie bs):=by
 intro AF s σ H D' I h;obtain⟨τ,F,E,r,S,hg,q⟩:=h;refine wpAny_Try_except ?_;unfold mB at hg;split at hg
 .rename_i r' eg
  cases hg;refine K6 (DA (hb AF s σ H D' I {τ,F,E,r,S,eg,q}) (λfl s1 z=>?_) λe s1 z=>?_)
  .cases fl with
   |next=>exact IG (IG z)
   |brk=>exact z
   |cont=>exact z
   |ret u=>exact z
  .rw[v4] at z;exact z.elim
 .obtain⟨p,e1,hg⟩:=pA3 hg
  obtain⟨z,e2,hg⟩:=pA3 hg;cases hg;obtain⟨f,fd,ps,Fn,hm,hk,hbn⟩:=CL;refine K6 (UC (HV (pW I hgx hm ?_ hdx)) hsx);refine O4 (h₀:=X.base) I.ok.mod.kin hk (DA (ha FQ AF s σ H (λvs H1=>∃F1,Stp (ED σ E) F H F1 H1 (ED σ p.2)/\Sim X.K X.H₀ τ F1 H1 σ p.2/\Reps X.K F1 vs p.1) I {τ,F,E,p.1,p.2,S,e1,λvs F1 H1 s1 S1 r1=>{F1,s1,S1,r1}}) (λus s1 z0=>?_) λ_ _ z=>by rw[v4] at z;exact z.elim) Lo JV;obtain⟨vs,H1,I1,r1,F1,s1',S1,rp⟩:=z0;refine{I1.kIn,?_}
  have hl:us.length=ps.length:=by
   rw[<-r1.length];exact Fn.len vs H1 (λ_ _=>False) (λcls _ H2=>cls=.ref C/\∃F2,New F1 H1 F2 H2) {by rw[rp.length,mZ e1];exact Zn,F1,p.1,z,S1.sub,rp,e2,λF2 H2 n=>{rfl,F2,n}}
  refine S8 (MB (Fn.run X.A X.stack s1 H1 {us,[]} us vs (λ_ _=>False) (λcls _ H2=>cls=.ref C/\∃F2,New F1 H1 F2 H2) hr I1.env0 ?_ r1 {by rw[rp.length,mZ e1];exact Zn,F1,p.1,z,S1.sub,rp,e2,λF2 H2 n=>{rfl,F2,n}}) λrr s2 hq=>?_)
  .have:=hbn s1 us I1.kIn (by rw[EA];exact hl)
   rw[EA] at this;exact this
  .cases rr with
   |ok fl =>
    cases fl with
    |ret u=>obtain⟨_,_,_,_,_,_,_,z⟩:=hq;exact z.elim
    |next=>exact hq.elim
    |brk=>exact hq.elim
    |cont=>exact hq.elim
   |error ee =>
    obtain⟨a,H2,h1,fr,a0,rfl,Fy,_,F2,n2⟩:=hq;refine zVH (D:=D') I1 Fy KK oD hkf hkk hW hx hN hi hj K3 X7 SV stk hf (λpp H3 gr hp hl3=>?_) Lj Li Lu Ls Lq rV he n6;have n3:=n2.trans (New.gro n2.2 gr);have rr:Rep X.K (gro F2 H2 H3) (.ref pp) (.lst (bs.map D.bl)):=.lst (.inl (.inl (by rw[yQ hp];exact hl3))) (Pf bs);obtain⟨S4,w4⟩:=(S1.new n3).put (i:=ik) rr;obtain⟨S5,w5⟩:=S4.lose (i:=ie) (u:=AN);exact q _ _ _ (((s1'.trans n3.stp).weak w4).weak w5) S5
section
variable{K:AC}
def yI4(ds xs:List D):Out (D×List D):=match xs with
 |[.int 0,d]=>few ds.length (.ok (.non,d::ds))
 |_=>.bad
end
end L2
namespace L2
open PySem
structure TryS(P:CO)(w:D2)(K:AC)(mg:CN->Option AI)(base:D3)(C WA fk:AR)(bs:List Bool):Prop where
 KK:KU P w K mg base fk C bs
 hkf:mg "_law_kinds"=AA (.ref fk)
 hkk:E6 K (.ref fk)=AK
 hW:mg "WayError"=AA (.ref WA)
 hx:N2 K (.ref C) (.ref WA)=AA AK
def qM:List D->Out D
 |[.lst ds]=>match PH ds with
  |some (n::ns)=>.ok (.int (ns.foldl min n))
  |_=>.bad
 |_=>.bad
theorem zZ6{K:AC}:j7 K (λxs H Q=>∃(l:AR) (ns:List Int),xs=[.ref l]/\SqL K H l (ns.map V.int)/\ns≠[]/\∀m,m∈ns->(∀x∈ns,m<=x)->Q (.int m) H) qM:=λvs xs F H d Q s r hf k=>by
 unfold qM at hf;split at hf
 .split at hf
  .rename_i n ns e
   cases hf;obtain⟨v,rfl,r1⟩:=zZ2 r;obtain⟨a,ys,rfl,h1,h2⟩:=r1.isRefL;have:=kT e;subst this;have:=h2.vint;subst this;refine{a,_,rfl,h1.imp s.rd id,by simp,λm hm hl=>?_};obtain⟨f1,f2⟩:=El ns n;rw[l6 (hl _ f1) (f2 m hm)];exact k _ F H (.refl s) (.int _)
  .cases hf
 .cases hf
theorem yD4{Mc:List G}(hc:X.calm=AK)(hm:X.mg "min"=AN)(ha:VA X (e::es) Mc)(hg:Gl X "min":=by rfl)(he:AM (e::es) X.env=(AD,eval e X.env)::AM es X.env:=by rfl)(JV:(DD pos (AM es X.env)).any (·.1)=AD:=by rfl) :
  VE X (.Call (.Name "min" p) (e::es) [] pos) (gN qM Mc):=xS (zQ1 hc) zZ6 hm (by decide +kernel) ha hg 'd' 'd' he JV
end L2
namespace L2
open PySem PySem.Spec PyProof.Rows
section
variable{d:AR}{es:Array J0}
end
end L2
variable{E1 E':L2.Ev}{gi:L2.GI}{tt:L2.Ev->L2.Out (Bool×L2.Ev)}{gm:L2.GM}{m:L2.Mr}{t2:Bool}
namespace L2
open PySem
theorem IH{x:Out α}{a:α}{f:α->Out β}{r:Out β}(h:x=.ok a)(h2:f a=r):x.bind f=r:=by rw[h];exact h2
theorem HB{g g':GS}{E:Ev}{r:Out Fl}(h:g E=.ok (.nx E1))(h2:g' E1=r):GA g g' E=r:=by
 unfold GA;rw[h];exact h2
theorem pM{g g':GS}{E:Ev}{b:Bool}{d:D}(h:g E=.ok (.rt b d E1)):GA g g' E=.ok (.rt b d E1):=by
 unfold GA;rw[h];rfl
theorem aQ{t:Ev->Out (Bool×Ev)}{g g':GS}{E:Ev}{r:Out Fl}(h:t E=.ok (AK,E1))(h2:g E1=r):O6 t g g' E=r:=by
 unfold O6;rw[h];exact h2
theorem UQ{t:Ev->Out (Bool×Ev)}{g g':GS}{E:Ev}{r:Out Fl}(h:t E=.ok (AD,E1))(h2:g' E1=r):O6 t g g' E=r:=by
 unfold O6;rw[h];exact h2
theorem Ek{t:Tg}{g:GS}(P:Nat->Ev->Prop):∀{ds:List D} {E:Ev} (o:Nat),P o E ->
  (∀i d E,ds[i]?=AA d->P (o+i) E->∃E1,XA t d E=.ok E1/\∃E2,g E1=.ok (.nx E2)/\P (o+(i+1)) E2)->∃E',fF t g ds E=.ok (.nx E')/\P (o+ds.length) E'
 |[],E,o,h0,_=>{E,rfl,h0}
 |d::ds,E,o,h0,hs=>by
  obtain⟨E1,e1,E2,e2,p2⟩:=hs 0 d E rfl h0
  obtain⟨E',e',p'⟩:=Ek P (ds:=ds) (E:=E2) (o+1) p2 λi d' E3 hd hp=>by
   have:=hs (i+1) d' E3 (by simpa using hd) (by rw[show o+(i+1)=o+1+i by lia];exact hp);rw[show o+(i+1+1)=o+1+(i+1) by lia] at this;exact this
  refine{E',?_,?_}
  .unfold fF;rw[e1];simp only[Out.bind];rw[e2];exact e'
  .rw[BC,show o+(ds.length+1)=o+1+ds.length by lia];exact p'
theorem fO{t:Tg}{g:GS}{E:Ev}{ds:List D}(P:Nat->Ev->Prop)(hi:gi E=.ok (ds,E1))(h0:P 0 E1)
  (hs:∀i d E,ds[i]?=AA d->P i E->∃E1,XA t d E=.ok E1/\∃E2,g E1=.ok (.nx E2)/\P (i+1) E2):∃E',RB gi t g E=.ok (.nx E')/\P ds.length E':=by
 obtain⟨E',e,p⟩:=Ek (t:=t) (g:=g) P (ds:=ds) (E:=E1) 0 h0 (λi d E hd hp=>by
  rw[EV] at hp ⊢;exact hs i d E hd hp)
 refine{E',?_,by simpa using p};unfold RB;rw[hi];exact e
theorem yC{t:Ev->Out (Bool×Ev)}{g:GS}(P:Nat->Ev->Prop)(Q:Ev->Prop)
  (hs:∀n E,P n E->(∃E1,t E=.ok (AD,E1)/\Q E1)\/(∃E1 E2 m,t E=.ok (AK,E1)/\g E1=.ok (.nx E2)/\m<n/\P m E2)) :
  ∀(fuel n:Nat) (E:Ev),n<fuel->P n E->∃E',YI t g fuel E=.ok (.nx E')/\Q E'
 |0,n,E,hn,_=>by lia
 |fuel+1,n,E,hn,h=>by
  rcases hs n E h with⟨E1,e1,q⟩|⟨E1,E2,m,e1,e2,hm,p⟩
  .refine{E1,?_,q}
   unfold YI;rw[e1];rfl
  .obtain⟨E',e',q⟩:=yC P Q hs fuel m E2 (AQ hm (IB hn)) p
   refine{E',?_,q};unfold YI;rw[e1];simp only[Out.bind,if_true];rw[e2];exact e'
theorem Z0{x:Out α}(h:n<10000):few n x=x:=if_pos h
theorem yD5{t:Tg}(f:D->List D)(M:Nat)(P:Ev->Prop):∀{ds acc:List D} {E:Ev},P E->acc.length+ds.length * M<10000->(∀d∈ds,(f d).length<=M) ->
  (∀d∈ds,∀(acc:List D) (E:Ev),acc.length+M<10000->P E->∃E1,XA t d E=.ok E1/\∃b E2,tt E1=.ok (b,E2)/\((b=AK/\∃E3,gm (.lst acc) E2=.ok (.lst (acc++f d),E3)/\P E3)\/(b=AD/\f d=[]/\P E2))) ->
  ∃E',cE t tt gm ds (.lst acc) E=.ok (.lst (acc++ds.flatMap f),E')/\P E'
  := by
 intro ds
 induction ds with
 |nil=>intro acc E h0 _ _ _;exact{E,by simp[cE],h0}
 |cons d ds ih =>
  intro acc E h0 hl hM hs;rw[BC,Nat.succ_mul] at hl;obtain⟨E1,e1,b,E2,e2,h⟩:=hs d BB acc E 'l' h0;have hd:=hM d BB;rcases h with⟨rfl,E3,e3,p⟩|⟨rfl,ef,p⟩
  .obtain⟨E',e',p'⟩:=ih (acc:=acc++f d) (E:=E3) p (by rw[BN];lia) (λd hd=>hM d (A1 _ hd)) λd hd=>hs d (A1 _ hd)
   refine{E',?_,p'};unfold cE;rw[e1];simp only[Out.bind];rw[e2];simp only[if_true];rw[e3];simp only;rw[e',EF,DH]
  .obtain⟨E',e',p'⟩:=ih (acc:=acc) (E:=E2) p 'l' (λd hd=>hM d (A1 _ hd)) λd hd=>hs d (A1 _ hd)
   refine{E',?_,p'};unfold cE;rw[e1];simp only[Out.bind];rw[e2];simp only[if_false,DT];rw[e',EF,ef,HM]
theorem zZ7{ge:G}{acc:List D}{E:Ev}{x:D}(h:ge E=.ok (x,E'))(hl:acc.length<10000):Cg ge (.lst acc) E=.ok (.lst (acc++[x]),E'):=IH h (Z0 hl)
theorem zVK{t:Tg}{E:Ev}{ds:List D}(f:D->List D)(M:Nat)(P:Ev->Prop)(hi:gi E=.ok (ds,E1))(h0:P (WM k js E1))(hl:ds.length * M<10000)(hM:∀d∈ds,(f d).length<=M)
  (hs:∀d∈ds,∀(acc:List D) (E:Ev),acc.length+M<10000->P E->∃E1,XA t d E=.ok E1/\∃b E2,tt E1=.ok (b,E2)/\((b=AK/\∃E3,gm (.lst acc) E2=.ok (.lst (acc++f d),E3)/\P E3)\/(b=AD/\f d=[]/\P E2)))
  (hb:∀Ec,P Ec->XB E1 Ec k js=E1):yE gi k js (.lst []) t tt gm E=.ok (.lst (ds.flatMap f),E1):=by
 obtain⟨E',e',p'⟩:=yD5 f M P (ds:=ds) (acc:=[]) h0 (by simpa using hl) hM hs;unfold yE;rw[hi];simp only[Out.bind];rw[e'];simp only[Out.bind,HM];rw[hb _ p']
theorem kM{t:Tg}{ge:G}{E:Ev}{ds:List D}(f:D->List D)(P:Ev->Prop)(hi:gi E=.ok (ds,E1))(h0:P (WM k js E1))(hl:ds.length<10000)
  (hs:∀d∈ds,∀E,P E->∃E1,XA t d E=.ok E1/\∃b E2,tt E1=.ok (b,E2)/\((b=AK/\∃x E3,ge E2=.ok (x,E3)/\f d=[x]/\P E3)\/(b=AD/\f d=[]/\P E2)))
  (hb:∀Ec,P Ec->XB E1 Ec k js=E1):N6 gi k js t tt ge E=.ok (.lst (ds.flatMap f),E1):=by
 by_cases hP:∀d∈ds,∃E,P E
 .refine zVK f 1 P hi h0 'l' (λd hd=>?_) (λd hd acc E eC hE=>?_) hb
  .obtain⟨E,hE⟩:=hP d hd
   obtain⟨_,_,_,_,_,⟨_,x,_,_,ef,_⟩|⟨_,ef,_⟩⟩:=hs d hd E hE
   .rw[ef];exact AL _
   .rw[ef];exact BY _
  .obtain⟨E1,e1,b,E2,e2,⟨hb,x,E3,e3,ef,p⟩|h⟩:=hs d hd E hE
   .exact{E1,e1,b,E2,e2,.inl {hb,E3,by rw[ef];exact zZ7 e3 (AS (A3 _ _) eC),p}}
   .exact{E1,e1,b,E2,e2,.inr h}
 .exact absurd (λd hd=>{_,h0}) hP
def Pl(n:Nat)(d:D):Prop:=∃p,d.py=AA p/\p.depth<=n/\p.canLay0=AK
def Pls(n:Nat)(ds:List D):Prop:=∃ps,pAH ds=AA ps/\KL ps<=n/\FU ps=AK
theorem Pl.int(n:Nat)(i:Int):Pl n (.int i):={_,rfl,BY _,rfl}
theorem Pls.nil(n:Nat):Pls n []:={_,rfl,BY _,rfl}
theorem Pls.cons{d:D}{ds:List D}(h:Pl n d)(t:Pls n ds):Pls n (d::ds):=by
 obtain⟨p,e,a,b⟩:=h;obtain⟨ps,e2,a2,b2⟩:=t;exact{p::ps,by simp[pAH,e,e2],by simp only[KL];lia,by simp[FU,b,b2]}
theorem Pls.tup{n:Nat}{ds:List D}(t:Pls n ds):Pl (n+1) (.tup ds):=by
 obtain⟨ps,e2,a2,b2⟩:=t;exact{.tuple ps,by simp[D.py,e2],by simp only[F9];lia,b2}
theorem Pls.lst{n:Nat}{ds:List D}(t:Pls n ds):Pl (n+1) (.lst ds):=by
 obtain⟨ps,e2,a2,b2⟩:=t;exact{.list ps,by simp[D.py,e2],by simp only[F9];lia,b2}
theorem Pls.of{α:Type}{n:Nat}{f:α->D}:∀{xs:List α},(∀x∈xs,Pl n (f x))->Pls n (xs.map f)
 |[],_=>.nil n
 |x::xs,h=>.cons (h x BB) (Pls.of λy hy=>h y (A1 _ hy))
theorem Pls.ints(n:Nat)(ns:List Int):Pls n (ns.map D.int):=Pls.of λ_ _=>.int _ _
theorem zVL{d:D}(h:Pl 60 d):UW d d=.ok (.bl AK):=by
 obtain⟨p,e,a,b⟩:=h;unfold UW;simp only[e];rw[if_pos (AX (N9 _ _) a),jQ p b]
theorem zVM{d:D}(h:Pl 60 d):LZ d d=.ok (.bl AD):=by
 obtain⟨p,e,a,b⟩:=h;unfold LZ;simp only[e];rw[if_pos (AX (N9 _ _) a),jQ p b];rfl
theorem Dq(a b:Int):UW (.int a) (.int b)=.ok (.bl (decide (a=b))):=by
 simp only[UW,D.py,F9,C2]
 by_cases h:a=b<;>simp[h]
theorem Dp(a b:Int):LZ (.int a) (.int b)=.ok (.bl (decide (a≠b))):=by
 simp only[LZ,D.py,F9,C2]
 by_cases h:a=b<;>simp[h]
theorem zVN(a:Int):LZ (.int a) .non=.ok (.bl AK):=by
 simp[LZ,D.py,F9,C2]
theorem Pe{ds:List D}(h:Pls n ds):LZ (.lst ds) (.lst [])=.ok (.bl (!ds.isEmpty)):=by
 obtain⟨ps,e2,a2,b2⟩:=h;have e0:pAH []=AA []:=by simp[pAH]
 unfold LZ;simp only[D.py,e2,e0,Option.map];rw[if_pos (by simp only[F9,KL];lia),C2]
 cases ds with
 |nil=>rw[e0] at e2;cases e2;rfl
 |cons d ds =>
  cases ps with
  |nil =>
   simp only[pAH] at e2;split at e2<;>simp at e2
  |cons p ps=>rfl
theorem Ej:∀ns:List Int,pAH (ns.map D.int)=AA (ns.map PB)
 |[]=>by simp[pAH]
 |n::ns=>by simp[pAH,D.py,Ej ns]
theorem Pd(x:Int)(ns:List Int):RX (.int x) (.lst (ns.map D.int))=.ok (.bl (decide (x∈ns))):=by
 simp only[RX,Ej,D.py];rw[if_pos (show F9 (.int x)<=60 from BY _),Ew]
theorem Do(x:Int)(ns:List Int):RX (.int x) (.tup (ns.map D.int))=.ok (.bl (decide (x∈ns))):=by
 simp only[RX,Ej,D.py];rw[if_pos (show F9 (.int x)<=60 from BY _),Ew]
theorem zPN(ns:List Int):aY [.lst (ns.map D.int)]=.ok (.lst ((mK ns).map D.int)):=by simp[aY,nB]
theorem Uf(ps:List (Int×Int)):aY [.lst (ps.map G2)]=.ok (.lst ((Z1 ps).map G2)):=by
 cases ps with
 |nil=>simp[aY,PH,mK,Z1]
 |cons p ps =>
  have:=zM (p::ps);simp only[aY];rw[this,show PH ((p::ps).map G2)=AN from rfl]
theorem sP{xs:List α}{i:Int}{x:α}(h0:0<=i)(h:xs[i.toNat]?=AA x):atI xs i=AA x:=by
 have:=Qc (xs:=xs) (j:=i.toNat) h
 rwa [show((i.toNat:Nat):Int)=i by lia] at this
theorem Nl{i:Int}(h0:0<=i)(h:i<n):YH n i=AA i.toNat:=by
 unfold YH;rw[if_pos h0,if_pos h]
section
variable[DecidableEq κ]
theorem zJY(kvs:List (κ×D))(k:κ)(v:D):M9 (P4 kvs k v) k=AA v:=by
 unfold P4;split
 .rename_i h
  unfold M9
  induction kvs with
  |nil=>simp at h
  |cons kv kvs ih =>
   by_cases e:kv.1=k
   .simp[e]
   .simp only[ER,e,decide_false,Bool.false_or] at h
    have:=ih h;simpa[e] using this
 .rename_i h
  unfold M9;rw[eW]
  have:(kvs.find? λkv=>decide (kv.1=k))=AN:=by
   rw[List.find?_eq_none];intro x hx z;exact h (HA.mpr {x,hx,z})
  rw[this];simp
theorem zNE(kvs:List (κ×D)){k k':κ}(v:D)(hk:k'≠k):M9 (P4 kvs k v) k'=M9 kvs k':=by
 unfold P4;split
 .rename_i hh
  clear hh;unfold M9
  induction kvs with
  |nil=>rfl
  |cons kv kvs ih =>
   rw[AU]
   by_cases e:kv.1=k
   .rw[if_pos e,DR,DR]
    have:¬kv.1=k':=λz=>hk (z.symm.trans e);simp only[this,decide_false];exact ih
   .rw[if_neg e,DR,DR]
    by_cases e2:kv.1=k'
    .simp[e2]
    .simp only[e2,decide_false]
     exact ih
 .unfold M9
  rw[eW];have:(List.find? (λkv:κ×D=>decide (kv.1=k')) [(k,v)])=AN:=by simp[E7 hk]
  rw[this];simp
theorem Ei(kvs:List (κ×D))(k:κ)(v:D):(P4 kvs k v).length<=kvs.length+1:=by
 unfold P4;split
 .simp
 .simp
end
theorem TQ{gs:List G}{E:Ev}{ds:List D}{b:Bool}{d d':D}(h1:OU gs E=.ok (ds,E'))(h2:m (ds.map Sl.val)=.ok (b,d,d')):LD m gs E=.ok (d,E'):=IH h1 (IH h2 rfl)
theorem zVO{E:Ev}:OU [] E=.ok ([],E):=rfl
theorem QH{g:G}{gs:List G}{E:Ev}{d:D}{ds:List D}(h1:g E=.ok (d,E1))(h2:OU gs E1=.ok (ds,E2)):OU (g::gs) E=.ok (d::ds,E2):=IH h1 (IH h2 rfl)
theorem KS{g:G}{E:Ev}{d:D}(h1:g E=.ok (d,E1)):OU [g] E=.ok ([d],E1):=QH h1 zVO
theorem QX{f:List D->Out D}{gs:List G}{E:Ev}{ds:List D}{d:D}(h1:OU gs E=.ok (ds,E'))(h2:f ds=.ok d):gN f gs E=.ok (d,E'):=IH h1 (IH h2 rfl)
theorem mU{gs:List G}{E:Ev}{ds:List D}(h1:OU gs E=.ok (ds,E'))(h2:ds.length<10000):RD gs E=.ok (.tup ds,E'):=IH h1 (Z0 h2)
theorem kG{gs:List G}{E:Ev}{ds:List D}(h1:OU gs E=.ok (ds,E'))(h2:ds.length<10000):KM gs E=.ok (.lst ds,E'):=IH h1 (Z0 h2)
theorem SD{g:G}{E:Ev}{d:D}(h:g E=.ok (d,E')):OM g E=.ok (.rt AD d E'):=IH h rfl
theorem Pb{g:G}{E:Ev}{d:D}(h:g E=.ok (d,E')):xX g E=.ok (.rt AK d E'):=IH h rfl
theorem NO{g:G}{t:Tg}{E:Ev}{d:D}(h:g E=.ok (d,E'))(h2:XA t d E'=.ok E2):IN t g E=.ok (.nx E2):=IH h (IH h2 rfl)
theorem bD{g:G}{E:Ev}{d:D}(h:g E=.ok (d,E')):VH i g E=.ok (.nx (E'.set i (.own AD d))):=IH h rfl
theorem yT{g:G}{E:Ev}{d:D}(h:g E=.ok (d,E')):fG g E=.ok (.nx E'):=IH h rfl
theorem FN{f:D->D->Out D}{ga gb:G}{E:Ev}{x y d:D}(h1:ga E=.ok (x,E1))(h2:gb E1=.ok (y,E2))(h3:f x y=.ok d):g2 f ga gb E=.ok (d,E2):=IH h1 (IH h2 (IH h3 rfl))
theorem OT{g:G}{E:Ev}{b:Bool}(h:g E=.ok (.bl b,E')):gB g E=.ok (b,E'):=IH h rfl
theorem kD{g:G}{E:Ev}{d:D}{b:Bool}(h:g E=.ok (d,E'))(h2:Uw d=.ok b):W0 g E=.ok (b,E'):=IH h (IH h2 rfl)
theorem yS{t:Ev->Out (Bool×Ev)}{E:Ev}{b:Bool}(h:t E=.ok (b,E')):Z2 t E=.ok (!b,E'):=IH h rfl
theorem Cc{t u:Ev->Out (Bool×Ev)}{E:Ev}{r:Out (Bool×Ev)}(h:t E=.ok (AD,E'))(h2:u E'=r):j3 t u E=r:=IH h h2
theorem pL{t u:Ev->Out (Bool×Ev)}{E:Ev}{r:Out (Bool×Ev)}(h:t E=.ok (AK,E'))(h2:u E'=r):iE t u E=r:=IH h h2
theorem Cq{t u:Ev->Out (Bool×Ev)}{E:Ev}(h:t E=.ok (AD,E')):iE t u E=.ok (AD,E'):=IH h rfl
theorem bC{g:G}{E:Ev}{d:D}(h:g (OS is E)=.ok (d,E'))(h2:kJ is E d=AK):QD is g E=.ok (d,E):=IH h (if_pos h2)
theorem zZ9{g:G}{E:Ev}{d:D}(h:g (OS is E)=.ok (d,E'))(h2:d.kids=AK):By is g E=.ok (d,E):=IH h (if_pos h2)
theorem Z5{g:Ev->Out (Bool×Ev)}{E:Ev}{d:Bool}(h:g (OS is E)=.ok (d,E')):US is g E=.ok (d,E):=IH h rfl
theorem RC{gb:GS}{sl:Ev}{b:Bool}{d:D}{r:Out (Bool×D×D)}(h:gb (sl++BG (n-sl.length) .no)=.ok (.rt b d E'))(h2:fin sl E' b d=r):RU n gb sl=r:=IH h h2
theorem yR{c:String}{g:G}{E:Ev}{d:D}(h:g E=.ok (d,E')):pI c g E=.ok (.bl (uC (Ae d) c),E'):=IH h rfl
theorem Dn{g:G}{E:Ev}{j:Int}(h:g E=.ok (.int j,E'))(h2:mQ j):cI g E=.ok (TX 0 j.toNat,E'):=IH h (if_pos h2)
theorem yAA{g g':G}{E:Ev}{i j:Int}(h:g E=.ok (.int i,E1))(h1:g' E1=.ok (.int j,E'))(h2:mQ i/\mQ j):sD g g' E=.ok (TX i (j-i).toNat,E'):=IH h (IH h1 (if_pos h2))
theorem iK{g:G}{E:Ev}{ds:List D}(h:g E=.ok (.lst ds,E')):JS g E=.ok (ds,E'):=IH h rfl
theorem tH{g:G}{E:Ev}{ds:List D}(h:g E=.ok (.tup ds,E')):JS g E=.ok (ds,E'):=IH h rfl
theorem fQ{gk gv:G}{E:Ev}{t:Bool}{d0 d v k d':D}(h0:E[i]?=AA (.own t2 d0))(h1:gv E=.ok (v,E1))(h2:gk E1=.ok (k,E2))(h3:E2[i]?=AA (.own t d))(h4:qP d k v=.ok d'):RW i gk gv E=.ok (.nx (E2.set i (.own t d'))):=by
 unfold RW;rw[h0];simp only;rw[h1];simp only[Out.bind];rw[h2];simp only[h3];rw[h4]
theorem Qx{gs:List G}{E:Ev}{t:Bool}{d0 d x d':D}{ds:List D}{b:Bool}(h0:E[i]?=AA (.own t2 d0))(h1:OU gs E=.ok (ds,E1))(h2:E1[i]?=AA (.own t d))(h3:m (.own AK d::ds.map Sl.val)=.ok (b,x,d')):LJ m i gs E=.ok (x,E1.set i (.own t d')):=by
 unfold LJ;rw[h0];simp only;rw[h1];simp only[Out.bind,h2];rw[h3]
theorem pT{f:List D->List D->Out (D×List D)}{gs:List G}{E:Ev}{t:Bool}{xs0 xs:List D}{ds V9:List D}{x:D}(h0:E[i]?=AA (.own t2 (.lst xs0)))(h1:OU gs E=.ok (ds,E1))(h2:E1[i]?=AA (.own t (.lst xs)))(h3:f xs ds=.ok (x,V9)):SC i f gs E=.ok (x,E1.set i (.own t (.lst V9))):=by
 unfold SC;rw[h0];simp only;rw[h1];simp only[Out.bind,h2];rw[h3]
theorem zVP{gf:G}{gs:List G}{E:Ev}{d x d':D}{ds:List D}{b:Bool}(h0:gf E=.ok (d,E1))(h1:OU gs E1=.ok (ds,E2))(h3:m (.own AK d::ds.map Sl.val)=.ok (b,x,d')):pO m gf gs E=.ok (x,E2):=IH h0 (IH h1 (IH h3 rfl))
theorem zVQ{gs:List G}{E:Ev}{ds:List D}{d d':D}(h1:OU gs E=.ok (ds,E'))(h2:m (ds.map Sl.val)=.ok (AK,d,d')):pP m gs E=.ok (d,E'):=IH h1 (IH h2 rfl)
theorem Nk{gd gk gx:G}{E E3:Ev}{a k x:D}{o:Option D}(h1:gd E=.ok (a,E1))(h2:gk E1=.ok (k,E2))(h3:gx E2=.ok (x,E3))(h4:iB a k=AA o):cD gd gk gx E=.ok (o.getD x,E3):=IH h1 (IH h2 (IH h3 (by simp only[h4])))
theorem yGH{ga gb:G}{E:Ev}{r:Out (D×Ev)}(h:ga E=.ok (.bl AK,E1))(h2:gb E1=r):Gp ga gb E=r:=IH h h2
theorem yD6{ga:G}{E:Ev}{b:Bool}(h:ga E=.ok (.bl b,E1)):Go ga E=.ok (.bl (!b),E1):=IH h rfl
theorem blT{p:Prop}[Decidable p](h:p):(Out.ok (D.bl (decide p)):Out D)=.ok (.bl AK):=by rw[decide_eq_true h]
theorem blF{p:Prop}[Decidable p](h:¬p):(Out.ok (D.bl (decide p)):Out D)=.ok (.bl AD):=by rw[decide_eq_false h]
theorem Hh{ds:List D}(h:ds.length=n):QV [.lst ds]=.ok (.int n):=by subst h;rfl
theorem yGI{ds:List D}(h:ds.length=n):QV [.tup ds]=.ok (.int n):=by subst h;rfl
theorem Wm{a b c:List D}(h:a.length+b.length<10000)(e:a++b=c):MZ (.lst a) (.lst b)=.ok (.lst c):=by subst e;exact Z0 h
theorem yD8{o:Option D}{d:D}(h:o=AA d):(match o with|some d=>Out.ok d|none=>.bad)=.ok d:=by subst h;rfl
theorem qL{ds:List D}{i:Int}{d:D}(h:atI ds i=AA d):E8 (.lst ds) (.int i)=.ok d:=yD8 h
theorem Pa{o:Option (Option D)}{d:D}(h:o=AA (AA d)):(match o with|some (AA d)=>Out.ok d|_=>.bad)=.ok d:=by subst h;rfl
theorem Gm{kvs:List (Key×D)}{i:Int}{d:D}(h:M9 kvs (.inl i)=AA d):E8 (.dk kvs) (.int i)=.ok d:=Pa (congrArg AA h)
theorem Wl{ds:List D}{i:Int}{v:D}(h:YH ds.length i=AA j):qP (.lst ds) (.int i) v=.ok (.lst (ds.set j v)):=by
 show(match YH ds.length i with|some j=>Out.ok (D.lst (ds.set j v))|none=>.bad)=_;rw[h]
theorem Vz{kvs:List (Key×D)}{i:Int}{v:D}(h:kvs.length<10000):qP (.dk kvs) (.int i) v=.ok (.dk (P4 kvs (.inl i) v)):=Z0 h
theorem zPO(x:Int)(ns:List Int):P5 (.int x) (.tup (ns.map D.int))=.ok (.bl (decide (x∉ns))):=by
 rw[P5,Do];simp[Out.bind]
theorem Tj(x:Int)(ns:List Int):P5 (.int x) (.lst (ns.map D.int))=.ok (.bl (decide (x∉ns))):=by
 rw[P5,Pd];simp[Out.bind]
theorem Ue{f:D->List D}{g:Int->D}(p:Int->Bool)(h:∀x,f (.int x)=if p x=AK then[g x] else[]):∀l:List Int,(l.map D.int).flatMap f=(l.filter p).map g
 |[]=>rfl
 |x::l=>by
  rw[AU,EF,Ue p h l,h x,IR]
  by_cases e:p x=AK
  .rw[if_pos e,if_pos e];rfl
  .rw[if_neg e,if_neg e];rfl
end L2
variable{vn vg:L2.V}{ρ:Int->AR}{IS:AR->Prop}{g':Int->List Int}{tb:L2.TS}
namespace L2
open PySem PySem.Spec PyProof.Rows
def Nj(tl:TE):TI:=λσ H R=>tl σ H λx H1=>∃a o kvs,x=.ref a/\H1 a=AA (.frz o (.dK kvs))/\R (At a o kvs) H1
theorem zVR{l:CU}(hl:PE X l tl):PI X tg l (Nj tl):=by
 intro AF s σ H R I h;refine GY (hl AF s σ H _ I h) λv s1 q0=>?_;obtain⟨x,H1,I1,r1,a,o,kvs,e,ha,q⟩:=q0;subst e;cases r1;obtain⟨ho,hx⟩:=I1.hok a _ ha;obtain⟨es,ep,KO,e1,e2,e3⟩:=mY hx;obtain⟨o',q1,q2,q3⟩:=id KO.ex;rw[ho] at q1;cases q1;refine p8 KO λh' k ki=>?_;refine{s1.heap.objs.size,[s1.heap.objs.size],_,_,_,rfl,I1.kept (t':=s1.toks) k,zN a _ o kvs es ep q3 e1,ki,λb hb=>?_,q};have e:b=s1.heap.objs.size:=by simpa using hb
 subst e;exact I1.fpOk (AL _) (I1.hok.fresh (AL _))
section
variable{K:AC}{E:Ev}{ow M:AR->Prop}
theorem Stp.fr(h:∀a,¬ow a)(x:Stp ow F H F1 H1 UY):Stp M F H F1 H1 M :=
 {λa o e w n _=>x.keep a o e w n (h a),x.dom,x.le,λa o e=>(x.new a o e).imp_right λz=>z.imp_right λq=>(h a q).elim,λ_ q=>.inl q}
theorem Dm{b:AR}(e:D5 H a o b=AN):H b=AN:=by
 by_cases z:b=a
 .rw[z,HC] at e;cases e
 .rw[EW z] at e;exact e
theorem Stp.mine(h:M a):Stp M F H F (D5 H a o) M :=
 {λb u e _ _ n=>by rw[EW (λz:b=a=>n (by rw[z];exact h))];exact e,λb e=>Dm e,.refl _,λb u e=>.inl (by rw[e];exact nofun),λ_ q=>.inl q}
theorem pAP{M':AR->Prop}{p:AR}(h:H p=AN)(hM:∀b,M' b->M b\/b=p):Stp M F H F (D5 H p o) M' :=
 {λb u e _ _ _=>by rw[EW (VL e h)];exact e,λb e=>Dm e,.refl _,λb u e=>.inl (by rw[e];exact nofun),λb q=>(hM b q).imp id λz:b=p=>by rw[z];exact h}
theorem yEB(s:Sub F H)(hl:E.length=σ.length)(hv:∀(i:Nat) d,E[i]?=AA (.val d)->∃v,σ[i]?=AA (AA v)/\Rep K F v d)(ho:∀(i:Nat) t d,E[i]?≠AA (.own t d)):Sim K H₀ τ F H σ E :=
 {s,hl,hv,λi t d e=>absurd e (ho i t d),λi j t u d d' a e=>absurd e (ho i t d)}
def rA:Option D->Sl
 |none=>.no
 |some d=>.val d
def iO(net BH:D)(x2 x3 x4 x5:Option D):Ev:=[.val net,.val BH,rA x2,rA x3,rA x4,rA x5,.no]
theorem Vy{net BH:D}{x2 x3 x4 x5:Option D}:∀(i:Nat) t d,(iO net BH x2 x3 x4 x5)[i]?≠AA (.own t d)
 |0,_,_=>λh=>by cases h
 |1,_,_=>λh=>by cases h
 |2,_,_=>λh=>by cases x2<;>cases h
 |3,_,_=>λh=>by cases x3<;>cases h
 |4,_,_=>λh=>by cases x4<;>cases h
 |5,_,_=>λh=>by cases x5<;>cases h
 |6,_,_=>λh=>by cases h
 |_+7,_,_=>λh=>by cases h
theorem pK{net BH:D}{x2 x3 x4 x5:Option D}(a:AR):¬ED σ (iO net BH x2 x3 x4 x5) a:=(λq0=>by obtain⟨i,t,d,e,_⟩:=q0;exact Vy i t d e)
def OptR(K:AC)(F:Hp)(u:Option V)(x:Option D):Prop:=∀d,x=AA d->∃v,u=AA v/\Rep K F v d
theorem OptR.none{u:Option V}:OptR K F u AN:=λ_ h=>by cases h
theorem OptR.some{v:V}{d:D}(h:Rep K F v d):OptR K F (AA v) (AA d):=λ_ e=>by cases e;exact{_,rfl,h}
theorem OptR.sl{u:Option V}{x:Option D}{d:D}(h:OptR K F u x)(e:rA x=.val d):∃v,u=.some v/\Rep K F v d:=by
 cases x with
 |none=>cases e
 |some y=>cases e;exact h _ rfl
theorem yB{net BH:D}{x2 x3 x4 x5:Option D}{u2 u3 u4 u5 u6:Option V}(s:Sub F H)(hn:Rep K F vn net)(hg:Rep K F vg BH)(h2:OptR K F u2 x2)(h3:OptR K F u3 x3)(h4:OptR K F u4 x4)(h5:OptR K F u5 x5) :
  Sim K H₀ τ F H [AA vn,AA vg,u2,u3,u4,u5,u6] (iO net BH x2 x3 x4 x5):=by
 refine yEB s rfl (λi d e=>?_) Vy
 have op:∀{u:Option V} {x:Option D},OptR K F u x->AA (rA x)=AA (.val d)->∃v,AA u=AA (AA v)/\Rep K F v d:=λh e=>by
  obtain⟨v,rfl,r⟩:=h.sl (BL e);exact{v,rfl,r}
 match i,e with
 |0,e=>cases e;exact{_,rfl,hn}
 |1,e=>cases e;exact{_,rfl,hg}
 |2,e=>exact op h2 e
 |3,e=>exact op h3 e
 |4,e=>exact op h4 e
 |5,e=>exact op h5 e
 |6,e=>cases e
 |_+7,e=>cases e
noncomputable def VR(ρ:Int->AR)(l:List Int):List (Key×V):=l.map λp=>(CQ p,V.ref (ρ p))
structure Rws(F H:Hp)(a:AR)(ρ:Int->AR)(l:List Int)(g:Int->List Int):Prop where
 at':∀p∈l,H (ρ p)=AA (.lst ((g p).map V.int))/\F (ρ p)=AN/\ρ p≠a
 inj:∀p∈l,∀q∈l,ρ p=ρ q->p=q
theorem Qw{ρ:Int->AR}{p:Int}:∀{l:List Int},p∈l->QW (VR ρ l) (CQ p:Key)=AA (.ref (ρ p))
 |x::l,h=>by
  unfold QW VR;rw[AU,DR]
  by_cases e:x=p
  .subst e;simp
  .have:decide ((CQ x:Key)=CQ p)=AD:=decide_eq_false λz=>e (HX z)
   simp only[this];exact Qw (l:=l) ((A2.mp h).resolve_left (E7 e))
theorem zVS{p:Int}{r:AR}{l:List Int}(h:p∉l):TJ (VR ρ l) (CQ p:Key) (.ref r)=VR (λq=>if q=p then r else ρ q) (l++[p]):=by
 unfold TJ;rw[if_neg]
 .unfold VR
  rw[HN]
  congr 1
  .exact IV λq hq=>by
    have:q≠p:=λz=>h (z▸hq);simp only[this,if_false]
  .simp
 .unfold VR
  simp only[Q8,HA,OJ,decide_eq_true_eq,not_exists,not_and];exact λq hq z=>h (HX z▸hq)
structure Tb(K:AC)(net BH:D)(vn vg:V)(ow:AR->Prop)(Fs Hs F H:Hp)(M:AR->Prop):Prop where
 sub:Sub F H
 n:Rep K F vn net
 g:Rep K F vg BH
 st:Stp ow Fs Hs F H M
variable{net BH:D}{Fs Hs:Hp}
theorem Tb.to(T:Tb K net BH vn vg IS Fs Hs F H M){M':AR->Prop}(s:Stp M F H F1 H1 M')(sb:Sub F1 H1):Tb K net BH vn vg IS Fs Hs F1 H1 M' :=
 {sb,T.n.le s.le,T.g.le s.le,T.st.trans s}
theorem Tb.step(T:Tb K net BH vn vg IS Fs Hs F H M)(h:∀a,¬ow a)(s:Stp ow F H F1 H1 UY)(sb:Sub F1 H1):Tb K net BH vn vg IS Fs Hs F1 H1 M:=T.to (s.fr h) sb
theorem Rws.step{l:List Int}{g:Int->List Int}(R:Rws F H a ρ l g)(h:∀a,¬ow a)(s:Stp ow F H F1 H1 UY):Rws F1 H1 a ρ l g :=
 {λp hp=>let ⟨x,y,z⟩:=R.at' p hp;{s.keep _ _ x trivial y (h _),s.nF y x trivial (h _),z},R.inj}
theorem Sub.off(s:Sub F H)(h:F a=AN):Sub F (D5 H a o):=λb u e=>by
 rw[EW (VL e h)];exact s b u e
theorem Sub.both(s:Sub F H):Sub (D5 F a o) (D5 H a o):=λb u e=>by
 by_cases z:b=a
 .rw[z,HC] at e ⊢;exact e
 .rw[EW z] at e ⊢;exact s b u e
def Ut(K:AC)(H₀:Hp)(m:Mr):TS:=z6 (tI K H₀ (JS (LD m [AZ 0,AZ 1,gC .non]))) (bB 3) (Wo (aU 2) (aU 3) (qY zZ))
def tabIn(K:AC)(H₀:Hp):TS:=z6 (Nj (aU 2)) (bB 3) (Vt (tT K H₀ (gB (g2 P5 (AZ 3) (AZ 5)))) (Wu (Wz K "list" Dw (kU yK (aU 2) (aU 3)) (sI (aU 4) zZ))) Wt)
def Gk(K:AC)(H₀:Hp)(m:Mr):TS:=z6 (Op (aU 2)) (bB 4) (mE (j2 (tV K H₀ (LD m [AZ 0,AZ 1,AZ 4])) (bB 5)) (tabIn K H₀))
structure TabC(m:Mr)(E:Ev)(net BH:D)(L:List Int)(left:Int->List Int):Prop where
 env:E=[.val net,.val BH,.own AD (.dk []),.no,.no,.no,.no]
 all:∃b d',m [.val net,.val BH,.val .non]=.ok (b,.lst (L.map D.int),d')
 nd:L.Nodup
 len:L.length<=1000
 each:∀c∈L,∃b d',m [.val net,.val BH,.val (.int c)]=.ok (b,.lst ((left c).map D.int),d')
noncomputable def kC(L:List Int)(left:Int->List Int):D:=.dk (L.map λp=>(CQ p,.lst ((L.filter λc=>decide (p∉left c)).map D.int)))
open Classical in
def nE(m:Mr):GS:=λE=>if h:∃q:(D×D)×List Int×(Int->List Int),TabC m E q.1.1 q.1.2 q.2.1 q.2.2 then .ok (.nx (iO h.choose.1.1 h.choose.1.2 (AA (kC h.choose.2.1 h.choose.2.2)) AN AN AN)) else .bad
theorem tab_of{r:Fl}(h:nE m E=.ok r):∃net BH L left,TabC m E net BH L left/\r=.nx (iO net BH (AA (kC L left)) AN AN AN):=by
 unfold nE at h;split at h
 .rename_i e
  cases h;exact{_,_,_,_,e.choose_spec,rfl}
 .cases h
theorem Qv{a b:List Int}(h:a.map D.int=b.map D.int):a=b:=by
 have:=congrArg PH h;rw[nB,nB] at this;exact BL this
theorem yAD{L:List Int}{left:Int->List Int}(h:TabC m E net BH L left):nE m E=.ok (.nx (iO net BH (AA (kC L left)) AN AN AN)):=by
 have e:∃q:(D×D)×List Int×(Int->List Int),TabC m E q.1.1 q.1.2 q.2.1 q.2.2:={((net,BH),L,left),h};unfold nE;rw[dif_pos e];have z:=e.choose_spec;generalize e.choose=q at z;obtain⟨⟨n',g'⟩,L',k8⟩:=q;have ee:=h.env.symm.trans z.env;injection ee with e1 ee;injection ee with e2 ee;injection e1 with e1;injection e2 with e2;simp only at e1 e2 z ⊢;subst e1 e2;obtain⟨b,d,x⟩:=h.all;obtain⟨b',d',y⟩:=z.all;rw[x] at y;have eL:L=L':=Qv (by injection y with y;injection y with _ y;injection y with y;injection y);subst eL
 have:kC L k8=kC L left:=by
  unfold kC
  congr 1
  refine IV λp hp=>?_
  congr 3
  refine Q7 λc hc=>?_;obtain⟨b,d,x⟩:=h.each c hc;obtain⟨b',d',y⟩:=z.each c hc;rw[x] at y;have:left c=k8 c:=Qv (by injection y with y;injection y with _ y;injection y with y;injection y);rw[this]
 rw[this]
theorem Sh{ρ:Int->AR}{g:Int->List Int}:∀{l:List Int},(∀p∈l,F (ρ p)=AA (.lst ((g p).map V.int)))->RepK K F (VR ρ l) (l.map λp=>(CQ p,.lst ((g p).map D.int)))
 |[],_=>.nil
 |p::l,h=>.cons (.lst (.inl (.inl (h p BB))) (Reps.ints _)) (Sh λq hq=>h q (A1 _ hq))
end
theorem Le.frz{F F':Hp}(l:Le F F'){a:AR}{o:HL}{u:HO}(h:F a=AA (.frz o u)):F' a=AA (.frz o u):=by
 rcases l a _ h with z|⟨z,_⟩|⟨_,_,_,z,_⟩
 .exact z
 .exact z.elim
 .cases z
theorem yGL{p:Prop}[Decidable p]{A:Prop}(h:¬p)(b:B):if p then A else B:=by rw[if_neg h];exact b
theorem yGM{p:Prop}[Decidable p]{A:Prop}(h:p)(b:A):if p then A else B:=by rw[if_pos h];exact b
theorem uD(h:n+64<GT):n+1<GT:=by omega
theorem Et{L:List Int}(h:i<L.length)(q:Int):q∈L.take (i+1)↔q∈L.take i\/q=L[i]:=by
 rw[BK h,CG,A8]
theorem Es{L:List Int}(nd:L.Nodup)(h:i<L.length):L[i]∉L.take i:=λz=>by
 have:(L.take (i+1)).Nodup:=nd.sublist (Q6 _ _);rw[BK h,MD] at this;exact this.2.2 _ z _ (A8.mpr rfl) rfl
theorem Ni{L:List Int}{k:Key}(h:i<L.length)(e:((VR ρ L).map (·.1))[i]?=AA k):k=.inl L[i]:=by
 unfold VR at e;rw[D7,AV,A7 h] at e;exact(BL e).symm
theorem tE{L:List Int}:(VR ρ L).length=L.length:=AJ ..
theorem Rws.congr{l:List Int}{g:Int->List Int}(R:Rws F H a ρ l g)(h:∀p∈l,g p=g' p):Rws F H a ρ l g':={λp hp=>by rw[<-h p hp];exact R.at' p hp,R.inj}
theorem Rws.app{l:List Int}{g:Int->List Int}{p c:Int}(R:Rws F H a ρ l g)(hp:p∈l)(h1:g' p=g p++[c])(h2:∀q∈l,q≠p->g' q=g q) :
  Rws F (D5 H (ρ p) (.lst ((g p).map V.int++[.int c]))) a ρ l g':={λq hq=>by
 obtain⟨x,y,z⟩:=R.at' q hq;refine{?_,y,z}
 by_cases e:q=p
 .subst e;rw[HC,h1,HN];rfl
 .rw[EW (λw=>e (R.inj q hq p hp w)),x,h2 q hq e],R.inj}
theorem Hg{g:TG}(I:Nat->St->Hp->Prop)(h0:I 0 σ H)(hg:∀i σ H,i<n->I i σ H->J.go i H)(hd:∀σ H,I n σ H->J.stop n H/\D'.nx σ H)
  (hs:∀i σ H x H',i<n->I i σ H->J.yld i H x H'->g x σ H' λσ2 H2=>tb { D' with nx:=I (i+1),ct:=I (i+1),bk:=D'.nx } σ2 H2) :
  ∃W:Nat->Nat->St->Hp->Prop,(∃m,W 0 m σ H)/\∀i m σ H,W i m σ H ->
   (J.stop i H/\D'.nx σ H)\/(J.go i H/\∃N:St->Hp->Prop,(∀σ' H',N σ' H'->∃m',m'<m/\W (i+1) m' σ' H')/\∀x H',J.yld i H x H'->g x σ H' λσ2 H2=>tb { D' with nx:=N,ct:=N,bk:=D'.nx } σ2 H2):=by
 refine{λi m σ H=>m=n-i/\i<=n/\I i σ H,{n,rfl,BY _,h0},λi m σ H h=>?_};have hm:=h.1;have hi:=h.2.1;have hI:=h.2.2
 by_cases e:i<n
 .exact .inr {hg i σ H e hI,I (i+1),λσ' H' h=>{n-(i+1),by omega,rfl,e,h},λx H' y=>hs i σ H x H' e hI y}
 .have e:i=n:=by omega
  rw[e] at hI ⊢;exact .inl (hd σ H hI)
section
variable{K:AC}{E:Ev}{net BH:D}{Fs Hs:Hp}{o:HL}{L xs:List Int}{c:Int}{g:Int->List Int}{u3 u4 u5 u6:Option V}
structure Tm(K:AC)(net BH:D)(vn vg:V)(IS:AR->Prop)(Fs Hs:Hp)(a:AR)(o:HL)(ρ:Int->AR)(L:List Int)(g:Int->List Int)(F H:Hp):Prop where
 tb:Tb K net BH vn vg IS Fs Hs F H (λb=>∃p∈L,b=ρ p)
 fr:F a=AA (.frz o (.dK (VR ρ L)))
 rw:Rws F H a ρ L g
theorem Tm.congr{g':Int->List Int}(T:Tm K net BH vn vg IS Fs Hs a o ρ L g F H)(h:∀p∈L,g p=g' p):Tm K net BH vn vg IS Fs Hs a o ρ L g' F H:={T.tb,T.fr,T.rw.congr h}
theorem Tm.step{ow UY:AR->Prop}{F1 H1:Hp}(T:Tm K net BH vn vg IS Fs Hs a o ρ L g F H)(h:∀a,¬ow a)(s:Stp ow F H F1 H1 UY)(sb:Sub F1 H1):Tm K net BH vn vg IS Fs Hs a o ρ L g F1 H1:={T.tb.step h s sb,s.le.frz T.fr,T.rw.step h s}
theorem Tm.app{p:Int}{g':Int->List Int}(T:Tm K net BH vn vg IS Fs Hs a o ρ L g F H)(hp:p∈L)(h1:g' p=g p++[c])(h2:∀q∈L,q≠p->g' q=g q):Tm K net BH vn vg IS Fs Hs a o ρ L g' F (D5 H (ρ p) (.lst ((g p).map V.int++[.int c]))) :=
 {T.tb.to (Stp.mine {p,hp,rfl}) (T.tb.sub.off (T.rw.at' p hp).2.1),T.fr,T.rw.app hp h1 h2}
def Xn(K:AC)(net BH:D)(vn vg:V)(IS:AR->Prop)(Fs Hs:Hp)(a:AR)(o:HL)(ρ:Int->AR)(L:List Int)(g:Nat->Int->List Int)(w4 w5 w6:Option V)(xs:Option (V×List Int))(i:Nat)(σ:St)(H:Hp):Prop :=
 ∃F u3 u4 u5,σ=[AA vn,AA vg,AA (.ref a),u3,u4,u5,w6]/\Tm K net BH vn vg IS Fs Hs a o ρ L (g i) F H/\∀v ys,xs=AA (v,ys)->Rep K F v (.lst (ys.map D.int))/\u4=w4/\u5=w5
theorem zPP(T:Tm K net BH vn vg IS Fs Hs a o ρ L g F H)(nd:L.Nodup)(hl:∀p∈L,(g p).length<9000)(rv:Rep K F v (.lst (xs.map D.int)))
  (k:∀F' H' u3,Tm K net BH vn vg IS Fs Hs a o ρ L (λp=>g p++if p∉xs then[c] else[]) F' H'->D'.nx [AA vn,AA vg,AA (.ref a),u3,AA (.int c),AA v,u6] H') :
  tabIn K H₀ D' [AA vn,AA vg,AA (.ref a),u3,AA (.int c),AA v,u6] H:=by
 refine{_,rfl,a,o,VR ρ L,rfl,T.tb.sub _ _ T.fr,Hg (n:=L.length) (Xn K net BH vn vg IS Fs Hs a o ρ L (λi p=>g p++if p∈L.take i/\p∉xs then[c] else[]) (AA (.int c)) (AA v) u6 (AA (v,xs))) {F,u3,_,_,rfl,T.congr λp _=>by simp,λ_ _ e=>by cases e;exact{rv,rfl,rfl}} (λi σ H hi h=>?_) (λσ H h=>?_) λi σ H x H2 IU h y=>?_}
 .obtain⟨F,_,_,_,_,T,_⟩:=h
  exact{by rw[tE];exact hi,T.tb.sub _ _ T.fr}
 .obtain⟨F,u3,u4,u5,rfl,T,hv⟩:=h
  obtain⟨_,rfl,rfl⟩:=hv v xs rfl;refine{{by rw[tE];exact AL _,T.tb.sub _ _ T.fr},k F H u3 (T.congr λp hp=>?_)};dsimp only;rw[EJ];simp only[hp,true_and]
 .obtain⟨F,u3,u4,u5,rfl,T,hv⟩:=h
  obtain⟨rv,rfl,rfl⟩:=hv v xs rfl;obtain⟨rfl,kk,rfl,ek⟩:=y;obtain rfl:=Ni IU ek;obtain⟨p,hp⟩:∃p,p=L[i]:={_,rfl};have gF:p∈L:=by rw[hp];exact GF IU
  have Kl:p∉L.take i:=by rw[hp];exact Es nd IU
  have tm:∀q,q∈L.take (i+1)↔q∈L.take i\/q=p:=by rw[hp];exact Et IU
  have tn:∀q,q≠p->(q∈L.take (i+1)↔q∈L.take i):=λq e=>(tm q).trans {λz=>z.resolve_right e,.inl};rw[<-hp];refine{a,F,iO net BH AN (AA (.int p)) AN (AA (.lst (xs.map D.int))),decide (p∉xs),_,yB T.tb.sub T.tb.n T.tb.g .none (.some (.int p)) .none (.some rv),OT (FN (x:=.int p) (y:=.lst (xs.map D.int)) rfl rfl (Tj p xs)),λF3 H3 s3 S3=>?_};have T3:=T.step pK s3 S3.sub;have Yd:=rv.le s3.le
  by_cases hx:p∈xs
  .refine yGL (by simp[hx]) {F3,AA (.int p),_,_,rfl,T3.congr λq hq=>?_,λ_ _ e=>by cases e;exact{Yd,rfl,rfl}}
   by_cases e:q=p
   .subst e;simp[hx]
   .simp only[tn q e]
  .obtain⟨h1,h2,h3⟩:=T3.rw.at' p gF
   refine yGM (by simp[hx]) {_,rfl,_,rfl,a,.ref (ρ p),rfl,.inl {VR ρ L,.inl p,.inr {o,S3.sub _ _ T3.fr},rfl,(Qw gF).symm},.inl {rfl,_,SqL.of h1},_,rfl,ρ p,_,.int c,rfl,rfl,h1,fJ ?_,F3,AA (.int p),_,_,rfl,?_,λ_ _ e=>by cases e;exact{Yd,rfl,rfl}}
   .have:=hl p gF
    rw[AJ,BN];split
    .simp only[FI];omega
    .simp only[JC];omega
   .refine T3.app gF ?_ λq hq e=>?_
    .dsimp only
     rw[if_pos {(tm p).mpr (.inr rfl),hx},if_neg (λz=>Kl z.1),EA]
    .simp only[tn q e]
theorem zSG{left:Int->List Int}(T:Tb K net BH vn vg IS Fs Hs F H (λb=>b=a\/∃p∈L,b=ρ p))(nd:L.Nodup)(ET:L.length<=1000)(fa:F a=AN)(ha:H a=AA (.dK (VR ρ L)))(R:Rws F H a ρ L (λ_=>[]))
  (each:∀c∈L,∃b d',m [.val net,.val BH,.val (.int c)]=.ok (b,.lst ((left c).map D.int),d'))
  (k:∀F' H' u3 u4 u5 o,Tm K net BH vn vg IS Fs Hs a o ρ L (λp=>L.filter λc=>decide (p∉left c)) F' H'->D'.nx [AA vn,AA vg,AA (.ref a),u3,u4,u5,u6] H') :
  Gk K H₀ m D' [AA vn,AA vg,AA (.ref a),u3,u4,u5,u6] H:=by
 refine{_,rfl,a,VR ρ L,rfl,ha,λo=>?_}
 have T1:Tm K net BH vn vg IS Fs Hs a o ρ L (λ_=>[]) (D5 F a (.frz o (.dK (VR ρ L)))) (D5 H a (.frz o (.dK (VR ρ L)))):=by
  refine{T.to {λb u e _ _ n=>?_,λb e=>Dm e,.of_gr (Gr.new fa),λb u e=>?_,λb q=>.inl (.inr q)} T.sub.both,HC,{λp hp=>?_,R.inj}}
  .rw[EW (λz=>n (.inl z))];exact e
  .by_cases z:b=a
   .exact .inr (.inr (.inl z))
   .rw[EW z] at e;exact .inl (by rw[e];exact nofun)
  .have z:=(R.at' p hp).2.2
   rw[EW z,EW z];exact R.at' p hp
 refine Hg (n:=L.length) (Xn K net BH vn vg IS Fs Hs a o ρ L (λi p=>(L.take i).filter λc=>decide (p∉left c)) AN AN u6 AN) {_,u3,u4,u5,rfl,T1.congr λp _=>by simp,λ_ _ e=>by cases e} (λi σ H hi h=>?_) (λσ H h=>?_) λi σ H x H2 IU h y=>?_
 .obtain⟨F,_,_,_,_,T,_⟩:=h
  exact{by rw[tE];exact hi,T.tb.sub _ _ T.fr}
 .obtain⟨F,u3,u4,u5,rfl,T,_⟩:=h
  exact{{by rw[tE];exact AL _,T.tb.sub _ _ T.fr},k F H u3 u4 u5 o (T.congr λp hp=>by dsimp only;rw[EJ])}
 .obtain⟨F,u3,u4,u5,rfl,T,_⟩:=h
  obtain⟨rfl,kk,rfl,ek⟩:=y;obtain rfl:=Ni IU ek;obtain⟨c,hc⟩:∃c,c=L[i]:={_,rfl};obtain⟨b,d',hm⟩:=each c (by rw[hc];exact GF IU);rw[<-hc];refine{a,F,iO net BH AN AN (AA (.int c)) AN,.lst ((left c).map D.int),_,yB T.tb.sub T.tb.n T.tb.g .none .none (.some (.int c)) .none,TQ (ds:=[net,BH,.int c]) rfl hm,λv F3 H3 s3 S3 r3=>?_};refine zPP (c:=c) (T.step pK s3 S3.sub) nd (λp _=>?_) r3 λF5 H5 Io T5=>{F5,Io,_,_,rfl,T5.congr λp hp=>?_,λ_ _ e=>by cases e}
  .have:=EQ (λc=>decide (p∉left c)) (L.take i)
   rw[EB] at this;dsimp only;omega
  .dsimp only
   rw[BK IU,b9,<-hc]
   congr 1
   by_cases e:p∈left c
   .simp[e]
   .simp[e]
theorem nD{l:List α}(h:n+1=l.length):∃a t,l=a::t/\n=t.length:=by
 cases l with
 |nil=>simp at h
 |cons a t=>exact{a,t,rfl,Nat.succ.inj h}
theorem yGN{l:List α}(h:7=l.length):∃a b c d e f g,l=[a,b,c,d,e,f,g]:=by
 obtain⟨a,t0,e0,h0⟩:=nD h;obtain⟨b,t1,e1,h1⟩:=nD h0;obtain⟨c,t2,e2,h2⟩:=nD h1;obtain⟨d,t3,e3,h3⟩:=nD h2;obtain⟨e,t4,e4,h4⟩:=nD h3;obtain⟨f,t5,e5,h5⟩:=nD h4;obtain⟨g,t6,e6,h6⟩:=nD h5;exact{a,b,c,d,e,f,g,by rw[e0,e1,e2,e3,e4,e5,e6,List.eq_nil_of_length_eq_zero h6.symm]}
def yIV(K:AC)(net BH:D)(vn vg:V)(ow:AR->Prop)(F H F1:Hp)(a:AR)(L:List Int)(u4 u5 u6:Option V)(i:Nat)(σ':St)(H':Hp):Prop :=
 ∃F' u3 ρ,σ'=[AA vn,AA vg,AA (.ref a),u3,u4,u5,u6]/\Tb K net BH vn vg ow F H F' H' (λb=>b=a\/∃p∈L.take i,b=ρ p)/\Le F1 F'/\F' a=AN/\H' a=AA (.dK (VR ρ (L.take i)))/\Rws F' H' a ρ (L.take i) (λ_=>[])
open Classical in
theorem zVT{gr:GS}(h:tS K H₀ (GA (nE m) gr) D' σ H):mE (Ut K H₀ m) (mE (Gk K H₀ m) (tS K H₀ gr)) D' σ H:=by
 obtain⟨τ,F,E,r,S,hg,k⟩:=h;obtain⟨r1,e1,hg⟩:=pA3 hg;obtain⟨net,BH,L,left,⟨rfl,⟨b0,d0,QK⟩,nd,ET,each⟩,rfl⟩:=tab_of e1;obtain⟨w0,w1,w2,u3,u4,u5,u6,rfl⟩:=yGN S.len;obtain⟨vn,Yy,rn⟩:=S.val 0 net rfl;obtain⟨vg,hvg,rg⟩:=S.val 1 BH rfl;obtain⟨a,ha,fa,⟨kv0,gI,rk0⟩,na,_⟩:=S.own 2 AD (.dk []) rfl;cases rk0;cases Yy;cases hvg;cases ha;have rJ:ED [AA vn,AA vg,AA (.ref a),u3,u4,u5,u6] [.val net,.val BH,.own AD (.dk []),.no,.no,.no,.no] a:={2,AD,.dk [],rfl,rfl};generalize ED [AA vn,AA vg,AA (.ref a),u3,u4,u5,u6] [.val net,.val BH,.own AD (.dk []),.no,.no,.no,.no]=ow at rJ k;refine{τ,F,iO net BH AN AN AN AN,L.map D.int,_,yB S.sub rn rg .none .none .none .none,iK (TQ (ds:=[net,BH,.non]) rfl QK),λJ F1 H1 s1 S1 w1=>?_};have T0:Tb K net BH vn vg ow F H F H (λb=>b=a):={S.sub,rn,rg,Stp.refl.weak λb h=>by rw[h];exact rJ};have T1:=T0.step pK s1 S1.sub;have fa1:F1 a=AN:=s1.nF fa gI trivial (pK _);have ha1:H1 a=AA (.dK []):=s1.keep _ _ gI trivial fa (pK _);refine Hg (n:=L.length) (yIV K net BH vn vg ow F H F1 a L u4 u5 u6) {F1,u3,λ_=>a,rfl,T1.to (Stp.refl.weak λb h=>h.elim id λ⟨p,hp,_⟩=>by simp at hp) T1.sub,.refl _,fa1,ha1,{λp hp=>by simp at hp,λp hp=>by simp at hp}} (λi σ Hj hi h=>?_) (λσ Hj h=>?_) λi σ Hj x H2 IU h y=>?_
 .obtain⟨F',_,_,_,T',l',_⟩:=h
  exact(w1 i F' Hj l' T'.sub).1 (by rw[AJ];exact hi)
 .obtain⟨F',u3,ρ,rfl,T',l',Bs,eD,R'⟩:=h
  refine{(w1 L.length F' Hj l' T'.sub).2.1 (by rw[AJ]),?_};rw[EJ] at T' eD R';refine zSG (H₀:=H₀) (m:=m) (left:=left) T' nd ET Bs eD R' each λF5 H5 u3 u4 u5 o Ms=>?_;have T5:=Ms.tb;have hf5:=Ms.fr;have R5:=Ms.rw
  -- all is shared from now on
  have Yq:∀b u,(if ∃p∈L,b=ρ p then H5 b else F5 b)=AA u->H5 b=AA u:=λb u e=>by
   by_cases z:∃p∈L,b=ρ p
   .rw[if_pos z] at e;exact e
   .rw[if_neg z] at e;exact T5.sub b u e
  have hl:Le F5 (λb=>if ∃p∈L,b=ρ p then H5 b else F5 b):=λb u e=>.inl (by
   by_cases z:∃p∈L,b=ρ p
   .show(if ∃p∈L,b=ρ p then H5 b else F5 b)=_
    rw[if_pos z];exact T5.sub b u e
   .show(if ∃p∈L,b=ρ p then H5 b else F5 b)=_
    rw[if_neg z];exact e)
  have T6:Tb K net BH vn vg ow F H (λb=>if ∃p∈L,b=ρ p then H5 b else F5 b) H5 (λ_=>False):=by
   refine T5.to (M':=λ_=>False) {λb u e _ _ _=>e,λb e=>e,hl,λb u e=>?_,λb z=>HG z} Yq
   by_cases z:∃p∈L,b=ρ p
   .exact .inr (.inr z)
   .have e:(if ∃p∈L,b=ρ p then H5 b else F5 b)=_:=e
    rw[if_neg z] at e;exact .inl (by rw[e];exact nofun)
  refine{τ,_,_,r,yB Yq T6.n T6.g (.some (.dk (.inr {o,hl.frz hf5}) (Sh λp hp=>?_))) .none .none .none,hg,k.pre (T6.st.weak λb z=>(pK b z).elim)};show(if ∃p'∈L,ρ p=ρ p' then H5 (ρ p) else F5 (ρ p))=_;rw[if_pos {p,hp,rfl}];exact(R5.at' p hp).1
 .obtain⟨F',u3,ρ,rfl,T',l',Bs,eD,R'⟩:=h
  obtain⟨F2,n2,r2⟩:=(w1 i F' Hj l' T'.sub).2.2 x H2 (.int L[i]) (by rw[AV,A7 IU];rfl) y;obtain⟨p,hp⟩:∃p,p=L[i]:={_,rfl};have Kl:p∉L.take i:=by rw[hp];exact Es nd IU
  rw[<-hp] at r2;cases r2;have no:∀a:AR,¬(λ_:AR=>False) a:=λ_ z=>z;have T2:=T'.step no n2.1 n2.2;have R2:=R'.step no n2.1;have Zy:F2 a=AN:=n2.1.nF Bs eD trivial (no a);have Lz:H2 a=AA (.dK (VR ρ (L.take i))):=n2.1.keep _ _ eD trivial Bs (no a);refine{BY _,λq hq=>{_,rfl,_,rfl,a,_,rfl,DPut.kk (k:=.inl p) (by rw[EW (VL Lz hq)];exact Lz) ?_,F2,AA (.int p),λz=>if z=p then q else ρ z,rfl,?_,l'.trans n2.1.le,Zy,?_,?_}}
  .rw[tE,EB];exact fJ 'o'
  .have fq:F2 q=AN:=pAG n2.2 hq
   refine(T2.to (M':=λb=>b=a\/∃z∈L.take (i+1),b=if z=p then q else ρ z) (pAP hq λb h=>?_) (n2.2.off fq)).to (Stp.mine (.inl rfl)) ((n2.2.off fq).off Zy);rcases h with h|⟨z,hz,h⟩
   .exact .inl (.inl h)
   .by_cases e:z=p
    .rw[if_pos e] at h;exact .inr h
    .rw[if_neg e] at h
     exact .inl (.inr {z,((Et IU z).mp hz).resolve_right (by rw[<-hp];exact e),h})
  .rw[HC,zVS Kl,BK IU,<-hp]
  .have ne:∀z∈L.take i,ρ z≠q:=λz hz=>VL (R2.at' z hz).1 hq
   have qa:q≠a:=E7 (VL Lz hq);have mem:∀z,z∈L.take (i+1)->z≠p->z∈L.take i:=λz hz e=>((Et IU z).mp hz).resolve_right (by rw[<-hp];exact e);refine{λz hz=>?_,λz hz z' fZ h=>?_}
   .by_cases e:z=p
    .simp only[e,if_true]
     rw[EW qa,HC];exact{rfl,pAG n2.2 hq,qa}
    .simp only[e,if_false]
     obtain⟨x,y,w⟩:=R2.at' z (mem z hz e);rw[EW w,EW (ne z (mem z hz e))];exact{x,y,w}
   .by_cases e:z=p
    .by_cases e':z'=p
     .rw[e,e']
     .simp only[e,e',if_true,if_false] at h
      exact absurd h.symm (ne z' (mem z' fZ e'))
    .by_cases e':z'=p
     .simp only[e,e',if_true,if_false] at h
      exact absurd h (ne z (mem z hz e))
     .simp only[e,e',if_false] at h
      exact R2.inj z (mem z hz e) z' (mem z' fZ e') h
theorem yAG{gr:GS}{s2 s3:FC}{rest:List FC}(h2:PS X s2 (Ut X.K X.H₀ m))(h3:PS X s3 (Gk X.K X.H₀ m))(hr:bG X rest gr):bG X (s2::s3::rest) (GA (nE m) gr):=(bF h2 (bF h3 hr)).imp λ_ _ _ h=>zVT h
end
def eZ(n:Nat):List D:=(DB n).map λi:Nat=>D.int ((n:Int)-1-(i:Int))
theorem zPQ{K:AC}(n:Nat):Walks K (Ia n) F (eZ n):=λi F1 H1 l s=>by
 have hl:(eZ n).length=n:=by simp[eZ]
 refine{λhi=>by rw[hl] at hi;exact hi,λhi=>by rw[hl] at hi;rw[hi];exact AL _,λx H' d e ⟨e1,y⟩=>?_};subst e1 y;unfold eZ at e;rw[AV] at e
 cases q:(DB n)[i]? with
 |none=>rw[q] at e;cases e
 |some j =>
  rw[q] at e
  have:j=i:=by
   obtain⟨h1,h2⟩:=AE.mp q;rw[P9] at h2;exact h2.symm
  subst this;cases e;exact{F1,.refl s,.int _}
def xO(g:G):GI:=λE=>(g E).bind λp=>match p.1 with|.int j=>guard (0<=j/\j<=1000) (.ok (eZ j.toNat,p.2))|_=>.bad
section
variable{a:CU}{ga:G}
theorem yED{rp SN:YA}(hmr:X.mg "reversed"=AN)(hm:X.mg "range"=AN)(ha:VE X a ga)(hgr:Gl X "reversed":=by rfl)(hg:Gl X "range":=by rfl)
  (U0:AM [a] X.env=(AD,eval a X.env)::AM [] X.env:=by rfl) (oH:(DD SN (AM [] X.env)).any (·.1)=AD:=by rfl)
  (hs:AM [.Call (.Name "range" rp) [a] [] SN] X.env=[(AD,eval (.Call (.Name "range" rp) [a] [] SN) X.env)]:=by rfl)
  (he:AM [.Call (.Name "range" rp) [a] [] SN] X.env=(AD,eval (.Call (.Name "range" rp) [a] [] SN) X.env)::AM [] X.env:=by rfl) :
  VI X tg (.Call (.Name "reversed" p) [.Call (.Name "range" rp) [a] [] SN] [] pos) (xO ga) :=
 (yCX hgr hmr (QY (qC Ro hg hm (by decide +kernel) (QY ha GG U0) 'd' 'd' U0 oH) GG he) hs).imp λσ H Q h=>by
  obtain⟨τ,F,E,d,E',S,hg,k⟩:=h;obtain⟨q,e1,hg⟩:=pA3 hg;refine{τ,F,E,q.1,q.2,S,e1,λv F1 H1 s1 S1 r1=>?_};split at hg
  .rename_i j ej
   obtain⟨⟨g1,g2⟩,hg⟩:=Z4 hg;cases hg;rw[ej] at r1;obtain rfl:=r1.vI;refine{j,rfl,λpp hp=>{pp,j.toNat,rfl,by rw[HC,PY g1],by lia,?_}};have n:=pA6 (H':=D5 H1 pp (.rng 0 j)) S1.sub (Gr.new hp);exact k _ F1 _ (s1.trans n.stp) (S1.new n) (zPQ _)
  .cases hg
def yGO(K:AC):List V->Hp->VK->Prop:=λxs H Q=>∃(p:AR) (ns:List Int),xs=[.ref p]/\SqL K H p (ns.map V.int)/\ns.length+1<scanBound/\∀l,H l=AN->Q (.ref l) (D5 H l (.set (λk=>(a9 ns).any (·==k)) (a9 ns).length))
theorem zSH(hc:X.calm=AK):CallR X (.type "set") (yGO X.K):=by
 intro AF s σ H xs us Q I r h;obtain⟨p,ns,rfl,hp,hb,q⟩:=h;obtain⟨u,rfl,ru⟩:=W5 r;cases ru;obtain⟨CI,rv,pl,hz⟩:=I.list hp;have hl:CI.toArray.size=ns.length:=by have:=rv.length;simpa using this.symm
 refine call_set_list (I.ok.hd hc) pl.isList (iN rv) (by rw[hl];exact hb) λh' tk hS hk=>?_;rw[hl] at hS;exact{.ref s.heap.objs.size,_,I.laid (t':=tk) (o:=.set (λk=>(a9 ns).any (·==k)) (a9 ns).length) (λb o e=>hk b o (A9 e) e) (AL _) hS,rfl,q _ I.fresh}
def Dl(g:G):G:=λE=>(g E).bind λp=>match p.1 with
 |.lst ds=>match PH ds with
  |some ns=>guard (ns.length<1000) (.ok (.int ((a9 ns).length:Nat),p.2))
  |none=>.bad
 |_=>.bad
theorem zVV{sp:YA}(hc:X.calm=AK)(wH:X.mg "len"=AN)(hm:X.mg "set"=AN)(ha:VE X a ga)(Lh:Gl X "len":=by rfl)(hg:Gl X "set":=by rfl)
  (U0:AM [a] X.env=(AD,eval a X.env)::AM [] X.env:=by rfl) (oH:(DD SM (AM [] X.env)).any (·.1)=AD:=by rfl)
  (he:AM [.Call (.Name "set" sp) [a] [] SM] X.env=(AD,eval (.Call (.Name "set" sp) [a] [] SM) X.env)::AM [] X.env:=by rfl) (JV:(DD pos (AM [] X.env)).any (·.1)=AD:=by rfl) :
  VE X (.Call (.Name "len" p) [.Call (.Name "set" sp) [a] [] SM] [] pos) (Dl ga) :=
 (tO zQY Lh wH (by decide +kernel) (QY (qC (zSH hc) hg hm (by decide +kernel) (QY ha GG U0) 'd' 'd' U0 oH) GG he) 'd' 'd' he JV).imp λσ H Q h=>by
  obtain⟨τ,F,E,d,E',S,hg,k⟩:=h;obtain⟨q,e1,hg⟩:=pA3 hg;refine{τ,F,E,q.1,q.2,S,e1,λv F1 H1 s1 S1 r1=>?_};obtain⟨qd,qE⟩:=q
  cases qd with
  |lst ds =>
   dsimp only at hg r1;split at hg
   .rename_i ns ej
    obtain⟨g1,hg⟩:=Z4 hg;cases hg;have e:=kT ej;subst e;obtain⟨l,vs,rfl,h1,rs⟩:=r1.isRefL;have ev:=rs.vint;subst ev;refine{l,ns,rfl,h1.imp S1.sub.rd id,by unfold scanBound;lia,λb hb=>{b,_,_,rfl,HC,AS (zT8 ns) 'l',?_}};have n:=pA6 (H':=D5 H1 b (.set (λk=>(a9 ns).any (·==k)) (a9 ns).length)) S1.sub (Gr.new hb);exact k _ F1 _ (s1.trans n.stp) (S1.new n) (.int _)
   .cases hg
  |_=>cases hg
def yGP(K:AC):V->List V->Hp->VK->Prop:=λx vs H Q=>∃(l:AR) (ns:List Int) (n:Int),x=.ref l/\vs=[.int n]/\SqL K H l (ns.map V.int)/\ns.length<10000/\n∈ns/\Q (.int (ns.idxOf n:Nat)) H
theorem zVW:Ar X "list.index" (yGP X.K):=by
 intro AF s σ H x xs v us Q I rx rv h;obtain⟨l,ns,k,rfl,rfl,hl,hb,hk,q⟩:=h;cases rx;obtain⟨u,rfl,ru⟩:=W5 rv;obtain⟨t,rfl⟩:=ru;obtain⟨vs,rs,pl,hz⟩:=I.list hl;have hi:FX vs ns:=iN rs;obtain⟨⟨cls,dd,data,sl⟩,ho,hc,n,hd⟩:=pl.isList;simp only at hc hd;subst hc hd;have ET:=hi.length;have hj:ns.idxOf k<ns.length:=I0.mpr hk
 refine MT U3 {_,ho,rfl} PySem.F.entry_list_index (PySem.F.args_list_index_2 _ _)
  (SeqAt.list_indexAt l vs.toArray n dd sl (.int k t) (isInt k) (ns.idxOf k) (by simpa[ET] using hj) 'l' ?_ ?_) {ho,λy hy=>(eq_isInt k t hi y (by simpa using hy)).at _ _,{.int _,H,I.tok _,{_,rfl},q}}
 .show isInt k vs[ns.idxOf k]=AK
  rw[isInt_at k hi _ 'l' hj];simpa using LN hj
 .intro j hjs IU
  show isInt k vs[j]=AD;rw[isInt_at k hi j (by simpa using hjs) 'l'];exact ne_of_lt_idxOf IU _
def jW(x y:D):Out D:=match x,y with
 |.lst ds,.int n=>match PH ds with
  |some ns=>guard (ns.length<10000/\n∈ns) (.ok (.int (ns.idxOf n:Nat)))
  |none=>.bad
 |_,_=>.bad
theorem Oz{ge:G}(ha:VE X a ga)(he:VE X e ge)(NT:IK a "index" X.env (eval a X.env)=eval a X.env:=by rfl)
  (YV:((DD FQ (AM [e] X.env)).all (λx=>!x.1)&&(UG FQ (NI [] X.env)).all (λx=>x.1.isSome)
   && decide ([e].length+([]:List KG).length+(if([]:List KG).isEmpty then 0 else 1)<30))=AK:=by rfl)
  (NS:(K5.endLine==FQ.line)=AK:=by rfl) (hs:AM [e] X.env=(AD,eval e X.env)::AM [] X.env:=by rfl) (OZ:(DD FQ (AM [] X.env)).any (·.1)=AD:=by rfl) :
  VE X (.Call (.Attribute a "index" K5) [e] [] FQ) (g2 jW ga ge) :=
 (sG FT U3 PySem.F.type_list_index zVW ha (QY he GG hs) NT YV NS hs OZ).imp λσ H Q h=>by
  obtain⟨τ,F,E,d,E',S,hg,k⟩:=h;obtain⟨p,e1,hg⟩:=pA3 hg;obtain⟨q,e2,hg⟩:=pA3 hg;obtain⟨z,e3,hg⟩:=pA3 hg;cases hg;obtain⟨pd,pE⟩:=p;obtain⟨qd,qE⟩:=q;unfold jW at e3;split at e3
  .rename_i ds n x1 x2
   dsimp only at x1 x2;subst x1 x2;split at e3
   .rename_i ns ej
    obtain⟨⟨g1,g2⟩,e3⟩:=Z4 e3;cases e3;have e:=kT ej;subst e;refine{τ,F,E,_,pE,S,e1,λv F1 H1 s1 S1 r1=>?_};obtain⟨l,vs,rfl,h1,rs⟩:=r1.isRefL;have ev:=rs.vint;subst ev;refine{?ty,τ,F1,pE,_,qE,S1,e2,λu F2 H2 s2 S2 r2=>?_}
    .exact .inl {rfl,_,h1.imp S1.sub.rd id}
    .obtain rfl:=r2.vI
     exact{l,ns,n,rfl,rfl,h1.imp (λz=>S2.sub.rd (s2.le.rd z)) id,g1,g2,k _ F2 H2 (s1.trans s2) S2 (.int _)}
   .cases e3
  .cases e3
def gJ:CN->List (CN ⊕ G)->G
 |acc,[],E=>.ok (.str acc,E)
 |acc,.inl c::r,E=>gJ (acc++c) r E
 |acc,.inr g::r,E=>(g E).bind λp=>match p.1 with
  |.int a=>guard (0<=a/\a<100) (gJ (acc++(toString a:CN)) r p.2)
  |_=>.bad
inductive JP(X:Cx):List CU->List (CN ⊕ G)->Prop
 |nil:JP X [] []
 |txt {c:CN} {j pos} {es:List CU} {ps:List (CN ⊕ G)} (h:c.length<=100) (r:JP X es ps):JP X (.Constant (.str c) j pos::es) (.inl c::ps)
 |val {e:CU} {g:G} {pos:YA} {es:List CU} {ps:List (CN ⊕ G)} (h:VE X e g) (r:JP X es ps):JP X (.FormattedValue e (-1) AN pos::es) (.inr g::ps)
theorem yEE:∀n:Nat,n<100->(toString (n:Int):CN).length<=100:=by decide +kernel
theorem yEF:∀n:Nat,n<100->n.log2<1920:=by decide +kernel
theorem yAH{ps:List (CN ⊕ G)}(h:JP X es ps):∀{acc:CN} {AF:List (AR×HL)} {s:AT} {σ:St} {H:Hp} {Q:VK},acc.length+100 * ps.length<10000->Inv X AF σ H s->tV X.K X.H₀ (gJ acc ps) σ H Q ->
  A0 (A6 X.prog X.w) X.A (joinParts acc (evalEach es X.env)) (EP X AF σ Q) X.xe s:=by
 induction h with
 |nil =>
  intro acc AF s σ H Q hl I q;obtain⟨τ,F,E,d,E',S,hg,k⟩:=q;cases hg;exact joinParts_nil {.str acc,H,I.tok _,{_,rfl},k _ F H .refl S (.str _)} (cV (by simpa using hl))
 |@txt c j pos es ps hc r ih =>
  intro acc AF s σ H Q hl I q
  have lG:(acc++c).length+100 * ps.length<10000:=by
   rw[aG];rw[BC] at hl;lia
  show A0 _ _ (joinParts acc (eval (.Constant (.str c) j pos) X.env::evalEach es X.env)) _ _ _;exact joinParts_cons (Calls.Constant_str {cV 'l',ih lG (I.tok _) q})
 |@val e g pos es ps h r ih =>
  intro acc AF s σ H Q hl I q;obtain⟨τ,F,E,d,E',S,hg,k⟩:=q;obtain⟨p,e1,hg⟩:=pA3 hg;show A0 _ _ (joinParts acc (eval (.FormattedValue e (-1) AN pos) X.env::evalEach es X.env)) _ _ _;refine joinParts_cons (FormattedValue_plain (DA (h AF s σ H _ I {τ,F,E,p.1,p.2,S,e1,λv F1 H1 s1 S1 r1=>({F1,s1,S1,r1}:∃F1,Stp (ED σ E) F H F1 H1 (ED σ p.2)/\Sim X.K X.H₀ τ F1 H1 σ p.2/\Rep X.K F1 v p.1)}) (λu s1 z=>?_) λ_ _ z=>z));obtain⟨v,H1,I1,rv,F1,st,S1,r1⟩:=z;split at hg
  .rename_i n en
   obtain⟨⟨g1,g2⟩,hg⟩:=Z4 hg;rw[en] at r1;obtain rfl:=r1.vI;obtain⟨t,rfl⟩:=rv;have ea:((n.toNat:Nat):Int)=n:=PY g1;have h1:=yEE n.toNat 'l';rw[ea] at h1;refine formatField_int_small (by have:=yEF n.toNat 'l';rwa [show n.natAbs=n.toNat by lia]) {cV ?_,ih ?_ ((I1.tok _).tok _) {τ,F1,p.2,d,E',S1,hg,λv F2 H2 s2 S2 r2=>k v F2 H2 (st.trans s2) S2 r2}}
   .rw[aG];rw[BC] at hl;lia
   .rw[aG];rw[BC] at hl;lia
  .cases hg
theorem yEG{uN uM:CU}{rest:List CU}{ps:List (CN ⊕ G)}(h:JP X (uN::uM::rest) ps)(hl:ps.length<=50:=by decide):VE X (.JoinedStr (uN::uM::rest) pos) (gJ O9 ps) :=
 λAF s σ H Q I q=>JoinedStr_many (yAH h (by have:O9.length=0:=rfl;lia) I q)
end
end L2
variable{AO DW BH EE:Int}{u4 u10:L2.Sl}{aw ON:List (Option Int)}{GK:List Int}{gx:L2.GX}
namespace My
open PySem L2
noncomputable def T4(i:Nat):FC:=PySem.Challenge.pw_waymusts_k08_lanes_that_must_be.main.body.getD i (.Pass {0,0,0,0})
structure Bt(mg:CN->Option AI):Prop where
 b_ValueError:mg "ValueError"=AN
 b_all:mg "all"=AN
 b_bool:mg "bool"=AN
 b_enumerate:mg "enumerate"=AN
 b_isinstance:mg "isinstance"=AN
 b_len:mg "len"=AN
 b_list:mg "list"=AN
 b_min:mg "min"=AN
 b_range:mg "range"=AN
 b_reversed:mg "reversed"=AN
 b_set:mg "set"=AN
 b_sorted:mg "sorted"=AN
 b_tuple:mg "tuple"=AN
 b_zip:mg "zip"=AN
abbrev Er:FC:=T4 13
abbrev Gj:FC:=T4 14
abbrev zU:FC:=T4 16
abbrev Fw:FC:=T4 24
abbrev Fv:FC:=T4 25
abbrev Fu:FC:=T4 26
abbrev Ge:FC:=T4 29
abbrev Gd:FC:=T4 32
abbrev Ft:FC:=T4 33
abbrev Gh:FC:=T4 35
abbrev Gc:FC:=T4 17
abbrev Gg:FC:=T4 27
abbrev Fq:FC:=T4 18
abbrev Gi:FC:=T4 19
abbrev Fj:FC:=T4 28
abbrev Fh:FC:=T4 20
abbrev zP:FC:=T4 22
abbrev Fg:FC:=T4 31
abbrev qD:FC:=T4 30
abbrev Fp:FC:=T4 34
abbrev iF:FC:=T4 36
theorem UV{P:List CN}{sc:NJ}(h1:sc.kind=.function:=by rfl)(h2:sc.isCoroutine=AD:=by rfl)(h3:sc.isGenerator=AD:=by rfl)(h4:N.Nodup:=by decide +kernel)(h5:N.take P.length=P:=by rfl)(h6:∀x∈P,sc.names.lookup x=AA .local\/sc.names.lookup x=AA .cell:=by decide +kernel)(h7:∀y∈sc.names,y.2≠.free:=by decide +kernel):FnScope N P sc:={h1,h2,h3,h4,h5,h6,h7}
theorem cn(h1:Y4 scope X.env=pure cl)(h2:scope.kind=.function:=by rfl)(h3:∀y∈scope.names,y.2≠.cell:=by decide +kernel)(h4:∀y∈scope.names,y.2=.local->scope.names.lookup y.1=AA .local:=by decide +kernel)(h5:∀y∈scope.names,y.2=.free->y.1∈CZ:=by decide +kernel)(h6:cl.map (·.1)=CZ:=by rfl)
  (h7:∀p∈cl,X.env.cells.lookup p.1=AA p.2:=by first|exact mD|exact fW rfl|exact Am rfl rfl|exact Al rfl rfl rfl|exact Hw rfl rfl rfl rfl) (h8:CZ.map AA=js.map λj=>X.N[j]?:=by rfl)
  (h9:∀x∈CZ,X.env.kindOf x=AA .cell\/X.env.kindOf x=AA .free:=by first|exact mD|(refine fW ?_<;>first|exact BO rfl|exact DY rfl)|(refine Am ?_ ?_<;>first|exact BO rfl|exact DY rfl)|(refine Al ?_ ?_ ?_<;>first|exact BO rfl|exact DY rfl)|(refine Hw ?_ ?_ ?_ ?_<;>first|exact BO rfl|exact DY rfl))
  (h10:∀x∈CZ,(UE scope X.env).names.lookup x=AA .cell\/(UE scope X.env).names.lookup x=AA .free:=by first|exact mD|(refine fW ?_<;>first|exact BO rfl|exact DY rfl)|(refine Am ?_ ?_<;>first|exact BO rfl|exact DY rfl)|(refine Al ?_ ?_ ?_<;>first|exact BO rfl|exact DY rfl)|(refine Hw ?_ ?_ ?_ ?_<;>first|exact BO rfl|exact DY rfl))
  (h11:∀x∈own,x∉CZ:=by decide +kernel) (h12:∀x∈own,scope.names.lookup x=AA .local:=by decide +kernel):CompNm X scope cl own CZ js:={h1,h2,h3,h4,h5,h6,h7,h8,h9,h10,h11,h12}
theorem UU(i:Nat)(hN:(own++CZ).Nodup:=by decide +kernel)(hi:(own++CZ)[i]?=AA x:=by rfl)(hx:L2.Loc (OV X scope cl (own++CZ) C s H fp).env.scope x:=by exact BO rfl)(hf:(OV X scope cl (own++CZ) C s H fp).fn x=AK\/(OV X scope cl (own++CZ) C s H fp).env.scope.names.lookup x=AA .local:=by exact DY rfl):VG (OV X scope cl (own++CZ) C s H fp) (.Name x pos) (.nm i):=VJ hN hi hx hf
theorem yAI{g:TG}{tt:TT}{acc:AR}{σ₀:St}{N:St->Hp->Prop}(Pv:Nat->List V->St->Hp->Prop)(h0:Pv 0 [] σ₀ (D5 H1 acc (.lst [])))(ha:∀i ys σ H,i<=n->Pv i ys σ H->H acc=AA (.lst ys))
  (hs:∀i ys σ H,i<n->Pv i ys σ H->J.go i H/\∀x H',J.yld i H x H'->g x σ H' λσ2 H2=>tt σ2 H2 λb H3 =>
   if b=AK then te σ2 H3 λy H4=>H4 acc=AA (.lst ys)/\ys.length<sizeLine/\∃m',m'<n-i/\m'=n-(i+1)/\i+1<=n/\Pv (i+1) (ys++[y]) σ2 (D5 H4 acc (.lst (ys++[y])))
   else ∃m',m'<n-i/\m'=n-(i+1)/\i+1<=n/\Pv (i+1) ys σ2 H3)
  (hd:∀ys σ H,Pv n ys σ H->J.stop n H/\N σ H) (mg:∀x σ H P P',(∀σ2 H2,P σ2 H2->P' σ2 H2)->g x σ H P->g x σ H P') (mt:∀σ H P P',(∀b H2,P b H2->P' b H2)->tt σ H P->tt σ H P') (me:∀σ H P P',(∀v H2,P v H2->P' v H2)->te σ H P->te σ H P'):tWalkC J g tt (kE acc te) σ₀ (D5 H1 acc (.lst [])) N:=by
 refine{λi m σ H=>m=n-i/\i<=n/\∃ys,Pv i ys σ H,{n,by lia,BY _,[],h0},?_};rintro i m σ H ⟨rfl,hi,ys,p⟩
 by_cases IU:i<n
 .obtain⟨go,st⟩:=hs i ys σ H IU p
  refine .inr {go,λx H' y=>mg _ _ _ _ _ (λσ2 H2 q=>mt _ _ _ _ (λb H3 q=>?_) q) (st x H' y)}
  cases b with
  |true =>
   rw[if_pos rfl] at q ⊢;exact me _ _ _ _ (λv H4 ⟨q1,q2,m',a,b,c,q3⟩=>{ys,q1,q2,m',a,b,c,_,q3}) q
  |false =>
   rw[if_neg CH] at q ⊢;obtain⟨m',a,b,c,q3⟩:=q;exact{m',a,b,c,_,q3}
 .have e:i=n:=by lia
  subst e;exact .inl (hd ys σ H p)
theorem Fo(f:α->Bool){l:List α}{x:α}(h:l[i]?=AA x):(l.take (i+1)).filter f=(l.take i).filter f++(if f x=AK then[x] else[]):=by
 obtain⟨hi,e⟩:=AE.mp h;rw[BK hi,b9,e]
 by_cases hf:f x=AK
 .simp[hf]
 .simp[hf]
theorem Qu{K:AC}{H:Hp}:∀{zs:List V} {ps:List (Int×Int)} {i:Nat} {z:V},PairsAt K H zs ps->zs[i]?=AA z->∃(q:AR) (x y:Int),z=.ref q/\SqT K H q [.int x,.int y]/\ps[i]?=AA (x,y)
 |_,_,_,_,.nil,h=>by simp at h
 |_,_,0,_,.cons ⟨q,e,s⟩ t,h=>by simp at h;subst h;exact{q,_,_,e,s,rfl}
 |_,_,i+1,_,.cons _ t,h=>by simp at h;simpa using Qu t h
theorem Gr.acc{H1 H':Hp}{acc:AR}{o:HO}(g:Gr H1 H')(h:H1 acc=AN):Gr H1 (D5 H' acc o):=λb u e=>by
 rw[EW (VL e h)];exact g b u e
def yIW(K:AC)(H:Hp)(q:AR)(AO:Int)(ps:List (Int×Int)):Prop:=∃(t:AR) (zs:List V),SqT K H q [.int AO,.ref t]/\SqT K H t zs/\PairsAt K H zs ps
noncomputable def RV(ps:List (Int×Int))(j:Nat):List Int:=(ps.filter λp=>decide (p.1=(j:Int))).map (·.2)
def yAJ(H:Hp)(L:AR)(rs:List AR)(AO:Int)(ps:List (Int×Int)):Prop:=H L=AA (.lst (rs.map V.ref))/\(rs.length:Int)=AO/\∀(j:Nat) (hj:j<rs.length),H rs[j]=AA (.lst ((RV ps j).map V.int))
def yAK(K:AC):Sp:=λvs H Q _=>∃(q:AR) (AO:Int) (ps:List (Int×Int)),vs=[.ref q]/\yIW K H q AO ps/\ps.length<=1000/\0<=AO/\AO<=100/\(∀p∈ps,0<=p.1/\p.1<AO) /\
 ∀(L:AR) (H':Hp) (rs:List AR),Gr H H'->yAJ H' L rs AO ps->H L=AN->(∀r∈rs,H r=AN)->Q (.ref L) H'
section
variable{K:AC}
theorem Z6:FnScope ["net","many","lanes","nexts","one","other"] ["net"] (J7 zU):={rfl,rfl,rfl,by decide +kernel,rfl,by decide +kernel,by decide +kernel}
theorem yIX:((["place"]:List CN)++([]:List CN)).Nodup:=by decide +kernel
theorem zVX(F:Fun K "next_places" "next_places" zU f fd)(T:Bt mg):FnOk P w K mg base L6 1 f fd ["net"] (yAK K):=by
 refine F.ok Z6 (λvs H Q E h=>?_) (λG3 A outer s H vs Q E hr h=>?_)
 .obtain⟨q,AO,ps,rfl,_⟩:=h
  rfl
 .obtain⟨q,AO,ps,rfl,⟨t,zs,hq,ht,oF⟩,JV,wJ,X6,hrg,q0⟩:=h
  refine{_,bF (Df (pv 0) (Dg rfl (tJ (iL (i:=1) Z6.nd rfl (BO rfl)) (tJ (iL (i:=2) Z6.nd rfl (BO rfl)) VN))))
   (bF (To (i:=3) (own:=["place"]) (CZ:=[]) (js:=[]) {rfl,rfl,by decide +kernel,by decide +kernel,by decide +kernel,rfl,mD,rfl,mD,mD,by decide +kernel,by decide +kernel} rfl (Sv rfl T.b_range (QY (pv 1) GG))
     (λC s H fp=>iL (i:=0) yIX rfl (BO rfl) (DY rfl)) (λC s H fp=>ZG) (λC s H fp=>mT GG) Z6.nd rfl rfl rfl)
   (bF (sR CT rfl (Oh (pv 2)) (Dg rfl (tJ (iL (i:=4) Z6.nd rfl (BO rfl)) (tJ (iL (i:=5) Z6.nd rfl (BO rfl)) VN)))
    (kQ (Dy (sG FT LW LU zK (Ce ZI (pv 3) (pv 4) (λ_ _=>rfl)) (QY (pv 5) GG)))))
   (kQ (yF (pv 3))))),?_}
  have sm:∀n:Nat,n<=1000->n<=sizeLine:=λn h=>CW (Fe h);have hzl:zs.length=ps.length:=Paired.length oF;refine{_,rfl,q,_,rfl,hq,rfl,_,_,rfl,_,_,rfl,rfl,?_};refine{_,rfl,_,rfl,by lia,by lia,λacc eC=>?_}
  refine yAI (J:=rC 0 AO.toNat) (g:=bB 0) (tt:=Vh) (te:=qY zZ) (n:=AO.toNat) (λi ys σ H'=>∃(u:Option V) (rs:List AR),σ=[u]/\ys=rs.map V.ref/\rs.length=i/\rs.Nodup/\(∀r∈rs,H' r=AA (.lst [])/\H r=AN/\r≠acc)/\H' acc=AA (.lst ys)/\Gr H H')
   {AN,[],rfl,rfl,rfl,G9,mD,HC,Gr.new eC} (λi ys σ H' _ ⟨_,_,_,_,_,_,_,h,_⟩=>h) ?_ ?_ (λx σ H P P' h q=>h _ _ q) (λσ H P P' h q=>h _ _ q) (λσ H P P' h q=>{q.1,λp hp=>h _ _ (q.2 p hp)})
  .rintro i ys σ H' hi ⟨u,rs,rfl,rfl,hl,nd,i9,ha,gr⟩
   refine{hi,?_};rintro x Bx ⟨rfl,rfl⟩;refine{sm 0 'd',λpt rQ=>?_};have Ze:pt≠acc:=E7 (VL ha rQ)
   have oH:H pt=AN:=by
    cases e:H pt with
    |none=>rfl
    |some o=>have:=gr _ _ e;rw[rQ] at this;cases this
   have hnr:pt∉rs:=λz=>by have:=(i9 pt z).1;rw[rQ] at this;cases this
   refine{Gr.new rQ _ _ ha,Fe (by rw[AJ];lia),_,by lia,rfl,by lia,_,rs++[pt],rfl,by simp,by simp[hl],?_,λr XM=>?_,HC,Gr.acc (gr.trans (Gr.new rQ)) eC}
   .rw[MD]
    exact{nd,FZ.mpr {by simp,G9},λa eD b jH=>by rw[A8.mp jH];exact λz=>hnr (z▸eD)}
   .rcases CG.mp XM with h|h
    .obtain⟨h1,h2,h3⟩:=i9 r h
     exact{by rw[EW h3,EW (VL h1 rQ)];exact h1,h2,h3}
    .rw[A8.mp h]
     exact{by rw[EW Ze,HC],oH,Ze}
  .rintro ys σ H2 ⟨u,rs,rfl,rfl,hl,nd,i9,ha,gr⟩
   refine{AL _,?_}
   refine{_,rfl,t,rfl,{_,ht.gr gr},zX9 (K:=K) (a:=t) (xs:=zs) (λi σ H3=>∃u4 u5:Option V,σ=[AA (.ref q),AA (.int AO),AA (.ref t),AA (.ref acc),u4,u5]/\H3 acc=AA (.lst (rs.map V.ref))/\(∀(j:Nat) (hj:j<rs.length),H3 rs[j]=AA (.lst ((RV (ps.take i) j).map V.int)))/\Gr H H3)
    {AN,AN,rfl,ha,λj hj=>(i9 _ (GF hj)).1,gr} (λi σ H3 _ ⟨_,_,_,_,_,g⟩=>ht.gr g) ?_ ?_}
   .rintro i z σ H3 hi ⟨u4,u5,rfl,Bq,rP,g3⟩
    obtain⟨pq,x,y,rfl,NR,Km⟩:=Qu (oF.gr g3) hi;obtain⟨x0,x9⟩:=hrg _ (CC Km);have gA:x.toNat<rs.length:=by rw[hl];have:=x9;have:=x0;simp only at *;lia
    have bK:((x.toNat:Nat):Int)=x:=by simp only at x0;lia
    have xA:atI (rs.map V.ref) x=AA (.ref rs[x.toNat]):=by
     have z:=Qc (xs:=rs.map V.ref) (j:=x.toNat) (v:=.ref rs[x.toNat]) (by rw[AV,A7 gA];rfl);rw[bK] at z;exact z
    have Lb:=(AE.mp Km).1
    have Kh:(RV (ps.take i) x.toNat).length<=1000:=by
     unfold RV;rw[AJ];have h1:=EQ (λp:Int×Int=>decide (p.1=((x.toNat:Nat):Int))) (ps.take i);rw[EB] at h1;lia
    refine{pq,_,rfl,NR,rfl,_,_,rfl,_,_,rfl,rfl,?_};refine{_,rfl,_,rfl,acc,_,_,_,rfl,rfl,SqL.of Bq,xA,.inl {rfl,_,SqL.of (rP _ gA)},_,rfl,rs[x.toNat],_,_,rfl,rfl,rP _ gA,Fe (by rw[AJ];exact Kh),_,_,rfl,?_,λj hj=>?_,?_}
    .rw[EW (E7 (i9 _ (GF gA)).2.2)]
     exact Bq
    .have hf:=Fo (λp:Int×Int=>decide (p.1=(j:Int))) Km
     by_cases Zk:j=x.toNat
     .subst Zk
      rw[HC];unfold RV;rw[hf,if_pos (decide_eq_true (show x=((x.toNat:Nat):Int) from bK.symm))];simp
     .have ZN:rs[j]≠rs[x.toNat]:=λz=>by
       rcases Nat.lt_or_gt_of_ne Zk with h|h
       .exact B0.mp nd _ _ hj gA h z
       .exact B0.mp nd _ _ gA hj h z.symm
      rw[EW ZN,rP j hj];unfold RV;rw[hf,if_neg (by simp only[decide_eq_true_eq];lia),EA]
    .exact Gr.acc g3 (i9 _ (GF gA)).2.1
   .rintro σ H3 ⟨u4,u5,rfl,Bq,rP,g3⟩
    rw[hzl,EJ] at rP;exact{_,rfl,q0 acc H3 rs g3 {Bq,by rw[hl];lia,rP} eC λr XM=>(i9 r XM).2.1}
end
def aV(AO:Int)(ps:List (Int×Int)):D:=.lst ((DB AO.toNat).map λj=>.lst ((RV ps j).map D.int))
def z8(AO:Int)(ps:List (Int×Int)):D:=.tup [.int AO,.tup (ps.map G2)]
def uB(sl:Ev)(q:Int×List (Int×Int)):Prop:=sl=[.val (z8 q.1 q.2)]/\0<=q.1/\q.1<=100/\q.2.length<=1000/\∀p∈q.2,0<=p.1/\p.1<q.1
open Classical in
def fS:Mr:=λsl=>if h:∃q,uB sl q then .ok (AD,aV h.choose.1 h.choose.2,.non) else .bad
theorem yGQ{sl:Ev}{r:Bool×D×D}(h:fS sl=.ok r):∃AO ps,uB sl (AO,ps)/\r=(AD,aV AO ps,.non):=by
 unfold fS at h
 by_cases e:∃q,uB sl q
 .rw[dif_pos e] at h;cases h;exact{_,_,e.choose_spec,rfl}
 .rw[dif_neg e] at h;cases h
theorem yGR(h:uB [.val (z8 AO ps)] (AO,ps)):fS [.val (z8 AO ps)]=.ok (AD,aV AO ps,.non):=by
 have e:∃q,uB [.val (z8 AO ps)] q:={_,h};unfold fS;rw[dif_pos e];have z:=e.choose_spec.1;generalize e.choose=q at z;injection z with z _;injection z with z;injection z with z;injection z with z1 z2;injection z1 with z1;injection z2 with z2 _;injection z2 with z2;have:=congrArg kO z2;rw[zM,zM] at this;injection this with this;rw[<-z1,<-this]
theorem pAQ{K:AC}(s:Sub F H):∀{ps:List (Int×Int)} {ys:List V},Reps K F ys (ps.map G2)->PairsAt K H ys ps:=λr=>pA0 (r.prs s) λ_ _ ⟨q,e,h⟩=>{q,e,SqT.of h}
theorem zHZ{K:AC}(Fn:Fun K "next_places" "next_places" zU f fd)(T:Bt mg):FnOk P w K mg base L6 1 f fd ["net"] (N7 K 1 fS) :=
 FnOk.imp (zVX Fn T) λvs H Q E h=>by
  obtain⟨hl,τ,F,sl,b,d,d',S,sh,hm,k⟩:=h;obtain⟨AO,ps,⟨rfl,g1,g2,g3,g4⟩,er⟩:=yGQ hm;cases er;obtain⟨v,e1,r⟩:=S.val 0 _ rfl;obtain⟨v',rfl⟩:=List.length_eq_one_iff.mp hl;cases e1;obtain⟨q,ws,rfl,r2,sq⟩:=r.tupSq
  cases r2 with
  |cons ra r2 =>
   cases r2 with
   |cons rb r2 =>
    cases r2;cases ra;obtain⟨t,zs,rfl,r3,sq3⟩:=rb.tupSq;refine{q,AO,ps,rfl,{t,zs,sq F H (.refl _) S.sub,sq3 F H (.refl _) S.sub,pAQ S.sub r3},g3,g1,g2,g4,λL H' rs gr na hL i9=>?_};have n:=New.gro (F:=F) S.sub gr;refine k _ _ _ n.stp (S.new n) ?_;obtain⟨n1,n2,n3⟩:=na;have hL':gro F H H' L=AA (.lst (rs.map V.ref)):=by rw[yQ hL];exact n1
    refine .lst (.inl (.inl hL')) ?_
    have JT:∀(l:List AR) (o:Nat),(∀r∈l,H r=AN)->(∀(j:Nat) (hj:j<l.length),H' l[j]=AA (.lst ((RV ps (o+j)).map V.int))) ->
      Reps K (gro F H H') (l.map V.ref) ((List.range' o l.length).map λj=>D.lst ((RV ps j).map D.int)):=by
     intro l
     induction l with
     |nil=>intro o _ _;exact .nil
     |cons a l ih =>
      intro o h1 h2;rw[AU,BC,List.range'_succ,AU];refine .cons ?_ (ih (o+1) (λr hr=>h1 r (A1 _ hr)) λj hj=>?_)
      .have:=h2 0 's'
       have hA':gro F H H' a=AA (.lst ((RV ps o).map V.int)):=by rw[yQ (h1 a BB)];simpa using this
       exact .lst (.inl (.inl hA')) (Reps.ints _)
      .have:=h2 (j+1) (by simp;lia)
       rw[show o+1+j=o+(j+1) by lia];simpa using this
    have:=JT rs 0 i9 (by simpa using n3);rw[show rs.length=AO.toNat by lia] at this;rw[List.range_eq_range'];exact this
def Qt:GS :=
 (GA (IN (.tp [(.nm 1),(.nm 2)]) (AZ 0))
 (OM (RD [(AZ 1),(gN ZZ [(gN aY [(N6 (JS (AZ 2)) 2 [] (.tp [(.nm 0),(.nm 1)]) VD (RD [(AZ 1),(AZ 0)]))])])])))
def tM:Mr:=RU 3 Qt
theorem SE:FnScope ["net","many","lanes"] ["net"] (J7 Er):=UV
theorem zSJ{K:AC}(Fn:Fun K "turned" "turned" Er f fd)(T:Bt mg) :FnOk P w K mg base L6 1 f fd ["net"] (N7 K 1 tM) :=
 W1 Fn SE λG3 A outer s H E hr=>by
  have hu:=hr.units;unfold Qt
  exact(IE (Cv (CJ 0) (fK rfl (UT (VJ (i:=1) SE.nd rfl (BO rfl)) (UT (VJ (i:=2) SE.nd rfl (BO rfl)) fP))))
   (KA (QF (aZ (D8 (CJ 1) (D8 (kN T.b_tuple (D8 (pA8 (Em T.b_sorted (D8 (pA8 (cL (own:=["one","other"]) (CZ:=[]) (js:=[]) (cn rfl) rfl (W8 (CJ 2)) (λC s H fp=>(fK rfl (UT (UU 0) (UT (UU 1) fP)))) (λC s H fp=>mX) (λC s H fp=>(aZ (D8 (CJ 1) (D8 (CJ 0) FO)))))) FO))) FO)) FO))))))
def Um:GS :=
 (GA (IN (.tp [(.nm 2),(.nm 3)]) (AZ 0))
 (GA (O6 (gB (g2 P5 (AZ 1) (AZ 3)))
 Gz
 SH)
 (OM (RD [(AZ 2),(gN ZZ [(N6 (JS (AZ 3)) 1 [1] (.nm 0) (gB (g2 LZ (AZ 0) (AZ 1))) (AZ 0))])]))))
def qF:Mr:=RU 4 Um
theorem K0:FnScope ["net","lane","many","lanes"] ["net","lane"] (J7 Gj):=UV
theorem zG9{K:AC}(Fn:Fun K "without_lane" "without_lane" Gj f fd)(T:Bt mg) :FnOk P w K mg base L6 1 f fd ["net","lane"] (N7 K 2 qF) :=
 W1 Fn K0 λG3 A outer s H E hr=>by
  have hu:=hr.units;unfold Um
  exact(IE (Cv (CJ 0) (fK rfl (UT (VJ (i:=2) K0.nd rfl (BO rfl)) (UT (VJ (i:=3) K0.nd rfl (BO rfl)) fP))))
   (IE (W4 (p7 hu (CJ 1) (CJ 3))
   (KA On)
   X1)
   (KA (QF (aZ (D8 (CJ 2) (D8 (kN T.b_tuple (D8 (pA8 (cL (own:=["kept"]) (CZ:=["lane"]) (js:=[1]) (cn rfl) rfl (W8 (CJ 3)) (λC s H fp=>(UU 0)) (λC s H fp=>(mW (fE hu (CJ 0) (CJ 1)))) (λC s H fp=>(CJ 0)))) FO)) FO)))))))
def Tu:GS :=
 (GA (O6 (gB (g2 ZH (AZ 1) (gN QV [(AZ 0)])))
 (OM (g2 E8 (AZ 0) (AZ 1)))
 SH)
 (OM (gC (.int 0))))
def qJ:Mr:=RU 2 Tu
theorem zNI:FnScope ["script","k"] ["script","k"] (J7 Fw):=UV
theorem zL4{K:AC}(Fn:Fun K "_law_cell" "_law_cell" Fw f fd)(T:Bt mg) :FnOk P w K mg base L6 1 f fd ["script","k"] (N7 K 2 qJ) :=
 W1 Fn zNI λG3 A outer s H E hr=>by
  have hu:=hr.units;unfold Tu
  exact(IE (W4 (xV hu (CJ 1) (j6 T.b_len (D8 (CJ 0) FO)))
   (KA (QF (MI hu (CJ 0) (CJ 1))))
   X1)
   (KA (QF H9)))
def Tt:GS :=
 (GA (O6 (gB (g2 Hr (AZ 0) (g2 aR (gC (.int 10)) (gC (.int 18)))))
 (xX (KM [(g2 jZ (AZ 0) (g2 aR (gC (.int 10)) (gC (.int 18)))),(g2 UR (AZ 0) (gC (.int 2305843009213693951))),(AZ 1)]))
 SH)
 (xX (KM [(gC (.int 0)),(g2 UR (AZ 0) (gC (.int 2305843009213693951))),(AZ 1)])))
def qI:Mr:=RU 2 Tt
theorem zNJ:FnScope ["cell","turn"] ["cell","turn"] (J7 Fv):=UV
theorem zL5{K:AC}(Fn:Fun K "_law_well" "_law_well" Fv f fd)(T:Bt mg) :FnOk P w K mg base L6 1 f fd ["cell","turn"] (N7 K 2 qI) :=
 W1 Fn zNJ λG3 A outer s H E hr=>by
  have hu:=hr.units;unfold Tt
  exact(IE (W4 (yF7 (CJ 0) (xT H9 H9))
   (KA (Pu (VF (D8 (Cb (CJ 0) (xT H9 H9)) (D8 (j8 (CJ 0) H9) (D8 (CJ 1) FO))))))
   X1)
   (KA (Pu (VF (D8 H9 (D8 (j8 (CJ 0) H9) (D8 (CJ 1) FO)))))))
def Ts:GS :=
 (GA (O6 (US [0] (gB (g2 Hq (g2 E8 (AZ 0) (gC (.int 0))) (gC (.int 0)))))
 (GA (IN (.nm 2) (QD [0] (g2 UR (g2 E8 (AZ 0) (gC (.int 0))) (AZ 1))))
 (GA (RW 0 (gC (.int 0)) (QD [0] (g2 mM (g2 E8 (AZ 0) (gC (.int 0))) (AZ 1))))
 (OM (AZ 2))))
 SH)
 (GA (RW 0 (gC (.int 2)) (QD [0] (g2 MZ (g2 E8 (AZ 0) (gC (.int 2))) (gC (.int 1)))))
 (GA (IN (.nm 3) (gC (.int 2305843009213693951)))
 (GA (IN (.nm 4) (QD [0] (g2 UR (g2 MZ (g2 E8 (AZ 0) (gC (.int 1))) (g2 YE (gC (.int 1000003)) (g2 E8 (AZ 0) (gC (.int 2))))) (AZ 3))))
 (GA (IN (.nm 4) (QD [0] (g2 UR (g2 MZ (g2 MZ (g2 YE (AZ 4) (AZ 4)) (g2 YE (gC (.int 7919)) (g2 aR (g2 E8 (AZ 0) (gC (.int 2))) (gC (.int 2))))) (gC (.int 5))) (AZ 3))))
 (OM (g2 UR (g2 mM (g2 UR (g2 aR (AZ 4) (gC (.int 3))) (AZ 3)) (gC (.int 13))) (AZ 1))))))))
def LQ:Mr:=RU 5 Ts
theorem J3:FnScope ["bag","many","found","p","n"] ["bag","many"] (J7 Fu):=UV
theorem zL6{K:AC}(Fn:Fun K "_law_take" "_law_take" Fu f fd)(T:Bt mg) :FnOk P w K mg base L6 1 f fd ["bag","many"] (N7 K 2 LQ) :=
 W1 Fn J3 λG3 A outer s H E hr=>by
  have hu:=hr.units;unfold Ts
  exact(IE (W4 (mS [0] (yF6 (MI hu (CJ 0) H9) H9))
   (IE (QE (i:=2) J3.nd rfl (BO rfl) (a7 [0] (j8 (MI hu (CJ 0) H9) (CJ 1))))
   (IE (fR 0 hu H9 (a7 [0] (Nt (MI hu (CJ 0) H9) (CJ 1))))
   (KA (QF (CJ 2)))))
   X1)
   (IE (fR 0 hu H9 (a7 [0] (ZE (MI hu (CJ 0) H9) H9)))
   (IE (QE (i:=3) J3.nd rfl (BO rfl) H9)
   (IE (QE (i:=4) J3.nd rfl (BO rfl) (a7 [0] (j8 (ZE (MI hu (CJ 0) H9) (xU H9 (MI hu (CJ 0) H9))) (CJ 3))))
   (IE (QE (i:=4) J3.nd rfl (BO rfl) (a7 [0] (j8 (ZE (ZE (xU (CJ 4) (CJ 4)) (xU H9 (xT (MI hu (CJ 0) H9) H9))) H9) (CJ 3))))
   (KA (QF (j8 (Nt (j8 (xT (CJ 4) H9) (CJ 3)) H9) (CJ 1)))))))))
def Ui:GS :=
 (GA (VH 3 (gC (.dk [])))
 (GA (RB (JS (g2 E8 (AZ 0) (gC (.int 1)))) (.tp [(.nm 4),(.nm 5)])
 (RW 3 (AZ 4) (QD [3] (g2 MZ (cD (AZ 3) (AZ 4) (KM [])) (KM [(AZ 5)])))))
 (GA (VH 6 (uE (gB (g2 LZ (AZ 1) (AZ 2))) (Cs (AZ 1) (gC (.bl AK))) (gC (.dk []))))
 (GA (VH 7 (By [6] (gN aX [(AZ 6)])))
 (GA (YI (US [7] (gB (g2 LZ (AZ 7) (KM []))))
 (RB (JS (cD (AZ 3) (SC 7 fB []) (KM []))) (.nm 5)
 (O6 (US [6] (iE (gB (g2 LZ (AZ 5) (AZ 2))) (gB (g2 P5 (AZ 5) (AZ 6)))))
 (GA (RW 6 (AZ 5) (gC (.bl AK)))
 (fG (SC 7 VC [(AZ 5)])))
 SH)) 100000)
 (OM (QD [6] (gN aX [(AZ 6)]))))))))
def cN:Mr:=RU 8 Ui
theorem HD:FnScope ["net","gate","closed","ahead","one","other","found","row"] ["net","gate","closed"] (J7 Ge):=UV
theorem zJ7{K:AC}(Fn:Fun K "_law_reach" "_law_reach" Ge f fd)(T:Bt mg) :FnOk P w K mg base L6 1 f fd ["net","gate","closed"] (N7 K 3 cN) :=
 W1 Fn HD λG3 A outer s H E hr=>by
  have hu:=hr.units;unfold Ui
  exact(IE (bE (i:=3) HD.nd rfl (BO rfl) yI)
   (IE (cM CT rfl (W8 (MI hu (CJ 0) H9)) (fK rfl (UT (VJ (i:=4) HD.nd rfl (BO rfl)) (UT (VJ (i:=5) HD.nd rfl (BO rfl)) fP)))
   (KA (fR 3 hu (CJ 4) (a7 [3] (ZE (Wb hu (CJ 3) (CJ 4) (pA8 (VF FO))) (pA8 (VF (D8 (CJ 5) FO))))))))
   (IE (bE (i:=6) HD.nd rfl (BO rfl) (yIR (fE hu (CJ 1) (CJ 2)) (zZX (CJ 1) hJ) yI))
   (IE (bE (i:=7) HD.nd rfl (BO rfl) (yGF [6] (sM rfl T.b_list (D8 (CJ 6) FO))))
   (IE (Ep 100000 CT (mS [7] (fE hu (CJ 7) (pA8 (VF FO))))
   (KA (cM CT rfl (W8 (Wb hu (CJ 3) (yGC 7) (pA8 (VF FO)))) (VJ (i:=5) HD.nd rfl (BO rfl))
   (KA (W4 (mS [6] (VW.t (Dc (fE hu (CJ 5) (CJ 2)) (Ed (p7 hu (CJ 5) (CJ 6))))))
   (IE (fR 6 hu (CJ 5) hJ)
   (KA (yP (zF 7 (D8 (CJ 5) FO)))))
   X1)))))
   (KA (QF (a7 [6] (pA8 (sM rfl T.b_list (D8 (CJ 6) FO)))))))))))
theorem MN:FnScope ["e","kinds"] ["e"] (J7 Gd):=UV
theorem ku{K:AC}{c0 c1 c2 c3 c4 c5 c6 c7 c8 c9:AR}(Fn:Fun K "_law_kinds" "_law_kinds" Gd f fd)(T:Bt mg)(hb:Binds K fd ["e"] [])(Z:ExK K C bm ZJ)(m0:mg "NotReached"=AA (.ref c0))(e0:BQ K (.ref C) (.ref c0)=AA AK)(m1:mg "NoPaper"=AA (.ref c1))(e1:BQ K (.ref C) (.ref c1)=AA AD)(m2:mg "TooMany"=AA (.ref c2))(e2:BQ K (.ref C) (.ref c2)=AA AD)(m3:mg "NoSuch"=AA (.ref c3))(e3:BQ K (.ref C) (.ref c3)=AA AD)(m4:mg "NoLane"=AA (.ref c4))(e4:BQ K (.ref C) (.ref c4)=AA AD)(m5:mg "NoRound"=AA (.ref c5))(e5:BQ K (.ref C) (.ref c5)=AA AD)(m6:mg "NoText"=AA (.ref c6))(e6:BQ K (.ref C) (.ref c6)=AA AD)(m7:mg "NoRow"=AA (.ref c7))(e7:BQ K (.ref C) (.ref c7)=AA AD)(m8:mg "NoPlace"=AA (.ref c8))(e8:BQ K (.ref C) (.ref c8)=AA AD)(m9:mg "NothingLeft"=AA (.ref c9))(e9:BQ K (.ref C) (.ref c9)=AA AD)(e10:BQ K (.ref C) (.type "ValueError")=AA AK):KU P w K mg base f C [AK,AD,AD,AD,AD,AD,AD,AD,AD,AD,AK] :=
 zVG (l1:=[AK,AD,AD,AD]) (l2:=[AD,AD,AD,AD]) (l3:=[AD,AD,AK]) Fn MN hb 'd' λG3 A outer s H a hX=>by
  exact(bF (sT (i:=1) MN.nd rfl (BO rfl) (mT (cJ (cK hX Z T.b_isinstance (fN (v:=.ref c0) rfl m0 rfl) (λ_ h=>h) e0) (cJ (cK hX Z T.b_isinstance (fN (v:=.ref c1) rfl m1 rfl) (λ_ h=>h) e1) (cJ (cK hX Z T.b_isinstance (fN (v:=.ref c2) rfl m2 rfl) (λ_ h=>h) e2) (cJ (cK hX Z T.b_isinstance (fN (v:=.ref c3) rfl m3 rfl) (λ_ h=>h) e3) Cw)))))) (bF (sT (i:=1) MN.nd rfl (BO rfl) (yA Od (pv 1) (mT (cJ (cK hX Z T.b_isinstance (fN (v:=.ref c4) rfl m4 rfl) (λ_ h=>h) e4) (cJ (cK hX Z T.b_isinstance (fN (v:=.ref c5) rfl m5 rfl) (λ_ h=>h) e5) (cJ (cK hX Z T.b_isinstance (fN (v:=.ref c6) rfl m6 rfl) (λ_ h=>h) e6) (cJ (cK hX Z T.b_isinstance (fN (v:=.ref c7) rfl m7 rfl) (λ_ h=>h) e7) Cw))))))) (kQ (yF (yA Od (pv 1) (mT (cJ (cK hX Z T.b_isinstance (fN (v:=.ref c8) rfl m8 rfl) (λ_ h=>h) e8) (cJ (cK hX Z T.b_isinstance (fN (v:=.ref c9) rfl m9 rfl) (λ_ h=>h) e9) (cJ (cK hX Z T.b_isinstance (Qi (v:=.ty "ValueError") rfl T.b_ValueError (by decide +kernel) rfl) (λ_ h=>h) e10) Cw)))))))))
def Tr:GS :=
 (OM (N6 (cI (gC (.int 11))) 1 [0] (.nm 0) VD (Xi (g2 UW (AZ 0) (AZ 1)) (g2 UW (AZ 0) (gC (.int 10))))))
def tQ:Mr:=RU 1 Tr
theorem zNK:FnScope ["which"] ["which"] (J7 Ft):=UV
theorem zL7{K:AC}(Fn:Fun K "_law_only" "_law_only" Ft f fd)(T:Bt mg) :FnOk P w K mg base L6 1 f fd ["which"] (N7 K 1 tQ) :=
 W1 Fn zNK λG3 A outer s H E hr=>by
  have hu:=hr.units;unfold Tr;exact(KA (QF (pA8 (cL (own:=["k"]) (CZ:=["which"]) (js:=[0]) (cn rfl) rfl (zJ T.b_range H9) (λC s H fp=>(UU 0)) (λC s H fp=>mX) (λC s H fp=>(yIK (Ac hu (CJ 0) (CJ 1)) (Wr (Ac hu (CJ 0) H9))))))))
def Uq:GS :=
 (GA (IN (.nm 2) (N6 (JS (AZ 1)) 2 [0] (.tp [(.nm 0),(.nm 1)]) VD (g2 jW (AZ 2) (AZ 0))))
 (GA (O6 (j3 (gB (g2 LZ (AZ 2) (gN aY [(AZ 2)]))) (gB (g2 ZH (Dl (AZ 2)) (gN QV [(AZ 2)]))))
 (OM (gC (.bl AD)))
 SH)
 (OM (gN l9 [(N6 (JS (AZ 1)) 2 [0] (.tp [(.nm 0),(.nm 1)]) VD (g2 UW (g2 E8 (AZ 2) (g2 MZ (g2 jW (AZ 2) (AZ 0)) (gC (.int 1)))) (AZ 1)))]))))
def qG:Mr:=RU 3 Uq
theorem M3:FnScope ["row","lanes","spots"] ["row","lanes"] (J7 Gh):=UV
theorem zGC{K:AC}(Fn:Fun K "_law_in_order" "_law_in_order" Gh f fd)(T:Bt mg) :FnOk P w K mg base L6 1 f fd ["row","lanes"] (N7 K 2 qG) :=
 W1 Fn M3 λG3 A outer s H E hr=>by
  have hu:=hr.units;unfold Uq
  exact(IE (Fx (i:=2) (own:=["one","other"]) (CZ:=["row"]) (js:=[0]) (cn rfl) rfl (W8 (CJ 1)) (λC s H fp=>(fK rfl (UT (UU 0) (UT (UU 1) fP)))) (λC s H fp=>mX) (λC s H fp=>(Oz (CJ 2) (CJ 0))) M3.nd rfl rfl rfl)
   (IE (W4 (VW.t (Cj (fE hu (CJ 2) (pA8 (Em T.b_sorted (D8 (CJ 2) FO)))) (Dd (xV hu (zVV rfl T.b_len T.b_set (CJ 2)) (j6 T.b_len (D8 (CJ 2) FO))))))
   (KA (QF hJ))
   X1)
   (KA (QF (Wc rfl T.b_all (D8 (pA8 (cL (own:=["one","other"]) (CZ:=["row"]) (js:=[0]) (cn rfl) rfl (W8 (CJ 1)) (λC s H fp=>(fK rfl (UT (UU 0) (UT (UU 1) fP)))) (λC s H fp=>mX) (λC s H fp=>(Ac hu (MI hu (CJ 2) (ZE (Oz (CJ 2) (CJ 0)) H9)) (CJ 1))))) FO))))))
def Uh:GS :=
 (GA (IN (.nm 3) (g2 E8 (AZ 0) (gC (.int 0))))
 (GA (VH 4 (g2 qQ (KM [(gC .non)]) (AZ 3)))
 (GA (O6 (gB (g2 RX (AZ 1) (AZ 2)))
 (OM (AZ 4))
 SH)
 (GA (IN (.nm 5) (LD fS [(AZ 0)]))
 (GA (IN (.nm 6) (N6 (cI (AZ 3)) 1 [2] (.nm 0) VD (g2 RX (AZ 0) (AZ 1))))
 (GA (RW 4 (AZ 1) (gC (.int 0)))
 (GA (IN (.nm 7) (KM [(AZ 1)]))
 (GA (YI (W0 (AZ 7))
 (GA (VH 8 (KM []))
 (GA (RB (JS (AZ 7)) (.nm 9)
 (RB (JS (g2 E8 (AZ 5) (AZ 9))) (.nm 10)
 (O6 (US [4] (iE (gB (g2 aS (g2 E8 (AZ 4) (AZ 10)) (gC .non))) (Z2 (W0 (g2 E8 (AZ 6) (AZ 10))))))
 (GA (RW 4 (AZ 10) (QD [4] (g2 MZ (g2 E8 (AZ 4) (AZ 9)) (gC (.int 1)))))
 (fG (SC 8 VC [(AZ 10)])))
 SH)))
 (IN (.nm 7) (AZ 8)))) 100000)
 (OM (AZ 4))))))))))
def nA:Mr:=RU 11 Uh
theorem FJ:FnScope ["net","start","closed","many","away","nexts","shut","layer","further","place","head"] ["net","start","closed"] (J7 Gc):=UV
theorem zJ8{K:AC}(Fn:Fun K "lanes_away" "lanes_away" Gc f fd)(T:Bt mg)(LS:N8 P w K mg base "next_places" 1 1 fS):FnOk P w K mg base L6 2 f fd ["net","start","closed"] (N7 K 3 nA) :=
 W1 Fn FJ λG3 A outer s H E hr=>by
  have hu:=hr.units;unfold Uh
  exact(IE (QE (i:=3) FJ.nd rfl (BO rfl) (MI hu (CJ 0) H9))
   (IE (bE (i:=4) FJ.nd rfl (BO rfl) (yF9 (D8 fH FO) (CJ 3)))
   (IE (W4 (Wj hu (CJ 1) (CJ 2))
   (KA (QF (CJ 4)))
   X1)
   (IE (QE (i:=5) FJ.nd rfl (BO rfl) (TY LS (hr.mono 'd') (D8 (CJ 0) FO)))
   (IE (Fx (i:=6) (own:=["place"]) (CZ:=["closed"]) (js:=[2]) (cn rfl) rfl (zJ T.b_range (CJ 3)) (λC s H fp=>(UU 0)) (λC s H fp=>mX) (λC s H fp=>(yIN hu (CJ 0) (CJ 1))) FJ.nd rfl rfl rfl)
   (IE (fR 4 hu (CJ 1) H9)
   (IE (QE (i:=7) FJ.nd rfl (BO rfl) (pA8 (VF (D8 (CJ 1) FO))))
   (IE (Ep 100000 CT (pX (CJ 7))
   (IE (bE (i:=8) FJ.nd rfl (BO rfl) (VF FO))
   (IE (cM CT rfl (W8 (CJ 7)) (VJ (i:=9) FJ.nd rfl (BO rfl))
   (KA (cM CT rfl (W8 (MI hu (CJ 5) (CJ 9))) (VJ (i:=10) FJ.nd rfl (BO rfl))
   (KA (W4 (mS [4] (VW.t (Dc (yD (MI hu (CJ 4) (CJ 10)) fH) (Ed (yG (pX (MI hu (CJ 6) (CJ 10))))))))
   (IE (fR 4 hu (CJ 10) (a7 [4] (ZE (MI hu (CJ 4) (CJ 9)) H9)))
   (KA (yP (zF 8 (D8 (CJ 10) FO)))))
   X1)))))
   (KA (QE (i:=7) FJ.nd rfl (BO rfl) (CJ 8))))))
   (KA (QF (CJ 4)))))))))))
def Up:GS :=
 (GA (VH 2 (gN aX [(AZ 1)]))
 (GA (VH 3 (KM []))
 (GA (YI (US [2] (gB (g2 LZ (AZ 2) (KM []))))
 (fG (SC 3 VC [(SC 2 kI [(LJ LQ 0 [(QD [2] (gN QV [(AZ 2)]))])])])) 100000)
 (OM (AZ 3)))))
def tU:Mr:=RU 4 Up
theorem KB:FnScope ["bag","some","left","found"] ["bag","some"] (J7 Gg):=UV
theorem zGD{K:AC}(Fn:Fun K "_law_shuffled" "_law_shuffled" Gg f fd)(T:Bt mg)(DZ:N8 P w K mg base "_law_take" 1 2 LQ):FnOk P w K mg base L6 2 f fd ["bag","some"] (N7 K 2 tU) :=
 W1 Fn KB λG3 A outer s H E hr=>by
  have hu:=hr.units;unfold Up
  exact(IE (bE (i:=2) KB.nd rfl (BO rfl) (sM rfl T.b_list (D8 (CJ 1) FO)))
   (IE (bE (i:=3) KB.nd rfl (BO rfl) (VF FO))
   (IE (Ep 100000 CT (mS [2] (fE hu (CJ 2) (pA8 (VF FO))))
   (KA (yP (zF 3 (D8 (zZW 2 (D8 (W6 0 DZ (hr.mono 'd') (D8 (a7 [2] (j6 T.b_len (D8 (CJ 2) FO))) FO)) FO)) FO)))))
   (KA (QF (CJ 3))))))
def Tq:GS :=
 (GA (IN (.nm 4) (LD nA [(LD tM [(AZ 0)]),(AZ 2),(AZ 3)]))
 (GA (O6 (gB (g2 aS (g2 E8 (AZ 4) (AZ 1)) (gC .non)))
 (OM (gC .non))
 SH)
 (GA (IN (.nm 5) (LD fS [(AZ 0)]))
 (GA (VH 6 (KM [(AZ 1)]))
 (GA (RB (xO (g2 E8 (AZ 4) (AZ 1))) (.nm 7)
 (fG (SC 6 VC [(QD [6] (gN qM [(N6 (JS (g2 E8 (AZ 5) (g2 E8 (AZ 6) (g1 qR (gC (.int 1)))))) 1 [7,4] (.nm 0) (gB (g2 UW (g2 E8 (AZ 2) (AZ 0)) (AZ 1))) (AZ 0))]))])))
 (OM (QD [6] (gN ZZ [(AZ 6)]))))))))
def cO:Mr:=RU 8 Tq
theorem J1:FnScope ["net","one","other","closed","left","nexts","way","more"] ["net","one","other","closed"] (J7 Fq):=UV
theorem zL8{K:AC}(Fn:Fun K "least_way" "least_way" Fq f fd)(T:Bt mg)(MP:N8 P w K mg base "lanes_away" 2 3 nA)(LS:N8 P w K mg base "next_places" 1 1 fS)(eI:N8 P w K mg base "turned" 1 1 tM):FnOk P w K mg base L6 3 f fd ["net","one","other","closed"] (N7 K 4 cO) :=
 W1 Fn J1 λG3 A outer s H E hr=>by
  have hu:=hr.units;unfold Tq
  exact(IE (QE (i:=4) J1.nd rfl (DY rfl) (TY MP (hr.mono 'd') (D8 (TY eI (hr.mono 'd') (D8 (CJ 0) FO)) (D8 (CJ 2) (D8 (CJ 3) FO)))))
   (IE (W4 (yD (MI hu (CJ 4) (CJ 1)) fH)
   (KA (QF fH))
   X1)
   (IE (QE (i:=5) J1.nd rfl (BO rfl) (TY LS (hr.mono 'd') (D8 (CJ 0) FO)))
   (IE (bE (i:=6) J1.nd rfl (BO rfl) (VF (D8 (CJ 1) FO)))
   (IE (cM CT rfl (yED T.b_reversed T.b_range (MI hu (CJ 4) (CJ 1))) (VJ (i:=7) J1.nd rfl (DY rfl))
   (KA (yP (zF 6 (D8 (a7 [6] (yD4 rfl T.b_min (D8 (pA8 (cL (own:=["head"]) (CZ:=["more","left"]) (js:=[7,4]) (cn rfl) rfl (W8 (MI hu (CJ 5) (MI hu (CJ 6) (yF8 H9)))) (λC s H fp=>(UU 0)) (λC s H fp=>(mW (Wk hu (MI hu (CJ 2) (CJ 0)) (CJ 1)))) (λC s H fp=>(CJ 0)))) FO))) FO)))))
   (KA (QF (a7 [6] (kN T.b_tuple (D8 (CJ 6) FO))))))))))
def Ul:GS :=
 (GA (IN (.nm 3) (LD nA [(AZ 0),(AZ 1),(AZ 2)]))
 (OM (gN ZZ [(N6 (Cy (AZ 3)) 2 [] (.tp [(.nm 0),(.nm 1)]) (gB (g2 sF (AZ 1) (gC .non))) (AZ 0))])))
def zV:Mr:=RU 4 Ul
theorem NP:FnScope ["net","gate","closed","away"] ["net","gate","closed"] (J7 Gi):=UV
theorem zHF{K:AC}(Fn:Fun K "reached_past" "reached_past" Gi f fd)(T:Bt mg)(MP:N8 P w K mg base "lanes_away" 2 3 nA):FnOk P w K mg base L6 3 f fd ["net","gate","closed"] (N7 K 3 zV) :=
 W1 Fn NP λG3 A outer s H E hr=>by
  have hu:=hr.units;unfold Ul
  exact(IE (QE (i:=3) NP.nd rfl (BO rfl) (TY MP (hr.mono 'd') (D8 (CJ 0) (D8 (CJ 1) (D8 (CJ 2) FO)))))
   (KA (QF (kN T.b_tuple (D8 (pA8 (cL (own:=["place","steps"]) (CZ:=[]) (js:=[]) (cn rfl) rfl (zU7 T.b_enumerate (CJ 3)) (λC s H fp=>(fK rfl (UT (UU 0) (UT (UU 1) fP)))) (λC s H fp=>(mW (zZE (CJ 1) fH))) (λC s H fp=>(CJ 0)))) FO)))))
def Ti:GS :=
 (GA (IN (.nm 2) (g2 E8 (KM [(AZ 1),(g2 MZ (gC (.int 1)) (LJ LQ 0 [(AZ 1)])),(g2 MZ (gC (.int 1)) (LJ LQ 0 [(gN iA [(gC (.int 7)),(AZ 1)])]))]) (LJ LQ 0 [(gC (.int 3))])))
 (GA (IN (.nm 3) (LJ LQ 0 [(gC (.int 4))]))
 (GA (IN (.nm 4) (g2 E8 (KM [(gC (.int 0)),(gC (.int 1)),(LJ LQ 0 [(g2 MZ (AZ 2) (gC (.int 1)))]),(g2 MZ (AZ 2) (LJ LQ 0 [(g2 YE (gC (.int 5)) (AZ 2))])),(gC (.int 120))]) (LJ LQ 0 [(gC (.int 5))])))
 (GA (VH 5 (gC (.dt [])))
 (GA (RB (sD (gC (.int 1)) (AZ 2)) (.nm 6)
 (O6 (gB (g2 ZH (AZ 3) (gC (.int 3))))
 (RW 5 (RD [(g2 E8 (KM [(LJ LQ 0 [(AZ 6)]),(g2 jZ (g2 jZ (AZ 6) (gC (.int 1))) (LJ LQ 0 [(gN iA [(AZ 6),(gC (.int 2))])])),(gC (.int 0))]) (AZ 3)),(AZ 6)]) (gC (.bl AK)))
 SH))
 (GA (RB (cI (AZ 4)) (.nm 7)
 (GA (IN (.nm 8) (LJ LQ 0 [(AZ 2)]))
 (GA (IN (.nm 9) (g2 E8 (KM [(LJ LQ 0 [(AZ 2)]),(g2 UR (g2 MZ (g2 MZ (AZ 8) (gC (.int 1))) (LJ LQ 0 [(gC (.int 2))])) (AZ 2))]) (LJ LQ 0 [(gC (.int 2))])))
 (O6 (US [5] (iE (gB (g2 LZ (AZ 8) (AZ 9))) (gB (g2 ZH (gN QV [(AZ 5)]) (gC (.int 120))))))
 (RW 5 (RD [(AZ 8),(AZ 9)]) (gC (.bl AK)))
 SH))))
 (GA (IN (.nm 10) (LJ tU 0 [(Ht (AZ 2))]))
 (GA (IN (.nm 11) (g2 E8 (KM [(g2 E8 (AZ 10) (gC (.int 0))),(g2 E8 (AZ 10) (gC (.int 0))),(LJ LQ 0 [(AZ 2)])]) (LJ LQ 0 [(gC (.int 3))])))
 (OM (QD [5] (RD [(RD [(AZ 2),(gN ZZ [(gN aY [(N6 (JS (AZ 5)) 2 [10] (.tp [(.nm 0),(.nm 1)]) VD (RD [(g2 E8 (AZ 2) (AZ 0)),(g2 E8 (AZ 2) (AZ 1))]))])])]),(AZ 11)])))))))))))
def qA:Mr:=RU 12 Ti
theorem GC:FnScope ["bag","most","many","way","more","lanes","k","turn","one","other","names","gate"] ["bag","most"] (J7 Fj):=UV
theorem zNL{K:AC}(Fn:Fun K "_law_net" "_law_net" Fj f fd)(T:Bt mg)(DZ:N8 P w K mg base "_law_take" 1 2 LQ)(RJ:N8 P w K mg base "_law_shuffled" 2 2 tU):FnOk P w K mg base L6 3 f fd ["bag","most"] (N7 K 2 qA) :=
 W1 Fn GC λG3 A outer s H E hr=>by
  have hu:=hr.units;unfold Ti
  exact(IE (QE (i:=2) GC.nd rfl (BO rfl) (MI hu (pA8 (VF (D8 (CJ 1) (D8 (ZE H9 (W6 0 DZ (hr.mono 'd') (D8 (CJ 1) FO))) (D8 (ZE H9 (W6 0 DZ (hr.mono 'd') (D8 (Nq rfl T.b_min (D8 H9 (D8 (CJ 1) FO))) FO))) FO))))) (W6 0 DZ (hr.mono 'd') (D8 H9 FO))))
   (IE (QE (i:=3) GC.nd rfl (BO rfl) (W6 0 DZ (hr.mono 'd') (D8 H9 FO)))
   (IE (QE (i:=4) GC.nd rfl (BO rfl) (MI hu (pA8 (VF (D8 H9 (D8 H9 (D8 (W6 0 DZ (hr.mono 'd') (D8 (ZE (CJ 2) H9) FO)) (D8 (ZE (CJ 2) (W6 0 DZ (hr.mono 'd') (D8 (xU H9 (CJ 2)) FO))) (D8 H9 FO))))))) (W6 0 DZ (hr.mono 'd') (D8 H9 FO))))
   (IE (bE (i:=5) GC.nd rfl (BO rfl) Pk)
   (IE (cM CT rfl (zRZ T.b_range H9 (CJ 2)) (VJ (i:=6) GC.nd rfl (BO rfl))
   (KA (W4 (xV hu (CJ 3) H9)
   (KA (fR 5 hu (aZ (D8 (MI hu (pA8 (VF (D8 (W6 0 DZ (hr.mono 'd') (D8 (CJ 6) FO)) (D8 (Cb (Cb (CJ 6) H9) (W6 0 DZ (hr.mono 'd') (D8 (Nq rfl T.b_min (D8 (CJ 6) (D8 H9 FO))) FO))) (D8 H9 FO))))) (CJ 3)) (D8 (CJ 6) FO))) hJ))
   X1)))
   (IE (cM CT rfl (zJ T.b_range (CJ 4)) (VJ (i:=7) GC.nd rfl (BO rfl))
   (IE (QE (i:=8) GC.nd rfl (BO rfl) (W6 0 DZ (hr.mono 'd') (D8 (CJ 2) FO)))
   (IE (QE (i:=9) GC.nd rfl (BO rfl) (MI hu (pA8 (VF (D8 (W6 0 DZ (hr.mono 'd') (D8 (CJ 2) FO)) (D8 (j8 (ZE (ZE (CJ 8) H9) (W6 0 DZ (hr.mono 'd') (D8 H9 FO))) (CJ 2)) FO)))) (W6 0 DZ (hr.mono 'd') (D8 H9 FO))))
   (KA (W4 (mS [5] (VW.t (Dc (fE hu (CJ 8) (CJ 9)) (Ed (xV hu (j6 T.b_len (D8 (CJ 5) FO)) H9)))))
   (KA (fR 5 hu (aZ (D8 (CJ 8) (D8 (CJ 9) FO))) hJ))
   X1)))))
   (IE (QE (i:=10) GC.nd rfl (DY rfl) (W6 0 RJ (hr.mono 'd') (D8 (pA8 (zNA rfl T.b_range T.b_list (CJ 2))) FO)))
   (IE (QE (i:=11) GC.nd rfl (BO rfl) (MI hu (pA8 (VF (D8 (MI hu (CJ 10) H9) (D8 (MI hu (CJ 10) H9) (D8 (W6 0 DZ (hr.mono 'd') (D8 (CJ 2) FO)) FO))))) (W6 0 DZ (hr.mono 'd') (D8 H9 FO))))
   (KA (QF (a7 [5] (aZ (D8 (aZ (D8 (CJ 2) (D8 (kN T.b_tuple (D8 (pA8 (Em T.b_sorted (D8 (pA8 (cL (own:=["one","other"]) (CZ:=["names"]) (js:=[10]) (cn rfl) rfl (W8 (CJ 5)) (λC s H fp=>(fK rfl (UT (UU 0) (UT (UU 1) fP)))) (λC s H fp=>mX) (λC s H fp=>(aZ (D8 (MI hu (CJ 2) (CJ 0)) (D8 (MI hu (CJ 2) (CJ 1)) FO)))))) FO))) FO)) FO))) (D8 (CJ 11) FO))))))))))))))
def Sg:GS :=
 (OM (LD zV [(AZ 0),(AZ 1),(RD [])]))
def pY:Mr:=RU 2 Sg
theorem zSK:FnScope ["net","gate"] ["net","gate"] (J7 Fh):=UV
theorem zPR{K:AC}(Fn:Fun K "reached" "reached" Fh f fd)(T:Bt mg)(SZ:N8 P w K mg base "reached_past" 3 3 zV):FnOk P w K mg base L6 4 f fd ["net","gate"] (N7 K 2 pY) :=
 W1 Fn zSK λG3 A outer s H E hr=>by
  have hu:=hr.units;unfold Sg;exact(KA (QF (TY SZ (hr.mono 'd') (D8 (CJ 0) (D8 (CJ 1) (D8 (aZ FO) FO))))))
def Ug:GS :=
 (GA (IN (.nm 3) (LD cO [(AZ 0),(AZ 1),(AZ 2),(RD [])]))
 (GA (O6 (gB (g2 aS (AZ 3) (gC .non)))
 Gz
 SH)
 (OM (gN ZZ [(N6 (qO (AZ 3) (mR (AZ 3) (AA (gC (.int 1))) AN)) 1 [2,0,1] (.nm 0) (gB (g2 P5 (AZ 1) (LD pY [(LD qF [(AZ 2),(AZ 0)]),(AZ 3)]))) (AZ 0))]))))
def kR:Mr:=RU 4 Ug
theorem KN:FnScope ["net","gate","place","way"] ["net","gate","place"] (J7 zP):=UV
theorem zJ9{K:AC}(Fn:Fun K "must_lanes" "must_lanes" zP f fd)(T:Bt mg)(NX:N8 P w K mg base "least_way" 3 4 cO)(U2:N8 P w K mg base "reached" 4 2 pY)(NW:N8 P w K mg base "without_lane" 1 2 qF):FnOk P w K mg base L6 5 f fd ["net","gate","place"] (N7 K 3 kR) :=
 W1 Fn KN λG3 A outer s H E hr=>by
  have hu:=hr.units;unfold Ug
  exact(IE (QE (i:=3) KN.nd rfl (BO rfl) (TY NX (hr.mono 'd') (D8 (CJ 0) (D8 (CJ 1) (D8 (CJ 2) (D8 (aZ FO) FO))))))
   (IE (W4 (yD (CJ 3) fH)
   (KA On)
   X1)
   (KA (QF (kN T.b_tuple (D8 (pA8 (cL (own:=["lane"]) (CZ:=["place","net","gate"]) (js:=[2,0,1]) (cn rfl) rfl (Np T.b_zip (CJ 3) (Po (CJ 3) (Dz H9) zZP)) (λC s H fp=>(UU 0)) (λC s H fp=>(mW (p7 hu (CJ 1) (TY U2 (hr.mono 'd') (D8 (TY NW (hr.mono 'd') (D8 (CJ 2) (D8 (CJ 0) FO))) (D8 (CJ 3) FO)))))) (λC s H fp=>(CJ 0)))) FO))))))
def Ga:GX :=
 (xP (IN (.nm 3) (LD cO [(AZ 0),(AZ 1),(AZ 2),(RD [])])) (z9 (gB (g2 aS (AZ 3) (gC .non))) (Uv [(gJ O9 [.inl "no way leads from ",.inr (AZ 1),.inl " to ",.inr (AZ 2)])])))
def zT:List D->Out Ev:=Uu 4 Ga
theorem zKA{K:AC}(Fn:Fun K "must_lanes" "must_lanes" zP f fd)(T:Bt mg)(hmC:mg "NotReached"=AA (.ref C))(Z:JZ K C [.type "ValueError",.type "Exception",.type "BaseException",.type "object"] "ValueError.__new__"=AK)(NX:N8 P w K mg base "least_way" 3 4 cO)(U2:N8 P w K mg base "reached" 4 2 pY)(NW:N8 P w K mg base "without_lane" 1 2 qF):FnOk P w K mg base (X2 P w C) 5 f fd ["net","gate","place"] (Ah K C 3 zT) :=
 yIU Fn KN λG3 A outer s H E hr hh=>by
  have hu:=hr.units;unfold Ga;exact(zVJ (QE (i:=3) KN.nd rfl (BO rfl) (TY NX (hr.mono 'd') (D8 (CJ 0) (D8 (CJ 1) (D8 (CJ 2) (D8 (aZ FO) FO)))))) (yD2 (yD (CJ 3) fH) (zR9 PySem.F.excBase_ValueError Z hmC hh (D8 (yEG (.txt 'd' (.val (CJ 1) (.txt 'd' (.val (CJ 2) .nil))))) FO))))
def Fc(zA0:Mr):GS :=
 (GA (O6 (W0 (pI "tuple" (AZ 1)))
 (GA (O6 (j3 (Z2 (W0 (pI "tuple" (AZ 0)))) (gB (g2 LZ (gN QV [(AZ 0)]) (gN QV [(AZ 1)]))))
 (OM (gC (.bl AD)))
 SH)
 (OM (gN l9 [(N6 (qO (AZ 0) (AZ 1)) 2 [] (.tp [(.nm 0),(.nm 1)]) VD (LD zA0 [(AZ 0),(AZ 1)]))])))
 SH)
 (OM (Gp (Go (pI "bool" (AZ 0))) (g2 UW (AZ 0) (AZ 1)))))
def zA0:Nat->Mr
 |0=>λ_=>.bad
 |n+1=>RU 2 (Fc (zA0 n))
theorem zSL:FnScope ["found","due"] ["found","due"] (J7 Fg):=UV
theorem Th{P:CO}{w:D2}{K:AC}{mg:CN->Option AI}{base:D3}{f:AR}{fd:JO}(Fn:Fun K "_law_is" "_law_is" Fg f fd)(T:Bt mg)(hm:mg "_law_is"=AA (.ref f))(hb:Binds K fd ["found","due"] []) :∀n:Nat,FnOk P w K mg base L6 (n+0) f fd ["found","due"] (N7 K 2 (zA0 n))
 |0=>yDW
 |n+1=>by
  have QL:N8 P w K mg base "_law_is" (n+0) 2 (zA0 n):=Fun.cal Fn (Th Fn T hm hb  n) hm hb;have hl:n+1+0=(n+0)+1:=by lia
  rw[hl];show FnOk P w K mg base L6 ((n+0)+1) f fd ["found","due"] (N7 K 2 (RU 2 (Fc (zA0 n))))
  exact W1 Fn zSL λG3 A outer s H E hr=>by
   have hu:=hr.units;unfold Fc
   exact(IE (W4 (pX (Ct Ry T.b_isinstance T.b_tuple (by decide +kernel) (CJ 1)))
   (IE (W4 (VW.t (Cj (yG (pX (Ct Ry T.b_isinstance T.b_tuple (by decide +kernel) (CJ 0)))) (Dd (fE hu (j6 T.b_len (D8 (CJ 0) FO)) (j6 T.b_len (D8 (CJ 1) FO))))))
   (KA (QF hJ))
   X1)
   (KA (QF (Wc rfl T.b_all (D8 (pA8 (cL (own:=["one","other"]) (CZ:=[]) (js:=[]) (cn rfl) rfl (Np T.b_zip (CJ 0) (CJ 1)) (λC s H fp=>(fK rfl (UT (UU 0) (UT (UU 1) fP)))) (λC s H fp=>mX) (λC s H fp=>(TY QL (hr.mono 'l') (D8 (CJ 0) (D8 (CJ 1) FO)))))) FO)))))
   X1)
   (KA (QF (yFZ (yF0 (Ct zU5 T.b_isinstance T.b_bool (by decide +kernel) (CJ 0))) (Wr (Ac hu (CJ 0) (CJ 1)))))))
def Uk:GS :=
 (GA (VH 2 (gC (.dk [])))
 (GA (nE cN)
 (GA (VH 6 (gC (.dk [])))
 (GA (RB (JS (AZ 2)) (.nm 3)
 (RW 6 (AZ 3) (gN ZZ [(kH (g2 E8 (AZ 2) (AZ 3)) [2] (gN QV [(g2 E8 (AZ 1) (AZ 0))]))])))
 (OM (AZ 6))))))
def qK:Mr:=RU 7 Uk
theorem GN:FnScope ["net","gate","rows","place","closed","left","found"] ["net","gate"] (J7 qD):=UV
theorem zKB{K:AC}(Fn:Fun K "_law_table" "_law_table" qD f fd)(T:Bt mg){cc TT:AR}(L9:fd.code=.ref cc)(hC:JH base cc TT)(hT:TB K TT ("_law_table"++".<locals>.<lambda>"))(KP:N8 P w K mg base "_law_reach" 1 3 cN):FnOk P w K mg base L6 6 f fd ["net","gate"] (N7 K 2 qK) :=
 Ci Fn GN λG3 A outer s H E oR hr=>by
  have hu:=hr.units;have oR:=oR.trans L9;unfold Uk
  exact(IE (bE (i:=2) GN.nd rfl (DY rfl) yI)
   (yAG (m:=cN) (sR CT rfl (W8 (TY KP (hr.mono 'd') (D8 (CJ 0) (D8 (CJ 1) (D8 fH FO))))) (iL (i:=3) GN.nd rfl (BO rfl)) (kQ (Du (uD hu) (pv 2) (pv 3) (mT GG) rfl)))
   (sR CT rfl (zUA (pv 2)) (iL (i:=4) GN.nd rfl (BO rfl)) (bF (sT (i:=5) GN.nd rfl (BO rfl) (TY KP (hr.mono 'd') (D8 (CJ 0) (D8 (CJ 1) (D8 (CJ 4) FO))))) (kQ (sR CT rfl (zVR (pv 2)) (iL (i:=3) GN.nd rfl (BO rfl)) (kQ (Ck (p7 hu (CJ 3) (CJ 5)) (kQ (Dy (sG FT LW LU zK (Ce (Pp hu) (pv 2) (pv 3) (λ_ _=>rfl)) (QY (pv 4) GG)))) VM))))))
   (IE (bE (i:=6) GN.nd rfl (BO rfl) yI)
   (IE (cM CT rfl (W8 (CJ 2)) (VJ (i:=3) GN.nd rfl (BO rfl))
   (KA (fR 6 hu (CJ 3) (kN T.b_tuple (D8 (pA8 (Pw T.b_sorted (MI hu (CJ 2) (CJ 3)) ({{rfl,rfl,rfl,rfl,by decide +kernel,by decide +kernel,rfl,(fW rfl),rfl,(fW (by first|exact BO rfl|exact DY rfl)),(fW rfl),rfl},hr.mono 'd',oR,hC,hT,{"_law_table"++".<locals>.",rfl,(by decide +kernel:("_law_table"++".<locals>.":CN)++("<lambda>":CN)=("_law_table"++".<locals>.<lambda>":CN))},rfl,λ_ _ _ _=>rfl}:LamOk _ _ _ "one" ["rows"] [2] _ _ _ _ _) (λf c s H=>Wn (hr.mono 'd') λhu=>(j6 T.b_len (D8 (MI hu (CJ 1) (CJ 0)) FO))))) FO)))))
   (KA (QF (CJ 6)))))))
def Tp:GS :=
 (GA (IN (.nm 3) (gC .non))
 (GA (IN (.nm 4) (KM []))
 (GA (mB (IN (.nm 3) (LD kR [(AZ 0),(AZ 1),(AZ 2)])) [(AZ 0),(AZ 1),(AZ 2)] zT 4 5 [AK,AD,AD,AD,AD,AD,AD,AD,AD,AD,AK])
 (OM (uE (gB (g2 UW (AZ 4) (KM []))) (AZ 3) (AZ 4))))))
def qH:Mr:=RU 6 Tp
theorem J2:FnScope ["net","gate","place","told","kinds","e"] ["net","gate","place"] (J7 Fp):=UV
theorem zMA{K:AC}(Fn:Fun K "_law_told" "_law_told" Fp f fd)(T:Bt mg){fk:AR}(ts:TryS P w K mg base C WA fk [AK,AD,AD,AD,AD,AD,AD,AD,AD,AD,AK])(MO:Gn P w K mg base C "must_lanes" 5 3 zT)(WB:N8 P w K mg base "must_lanes" 5 3 kR):FnOk P w K mg base L6 6 f fd ["net","gate","place"] (N7 K 3 qH) :=
 W1 Fn J2 λG3 A outer s H E hr=>by
  have hu:=hr.units;unfold Tp
  exact(IE (QE (i:=3) J2.nd rfl (BO rfl) fH)
   (IE (QE (i:=4) J2.nd rfl (BO rfl) (pA8 (VF FO)))
   (IE (yD3 (ik:=4) (ie:=5) (QE (i:=3) J2.nd rfl (BO rfl) (TY WB (hr.mono 'd') (D8 (CJ 0) (D8 (CJ 1) (D8 (CJ 2) FO))))) MO (hr.mono 'd') (D8 (CJ 0) (D8 (CJ 1) (D8 (CJ 2) FO))) ts.KK (hr.mono 'd') ts.hkf ts.hkk ts.hW ts.hx J2.nd rfl rfl 'd' rfl rfl)
   (KA (QF (yIL (Wk hu (CJ 4) (pA8 (VF FO))) (CJ 3) (CJ 4)))))))
def Vx:GS :=
 (GA (RB (JS (g2 MZ (KM [(LD qJ [(AZ 0),(gC (.int 0))])]) (mR (AZ 0) (AA (gC (.int 1))) (AA (gC (.int 5)))))) (.nm 1)
 (GA (IN (.tp [(.nm 2),(.nm 3)]) (pO qA (pP qI [(AZ 1),(gC (.int 0))]) [(gC (.int 24))]))
 (GA (IN (.nm 4) (LD qK [(AZ 2),(AZ 3)]))
 (GA (VH 5 (gC (.dt [])))
 (GA (RB (JS (g2 E8 (AZ 2) (gC (.int 1)))) (.nm 6)
 (GA (IN (.nm 7) (LD cN [(RD [(g2 E8 (AZ 2) (gC (.int 0))),(N6 (JS (g2 E8 (AZ 2) (gC (.int 1)))) 1 [6] (.nm 0) (gB (g2 LZ (AZ 0) (AZ 1))) (AZ 0))]),(AZ 3),(gC .non)]))
 (RW 5 (AZ 6) (N6 (JS (AZ 4)) 1 [7] (.nm 0) (gB (g2 P5 (AZ 0) (AZ 1))) (AZ 0)))))
 (RB (cI (g2 E8 (AZ 2) (gC (.int 0)))) (.nm 8)
 (GA (IN (.nm 9) (LD qH [(AZ 2),(AZ 3),(AZ 8)]))
 (O6 (gB (g2 P5 (AZ 8) (AZ 4)))
 (O6 (gB (g2 LZ (AZ 9) (LD tQ [(gC (.int 0))])))
 (OM (gC (.bl AD)))
 SH)
 (GA (IN (.nm 10) (N6 (JS (g2 E8 (AZ 2) (gC (.int 1)))) 1 [8,5] (.nm 0) (US [2] (gB (g2 RX (AZ 1) (g2 E8 (AZ 2) (AZ 0))))) (AZ 0)))
 (GA (IN (.nm 10) (gN ZZ [(kH (AZ 10) [4] (gN QV [(g2 E8 (AZ 1) (g2 E8 (AZ 0) (gC (.int 0))))]))]))
 (O6 (j3 (Z2 (W0 (LD (zA0 5) [(AZ 9),(AZ 10)]))) (Z2 (W0 (LD qG [(gN aX [(g2 E8 (AZ 4) (AZ 8))]),(gN aX [(AZ 9)])]))))
 (OM (gC (.bl AD)))
 SH)))))))))))
 (OM (gC (.bl AK))))
def m_law:Mr:=RU 11 Vx
theorem M0:FnScope ["script","cell","net","gate","table","lacks","lane","left","place","found","due"] ["script"] (J7 iF):=UV
theorem yEI{K:AC}(Fn:Fun K "law" "law" iF f fd)(T:Bt mg){cc TT:AR}(L9:fd.code=.ref cc)(hC:JH base cc TT)(hT:TB K TT ("law"++".<locals>.<lambda>"))(YZ:N8 P w K mg base "_law_net" 3 2 qA)(WC:N8 P w K mg base "_law_table" 6 2 qK)(XT:N8 P w K mg base "_law_cell" 1 2 qJ)(XQ:N8 P w K mg base "_law_well" 1 2 qI)(KP:N8 P w K mg base "_law_reach" 1 3 cN)(XR:N8 P w K mg base "_law_told" 6 3 qH)(XS:N8 P w K mg base "_law_only" 1 1 tQ)(QL:N8 P w K mg base "_law_is" 5 2 (zA0 5))(RK:N8 P w K mg base "_law_in_order" 1 2 qG):FnOk P w K mg base L6 7 f fd ["script"] (N7 K 1 m_law) :=
 Ci Fn M0 λG3 A outer s H E oR hr=>by
  have hu:=hr.units;have oR:=oR.trans L9;unfold Vx
  exact(IE (cM CT rfl (W8 (ZE (pA8 (VF (D8 (TY XT (hr.mono 'd') (D8 (CJ 0) (D8 H9 FO))) FO))) (Po (CJ 0) (Dz H9) (Dz H9)))) (VJ (i:=1) M0.nd rfl (BO rfl))
   (IE (Cv (zZ0 YZ (hr.mono 'd') (yC8 XQ (hr.mono 'd') (D8 (CJ 1) (D8 H9 FO))) (D8 H9 FO)) (fK rfl (UT (VJ (i:=2) M0.nd rfl (BO rfl)) (UT (VJ (i:=3) M0.nd rfl (BO rfl)) fP))))
   (IE (QE (i:=4) M0.nd rfl (DY rfl) (TY WC (hr.mono 'd') (D8 (CJ 2) (D8 (CJ 3) FO))))
   (IE (bE (i:=5) M0.nd rfl (DY rfl) Pk)
   (IE (cM CT rfl (W8 (MI hu (CJ 2) H9)) (VJ (i:=6) M0.nd rfl (DY rfl))
   (IE (QE (i:=7) M0.nd rfl (DY rfl) (TY KP (hr.mono 'd') (D8 (aZ (D8 (MI hu (CJ 2) H9) (D8 (pA8 (cL (own:=["one"]) (CZ:=["lane"]) (js:=[6]) (cn rfl) rfl (W8 (MI hu (CJ 2) H9)) (λC s H fp=>(UU 0)) (λC s H fp=>(mW (fE hu (CJ 0) (CJ 1)))) (λC s H fp=>(CJ 0)))) FO))) (D8 (CJ 3) (D8 fH FO)))))
   (KA (fR 5 hu (CJ 6) (pA8 (cL (own:=["place"]) (CZ:=["left"]) (js:=[7]) (cn rfl) rfl (W8 (CJ 4)) (λC s H fp=>(UU 0)) (λC s H fp=>(mW (p7 hu (CJ 0) (CJ 1)))) (λC s H fp=>(CJ 0))))))))
   (KA (cM CT rfl (zJ T.b_range (MI hu (CJ 2) H9)) (VJ (i:=8) M0.nd rfl (DY rfl))
   (IE (QE (i:=9) M0.nd rfl (BO rfl) (TY XR (hr.mono 'd') (D8 (CJ 2) (D8 (CJ 3) (D8 (CJ 8) FO)))))
   (KA (W4 (p7 hu (CJ 8) (CJ 4))
   (KA (W4 (fE hu (CJ 9) (TY XS (hr.mono 'd') (D8 H9 FO)))
   (KA (QF hJ))
   X1))
   (IE (Fx (i:=10) (own:=["lane"]) (CZ:=["place","lacks"]) (js:=[8,5]) (cn rfl) rfl (W8 (MI hu (CJ 2) H9)) (λC s H fp=>(UU 0)) (λC s H fp=>(mW (mS [2] (Wj hu (CJ 1) (MI hu (CJ 2) (CJ 0)))))) (λC s H fp=>(CJ 0)) M0.nd rfl rfl rfl)
   (IE (QE (i:=10) M0.nd rfl (BO rfl) (kN T.b_tuple (D8 (pA8 (Pw T.b_sorted (CJ 10) ({{rfl,rfl,rfl,rfl,by decide +kernel,by decide +kernel,rfl,(fW rfl),rfl,(fW (by first|exact BO rfl|exact DY rfl)),(fW rfl),rfl},hr.mono 'd',oR,hC,hT,{"law"++".<locals>.",rfl,(by decide +kernel:("law"++".<locals>.":CN)++("<lambda>":CN)=("law"++".<locals>.<lambda>":CN))},rfl,λ_ _ _ _=>rfl}:LamOk _ _ _ "lane" ["table"] [4] _ _ _ _ _) (λf c s H=>Wn (hr.mono 'd') λhu=>(j6 T.b_len (D8 (MI hu (CJ 1) (MI hu (CJ 0) H9)) FO))))) FO)))
   (KA (W4 (VW.t (Cj (yG (pX (TY QL (hr.mono 'd') (D8 (CJ 9) (D8 (CJ 10) FO))))) (Dd (yG (pX (TY RK (hr.mono 'd') (D8 (pA8 (sM rfl T.b_list (D8 (MI hu (CJ 4) (CJ 8)) FO))) (D8 (pA8 (sM rfl T.b_list (D8 (CJ 9) FO))) FO))))))))
   (KA (QF hJ))
   X1))))))))))))))
   (KA (QF hJ)))
theorem mG{i j:Int}(h:0<j):UR (.int i) (.int j)=.ok (.int (i % j)):=if_pos h
theorem Nh{i j:Int}(h:0<j/\j<2 ^ 200):mM (.int i) (.int j)=.ok (.int (i / j)):=if_pos h
theorem Hf{i j:Int}(h:pU i\/pU j):YE (.int i) (.int j)=.ok (.int (i * j)):=if_pos h
theorem He{i j:Int}(h:0<=j/\j<=1000000/\i.natAbs<2 ^ 64):aR (.int i) (.int j)=.ok (.int (i ^ j.toNat)):=if_pos h
noncomputable def VB(a b c n:Int)(u2 u3 u4:Sl):Ev:=[.own AK (.lst [.int a,.int b,.int c]),.val (.int n),u2,u3,u4]
theorem Ng{a b c n:Int}{u2 u3:Sl}:US [0] (gB (g2 Hq (g2 E8 (AZ 0) (gC (.int 0))) (gC (.int 0)))) (VB a b c n u2 u3 u4)=.ok (decide (0<a),VB a b c n u2 u3 u4) :=
 Z5 (OT (FN (FN (x:=.lst [.int a,.int b,.int c]) (y:=.int 0) rfl rfl (d:=.int a) rfl) (y:=.int 0) rfl rfl))
theorem zVY{a b c n:Int}(ha:0<a)(hn:1<=n)(aB:n<2 ^ 200) :
  LQ [.own AK (.lst [.int a,.int b,.int c]),.val (.int n)]=.ok (AD,.int (a % n),.lst [.int (a / n),.int b,.int c]):=by
 have h1:0<n:=by lia
 have t:=Ng (a:=a) (b:=b) (c:=c) (n:=n) (u2:=.no) (u3:=.no) (u4:=.no);rw[decide_eq_true ha] at t
 exact RC (pM (aQ t (HB (E1:=VB a b c n (.val (.int (a % n))) .no .no) (NO (bC (FN (FN (x:=.lst [.int a,.int b,.int c]) (y:=.int 0) rfl rfl (d:=.int a) rfl) (y:=.int n) rfl (mG h1)) rfl) rfl)
  (HB (E1:=VB (a / n) b c n (.val (.int (a % n))) .no .no) (fQ (i:=0) (E1:=VB a b c n (.val (.int (a % n))) .no .no) (E2:=VB a b c n (.val (.int (a % n))) .no .no) (t:=AK) (d:=.lst [.int a,.int b,.int c]) (k:=.int 0) (d':=.lst [.int (a / n),.int b,.int c]) rfl (bC (FN (FN (x:=.lst [.int a,.int b,.int c]) (y:=.int 0) rfl rfl (d:=.int a) rfl) (y:=.int n) rfl (Nh {h1,aB})) rfl) rfl rfl rfl) (SD (d:=.int (a % n)) rfl))))) rfl
def g7(b c:Int):Int:=(b+1000003 * c) % 2305843009213693951
def g8(b c:Int):Int:=(g7 b c * g7 b c+7919 * c ^ 2+5) % 2305843009213693951
theorem s64{i:Int}(h0:0<=i)(h:i<2305843009213693951):pU i:={by lia,by lia}
theorem zV1{a b c n:Int}(ha:¬0<a)(hc:0<=c)(eA:c<1000000)(hn:1<=n)(aB:n<2 ^ 200) :
  LQ [.own AK (.lst [.int a,.int b,.int c]),.val (.int n)]=.ok (AD,.int (g8 b (c+1) ^ 3 % 2305843009213693951 / 13 % n),.lst [.int a,.int b,.int (c+1)]):=by
 have h1:0<n:=by lia
 have m1:0<=g7 b (c+1):=LA _ 'd';have m2:g7 b (c+1)<2305843009213693951:=JJ _ 'd';have m3:0<=g8 b (c+1):=LA _ 'd';have m4:g8 b (c+1)<2305843009213693951:=JJ _ 'd';have t:=Ng (a:=a) (b:=b) (c:=c) (n:=n) (u2:=.no) (u3:=.no) (u4:=.no);rw[decide_eq_false ha] at t;have hp:(0:Int)<2305843009213693951:=by decide
 have bag:AZ 0 (OS [0] (VB a b (c+1) n .no .no .no))=.ok (.lst [.int a,.int b,.int (c+1)],OS [0] (VB a b (c+1) n .no .no .no)):=rfl
 have s1:RW 0 (gC (.int 2)) (QD [0] (g2 MZ (g2 E8 (AZ 0) (gC (.int 2))) (gC (.int 1)))) (VB a b c n .no .no .no)=.ok (.nx (VB a b (c+1) n .no .no .no)) :=
  fQ (i:=0) (E1:=VB a b c n .no .no .no) (E2:=VB a b c n .no .no .no) (t:=AK) (d:=.lst [.int a,.int b,.int c]) (k:=.int 2) (d':=.lst [.int a,.int b,.int (c+1)]) rfl (bC (FN (FN (x:=.lst [.int a,.int b,.int c]) (y:=.int 2) rfl rfl (d:=.int c) rfl) (y:=.int 1) rfl rfl) rfl) rfl rfl rfl
 have s3:IN (.nm 4) (QD [0] (g2 UR (g2 MZ (g2 E8 (AZ 0) (gC (.int 1))) (g2 YE (gC (.int 1000003)) (g2 E8 (AZ 0) (gC (.int 2))))) (AZ 3))) (VB a b (c+1) n .no (.val (.int 2305843009213693951)) .no)=.ok (.nx (VB a b (c+1) n .no (.val (.int 2305843009213693951)) (.val (.int (g7 b (c+1)))))) :=
  NO (bC (d:=.int (g7 b (c+1))) (FN (FN (FN (x:=.lst [.int a,.int b,.int (c+1)]) (y:=.int 1) rfl rfl (d:=.int b) rfl) (FN (x:=.int 1000003) rfl (FN (x:=.lst [.int a,.int b,.int (c+1)]) (y:=.int 2) rfl rfl (d:=.int (c+1)) rfl) (Hf (.inl {by decide,by decide}))) rfl) (y:=.int 2305843009213693951) rfl (mG hp)) rfl) rfl
 have s4:IN (.nm 4) (QD [0] (g2 UR (g2 MZ (g2 MZ (g2 YE (AZ 4) (AZ 4)) (g2 YE (gC (.int 7919)) (g2 aR (g2 E8 (AZ 0) (gC (.int 2))) (gC (.int 2))))) (gC (.int 5))) (AZ 3))) (VB a b (c+1) n .no (.val (.int 2305843009213693951)) (.val (.int (g7 b (c+1)))))=.ok (.nx (VB a b (c+1) n .no (.val (.int 2305843009213693951)) (.val (.int (g8 b (c+1)))))) :=
  NO (bC (d:=.int (g8 b (c+1))) (FN (FN (FN (FN (x:=.int (g7 b (c+1))) (y:=.int (g7 b (c+1))) rfl rfl (Hf (.inl (s64 m1 m2)))) (FN (x:=.int 7919) rfl (FN (FN (x:=.lst [.int a,.int b,.int (c+1)]) (y:=.int 2) rfl rfl (d:=.int (c+1)) rfl) (y:=.int 2) rfl (He {by decide,by decide,by lia})) (Hf (.inl {by decide,by decide}))) rfl) (y:=.int 5) rfl rfl) (y:=.int 2305843009213693951) rfl (mG hp)) rfl) rfl
 have s5:OM (g2 UR (g2 mM (g2 UR (g2 aR (AZ 4) (gC (.int 3))) (AZ 3)) (gC (.int 13))) (AZ 1)) (VB a b (c+1) n .no (.val (.int 2305843009213693951)) (.val (.int (g8 b (c+1)))))=.ok (.rt AD (.int (g8 b (c+1) ^ 3 % 2305843009213693951 / 13 % n)) (VB a b (c+1) n .no (.val (.int 2305843009213693951)) (.val (.int (g8 b (c+1)))))) :=
  SD (FN (FN (FN (FN (x:=.int (g8 b (c+1))) (y:=.int 3) rfl rfl (He {by decide,by decide,by lia})) (y:=.int 2305843009213693951) rfl (mG hp)) (y:=.int 13) rfl (Nh {by decide,by decide})) (y:=.int n) rfl (mG h1))
 exact RC (HB (UQ t rfl) (HB s1 (HB (E1:=VB a b (c+1) n .no (.val (.int 2305843009213693951)) .no) rfl (HB s3 (HB s4 s5))))) rfl
def Bag(k:Nat)(d:D):Prop:=∃a b c:Int,d=.lst [.int a,.int b,.int c]/\0<=c/\c<=k
theorem Bag.mono{k':Nat}{d:D}(h:Bag k d)(l:k<=k'):Bag k' d:=by
 obtain⟨a,b,c,e,h0,h1⟩:=h;exact{a,b,c,e,h0,by lia}
theorem yAN{d:D}{n:Int}(B:Bag k d)(hk:k<900000)(hn:1<=n)(aB:n<2 ^ 200) :
  ∃r d',LQ [.own AK d,.val (.int n)]=.ok (AD,.int r,d')/\0<=r/\r<n/\Bag (k+1) d':=by
 obtain⟨a,b,c,rfl,h0,h1⟩:=B
 by_cases ha:0<a
 .exact{_,_,zVY ha hn aB,LA _ 'l',JJ _ 'l',_,_,_,rfl,h0,by lia}
 .exact{_,_,zV1 ha h0 'l' hn aB,LA _ 'l',JJ _ 'l',_,_,_,rfl,by lia,by lia}
theorem yAO(n:Int):∃d,qI [.val (.int n),.val (.int 0)]=.ok (AK,d,.non)/\Bag 0 d:=by
 have hp:(0:Int)<2305843009213693951:=by decide
 have pw:∀E:Ev,g2 aR (gC (.int 10)) (gC (.int 18)) E=.ok (.int 1000000000000000000,E):=λE=>FN (x:=.int 10) (y:=.int 18) rfl rfl (He {by decide,by decide,by decide});have t:gB (g2 Hr (AZ 0) (g2 aR (gC (.int 10)) (gC (.int 18)))) [.val (.int n),.val (.int 0)]=.ok (decide (1000000000000000000<=n),[.val (.int n),.val (.int 0)]):=OT (FN (x:=.int n) rfl (pw _) rfl)
 by_cases h:1000000000000000000<=n
 .rw[decide_eq_true h] at t
  exact{.lst [.int (n-1000000000000000000),.int (n % 2305843009213693951),.int 0],RC (pM (aQ t (Pb (kG (QH (FN (x:=.int n) rfl (pw _) (d:=.int (n-1000000000000000000)) rfl) (QH (FN (x:=.int n) (y:=.int 2305843009213693951) rfl rfl (mG hp)) (KS (d:=.int 0) rfl))) (show 3<10000 by decide))))) rfl,_,_,_,rfl,by decide,by decide}
 .rw[decide_eq_false h] at t
  exact{.lst [.int 0,.int (n % 2305843009213693951),.int 0],RC (HB (UQ t rfl) (Pb (kG (QH (d:=.int 0) rfl (QH (FN (x:=.int n) (y:=.int 2305843009213693951) rfl rfl (mG hp)) (KS (d:=.int 0) rfl))) (show 3<10000 by decide)))) rfl,_,_,_,rfl,by decide,by decide}
def GD(AO:Int)(ps:List (Int×Int)):D:=.tup [.int AO,.tup (ps.map G2)]
def xR(p:Int×Int):Int×Int:=(p.2,p.1)
structure Net(AO:Int)(ps:List (Int×Int)):Prop where
 m1:1<=AO
 m2:AO<=24
 len:ps.length<=120
 rg:∀p∈ps,0<=p.1/\p.1<AO/\0<=p.2/\p.2<AO/\p.1≠p.2
 pw:ps.Pairwise λa b=>T7 a b=AK
def back(ps:List (Int×Int)):List (Int×Int):=Z1 (ps.map xR)
theorem yH(Ec:Ev)(k:Nat):∀(j:Nat) (E:Ev),cF Ec k [] j E=E
 |_,[]=>rfl
 |j,s::E=>by
  rw[cF,yH Ec k (j+1) E];cases s<;>rfl
theorem Cp{E:Ev}(h:E.length=2):∃x y,E=[x,y]:=by
 match E,h with
 |[x,y],_=>exact{x,y,rfl}
theorem zSN{E:Ev}(hi:gi E=.ok (ps.map G2,E1))(hl:ps.length<10000) :
  N6 gi 2 [] (.tp [.nm 0,.nm 1]) VD (RD [AZ 1,AZ 0]) E=.ok (.lst ((ps.map xR).map G2),E1):=by
 have:=kM (k:=2) (js:=[]) (t:=.tp [.nm 0,.nm 1]) (tt:=VD) (ge:=RD [AZ 1,AZ 0]) (λd=>match d with|.tup [a,b]=>[.tup [b,a]]|_=>[]) (λE=>E.length=2) hi rfl (by simpa using hl) (λd hd E hE=>by
  obtain⟨p,_,rfl⟩:=CM.mp hd;obtain⟨x,y,rfl⟩:=Cp hE
  exact{_,rfl,AK,_,rfl,.inl {rfl,_,_,rfl,rfl,rfl}}) λEc _=>yH Ec 2 0 E1
 rw[this]
 congr 3
 clear this hi hl
 induction ps with
 |nil=>rfl
 |cons p ps ih=>simp only[AU,EF,ih];rfl
theorem zSO(hl:ps.length<10000):tM [.val (GD AO ps)]=.ok (AD,GD AO (back ps),.non):=by
 have h1:=zSN (gi:=JS (AZ 2)) (E:=[.val (GD AO ps),.val (.int AO),.val (.tup (ps.map G2))]) (E1:=[.val (GD AO ps),.val (.int AO),.val (.tup (ps.map G2))]) (ps:=ps) rfl hl;exact RC (HB (NO (d:=GD AO ps) rfl rfl) (SD (mU (QH (d:=.int AO) rfl (KS (QX (KS (QX (KS h1) (Uf _))) rfl))) (show 2<10000 by decide)))) rfl
theorem yIY(h:ps.Pairwise λa b=>T7 a b=AK):ps.Pairwise λa b=>Z7 a b=AK :=
 h.imp λ{a b} e=>by
  simp only[Z7,T7,decide_eq_true_eq,MG,decide_eq_false_iff_not] at *;lia
theorem zNN{a b:Int×Int}(h:Z7 a b=AK)(hn:a≠b):T7 a b=AK:=by
 obtain⟨a1,a2⟩:=a;obtain⟨b1,b2⟩:=b;simp only[Z7,T7,decide_eq_true_eq,MG,decide_eq_false_iff_not] at *;have:¬(a1=b1/\a2=b2):=(λq0=>by obtain⟨x,y⟩:=q0;exact hn (by rw[x,y]));lia
theorem Co{a b:Int×Int}(h:T7 a b=AK):a≠b:=λz=>by
 subst z;simp only[T7,decide_eq_true_eq] at h;lia
theorem Qs(h:ps.Nodup):(Z1 ps).Pairwise λa b=>T7 a b=AK:=by
 have h2:(Z1 ps).Nodup:=(tP ps).nodup_iff.mpr h;exact((Qy ps).and h2).imp λ{a b} e=>zNN e.1 e.2
theorem Net.back{AO:Int}{ps:List (Int×Int)}(N:Net AO ps):Net AO (back ps):=by
 have pm:=tP (ps.map xR);refine{N.m1,N.m2,?_,λp hp=>?_,Qs ?_}
 .unfold My.back;rw[pm.length_eq,AJ];exact N.len
 .obtain⟨q,hq,rfl⟩:=CM.mp (pm.mem_iff.mp hp)
  obtain⟨a,b,c,d,e⟩:=N.rg q hq;exact{c,d,a,b,E7 e}
 .have:ps.Nodup:=N.pw.imp λe=>Co e
  exact U7 _ (λa b hab z=>hab (by obtain⟨a1,a2⟩:=a;obtain⟨b1,b2⟩:=b;simp only[xR,UJ] at z;rw[z.1,z.2])) this
theorem zV3{t:Tg}{ge:G}{E:Ev}{ds:List D}(P:Ev->Prop)(hi:gi E=.ok (ds,E1))(h0:P (WM k js E1))(hl:ds.length<10000)
  (hs:∀d∈ds,∀E,P E->∃E1,XA t d E=.ok E1/\∃E3,ge E1=.ok (.bl AK,E3)/\P E3)
  (hb:∀Ec,P Ec->XB E1 Ec k js=E1):N6 gi k js t VD ge E=.ok (.lst (ds.map λ_=>.bl AK),E1):=by
 have:=kM (t:=t) (tt:=VD) (ge:=ge) (λ_=>[.bl AK]) P hi h0 hl (λd hd E hE=>by
  obtain⟨E1,e1,E3,e3,p⟩:=hs d hd E hE
  exact{E1,e1,AK,E1,rfl,.inl {rfl,_,_,e3,rfl,p}}) hb
 rw[this]
 congr 3
 clear this hi hl hs
 induction ds with
 |nil=>rfl
 |cons p ps ih=>simp only[AU,EF,ih];rfl
theorem Qr(ds:List α):l9 [.lst (ds.map λ_=>.bl AK)]=.ok (.bl AK):=by
 have:j5 (ds.map λ_=>D.bl AK)=AA (ds.map λ_=>AK):=by
  induction ds with
  |nil=>rfl
  |cons d ds ih=>simp[j5,ih]
 simp[l9,this]
theorem yIZ(xs:List α):X0 xs (AA 1) AN=xs.drop 1:=by
 unfold X0 HT.sIx
 cases xs with
 |nil=>simp
 |cons x xs=>simp
def LO:Option Int->D
 |none=>.non
 |some i=>.int i
inductive Rc(ps:List (Int×Int))(cl:List Int)(g:Int):Int->Prop
 |refl:g∉cl->Rc ps cl g g
 |step {x y:Int}:Rc ps cl g x->(x,y)∈ps->y∉cl->Rc ps cl g y
def vis(aw:List (Option Int))(x:Int):Prop:=0<=x/\∃v,aw[x.toNat]?=AA (AA v)
noncomputable def zMB:List (Option Int)->Nat
 |[]=>0
 |none::r=>zMB r+1
 |some _::r=>zMB r
theorem zE:∀{l:List (Option Int)} {i:Nat} {v:Int},l[i]?=AA AN->zMB (l.set i (AA v))+1=zMB l
 |[],_,_,h=>by simp at h
 |o::l,0,v,h=>by simp at h;subst h;rfl
 |o::l,i+1,v,h=>by
  have:=zE (l:=l) (i:=i) (v:=v) (by simpa using h);cases o<;>simp[zMB]<;>lia
theorem sX:∀l:List (Option Int),zMB l<=l.length
 |[]=>AL _
 |none::r=>by have:=sX r;simp[zMB];lia
 |some _::r=>by have:=sX r;simp[zMB];lia
theorem mV{j v x:Int}(h0:0<=j)(h1:j.toNat<aw.length):vis (aw.set j.toNat (AA v)) x↔vis aw x\/x=j:=by
 unfold vis
 by_cases e:x=j
 .subst e
  simp only[or_true,iff_true];exact{h0,v,by rw[BF h1]}
 .constructor
  .rintro⟨a,w,b⟩
   rw[A5 'l'] at b;exact .inl {a,w,b}
  .rintro(⟨a,w,b⟩|h)
   .exact{a,w,by rw[A5 'l'];exact b}
   .exact absurd h e
theorem L7{y:Int}:y∈RV ps j↔((j:Int),y)∈ps:=by
 unfold RV;constructor
 .intro h
  obtain⟨p,hp,rfl⟩:=CM.mp h;obtain⟨hp,e⟩:=CF.mp hp;have:=of_decide_eq_true e;rw[<-this];exact hp
 .intro h
  exact CM.mpr {_,CF.mpr {h,decide_eq_true rfl},rfl}
noncomputable def mF(AO:Int)(cl:List Int):D:=.lst ((DB AO.toNat).map λ(j:Nat)=>.bl (decide ((j:Int)∈cl)))
def env(AO:Int)(ps:List (Int×Int))(cl:List Int)(start:Int)(aw:List (Option Int))(GK:List Int)(u8 u9 u10:Sl):Ev :=
 [.val (GD AO ps),.val (.int start),.val (.tup (cl.map D.int)),.val (.int AO),.own AD (.lst (aw.map LO)),.val (aV AO ps),.val (mF AO cl),.val (.lst (GK.map D.int)),u8,u9,u10]
abbrev WL(D4:List Int):Sl:=.own AD (.lst (D4.map D.int))
structure Rg(AO:Int)(ps:List (Int×Int)):Prop where
 m1:0<=AO
 m2:AO<=100
 len:ps.length<=1000
 rg:∀p∈ps,0<=p.1/\p.1<AO/\0<=p.2/\p.2<AO
section
variable{cl:List Int}{start:Int}
abbrev Ho:GS:=O6 (US [4] (iE (gB (g2 aS (g2 E8 (AZ 4) (AZ 10)) (gC .non))) (Z2 (W0 (g2 E8 (AZ 6) (AZ 10))))))
 (GA (RW 4 (AZ 10) (QD [4] (g2 MZ (g2 E8 (AZ 4) (AZ 9)) (gC (.int 1)))))
 (fG (SC 8 VC [(AZ 10)])))
 SH
theorem sB{x:Int}{o:Option Int}(h0:0<=x)(h:aw[x.toNat]?=AA o):E8 (.lst (aw.map LO)) (.int x)=.ok (LO o):=by
 have:=sP (xs:=aw.map LO) (x:=LO o) h0 (by rw[AV,h];rfl);exact qL this
theorem yAP{x:Int}(h0:0<=x)(h:x<AO):E8 (mF AO cl) (.int x)=.ok (.bl (decide (x∈cl))):=by
 have:=sP (xs:=(DB AO.toNat).map λ(j:Nat)=>D.bl (decide ((j:Int)∈cl))) (x:=.bl (decide (x∈cl))) h0 (by
  rw[AV,PD 'l',HI,show((x.toNat:Nat):Int)=x by lia])
 exact qL this
theorem Oy{x:Int}(h0:0<=x)(h:x<AO):E8 (aV AO ps) (.int x)=.ok (.lst ((RV ps x.toNat).map D.int)):=by
 have:=sP (xs:=(DB AO.toNat).map λ(j:Nat)=>D.lst ((RV ps j).map D.int)) (x:=.lst ((RV ps x.toNat).map D.int)) h0 (by
  rw[AV,PD 'l',HI])
 exact qL this
theorem yAQ{D4:List Int}{KC v:Int}(hl:aw.length=AO.toNat)(h1:0<=KC)(hv:aw[KC.toNat]?=AA (AA v))(h2:0<=DW)(h3:DW<AO)(hll:D4.length<10000) :
  ∃eJ OX,Ho (env AO ps cl start aw GK (WL D4) (.val (.int KC)) (.val (.int DW)))=.ok (.nx (env AO ps cl start eJ GK (WL OX) (.val (.int KC)) (.val (.int DW)))) /\
   ((aw[DW.toNat]?=AA AN/\DW∉cl/\eJ=aw.set DW.toNat (AA (v+1))/\OX=D4++[DW])\/(eJ=aw/\OX=D4/\(DW∉cl->vis aw DW))):=by
 obtain⟨o,ho⟩:∃o,aw[DW.toNat]?=AA o:={_,A7 'l'}
 have t1:∀b,(match o with|none=>AK|_=>AD)=b->gB (g2 aS (g2 E8 (AZ 4) (AZ 10)) (gC .non)) (OS [4] (env AO ps cl start aw GK (WL D4) (.val (.int KC)) (.val (.int DW))))=.ok (b,OS [4] (env AO ps cl start aw GK (WL D4) (.val (.int KC)) (.val (.int DW)))):=λb hb =>
  OT (FN (FN (x:=.lst (aw.map LO)) (y:=.int DW) rfl rfl (sB h2 ho)) (y:=.non) rfl (by cases o<;>subst hb<;>rfl))
 have t2:Z2 (W0 (g2 E8 (AZ 6) (AZ 10))) (OS [4] (env AO ps cl start aw GK (WL D4) (.val (.int KC)) (.val (.int DW))))=.ok (!decide (DW∈cl),OS [4] (env AO ps cl start aw GK (WL D4) (.val (.int KC)) (.val (.int DW)))) :=
  yS (kD (FN (x:=mF AO cl) (y:=.int DW) rfl rfl (yAP h2 h3)) rfl)
 cases o with
 |some w =>
  refine{aw,D4,UQ (Z5 (Cq (t1 AD rfl))) rfl,.inr {rfl,rfl,λ_=>{h2,w,ho}}}
 |none =>
  by_cases hc:DW∈cl
  .rw[decide_eq_true hc] at t2
   exact{aw,D4,UQ (Z5 (pL (t1 AK rfl) t2)) rfl,.inr {rfl,rfl,λz=>absurd hc z}}
  .rw[decide_eq_false hc] at t2
   refine{_,_,aQ (Z5 (pL (t1 AK rfl) t2)) (HB (E1:=env AO ps cl start (aw.set DW.toNat (AA (v+1))) GK (WL D4) (.val (.int KC)) (.val (.int DW))) ?_ ?_),.inl {ho,hc,rfl,rfl}}
   .have hb:QD [4] (g2 MZ (g2 E8 (AZ 4) (AZ 9)) (gC (.int 1))) (env AO ps cl start aw GK (WL D4) (.val (.int KC)) (.val (.int DW)))=.ok (.int (v+1),env AO ps cl start aw GK (WL D4) (.val (.int KC)) (.val (.int DW))) :=
     bC (FN (FN (x:=.lst (aw.map LO)) (y:=.int KC) rfl rfl (sB h1 hv)) (y:=.int 1) rfl rfl) rfl
    have:=fQ (i:=4) (gk:=AZ 10) (t:=AD) (d:=.lst (aw.map LO)) (k:=.int DW) (d':=.lst ((aw.set DW.toNat (AA (v+1))).map LO)) rfl hb rfl rfl (by
     rw[Wl (Nl h2 (by rw[AJ];lia)),List.map_set];rfl)
    exact this
   .have:=pT (i:=8) (f:=VC) (gs:=[AZ 10]) (E:=env AO ps cl start (aw.set DW.toNat (AA (v+1))) GK (WL D4) (.val (.int KC)) (.val (.int DW))) (xs:=D4.map D.int) (ds:=[.int DW]) (x:=.non) (V9:=(D4++[DW]).map D.int) rfl rfl rfl (by
     simp only[VC,AJ]
     rw[Z0 hll];simp)
    exact yT this
def Lv(ps:List (Int×Int))(start:Int)(aw:List (Option Int)):Prop:=∀x v:Int,0<=x->aw[x.toNat]?=AA (AA v)->v+1+(zMB aw:Nat)<=(aw.length:Nat)/\((x=start/\v=0)\/(0<v/\∃y,0<=y/\(y,x)∈ps/\aw[y.toNat]?=AA (AA (v-1))))
theorem Lv.put{start KC v:Int}(L:Lv ps start aw)(h0:0<=KC)(hw:aw[KC.toNat]?=AA (AA v))(he:(KC,DW)∈ps)(h2:0<=DW)(h4:aw[DW.toNat]?=AA AN):Lv ps start (aw.set DW.toNat (AA (v+1))):=by
 have IU:DW.toNat<aw.length:=(AE.mp h4).1
 have II:∀{y u:Int},aw[y.toNat]?=AA (AA u)->(aw.set DW.toNat (AA (v+1)))[y.toNat]?=AA (AA u):=λ{y u} e=>by
  rw[A5 (λz=>by rw[<-z,h4] at e;cases e)];exact e
 have v0:0<=v:=by
  rcases(L KC v h0 hw).2 with⟨_,e⟩|⟨e,_⟩<;>lia
 have hc:=zE (v:=v+1) h4;intro x u hx e
 by_cases ex:DW.toNat=x.toNat
 .have:x=DW:=by lia
  subst this;rw[BF IU] at e;cases e;exact{by have:=(L KC v h0 hw).1;rw[BW];lia,.inr {by lia,KC,h0,he,by rw[show v+1-1=v by lia];exact II hw}}
 .rw[A5 ex] at e
  obtain⟨h0,h⟩:=L x u hx e;refine{by rw[BW];lia,?_};rcases h with h|⟨h,y,y0,y1,y2⟩
  .exact .inl h
  .exact .inr {h,y,y0,y1,II y2}
structure Bf(ps:List (Int×Int))(cl:List Int)(start:Int)(n:Nat)(ON aw:List (Option Int))(D4:List Int):Prop where
 len:aw.length=n
 mono:∀x,vis ON x->vis aw x
 new:∀x,vis aw x->vis ON x\/x∈D4
 lat:∀x∈D4,vis aw x
 rc:∀x,vis aw x->Rc ps cl start x
 cnt:zMB aw+D4.length=zMB ON
 lv:Lv ps start aw
theorem Bf.step{ON aw:List (Option Int)}{D4:List Int}{KC DW v:Int}{n:Nat}(B:Bf ps cl start n ON aw D4)(h1:vis aw KC)(hw:aw[KC.toNat]?=AA (AA v))(he:(KC,DW)∈ps)(h2:0<=DW)(h3:DW.toNat<n)(h4:aw[DW.toNat]?=AA AN)(h5:DW∉cl) :
  Bf ps cl start n ON (aw.set DW.toNat (AA (v+1))) (D4++[DW]) where
 len:=by rw[BW];exact B.len
 mono:=λx h=>(mV h2 (by rw[B.len];exact h3)).mpr (.inl (B.mono x h))
 new:=λx h=>by
  rcases(mV h2 (by rw[B.len];exact h3)).mp h with h|rfl
  .rcases B.new x h with h|h
   .exact .inl h
   .exact .inr (DF _ h)
  .exact .inr 's'
 lat:=λx h=>by
  refine(mV h2 (by rw[B.len];exact h3)).mpr ?_;rcases CG.mp h with h|h
  .exact .inl (B.lat x h)
  .exact .inr (A8.mp h)
 rc:=λx h=>by
  rcases(mV h2 (by rw[B.len];exact h3)).mp h with h|rfl
  .exact B.rc x h
  .exact .step (B.rc KC h1) he h5
 cnt:=by
  have:=zE (v:=v+1) h4;have:=B.cnt;rw[BN,FI];lia
 lv:=B.lv.put h1.1 hw he h2 h4
abbrev z7:GS:=RB (JS (g2 E8 (AZ 5) (AZ 9))) (.nm 10) Ho
theorem zV4(R:Rg AO ps){RL:List (Option Int)}{V5:List Int}{KC:Int}(B1:Bf ps cl start AO.toNat ON RL V5)(hv:vis RL KC)(ho:KC<AO)(gO:zMB ON<=100) :
  ∃aw D4 u,z7 (env AO ps cl start RL GK (WL V5) (.val (.int KC)) u10)=.ok (.nx (env AO ps cl start aw GK (WL D4) (.val (.int KC)) u))/\Bf ps cl start AO.toNat ON aw D4/\(∀x,vis RL x->vis aw x)/\∀y,(KC,y)∈ps->y∉cl->vis aw y:=by
 have h0:=hv.1
 obtain⟨E',e,aw,D4,u,rfl,B,mo,ex⟩:=fO (gi:=JS (g2 E8 (AZ 5) (AZ 9))) (t:=.nm 10) (g:=Ho) (E:=env AO ps cl start RL GK (WL V5) (.val (.int KC)) u10) (ds:=(RV ps KC.toNat).map D.int)
  (λi E=>∃aw D4 u,E=env AO ps cl start aw GK (WL D4) (.val (.int KC)) u/\Bf ps cl start AO.toNat ON aw D4/\(∀x,vis RL x->vis aw x)/\∀y∈(RV ps KC.toNat).take i,y∉cl->vis aw y)
  (iK (FN (x:=aV AO ps) (y:=.int KC) rfl rfl (Oy h0 ho))) {RL,V5,u10,rfl,B1,λ_ h=>h,λy h=>by simp at h}
  (λi d E hd q0=>by
   obtain⟨aw,D4,u,hE,B,mo,ex⟩:=q0;subst hE;rw[AV] at hd;obtain⟨y,hy,rfl⟩:=BS.mp hd
   have nW:(KC,y)∈ps:=by
    have:=L7.mp (CC hy)
    rwa [show((KC.toNat:Nat):Int)=KC by lia] at this
   obtain⟨_,_,y0,y1⟩:=R.rg _ nW;simp only at y0 y1;obtain⟨w,hw⟩:=(mo KC hv).2;have rV:=B.cnt;obtain⟨eJ,OX,e,h⟩:=yAQ (ps:=ps) (cl:=cl) (start:=start) (GK:=GK) (D4:=D4) B.len h0 hw y0 y1 'l';refine{_,rfl,_,e,eJ,OX,_,rfl,?_}
   have nZ:(RV ps KC.toNat).take (i+1)=(RV ps KC.toNat).take i++[y]:=by
    obtain⟨hi,e⟩:=AE.mp hy;rw[BK hi,e]
   rcases h with⟨a,b,rfl,rfl⟩|⟨rfl,rfl,hz⟩
   .have B':=B.step (v:=w) (mo KC hv) hw nW y0 'l' a b
    refine{B',λx hx=>(mV y0 (by rw[B.len];lia)).mpr (.inl (mo x hx)),λz hz dI=>?_};rw[nZ] at hz;refine(mV y0 (by rw[B.len];lia)).mpr ?_;rcases CG.mp hz with h|h
    .exact .inl (ex z h dI)
    .exact .inr (A8.mp h)
   .refine{B,mo,λz h dI=>?_}
    rw[nZ] at h;rcases CG.mp h with h|h
    .exact ex z h dI
    .rw[A8.mp h] at dI ⊢;exact hz dI)
 refine{aw,D4,u,e,B,mo,λy hy lD=>ex y ?_ lD};rw[AJ,EJ];exact L7.mpr (by rwa [show((KC.toNat:Nat):Int)=KC by lia])
end
section
variable{cl:List Int}{start:Int}
theorem yEJ{x:Int}(hl:aw.length=n)(h:vis aw x):0<=x/\x<n:=by
 obtain⟨a,v,b⟩:=h;have:=(AE.mp b).1;exact{a,by lia}
theorem zV5(R:Rg AO ps){u9:Sl}(hl:ON.length=AO.toNat)(Bj:∀x,vis ON x->Rc ps cl start x)(oB:∀x∈GK,vis ON x)(Ku:Lv ps start ON) :
  ∃aw D4 u v,RB (JS (AZ 7)) (.nm 9) z7 (env AO ps cl start ON GK (WL []) u9 u10)=.ok (.nx (env AO ps cl start aw GK (WL D4) u v))/\Bf ps cl start AO.toNat ON aw D4/\∀x∈GK,∀y,(x,y)∈ps->y∉cl->vis aw y:=by
 have gO:zMB ON<=100:=by have:=sX ON;have:=R.m2;lia
 obtain⟨E',e,aw,D4,u,v,rfl,B,ex⟩:=fO (gi:=JS (AZ 7)) (t:=.nm 9) (g:=z7) (E:=env AO ps cl start ON GK (WL []) u9 u10) (ds:=GK.map D.int)
  (λi E=>∃aw D4 u v,E=env AO ps cl start aw GK (WL D4) u v/\Bf ps cl start AO.toNat ON aw D4/\∀x∈GK.take i,∀y,(x,y)∈ps->y∉cl->vis aw y)
  (iK rfl) {ON,[],u9,u10,rfl,{hl,λ_ h=>h,λ_ h=>.inl h,λ_ h=>by simp at h,Bj,rfl,Ku},λy h=>by simp at h}
  (λi d E hd q0=>by
   obtain⟨aw,D4,u,v,hE,B,ex⟩:=q0;subst hE;rw[AV] at hd;obtain⟨x,hx,rfl⟩:=BS.mp hd;have Yx:=B.mono x (oB x (CC hx));have IU:=yEJ B.len Yx;obtain⟨eJ,OX,u',e,B',mo,Zz⟩:=zV4 R (GK:=GK) (u10:=v) B Yx (by have:=R.m1;lia) gO;refine{_,rfl,_,e,eJ,OX,_,u',rfl,B',λz hz y hy lD=>?_};obtain⟨hi,e⟩:=AE.mp hx;rw[BK hi,e] at hz;rcases CG.mp hz with h|h
   .exact mo y (ex z h y hy lD)
   .rw[A8.mp h] at hy;exact Zz y hy lD)
 rw[AJ,EJ] at ex;exact{aw,D4,u,v,e,B,ex}
abbrev Wv:GS:=(GA (VH 8 (KM []))
 (GA (RB (JS (AZ 7)) (.nm 9) z7)
 (IN (.nm 7) (AZ 8))))
theorem zV6(R:Rg AO ps)(hl:ON.length=AO.toNat)(hv:∀x,vis ON x↔x=start)(hs:start∉cl)(Ku:Lv ps start ON) :
  ∃aw u8 u9 u10,YI (W0 (AZ 7)) Wv 100000 (env AO ps cl start ON [start] .no .no .no)=.ok (.nx (env AO ps cl start aw [] u8 u9 u10))/\aw.length=AO.toNat/\(∀x,vis aw x↔Rc ps cl start x)/\Lv ps start aw:=by
 have gO:zMB ON<=100:=by have:=sX ON;have:=R.m2;lia
 obtain⟨E',e,aw,u8,u9,u10,rfl,h1,h2,h3⟩:=yC (t:=W0 (AZ 7)) (g:=Wv)
  (λn E=>∃aw GK u8 u9 u10,E=env AO ps cl start aw GK u8 u9 u10/\aw.length=AO.toNat/\(∀x,vis aw x->Rc ps cl start x)/\vis aw start/\(∀x∈GK,vis aw x)/\(∀x,vis aw x->x∈GK\/∀y,(x,y)∈ps->y∉cl->vis aw y)/\n=zMB aw+(if GK=[] then 0 else 1)/\Lv ps start aw)
  (λE=>∃aw u8 u9 u10,E=env AO ps cl start aw [] u8 u9 u10/\aw.length=AO.toNat/\(∀x,vis aw x↔Rc ps cl start x)/\Lv ps start aw)
  (λn E hP=>by
   obtain⟨aw,GK,u8,u9,u10,hE,hl,Bj,gD,oB,hex,hn,hL⟩:=hP;subst hE
   cases GK with
   |nil =>
    refine .inl {_,kD (d:=.lst []) rfl rfl,aw,u8,u9,u10,rfl,hl,λx=>{Bj x,λh=>?_},hL}
    induction h with
    |refl _=>exact gD
    |step _ he hc ih =>
     rcases hex _ ih with h|h
     .simp at h
     .exact h _ he hc
   |cons r GK =>
    obtain⟨eJ,D4,u,v,e,B,ex⟩:=zV5 R (GK:=r::GK) (u9:=u9) (u10:=u10) hl Bj oB hL;refine .inr {_,env AO ps cl start eJ D4 (.val (.lst (D4.map D.int))) u v,zMB eJ+(if D4=[] then 0 else 1),kD (d:=.lst ((r::GK).map D.int)) rfl rfl,HB (bD (d:=.lst []) rfl) (HB e (NO (d:=.lst (D4.map D.int)) rfl rfl)),?_,eJ,D4,_,_,_,rfl,B.len,B.rc,B.mono _ gD,B.lat,λx hx=>?_,rfl,B.lv}
    .have:=B.cnt
     rw[show(if(r::GK:List Int)=[] then 0 else 1)=1 from if_neg 's'] at hn
     cases D4 with
     |nil=>simp at this ⊢;lia
     |cons a l=>simp at this ⊢;lia
    .rcases B.new x hx with h|h
     .refine .inr ?_
      rcases hex x h with h|h
      .exact ex x h
      .exact λy hy hc=>B.mono y (h y hy hc)
     .exact .inl h) 100000 (zMB ON+1) (env AO ps cl start ON [start] .no .no .no) 'l'
  {ON,[start],_,_,_,rfl,hl,λx h=>by rw[(hv x).mp h];exact .refl hs,(hv _).mpr rfl,λx h=>by rw[A8.mp h];exact(hv _).mpr rfl,λx h=>.inl (by rw[(hv x).mp h];simp),rfl,Ku}
 exact{aw,u8,u9,u10,e,h1,h2,h3}
theorem Ox(R:Rg AO ps):fS [.val (GD AO ps)]=.ok (AD,aV AO ps,.non):=by
 exact yGR {rfl,R.m1,R.m2,R.len,λp hp=>{(R.rg p hp).1,(R.rg p hp).2.1}}
theorem yAR(R:Rg AO ps){E:Ev}(h3:E[3]?=AA (.val (.int AO)))(h2:E[2]?=AA (.val (.tup (cl.map D.int))))(hb:∀Ec,XB E Ec 1 [2]=E):N6 (cI (AZ 3)) 1 [2] (.nm 0) VD (g2 RX (AZ 0) (AZ 1)) E=.ok (mF AO cl,E):=by
 have X6:=R.m1;have X5:=R.m2;have hg:AZ 3 E=.ok (.int AO,E):=by simp[AZ,h3]
 have:=kM (k:=1) (js:=[2]) (t:=.nm 0) (tt:=VD) (ge:=g2 RX (AZ 0) (AZ 1)) (λd=>match d with|.int j=>[.bl (decide (j∈cl))]|_=>[]) (λE=>∃x,E=[x,.val (.tup (cl.map D.int))]) (Dn hg {by lia,by lia}) {.no,by simp[WM,h2]} (by simp[TX];lia) (λd hd E q0=>by
  obtain⟨x,hE⟩:=q0;subst hE;obtain⟨j,_,rfl⟩:=CM.mp hd
  exact{_,rfl,AK,_,rfl,.inl {rfl,_,_,FN (x:=.int (0+(j:Int))) (y:=.tup (cl.map D.int)) rfl rfl (Do _ _),rfl,_,rfl}}) λEc _=>hb Ec
 rw[this]
 congr 3
 simp only[mF,TX];clear this;rw[List.flatMap_map];generalize DB AO.toNat=l
 induction l with
 |nil=>rfl
 |cons p ps ih=>simp only[AU,EF];rw[ih];simp
theorem Ow(R:Rg AO ps)(h0:0<=start)(h1:start<AO):∃aw,nA [.val (GD AO ps),.val (.int start),.val (.tup (cl.map D.int))]=.ok (AD,.lst (aw.map LO),.non)/\aw.length=AO.toNat/\(∀x,vis aw x↔Rc ps cl start x)/\Lv ps start aw:=by
 have X6:=R.m1;have X5:=R.m2;obtain⟨RL,XO⟩:∃RL:List (Option Int),RL=BG AO.toNat AN:={_,rfl}
 have Ki:qQ (.lst [.non]) (.int AO)=.ok (.lst (RL.map LO)):=by
  have e:(BG AO.toNat [D.non]).flatten=RL.map LO:=by
   rw[XO,List.map_replicate];generalize AO.toNat=n
   induction n with
   |zero=>rfl
   |succ n ih=>rw[EM,EM,GV,ih];rfl
  simp only[qQ,L2.guard];rw[if_pos {by lia,by lia,by simp;lia},e]
 have Bg:∀x,¬vis RL x:=by
  rintro x ⟨_,v,b⟩;rw[XO,DN] at b;split at b<;>simp at b
 obtain⟨E3,ZQ⟩:∃E3:Ev,E3=[.val (GD AO ps),.val (.int start),.val (.tup (cl.map D.int)),.val (.int AO),.own AD (.lst (RL.map LO)),.no,.no,.no,.no,.no,.no]:={_,rfl}
 have Av:gB (g2 RX (AZ 1) (AZ 2)) E3=.ok (decide (start∈cl),E3):=by
  rw[ZQ];exact OT (FN (x:=.int start) (y:=.tup (cl.map D.int)) rfl rfl (Do _ _))
 have s1:∀{g:GS} {r:Out Fl},g E3=r->(GA (IN (.nm 3) (g2 E8 (AZ 0) (gC (.int 0)))) (GA (VH 4 (g2 qQ (KM [(gC .non)]) (AZ 3))) g)) ([.val (GD AO ps),.val (.int start),.val (.tup (cl.map D.int))]++BG 8 .no)=r:=λh =>
  HB (NO (d:=.int AO) (FN (x:=GD AO ps) (y:=.int 0) rfl rfl rfl) rfl) (HB (bD (FN (x:=.lst [.non]) (y:=.int AO) rfl rfl Ki)) (by rw[ZQ] at h;exact h))
 by_cases hs:start∈cl
 .rw[decide_eq_true hs] at Av
  refine{RL,RC (s1 (pM (b:=AD) (d:=.lst (RL.map LO)) (aQ Av (SD (by rw[ZQ];rfl))))) rfl,by rw[XO];simp,λx=>{λh=>absurd h (Bg x),λh=>?_},λx v hx e=>absurd {hx,v,e} (Bg x)}
  induction h with
  |refl h=>exact absurd hs h
  |step _ _ _ ih=>exact absurd ih (Bg _)
 .rw[decide_eq_false hs] at Av
  have wB:∀x,vis (RL.set start.toNat (AA 0)) x↔x=start:=λx=>by
   rw[mV h0 (by rw[XO];simp;lia)];exact{λh=>h.resolve_left (Bg x),.inr}
  have hL:Lv ps start (RL.set start.toNat (AA 0)):=λx v hx e=>by
   have ex:=(wB x).mp {hx,v,e};subst ex;rw[BF (by rw[XO];simp;lia)] at e;cases e;refine{?_,.inl {rfl,rfl}};have c1:=zE (l:=RL) (i:=x.toNat) (v:=0) (by rw[XO,DN,if_pos 'l']);have c2:=sX RL;rw[BW];lia
  obtain⟨aw,u8,u9,u10,ew,hl,hr,hL⟩:=zV6 (cl:=cl) (start:=start) R (ON:=RL.set start.toNat (AA 0)) (by rw[XO];simp) wB hs hL
  refine{aw,RC (s1 (HB (UQ Av rfl) (HB (E1:=E3.set 5 (.val (aV AO ps))) (NO (TQ (ds:=[GD AO ps]) (by rw[ZQ];rfl) (Ox R)) rfl) (HB (E1:=(E3.set 5 (.val (aV AO ps))).set 6 (.val (mF AO cl))) (NO (yAR R (by rw[ZQ];rfl) (by rw[ZQ];rfl) (λEc=>by rw[ZQ];rfl)) rfl)
   (HB (E1:=(((E3.set 5 (.val (aV AO ps))).set 6 (.val (mF AO cl))).set 4 (.own AD (.lst ((RL.set start.toNat (AA 0)).map LO))))) ?_ (HB (E1:=env AO ps cl start (RL.set start.toNat (AA 0)) [start] .no .no .no) (NO (d:=.lst [.int start]) (by rw[ZQ];rfl) (by first|rfl|(rw[ZQ];rfl))) (HB ew (SD (d:=.lst (aw.map LO)) rfl)))))))) rfl,hl,hr,hL}
  rw[ZQ]
  exact fQ (i:=4) (gk:=AZ 1) (gv:=gC (.int 0)) (t:=AD) (d:=.lst (RL.map LO)) (v:=.int 0) (k:=.int start) (d':=.lst ((RL.set start.toNat (AA 0)).map LO)) rfl rfl rfl rfl (by
     rw[Wl (Nl h0 (by rw[AJ,XO];simp;lia)),List.map_set];rfl)
end
noncomputable def eY:List (Option Int)->Nat->List Int
 |[],_=>[]
 |none::r,k=>eY r (k+1)
 |some _::r,k=>(k:Int)::eY r (k+1)
theorem PJ:∀{aw:List (Option Int)} {k:Nat} {x:Int},x∈eY aw k↔(k:Int)<=x/\∃v,aw[x.toNat-k]?=AA (AA v)
 |[],k,x=>by simp[eY]
 |none::r,k,x=>by
  rw[eY,PJ];constructor
  .rintro⟨a,v,b⟩
   refine{by lia,v,?_};rw[show x.toNat-k=(x.toNat-(k+1))+1 by lia,FW];exact b
  .rintro⟨a,v,b⟩
   by_cases e:x=k
   .subst e;simp at b
   .refine{by lia,v,?_}
    rw[show x.toNat-k=(x.toNat-(k+1))+1 by lia,FW] at b;exact b
 |some w::r,k,x=>by
  rw[eY,A2,PJ];constructor
  .rintro(rfl|⟨a,v,b⟩)
   .exact{TV _,w,by simp}
   .refine{by lia,v,?_}
    rw[show x.toNat-k=(x.toNat-(k+1))+1 by lia,FW];exact b
  .rintro⟨a,v,b⟩
   by_cases e:x=k
   .exact .inl e
   .refine .inr {by lia,v,?_}
    rw[show x.toNat-k=(x.toNat-(k+1))+1 by lia,FW] at b;exact b
theorem Dk:∀(aw:List (Option Int)) (k:Nat),(eY aw k).Pairwise (· < ·)
 |[],_=>.nil
 |none::r,k=>Dk r (k+1)
 |some _::r,k=>P8.mpr {λx h=>by have:=(PJ.mp h).1;lia,Dk r (k+1)}
noncomputable def Hd(d:D):List D:=match d with
 |.tup [_,.non]=>[]
 |.tup [i,_]=>[i]
 |_=>[]
theorem Eh:∀(aw:List (Option Int)) (k:Nat),(((aw.map LO).zipIdx k).map λp=>D.tup [.int (p.2:Int),p.1]).flatMap Hd=(eY aw k).map D.int
 |[],_=>rfl
 |none::r,k=>by simp only[AU,J9,EF,Eh r (k+1)];rfl
 |some _::r,k=>by simp only[AU,J9,EF,Eh r (k+1)];rfl
section
variable{cl:List Int}{start:Int}
theorem yAT(R:Rg AO ps)(h0:0<=start)(h1:start<AO):∃xs:List Int,zV [.val (GD AO ps),.val (.int start),.val (.tup (cl.map D.int))]=.ok (AD,.tup (xs.map D.int),.non)/\xs.Pairwise (· < ·)/\∀x,x∈xs↔Rc ps cl start x:=by
 obtain⟨aw,e,hl,hr,_⟩:=Ow (cl:=cl) R h0 h1;have X5:=R.m2;refine{eY aw 0,?_,Dk aw 0,λx=>?_}
 .have hc:=kM (gi:=Cy (AZ 3)) (k:=2) (js:=[]) (t:=.tp [.nm 0,.nm 1]) (tt:=gB (g2 sF (AZ 1) (gC .non))) (ge:=AZ 0) (E:=[.val (GD AO ps),.val (.int start),.val (.tup (cl.map D.int)),.val (.lst (aw.map LO))]) (E1:=[.val (GD AO ps),.val (.int start),.val (.tup (cl.map D.int)),.val (.lst (aw.map LO))]) (ds:=j4 (aw.map LO)) Hd (λE=>E.length=2) rfl rfl (by simp[j4];lia) (λd hd E hE=>by
   obtain⟨⟨o,j⟩,ho,rfl⟩:=CM.mp hd;obtain⟨x,y,rfl⟩:=Cp hE
   have:∃w,LO w=o:=by
    have:=List.mem_zipIdx ho;obtain⟨w,_,hw⟩:=CM.mp (List.mem_of_getElem (this.2.2.symm));exact{w,hw}
   obtain⟨w,rfl⟩:=this
   cases w with
   |none=>exact{_,rfl,AD,_,rfl,.inr {rfl,rfl,rfl}}
   |some w=>exact{_,rfl,AK,_,rfl,.inl {rfl,_,_,rfl,rfl,rfl}}) λEc _=>yH Ec 2 0 _
  have hf:(j4 (aw.map LO)).flatMap Hd=(eY aw 0).map D.int:=Eh aw 0;rw[hf] at hc;exact RC (HB (NO (TQ (ds:=[GD AO ps,.int start,.tup (cl.map D.int)]) rfl e) rfl) (SD (QX (KS hc) rfl))) rfl
 .rw[PJ,<-hr]
  exact Iff.rfl
theorem zPS(R:Rg AO ps)(h0:0<=start)(h1:start<AO):∃xs:List Int,pY [.val (GD AO ps),.val (.int start)]=.ok (AD,.tup (xs.map D.int),.non)/\xs.Pairwise (· < ·)/\∀x,x∈xs↔Rc ps [] start x:=by
 obtain⟨xs,e,h⟩:=yAT (cl:=[]) R h0 h1;exact{xs,RC (SD (TQ (ds:=[GD AO ps,.int start,.tup []]) rfl e)) rfl,h}
end
noncomputable def sc(ps:List (Int×Int))(x:Int):List Int:=(ps.filter λp=>decide (p.1=x)).map (·.2)
theorem cU{x y:Int}:y∈sc ps x↔(x,y)∈ps:=by
 unfold sc;constructor
 .intro h
  obtain⟨p,hp,rfl⟩:=CM.mp h;obtain⟨hp,e⟩:=CF.mp hp;have:=of_decide_eq_true e;rw[<-this];exact hp
 .intro h
  exact CM.mpr {_,CF.mpr {h,decide_eq_true rfl},rfl}
theorem yEK(ps:List (Int×Int))(x:Int):(sc ps x).length<=ps.length:=by
 unfold sc;rw[AJ];exact EQ _ _
theorem zI:∀ns:List Int,pAA (ns.map D.int)=AK
 |[]=>by simp[pAA]
 |n::ns=>by simp[pAA,D.nod,zI ns]
theorem Fi:∀ns:List Int,pA9 (ns.map D.int)=AK
 |[]=>by simp[pA9]
 |n::ns=>by simp[pA9,D.flat,Fi ns]
theorem Nf(x:Int)(c:Option Int):LZ (.int x) (LO c)=.ok (.bl (decide (x∉c.toList))):=by
 cases c with
 |none=>rw[LO,zVN];simp
 |some c=>rw[LO,Dp];simp
def fV(fs:List Int):D:=.dk (fs.map λx=>(.inl x,.bl AK))
theorem yAU(fs:List Int)(x:Int):(M9 (κ:=Key) (fs.map λx=>(.inl x,.bl AK)) (.inl x)).isSome=decide (x∈fs):=by
 unfold M9
 induction fs with
 |nil=>rfl
 |cons a fs ih =>
  rw[AU,DR]
  by_cases e:a=x
  .subst e;simp
  .have e2:¬((CQ a:Key)=.inl x):=λz=>e (HX z)
   simp only[e2,decide_false,ih];have:¬x=a:=λz=>e z.symm;simp[this]
theorem yAV{fs:List Int}{x:Int}(h:x∉fs):P4 (κ:=Key) (fs.map λx=>(.inl x,.bl AK)) (.inl x) (.bl AK)=(fs++[x]).map λx=>(.inl x,.bl AK):=by
 unfold P4;rw[if_neg]
 .simp
 .rw[Q8]
  intro z;obtain⟨a,ha,e⟩:=HA.mp z;have:=HX (of_decide_eq_true e);exact h (this▸ha)
section
variable{BR:Option Int}{nt:D}
def WK(nt:D)(BR:Option Int)(BH:Int)(u3 u4 u5 u6 u7:Sl):Ev:=[.val nt,.val (.int BH),.val (LO BR),u3,u4,u5,u6,u7]
def Hy(ps:List (Int×Int))(kvs:List (Key×D)):Prop:=∀x:Int,(M9 kvs (.inl x)).getD (.lst [])=.lst ((sc ps x).map D.int)
theorem zV7(hn:nt=GD AO ps\/nt=.tup [.int AO,.lst (ps.map G2)])(hl:ps.length<=1000):∃kvs u4 u5,RB (JS (g2 E8 (AZ 0) (gC (.int 1)))) (.tp [(.nm 4),(.nm 5)])
 (RW 3 (AZ 4) (QD [3] (g2 MZ (cD (AZ 3) (AZ 4) (KM [])) (KM [(AZ 5)])))) (WK nt BR BH (.own AD (.dk [])) .no .no .no .no)=.ok (.nx (WK nt BR BH (.own AD (.dk kvs)) u4 u5 .no .no))/\Hy ps kvs:=by
 have hi:JS (g2 E8 (AZ 0) (gC (.int 1))) (WK nt BR BH (.own AD (.dk [])) .no .no .no .no)=.ok (ps.map G2,WK nt BR BH (.own AD (.dk [])) .no .no .no .no):=by
  rcases hn with e|e<;>rw[e]
  .exact tH (FN (x:=GD AO ps) (y:=.int 1) rfl rfl rfl)
  .exact iK (FN (x:=.tup [.int AO,.lst (ps.map G2)]) (y:=.int 1) rfl rfl rfl)
 obtain⟨E',e,kvs,u4,u5,rfl,hk,ht⟩:=fO (gi:=JS (g2 E8 (AZ 0) (gC (.int 1)))) (t:=.tp [(.nm 4),(.nm 5)]) (g:=RW 3 (AZ 4) (QD [3] (g2 MZ (cD (AZ 3) (AZ 4) (KM [])) (KM [(AZ 5)])))) (E:=WK nt BR BH (.own AD (.dk [])) .no .no .no .no) (ds:=ps.map G2)
  (λi E=>∃kvs u4 u5,E=WK nt BR BH (.own AD (.dk kvs)) u4 u5 .no .no/\kvs.length<=i/\Hy (ps.take i) kvs) hi {[],_,_,rfl,AL _,λx=>rfl}
  (λi d E hd hP=>by
   obtain⟨kvs,u4,u5,hE,hk,ht⟩:=hP;subst hE;rw[AV] at hd;obtain⟨⟨a,b⟩,hp,rfl⟩:=BS.mp hd;have Lb:=(AE.mp hp).1;have Kh:=yEK (ps.take i) a;rw[EB] at Kh;have hf:=Fo (λp:Int×Int=>decide (p.1=a)) hp
   have hg:cD (AZ 3) (AZ 4) (KM []) (OS [3] (WK nt BR BH (.own AD (.dk kvs)) (.val (.int a)) (.val (.int b)) .no .no))=.ok (.lst ((sc (ps.take i) a).map D.int),OS [3] (WK nt BR BH (.own AD (.dk kvs)) (.val (.int a)) (.val (.int b)) .no .no)):=by
    have:=Nk (gd:=AZ 3) (gk:=AZ 4) (gx:=KM []) (E:=OS [3] (WK nt BR BH (.own AD (.dk kvs)) (.val (.int a)) (.val (.int b)) .no .no)) (a:=.dk kvs) (k:=.int a) (x:=.lst []) (o:=M9 kvs (.inl a)) rfl rfl rfl rfl;rw[ht a] at this;exact this
   have hb:QD [3] (g2 MZ (cD (AZ 3) (AZ 4) (KM [])) (KM [(AZ 5)])) (WK nt BR BH (.own AD (.dk kvs)) (.val (.int a)) (.val (.int b)) .no .no)=.ok (.lst ((sc (ps.take (i+1)) a).map D.int),WK nt BR BH (.own AD (.dk kvs)) (.val (.int a)) (.val (.int b)) .no .no):=by
    refine bC (FN hg (y:=.lst [.int b]) rfl ?_) ?_
    .refine Wm (by rw[AJ];show _+1<10000;lia) ?_
     unfold sc;rw[hf,if_pos (decide_eq_true rfl)];simp
    .simp only[kJ,WK,D.flat,D.nod,zI];rfl
   refine{_,rfl,_,fQ (i:=3) (t:=AD) (d:=.dk kvs) (k:=.int a) (d':=.dk (P4 kvs (.inl a) (.lst ((sc (ps.take (i+1)) a).map D.int)))) rfl hb rfl rfl (by simp only[qP,iC];rw[Z0 'l']),P4 kvs (.inl a) (.lst ((sc (ps.take (i+1)) a).map D.int)),_,_,rfl,AX (Ei _ _ _) (EI hk (AL _)),λx=>?_}
   by_cases ex:x=a
   .subst ex;rw[zJY];rfl
   .rw[zNE _ _ (λz=>ex (HX z)),ht x]
    have hf:=Fo (λp:Int×Int=>decide (p.1=x)) hp;unfold sc
    rw[hf,if_neg (by simp only[decide_eq_true_eq];exact λz=>ex z.symm),EA])
 rw[AJ,EJ] at ht;exact{kvs,u4,u5,e,ht}
end
section
variable{BR:Option Int}{nt:D}
abbrev t7:GS:=O6 (US [6] (iE (gB (g2 LZ (AZ 5) (AZ 2))) (gB (g2 P5 (AZ 5) (AZ 6)))))
 (GA (RW 6 (AZ 5) (gC (.bl AK)))
 (fG (SC 7 VC [(AZ 5)])))
 SH
def QC(nt:D)(BR:Option Int)(BH:Int)(u3 u4 u5:Sl)(fs GK:List Int):Ev:=WK nt BR BH u3 u4 u5 (.own AD (fV fs)) (.own AD (.lst (GK.map D.int)))
theorem zV8(x:Int)(fs:List Int):P5 (.int x) (fV fs)=.ok (.bl (decide (x∉fs))):=by
 have:=yAU fs x;simp only[P5,RX,fV,iB,iC,HI];simp only[Out.bind,this];simp
theorem yGS{u3:Sl}{fs:List Int}{y:Int}(hf:fs.length<10000)(hr:GK.length<10000) :
  ∃oW OW,t7 (QC nt BR BH u3 u4 (.val (.int y)) fs GK)=.ok (.nx (QC nt BR BH u3 u4 (.val (.int y)) oW OW)) /\
   ((y∉BR.toList/\y∉fs/\oW=fs++[y]/\OW=GK++[y])\/((y∈BR.toList\/y∈fs)/\oW=fs/\OW=GK)):=by
 obtain⟨E0,aC⟩:∃E0,E0=OS [6] (QC nt BR BH u3 u4 (.val (.int y)) fs GK):={_,rfl}
 have t1:gB (g2 LZ (AZ 5) (AZ 2)) E0=.ok (decide (y∉BR.toList),E0):=by
  rw[aC];exact OT (FN (x:=.int y) (y:=LO BR) rfl rfl (Nf _ _))
 have t2:gB (g2 P5 (AZ 5) (AZ 6)) E0=.ok (decide (y∉fs),E0):=by
  rw[aC];exact OT (FN (x:=.int y) (y:=fV fs) rfl rfl (zV8 _ _))
 by_cases hc:y∈BR.toList
 .rw[decide_eq_false (λz=>z hc)] at t1
  exact{fs,GK,UQ (Z5 (by rw[<-aC];exact Cq t1)) rfl,.inr {.inl hc,rfl,rfl}}
 rw[decide_eq_true hc] at t1
 by_cases hm:y∈fs
 .rw[decide_eq_false (λz=>z hm)] at t2
  exact{fs,GK,UQ (Z5 (by rw[<-aC];exact pL t1 t2)) rfl,.inr {.inr hm,rfl,rfl}}
 rw[decide_eq_true hm] at t2;refine{fs++[y],GK++[y],aQ (Z5 (by rw[<-aC];exact pL t1 t2)) (HB (E1:=QC nt BR BH u3 u4 (.val (.int y)) (fs++[y]) GK) ?_ ?_),.inl {hc,hm,rfl,rfl}}
 .exact fQ (i:=6) (gk:=AZ 5) (gv:=gC (.bl AK)) (E:=QC nt BR BH u3 u4 (.val (.int y)) fs GK) (E1:=QC nt BR BH u3 u4 (.val (.int y)) fs GK) (E2:=QC nt BR BH u3 u4 (.val (.int y)) fs GK) (t:=AD) (d:=fV fs) (k:=.int y) (v:=.bl AK) (d':=fV (fs++[y])) rfl rfl rfl rfl (by
   exact(Vz (by rw[AJ];exact hf)).trans (by rw[yAV hm];rfl))
 .have:=pT (i:=7) (f:=VC) (gs:=[AZ 5]) (E:=QC nt BR BH u3 u4 (.val (.int y)) (fs++[y]) GK) (xs:=GK.map D.int) (ds:=[.int y]) (x:=.non) (V9:=(GK++[y]).map D.int) rfl rfl rfl (by
  simp only[VC,AJ]
  rw[Z0 hr];simp)
  exact yT this
structure Fd(ps:List (Int×Int))(cl:List Int)(BH AO:Int)(fs GK:List Int):Prop where
 nd:fs.Nodup
 rc:∀x∈fs,Rc ps cl BH x
 rg:∀x∈fs,0<=x/\x<AO
 sub:∀x∈GK,x∈fs
theorem Fd.len{cl:List Int}{fs:List Int}(F:Fd ps cl BH AO fs GK):fs.length<=AO.toNat:=by
 have:=GW (l₂:=(DB AO.toNat).map λ(j:Nat)=>(j:Int)) F.nd (λx hx=>by
  obtain⟨a,b⟩:=F.rg x hx
  exact CM.mpr {x.toNat,IL.mpr 'l',by lia})
 simpa using this
theorem yAW(R:Rg AO ps){kvs:List (Key×D)}{u5:Sl}{NV V4:List Int}{r:Int}(hr:r∈NV)(F0:Fd ps BR.toList BH AO NV V4)(oC:V4.length<=NV.length) :
  ∃fs GK u,fF (.nm 5) t7 ((sc ps r).map D.int) (QC nt BR BH (.val (.dk kvs)) u4 u5 NV V4)=.ok (.nx (QC nt BR BH (.val (.dk kvs)) u4 u fs GK))/\Fd ps BR.toList BH AO fs GK/\(∀x∈NV,x∈fs)/\(∀x∈V4,x∈GK)/\(∀x∈fs,x∈NV\/x∈GK)/\fs.length+V4.length=GK.length+NV.length/\∀y,(r,y)∈ps->y∉BR.toList->y∈fs:=by
 have X5:=R.m2
 obtain⟨E',e,fs,GK,u,rfl,F,a,b,c,d,ex⟩:=Ek (t:=.nm 5) (g:=t7) (λi E=>∃fs GK u,E=QC nt BR BH (.val (.dk kvs)) u4 u fs GK/\Fd ps BR.toList BH AO fs GK/\(∀x∈NV,x∈fs)/\(∀x∈V4,x∈GK)/\(∀x∈fs,x∈NV\/x∈GK)/\fs.length+V4.length=GK.length+NV.length/\∀y∈(sc ps r).take i,y∉BR.toList->y∈fs)
  (ds:=(sc ps r).map D.int) (E:=QC nt BR BH (.val (.dk kvs)) u4 u5 NV V4) 0 {NV,V4,u5,rfl,F0,λ_ h=>h,λ_ h=>h,λ_ h=>.inl h,RS _ _,λy h=>by simp at h}
  (λi d E hd hP=>by
   rw[EV] at hP ⊢;obtain⟨fs,GK,u,hE,F,a,b,c,ET,ex⟩:=hP;subst hE;rw[AV] at hd;obtain⟨y,hy,rfl⟩:=BS.mp hd;have nW:(r,y)∈ps:=cU.mp (CC hy);obtain⟨_,_,y0,y1⟩:=R.rg _ nW;have dX:=F.len;obtain⟨oW,OW,e,h⟩:=yGS (nt:=nt) (BR:=BR) (BH:=BH) (u3:=.val (.dk kvs)) (u4:=u4) (fs:=fs) (GK:=GK) (y:=y) 'l' 'l'
   have nZ:(sc ps r).take (i+1)=(sc ps r).take i++[y]:=by
    obtain⟨hi,e⟩:=AE.mp hy;rw[BK hi,e]
   refine{_,rfl,_,e,oW,OW,_,rfl,?_};rw[nZ];rcases h with⟨hc,hm,rfl,rfl⟩|⟨Bk,rfl,rfl⟩
   .refine{{?_,?_,?_,?_},λx hx=>DF _ (a x hx),λx hx=>DF _ (b x hx),?_,by simp;lia,?_}
    .rw[MD]
     exact{F.nd,FZ.mpr {by simp,G9},λp hp q hq=>by rw[A8.mp hq];exact λz=>hm (z▸hp)}
    .intro x hx
     rcases CG.mp hx with h|h
     .exact F.rc x h
     .rw[A8.mp h];exact .step (F.rc r (a r hr)) nW hc
    .intro x hx
     rcases CG.mp hx with h|h
     .exact F.rg x h
     .rw[A8.mp h];exact{y0,y1}
    .intro x hx
     rcases CG.mp hx with h|h
     .exact DF _ (F.sub x h)
     .exact BM _ h
    .intro x hx
     rcases CG.mp hx with h|h
     .rcases c x h with h|h
      .exact .inl h
      .exact .inr (DF _ h)
     .exact .inr (BM _ h)
    .intro z hz dI
     rcases CG.mp hz with h|h
     .exact DF _ (ex z h dI)
     .exact BM _ h
   .refine{F,a,b,c,ET,λz hz dI=>?_}
    rcases CG.mp hz with h|h
    .exact ex z h dI
    .rw[A8.mp h] at dI ⊢
     exact Bk.resolve_left dI)
 refine{fs,GK,u,e,F,a,b,c,d,λy hy lD=>ex y ?_ lD};rw[EV,AJ,EJ];exact cU.mpr hy
theorem zSU(R:Rg AO ps){kvs:List (Key×D)}(ht:Hy ps kvs){u3 u5:Sl}(Kd:u3=.own AD (.dk kvs)\/u3=.val (.dk kvs)){NV:List Int}(F0:Fd ps BR.toList BH AO NV NV)(hg:BH∈BR.toList\/BH∈NV) :
  ∃fs v3 v5,YI (US [7] (gB (g2 LZ (AZ 7) (KM [])))) (RB (JS (cD (AZ 3) (SC 7 fB []) (KM []))) (.nm 5) t7) 100000 (QC nt BR BH u3 u4 u5 NV NV)=.ok (.nx (QC nt BR BH v3 u4 v5 fs []))/\fs.Nodup/\∀x,x∈fs↔Rc ps BR.toList BH x:=by
 have X5:=R.m2
 obtain⟨E',e,fs,Io,u5',rfl,h1,h2⟩:=yC (t:=US [7] (gB (g2 LZ (AZ 7) (KM [])))) (g:=RB (JS (cD (AZ 3) (SC 7 fB []) (KM []))) (.nm 5) t7)
  (λn E=>∃fs GK u3 u5,E=QC nt BR BH u3 u4 u5 fs GK/\(u3=.own AD (.dk kvs)\/u3=.val (.dk kvs))/\Fd ps BR.toList BH AO fs GK/\(BH∈BR.toList\/BH∈fs)/\(∀x∈fs,x∈GK\/∀y,(x,y)∈ps->y∉BR.toList->y∈fs)/\GK.length<=fs.length/\n=2 * (AO.toNat-fs.length)+GK.length)
  (λE=>∃fs u3 u5,E=QC nt BR BH u3 u4 u5 fs []/\fs.Nodup/\∀x,x∈fs↔Rc ps BR.toList BH x)
  (λn E hP=>by
   obtain⟨fs,GK,u3,u5,hE,Kd,F,hg,hex,oC,hn⟩:=hP;subst hE
   have tw:US [7] (gB (g2 LZ (AZ 7) (KM []))) (QC nt BR BH u3 u4 u5 fs GK)=.ok (!(GK.map D.int).isEmpty,QC nt BR BH u3 u4 u5 fs GK) :=
    Z5 (OT (FN (x:=.lst (GK.map D.int)) (y:=.lst []) rfl rfl (Pe (Pls.ints 0 GK))))
   rcases List.eq_nil_or_concat GK with rfl|⟨OW,r,Zb⟩
   .refine .inl {_,tw,fs,u3,u5,rfl,F.nd,λx=>{F.rc x,λh=>?_}}
    induction h with
    |refl h=>exact hg.resolve_left h
    |step _ he hc ih =>
     rcases hex _ ih with h|h
     .simp at h
     .exact h _ he hc
   .rw[List.concat_eq_append] at Zb
    subst Zb;have hrf:r∈fs:=F.sub r 's';rw[BN,FI] at oC hn;have F':Fd ps BR.toList BH AO fs OW:={F.nd,F.rc,F.rg,λx hx=>F.sub x (DF _ hx)};obtain⟨Zw,uW,u,e,F2,a,b,c,d,ex⟩:=yAW (kvs:=kvs) (u4:=u4) (u5:=u5) R hrf F' (AX (A3 _ _) oC);have dX:=F2.len;have hfl2:=F.len;have hfl3:=GW F.nd a
    have oG:SC 7 fB [] (QC nt BR BH (.val (.dk kvs)) u4 u5 fs (OW++[r]))=.ok (.int r,QC nt BR BH (.val (.dk kvs)) u4 u5 fs OW) :=
     pT (i:=7) (f:=fB) (gs:=[]) (t:=AD) (xs:=(OW++[r]).map D.int) (ds:=[]) (x:=.int r) (V9:=OW.map D.int) rfl rfl rfl (by simp[fB])
    have hgi:JS (cD (AZ 3) (SC 7 fB []) (KM [])) (QC nt BR BH u3 u4 u5 fs (OW++[r]))=.ok ((sc ps r).map D.int,QC nt BR BH (.val (.dk kvs)) u4 u5 fs OW):=by
     have h3:AZ 3 (QC nt BR BH u3 u4 u5 fs (OW++[r]))=.ok (.dk kvs,QC nt BR BH (.val (.dk kvs)) u4 u5 fs (OW++[r])):=by
      rcases Kd with rfl|rfl<;>rfl
     have:=Nk (gx:=KM []) (x:=.lst []) (o:=M9 kvs (.inl r)) h3 oG rfl rfl;rw[ht r] at this;exact iK this
    refine .inr {_,_,2 * (AO.toNat-Zw.length)+uW.length,?_,IH hgi e,by lia,Zw,uW,_,u,rfl,.inr rfl,F2,hg.imp id (a _),λx hx=>?_,by lia,rfl}
    .rw[tw];simp
    .rcases c x hx with h|h
     .rcases hex x h with h|h
      .rcases CG.mp h with h|h
       .exact .inl (b x h)
       .rw[A8.mp h];exact .inr ex
      .exact .inr λy hy lD=>a y (h y hy lD)
     .exact .inl h) 100000 (2 * (AO.toNat-NV.length)+NV.length) (QC nt BR BH u3 u4 u5 NV NV) (by have:=F0.len;lia)
  {NV,NV,u3,u5,rfl,Kd,F0,hg,λx h=>.inl h,AL _,rfl}
 exact{fs,Io,u5',e,h1,h2}
theorem Ov(hn:nt=GD AO ps\/nt=.tup [.int AO,.lst (ps.map G2)])(R:Rg AO ps)(h0:0<=BH)(h1:BH<AO):∃fs:List Int,cN [.val nt,.val (.int BH),.val (LO BR)]=.ok (AD,.lst (fs.map D.int),.non)/\fs.Nodup/\∀x,x∈fs↔Rc ps BR.toList BH x:=by
 obtain⟨kvs,u4,u5,e1,ht⟩:=zV7 (AO:=AO) (ps:=ps) (BR:=BR) (BH:=BH) hn R.len
 obtain⟨NV,hfs,F0,hg⟩:∃NV:List Int,(uE (gB (g2 LZ (AZ 1) (AZ 2))) (Cs (AZ 1) (gC (.bl AK))) (gC (.dk []))) (WK nt BR BH (.own AD (.dk kvs)) u4 u5 .no .no)=.ok (fV NV,WK nt BR BH (.own AD (.dk kvs)) u4 u5 .no .no)/\Fd ps BR.toList BH AO NV NV/\(BH∈BR.toList\/BH∈NV):=by
  have t:=OT (FN (E:=WK nt BR BH (.own AD (.dk kvs)) u4 u5 .no .no) (ga:=AZ 1) (gb:=AZ 2) (x:=.int BH) (y:=LO BR) rfl rfl (Nf _ _))
  by_cases hc:BH∈BR.toList
  .rw[decide_eq_false (λz=>z hc)] at t
   exact{[],IH t rfl,{G9,λ_ h=>by simp at h,λ_ h=>by simp at h,λ_ h=>h},.inl hc}
  .rw[decide_eq_true hc] at t
   exact{[BH],IH t rfl,{FZ.mpr {by simp,G9},λx h=>by rw[A8.mp h];exact .refl hc,λx h=>by rw[A8.mp h];exact{h0,h1},λ_ h=>h},.inr 's'}
 obtain⟨fs,v3,v5,e2,nd,hm⟩:=zSU R ht (u5:=u5) (.inl rfl) F0 hg;have U1:∀l:List Int,(l.map λx=>((.inl x,.bl AK):Key×D)).map (λkv=>jY kv.1)=l.map D.int:=λl=>by rw[D7];rfl
 refine{fs,RC (HB (bD (d:=.dk []) rfl) (HB e1 (HB (bD hfs) (HB (E1:=QC nt BR BH (.own AD (.dk kvs)) u4 u5 NV NV) (bD (E':=WK nt BR BH (.own AD (.dk kvs)) u4 u5 (.own AD (fV NV)) .no) (zZ9 (d:=.lst (NV.map D.int)) (QX (KS (d:=fV NV) rfl) ?_) (Fi _))) (HB e2 (SD (bC (d:=.lst (fs.map D.int)) (QX (KS (d:=fV fs) rfl) ?_) ?_))))))) rfl,nd,hm}
 .exact congrArg (λl=>Out.ok (D.lst l)) (U1 _)
 .exact congrArg (λl=>Out.ok (D.lst l)) (U1 _)
 .simp only[kJ,QC,WK,D.flat,D.nod,zI];rfl
theorem Rw(R:Rg AO ps)(h0:0<=BH)(h1:BH<AO):∃fs:List Int,cN [.val (GD AO ps),.val (.int BH),.val (LO BR)]=.ok (AD,.lst (fs.map D.int),.non)/\fs.Nodup/\∀x,x∈fs↔Rc ps BR.toList BH x:=Ov (.inl rfl) R h0 h1
end
theorem tk{g:G}{E:Ev}{d:D}{n:Int}(h0:E[0]?=AA (.own AK d))(B:Bag k d)(hk:k<900000)(hg:g E=.ok (.int n,E))(hn:1<=n)(aB:n<2 ^ 200) :
  ∃r d',LJ LQ 0 [g] E=.ok (.int r,E.set 0 (.own AK d'))/\0<=r/\r<n/\Bag (k+1) d':=by
 obtain⟨r,d',e,a,b,B'⟩:=yAN B hk hn aB;exact{r,d',Qx h0 (KS hg) h0 e,a,b,B'}
theorem Rv{α β:Type}(f:α->β):∀(l:List α) (i:Nat),(l.map f).eraseIdx i=(l.eraseIdx i).map f
 |[],_=>rfl
 |_::_,0=>rfl
 |a::l,i+1=>by simp[Rv f l i]
theorem Tf{α:Type}:∀{l:List α} {i:Nat} (h:i<l.length),(l[i]::l.eraseIdx i).Perm l
 |a::l,0,_=>.refl _
 |a::l,i+1,h=>by
  have:=Tf (l:=l) (i:=i) (by simpa using h);simp only[List.getElem_cons_succ,XY];exact(HQ _ _ _).trans (this.cons a)
theorem yAX{d:D}{xs:List Int}(B:Bag k d)(hx:xs.length<=1000)(hk:k<800000) :
  ∃(ys:List Int) (d':D),tU [.own AK d,.val (.lst (xs.map D.int))]=.ok (AD,.lst (ys.map D.int),d')/\ys.Perm xs/\Bag (k+xs.length) d':=by
 obtain⟨E',e,ys,d',rfl,hp,B'⟩:=yC (t:=US [2] (gB (g2 LZ (AZ 2) (KM [])))) (g:=fG (SC 3 VC [(SC 2 kI [(LJ LQ 0 [(QD [2] (gN QV [(AZ 2)]))])])]))
  (λn E=>∃(rest JF:List Int) (d:D),E=[.own AK d,.val (.lst (xs.map D.int)),.own AD (.lst (rest.map D.int)),.own AD (.lst (JF.map D.int))]/\(JF++rest).Perm xs/\Bag (k+JF.length) d/\n=rest.length)
  (λE=>∃(JF:List Int) (d:D),E=[.own AK d,.val (.lst (xs.map D.int)),.own AD (.lst []),.own AD (.lst (JF.map D.int))]/\JF.Perm xs/\Bag (k+xs.length) d)
  (λn E hP=>by
   obtain⟨rest,JF,d,hE,hp,B,hn⟩:=hP;subst hE;have ET:=hp.length_eq;rw[BN] at ET
   have tw:US [2] (gB (g2 LZ (AZ 2) (KM []))) [.own AK d,.val (.lst (xs.map D.int)),.own AD (.lst (rest.map D.int)),.own AD (.lst (JF.map D.int))]=.ok (!(rest.map D.int).isEmpty,[.own AK d,.val (.lst (xs.map D.int)),.own AD (.lst (rest.map D.int)),.own AD (.lst (JF.map D.int))]) :=
    Z5 (OT (FN (x:=.lst (rest.map D.int)) (y:=.lst []) rfl rfl (Pe (Pls.ints 0 rest))))
   by_cases hr:rest=[]
   .subst hr
    rw[EA] at hp;exact .inl {_,tw,JF,d,rfl,hp,by rw[<-hp.length_eq];exact B}
   .have XN:0<rest.length:=List.length_pos_iff.mpr hr
    have hg:QD [2] (gN QV [(AZ 2)]) [.own AK d,.val (.lst (xs.map D.int)),.own AD (.lst (rest.map D.int)),.own AD (.lst (JF.map D.int))]=.ok (.int (rest.length:Int),[.own AK d,.val (.lst (xs.map D.int)),.own AD (.lst (rest.map D.int)),.own AD (.lst (JF.map D.int))]) :=
     bC (QX (KS (d:=.lst (rest.map D.int)) rfl) (Hh (AJ _))) rfl
    obtain⟨r,d',et,r0,r1,B'⟩:=tk (g:=QD [2] (gN QV [(AZ 2)])) (E:=[.own AK d,.val (.lst (xs.map D.int)),.own AD (.lst (rest.map D.int)),.own AD (.lst (JF.map D.int))]) rfl B 'l' hg 'l' 'l';have oC:r.toNat<rest.length:=by lia
    have oG:SC 2 kI [(LJ LQ 0 [(QD [2] (gN QV [(AZ 2)]))])] [.own AK d,.val (.lst (xs.map D.int)),.own AD (.lst (rest.map D.int)),.own AD (.lst (JF.map D.int))]=.ok (.int rest[r.toNat],[.own AK d',.val (.lst (xs.map D.int)),.own AD (.lst ((rest.eraseIdx r.toNat).map D.int)),.own AD (.lst (JF.map D.int))]) :=
     pT (i:=2) (f:=kI) (t:=AD) (xs:=rest.map D.int) (ds:=[.int r]) (x:=.int rest[r.toNat]) (V9:=(rest.eraseIdx r.toNat).map D.int) rfl (KS et) rfl (by
      simp only[kI,AJ,L2.guard];rw[if_pos {r0,r1,by lia},AV,A7 oC]
      simp[Rv])
    refine .inr {_,_,(rest.eraseIdx r.toNat).length,?_,yT (pT (i:=3) (f:=VC) (t:=AD) (xs:=JF.map D.int) (ds:=[.int rest[r.toNat]]) (x:=.non) (V9:=(JF++[rest[r.toNat]]).map D.int) rfl (KS oG) rfl (by
      simp only[VC,AJ]
      rw[Z0 'l'];simp)),?_,rest.eraseIdx r.toNat,JF++[rest[r.toNat]],d',rfl,?_,?_,rfl}
    .rw[tw]
     cases rest with
     |nil=>exact absurd rfl hr
     |cons a l=>rfl
    .rw[List.length_eraseIdx_of_lt oC];lia
    .rw[DH]
     exact((Tf oC).append_left JF).trans hp
    .rw[BN,FI,<-Nat.add_assoc];exact B') 100000 xs.length [.own AK d,.val (.lst (xs.map D.int)),.own AD (.lst (xs.map D.int)),.own AD (.lst [])] (gW (AX hx (DS _ _)))
  {xs,[],d,rfl,GB _,B,rfl}
 exact{ys,d',RC (HB (bD (d:=.lst (xs.map D.int)) rfl) (HB (bD (d:=.lst []) rfl) (HB e (SD (d:=.lst (ys.map D.int)) rfl)))) rfl,hp,B'}
noncomputable def U9(d:D)(EE:Int)(u2 u3 u4 u5 u6 u7 u8 u9 u10 u11:Sl):Ev:=[.own AK d,.val (.int EE),u2,u3,u4,u5,u6,u7,u8,u9,u10,u11]
theorem nC{xs:List Int}{ds:List D}{x:D}{i:Int}(h0:0<=i)(h:ds[i.toNat]?=AA x):E8 (.lst ds) (.int i)=.ok x:=by
 exact qL (sP h0 h)
theorem yI0{d:D}(B:Bag k d)(hk:k<800000)(h1:1<=EE)(h2:EE<=24) :
  ∃AO d',IN (.nm 2) (g2 E8 (KM [(AZ 1),(g2 MZ (gC (.int 1)) (LJ LQ 0 [(AZ 1)])),(g2 MZ (gC (.int 1)) (LJ LQ 0 [(gN iA [(gC (.int 7)),(AZ 1)])]))]) (LJ LQ 0 [(gC (.int 3))]))
   (U9 d EE .no .no .no .no .no .no .no .no .no .no)=.ok (.nx (U9 d' EE (.val (.int AO)) .no .no .no .no .no .no .no .no .no))/\1<=AO/\AO<=EE/\Bag (k+3) d':=by
 obtain⟨a,d1,e1,a0,a1,B1⟩:=tk (g:=AZ 1) (E:=U9 d EE .no .no .no .no .no .no .no .no .no .no) rfl B (AQ hk (DS _ _)) rfl h1 'l';obtain⟨b,d2,e2,b0,b1,B2⟩:=tk (g:=gN iA [(gC (.int 7)),(AZ 1)]) (E:=U9 d1 EE .no .no .no .no .no .no .no .no .no .no) (n:=if EE<7 then EE else 7) rfl B1 'l' rfl (by split<;>lia) (by split<;>lia);obtain⟨c,d3,e3,c0,c1,B3⟩:=tk (g:=gC (.int 3)) (E:=U9 d2 EE .no .no .no .no .no .no .no .no .no .no) rfl B2 'l' rfl 'l' 'l';have hb:b<EE:=by split at b1<;>lia
 have JT:∃AO:Int,([D.int EE,.int (1+a),.int (1+b)])[c.toNat]?=AA (.int AO)/\1<=AO/\AO<=EE:=by
  have:c=0\/c=1\/c=2:=by lia
  rcases this with rfl|rfl|rfl
  .exact{EE,rfl,h1,TV _}
  .exact{1+a,rfl,by lia,by lia}
  .exact{1+b,rfl,by lia,by lia}
 obtain⟨AO,hm,m0,m1⟩:=JT;refine{AO,d3,NO (FN (kG (QH (d:=.int EE) rfl (QH (FN (x:=.int 1) rfl e1 (d:=.int (1+a)) rfl) (KS (FN (x:=.int 1) rfl e2 (d:=.int (1+b)) rfl)))) (show 3<10000 by decide)) e3 (nC (xs:=[]) c0 hm)) rfl,m0,m1,B3}
theorem yI1{d:D}{kind:Int}(B:Bag k d)(hk:k<800000)(h1:1<=AO)(h2:AO<=24) :
  ∃wanted d',IN (.nm 4) (g2 E8 (KM [(gC (.int 0)),(gC (.int 1)),(LJ LQ 0 [(g2 MZ (AZ 2) (gC (.int 1)))]),(g2 MZ (AZ 2) (LJ LQ 0 [(g2 YE (gC (.int 5)) (AZ 2))])),(gC (.int 120))]) (LJ LQ 0 [(gC (.int 5))]))
   (U9 d EE (.val (.int AO)) (.val (.int kind)) .no .no .no .no .no .no .no .no)=.ok (.nx (U9 d' EE (.val (.int AO)) (.val (.int kind)) (.val (.int wanted)) .no .no .no .no .no .no .no))/\0<=wanted/\wanted<=200/\Bag (k+3) d':=by
 obtain⟨a,d1,e1,a0,a1,B1⟩:=tk (g:=g2 MZ (AZ 2) (gC (.int 1))) (E:=U9 d EE (.val (.int AO)) (.val (.int kind)) .no .no .no .no .no .no .no .no) rfl B (AQ hk (DS _ _)) rfl 'l' 'l'
 have Ks:YE (.int 5) (.int AO)=.ok (.int (5 * AO)):=by
  simp only[YE,L2.guard];rw[if_pos (.inl {by decide,by decide})]
 obtain⟨b,d2,e2,b0,b1,B2⟩:=tk (g:=g2 YE (gC (.int 5)) (AZ 2)) (E:=U9 d1 EE (.val (.int AO)) (.val (.int kind)) .no .no .no .no .no .no .no .no) rfl B1 'l' (FN (x:=.int 5) (y:=.int AO) rfl rfl Ks) 'l' 'l';obtain⟨c,d3,e3,c0,c1,B3⟩:=tk (g:=gC (.int 5)) (E:=U9 d2 EE (.val (.int AO)) (.val (.int kind)) .no .no .no .no .no .no .no .no) rfl B2 'l' rfl 'l' 'l'
 have JT:∃w:Int,([D.int 0,.int 1,.int a,.int (AO+b),.int 120])[c.toNat]?=AA (.int w)/\0<=w/\w<=200:=by
  have:c=0\/c=1\/c=2\/c=3\/c=4:=by lia
  rcases this with rfl|rfl|rfl|rfl|rfl
  .exact{0,rfl,by decide,by decide}
  .exact{1,rfl,by decide,by decide}
  .exact{a,rfl,a0,by lia}
  .exact{AO+b,rfl,by lia,by lia}
  .exact{120,rfl,by decide,by decide}
 obtain⟨w,hw,w0,w1⟩:=JT;exact{w,d3,NO (FN (kG (QH (d:=.int 0) rfl (QH (d:=.int 1) rfl (QH e1 (QH (FN (x:=.int AO) rfl e2 (d:=.int (AO+b)) rfl) (KS (d:=.int 120) rfl))))) (show 5<10000 by decide)) e3 (nC (xs:=[]) c0 hw)) rfl,w0,w1,B3}
structure Ln(AO:Int)(kvs:List (List Int×D)):Prop where
 nd:(kvs.map (·.1)).Nodup
 rg:∀k∈kvs.map (·.1),∃a b:Int,k=[a,b]/\0<=a/\a<AO/\0<=b/\b<AO/\a≠b
theorem Ru(kvs:List (List Int×D))(k:List Int)(v:D):(P4 kvs k v).map (·.1)=if k∈kvs.map (·.1) then kvs.map (·.1) else kvs.map (·.1)++[k]:=by
 unfold P4
 by_cases h:k∈kvs.map (·.1)
 .rw[if_pos h,if_pos]
  .rw[D7]
   refine IV λkv _=>?_;simp only[OJ];split<;>rfl
  .obtain⟨kv,Kx,e⟩:=CM.mp h
   exact HA.mpr {kv,Kx,decide_eq_true e}
 .rw[if_neg h,if_neg]
  .simp
  .intro z
   obtain⟨kv,Kx,e⟩:=HA.mp z;exact h (CM.mpr {kv,Kx,of_decide_eq_true e})
theorem Ln.put{kvs:List (List Int×D)}(L:Ln AO kvs){a b:Int}(h:0<=a/\a<AO/\0<=b/\b<AO/\a≠b)(v:D):Ln AO (P4 kvs [a,b] v):=by
 constructor
 .rw[Ru]
  split
  .exact L.nd
  .rename_i hn
   rw[MD];exact{L.nd,FZ.mpr {by simp,G9},λp hp q hq=>by rw[A8.mp hq];exact λz=>hn (z▸hp)}
 .rw[Ru]
  split
  .exact L.rg
  .intro k hk
   rcases CG.mp hk with h'|h'
   .exact L.rg k h'
   .exact{a,b,A8.mp h',h}
theorem Nd{kvs:List (List Int×D)}{a b:Int}(h:kvs.length<10000):qP (.dt kvs) (.tup [.int a,.int b]) (.bl AK)=.ok (.dt (P4 kvs [a,b] (.bl AK))):=by
 exact Z0 h
abbrev Xd:GS:=O6 (gB (g2 ZH (AZ 3) (gC (.int 3))))
 (RW 5 (RD [(g2 E8 (KM [(LJ LQ 0 [(AZ 6)]),(g2 jZ (g2 jZ (AZ 6) (gC (.int 1))) (LJ LQ 0 [(gN iA [(AZ 6),(gC (.int 2))])])),(gC (.int 0))]) (AZ 3)),(AZ 6)]) (gC (.bl AK)))
 SH
section
variable{kind wanted:Int}
abbrev O7(d:D)(EE AO kind wanted:Int)(kvs:List (List Int×D))(u6 u7 u8 u9:Sl):Ev:=U9 d EE (.val (.int AO)) (.val (.int kind)) (.val (.int wanted)) (.own AD (.dt kvs)) u6 u7 u8 u9 .no .no
theorem yGT{d:D}(B:Bag k d)(hk:k<800000)(h1:1<=AO)(h2:AO<=24)(gI:0<=kind) :
  ∃(d':D) (kvs:List (List Int×D)) (u6:Sl),RB (sD (gC (.int 1)) (AZ 2)) (.nm 6) Xd (O7 d EE AO kind wanted [] .no .no .no .no)=.ok (.nx (O7 d' EE AO kind wanted kvs u6 .no .no .no))/\Bag (k+48) d'/\Ln AO kvs/\kvs.length<=24:=by
 obtain⟨E',e,d',kvs,u6,rfl,B',L,hl⟩:=fO (gi:=sD (gC (.int 1)) (AZ 2)) (t:=.nm 6) (g:=Xd) (E:=O7 d EE AO kind wanted [] .no .no .no .no)
  (λi E=>∃(d':D) (kvs:List (List Int×D)) (u6:Sl),E=O7 d' EE AO kind wanted kvs u6 .no .no .no/\Bag (k+2 * i) d'/\Ln AO kvs/\kvs.length<=i) (yAA (i:=1) (j:=AO) rfl rfl {{by decide,by decide},by lia,by lia}) {d,[],.no,rfl,B,{G9,λ_ h=>by simp at h},AL _}
  (λi x E hx hP=>by
   obtain⟨d,kvs,u6,hE,B,L,hl⟩:=hP;subst hE;have hi:=(AE.mp hx).1;simp only[TX,AJ,HY] at hi;simp only[TX] at hx;rw[AV,PD hi] at hx;obtain rfl:=BL hx;obtain⟨p,hp⟩:∃p:Int,p=1+(i:Int):={_,rfl};show ∃E1,XA (Tg.nm 6) (.int (1+(i:Int))) (O7 d EE AO kind wanted kvs u6 Sl.no Sl.no Sl.no)=Out.ok E1/\_;rw[<-hp];refine{_,rfl,?_}
   by_cases Zj:kind<3
   .obtain⟨a,d1,e1,a0,a1,B1⟩:=tk (g:=AZ 6) (E:=O7 d EE AO kind wanted kvs (.val (.int p)) .no .no .no) (n:=p) rfl B 'l' rfl 'l' 'l'
    obtain⟨b,d2,e2,b0,b1,B2⟩:=tk (g:=gN iA [(AZ 6),(gC (.int 2))]) (E:=O7 d1 EE AO kind wanted kvs (.val (.int p)) .no .no .no) (n:=if 2<p then 2 else p) rfl B1 'l' rfl (by split<;>lia) (by split<;>lia)
    have JT:∃v:Int,([D.int a,.int (p-1-b),.int 0])[kind.toNat]?=AA (.int v)/\0<=v/\v<p:=by
     have:kind=0\/kind=1\/kind=2:=by lia
     rcases this with h|h|h
     .exact{a,by rw[h];rfl,a0,a1}
     .exact{p-1-b,by rw[h];rfl,by split at b1<;>lia,by lia}
     .exact{0,by rw[h];rfl,TV _,JI a0 a1}
    obtain⟨v,hv,v0,v1⟩:=JT;refine{_,aQ (OT (FN (x:=.int kind) (y:=.int 3) rfl rfl (d:=.bl AK) (by simp only[ZH];rw[decide_eq_true Zj]))) (fQ (i:=5) (E1:=O7 d EE AO kind wanted kvs (.val (.int p)) .no .no .no) (E2:=O7 d2 EE AO kind wanted kvs (.val (.int p)) .no .no .no) (t:=AD) (d:=.dt kvs) (v:=.bl AK) rfl rfl (mU (QH (FN (kG (QH e1 (QH (FN (x:=.int (p-1)) rfl e2 (d:=.int (p-1-b)) rfl) (KS (d:=.int 0) rfl))) (show 3<10000 by decide)) (y:=.int kind) rfl (nC (xs:=[]) gI hv)) (KS (d:=.int p) rfl)) (show 2<10000 by decide)) rfl (Nd 'l')),d2,_,_,rfl,B2.mono 'l',L.put {v0,by lia,LH (JI a0 a1),by lia,Int.ne_of_lt v1} _,AX (Ei _ _ _) (EI hl (AL _))}
   .exact{_,UQ (OT (FN (x:=.int kind) (y:=.int 3) rfl rfl (d:=.bl AD) (by simp only[ZH];rw[decide_eq_false Zj]))) rfl,d,kvs,_,rfl,B.mono 'l',L,AX hl (A3 _ _)})
 simp only[TX,AJ,HY] at B' hl;exact{d',kvs,u6,e,B'.mono 'l',L,by lia}
abbrev Xc:GS:=(GA (IN (.nm 8) (LJ LQ 0 [(AZ 2)]))
 (GA (IN (.nm 9) (g2 E8 (KM [(LJ LQ 0 [(AZ 2)]),(g2 UR (g2 MZ (g2 MZ (AZ 8) (gC (.int 1))) (LJ LQ 0 [(gC (.int 2))])) (AZ 2))]) (LJ LQ 0 [(gC (.int 2))])))
 (O6 (US [5] (iE (gB (g2 LZ (AZ 8) (AZ 9))) (gB (g2 ZH (gN QV [(AZ 5)]) (gC (.int 120))))))
 (RW 5 (RD [(AZ 8),(AZ 9)]) (gC (.bl AK)))
 SH)))
theorem yGU{d:D}{u6:Sl}{kvs:List (List Int×D)}(B:Bag k d)(hk:k<800000)(h1:1<=AO)(h2:AO<=24)(Yw:0<=wanted)(hw1:wanted<=200)(L:Ln AO kvs)(hl:kvs.length<=120) :
  ∃(d':D) (dB:List (List Int×D)) (u7 u8 u9:Sl),RB (cI (AZ 4)) (.nm 7) Xc (O7 d EE AO kind wanted kvs u6 .no .no .no)=.ok (.nx (O7 d' EE AO kind wanted dB u6 u7 u8 u9))/\Bag (k+800) d'/\Ln AO dB/\dB.length<=120:=by
 obtain⟨E',e,d',dB,u7,u8,u9,rfl,B',L',lG⟩:=fO (gi:=cI (AZ 4)) (t:=.nm 7) (g:=Xc) (E:=O7 d EE AO kind wanted kvs u6 .no .no .no)
  (λi E=>∃(d':D) (kvs:List (List Int×D)) (u7 u8 u9:Sl),E=O7 d' EE AO kind wanted kvs u6 u7 u8 u9/\Bag (k+4 * i) d'/\Ln AO kvs/\kvs.length<=120) (Dn (j:=wanted) rfl {by lia,by lia}) {d,kvs,.no,.no,.no,rfl,B,L,hl}
  (λi x E hx hP=>by
   obtain⟨d,kvs,u7,u8,u9,hE,B,L,hl⟩:=hP;subst hE;have hi:=(AE.mp hx).1;simp only[TX,AJ,HY] at hi;obtain⟨a,d1,e1,a0,a1,B1⟩:=tk (g:=AZ 2) (E:=O7 d EE AO kind wanted kvs u6 (.val x) u8 u9) (n:=AO) rfl B 'l' rfl (h1) 'l';obtain⟨b,d2,e2,b0,b1,B2⟩:=tk (g:=AZ 2) (E:=O7 d1 EE AO kind wanted kvs u6 (.val x) (.val (.int a)) u9) (n:=AO) rfl B1 'l' rfl (h1) 'l';obtain⟨c,d3,e3,c0,c1,B3⟩:=tk (g:=gC (.int 2)) (E:=O7 d2 EE AO kind wanted kvs u6 (.val x) (.val (.int a)) u9) (n:=2) rfl B2 'l' rfl 'l' 'l';obtain⟨f,d4,e4,f0,f1,B4⟩:=tk (g:=gC (.int 2)) (E:=O7 d3 EE AO kind wanted kvs u6 (.val x) (.val (.int a)) u9) (n:=2) rfl B3 'l' rfl 'l' 'l';have m0:0<=(a+1+c) % AO:=LA _ (Int.ne_of_gt (JI a0 a1));have m1:(a+1+c) % AO<AO:=JJ _ (JI a0 a1)
   have Kt:UR (.int (a+1+c)) (.int AO)=.ok (.int ((a+1+c) % AO)):=by
    simp only[UR,L2.guard];rw[if_pos (JI a0 a1)]
   have JT:∃v:Int,([D.int b,.int ((a+1+c) % AO)])[f.toNat]?=AA (.int v)/\0<=v/\v<AO:=by
    have:f=0\/f=1:=by lia
    rcases this with h|h
    .exact{b,by rw[h];rfl,b0,b1}
    .exact{(a+1+c) % AO,by rw[h];rfl,m0,m1}
   obtain⟨v,hv,v0,v1⟩:=JT;refine{_,rfl,?_};have s1:IN (.nm 8) (LJ LQ 0 [(AZ 2)]) (O7 d EE AO kind wanted kvs u6 (.val x) u8 u9)=.ok (.nx (O7 d1 EE AO kind wanted kvs u6 (.val x) (.val (.int a)) u9)):=NO e1 rfl
   have s2:IN (.nm 9) (g2 E8 (KM [(LJ LQ 0 [(AZ 2)]),(g2 UR (g2 MZ (g2 MZ (AZ 8) (gC (.int 1))) (LJ LQ 0 [(gC (.int 2))])) (AZ 2))]) (LJ LQ 0 [(gC (.int 2))])) (O7 d1 EE AO kind wanted kvs u6 (.val x) (.val (.int a)) u9)=.ok (.nx (O7 d4 EE AO kind wanted kvs u6 (.val x) (.val (.int a)) (.val (.int v)))) :=
    NO (FN (kG (QH e2 (KS (FN (FN (x:=.int (a+1)) rfl e3 (d:=.int (a+1+c)) rfl) (y:=.int AO) rfl Kt))) (show 2<10000 by decide)) e4 (nC (xs:=[]) f0 hv)) rfl
   have t1:gB (g2 LZ (AZ 8) (AZ 9)) (OS [5] (O7 d4 EE AO kind wanted kvs u6 (.val x) (.val (.int a)) (.val (.int v))))=.ok (decide (a≠v),OS [5] (O7 d4 EE AO kind wanted kvs u6 (.val x) (.val (.int a)) (.val (.int v)))) :=
    OT (FN (x:=.int a) (y:=.int v) rfl rfl (Dp _ _))
   have t2:gB (g2 ZH (gN QV [(AZ 5)]) (gC (.int 120))) (OS [5] (O7 d4 EE AO kind wanted kvs u6 (.val x) (.val (.int a)) (.val (.int v))))=.ok (decide ((kvs.length:Int)<120),OS [5] (O7 d4 EE AO kind wanted kvs u6 (.val x) (.val (.int a)) (.val (.int v)))) :=
    OT (FN (x:=.int kvs.length) (QX (KS (d:=.dt kvs) rfl) rfl) (y:=.int 120) rfl rfl)
   by_cases Ly:a=v
   .rw[decide_eq_false (λz=>z Ly)] at t1
    exact{_,HB s1 (HB s2 (UQ (Z5 (Cq t1)) rfl)),d4,kvs,_,_,_,rfl,B4.mono 'l',L,hl}
   rw[decide_eq_true Ly] at t1
   by_cases lK:(kvs.length:Int)<120
   .rw[decide_eq_true lK] at t2
    exact{_,HB s1 (HB s2 (aQ (Z5 (pL t1 t2)) (fQ (i:=5) (E1:=O7 d4 EE AO kind wanted kvs u6 (.val x) (.val (.int a)) (.val (.int v))) (E2:=O7 d4 EE AO kind wanted kvs u6 (.val x) (.val (.int a)) (.val (.int v))) (t:=AD) (d:=.dt kvs) (v:=.bl AK) (k:=.tup [.int a,.int v]) rfl rfl rfl rfl (Nd (gW (AX hl (DS _ _))))))),d4,_,_,_,_,rfl,B4.mono 'l',L.put {a0,a1,v0,v1,Ly} _,AX (Ei _ _ _) 'l'}
   .rw[decide_eq_false lK] at t2
    exact{_,HB s1 (HB s2 (UQ (Z5 (pL t1 t2)) rfl)),d4,kvs,_,_,_,rfl,B4.mono 'l',L,hl})
 simp only[TX,AJ,HY] at B';exact{d',dB,u7,u8,u9,e,B'.mono 'l',L',lG}
end
def ri(n:Nat):List Int:=(DB n).map λ(j:Nat)=>(0:Int)+(j:Int)
theorem Nc(n:Nat):TX 0 n=(ri n).map D.int:=by simp[TX,ri]
theorem VQ{x:Int}:x∈ri n↔0<=x/\x<n:=by
 unfold ri;constructor
 .intro h
  obtain⟨j,hj,rfl⟩:=CM.mp h;have:=IL.mp hj;lia
 .rintro⟨a,b⟩
  exact CM.mpr {x.toNat,IL.mpr 'l',by lia}
theorem yGV(n:Nat):(ri n).Nodup:=U7 _ (λa b h z=>h 'l') List.nodup_range
theorem sL(n:Nat):(ri n).length=n:=by simp[ri]
def W9(ys:List Int)(a:Int):Int:=ys.getD a.toNat 0
def pk(ys:List Int)(k:List Int):Int×Int:=match k with
 |[a,b]=>(W9 ys a,W9 ys b)
 |_=>(0,0)
theorem xQ{ys:List Int}{a:Int}(h0:0<=a)(h:a.toNat<ys.length):E8 (.lst (ys.map D.int)) (.int a)=.ok (.int (W9 ys a)):=by
 refine nC (xs:=[]) h0 ?_;rw[AV,A7 h];simp[W9,h]
theorem Cn{ys:List Int}{a:Int}(h:a.toNat<ys.length):W9 ys a∈ys:=by
 have:W9 ys a=ys[a.toNat]:=by simp[W9,h]
 rw[this];exact GF h
theorem Cm{ys:List Int}(hn:ys.Nodup){a b:Int}(a0:0<=a)(b0:0<=b)(ha:a.toNat<ys.length)(hb:b.toNat<ys.length)(e:W9 ys a=W9 ys b):a=b:=by
 have e1:W9 ys a=ys[a.toNat]:=by simp[W9,ha]
 have e2:W9 ys b=ys[b.toNat]:=by simp[W9,hb]
 rw[e1,e2] at e;rcases JY a.toNat b.toNat with h|h|h
 .exact absurd e (B0.mp hn _ _ ha hb h)
 .lia
 .exact absurd e.symm (B0.mp hn _ _ hb ha h)
theorem Te:∀ps:List (Int×Int),pAA (ps.map G2)=AK
 |[]=>by simp[pAA]
 |p::ps=>by simp[pAA,D.nod,G2,Te ps]
section
variable{kind wanted:Int}
def Ou(ys:List Int)(d:D):List D:=match d with
 |.tup [.int a,.int b]=>[G2 (W9 ys a,W9 ys b)]
 |_=>[]
theorem Qq{ys:List Int}:∀{ks:List (List Int)},(∀k∈ks,∃a b:Int,k=[a,b]/\0<=a/\a<AO/\0<=b/\b<AO/\a≠b)->(ks.map tW).flatMap (Ou ys)=(ks.map (pk ys)).map G2
 |[],_=>rfl
 |k::ks,h=>by
  obtain⟨a,b,rfl,_⟩:=h k BB;simp only[AU,EF,Qq λk hk=>h k (A1 _ hk)]
  rfl
theorem fI{x:Int}(h:n=AO.toNat)(h0:0<=x)(h1:x<AO):x.toNat<n:=by lia
theorem yAZ{d:D}(B:Bag k d)(hk:k<700000)(h1:1<=EE)(h2:EE<=24) :
  ∃(AO:Int) (ps:List (Int×Int)) (BH:Int) (d':D),qA [.own AK d,.val (.int EE)]=.ok (AD,.tup [GD AO ps,.int BH],d')/\Net AO ps/\AO<=EE/\0<=BH/\BH<AO/\Bag (k+1000) d':=by
 obtain⟨AO,d1,e1,m1,m2,B1⟩:=yI0 B (AQ hk (DS _ _)) h1 h2;obtain⟨kind,d2,e2,k0,k1,B2⟩:=tk (g:=gC (.int 4)) (E:=U9 d1 EE (.val (.int AO)) .no .no .no .no .no .no .no .no .no) rfl B1 'l' rfl 'l' 'l';obtain⟨wanted,d3,e3,w0,w1,B3⟩:=yI1 (EE:=EE) (AO:=AO) (kind:=kind) B2 'l' m1 (N5 m2 h2);obtain⟨d4,kvs,u6,e4,B4,L4,l4⟩:=yGT (EE:=EE) (AO:=AO) (kind:=kind) (wanted:=wanted) B3 'l' m1 (N5 m2 h2) k0;obtain⟨d5,kvs,u7,u8,u9,e5,B5,L5,l5⟩:=yGU (EE:=EE) (AO:=AO) (kind:=kind) (wanted:=wanted) (u6:=u6) B4 'l' m1 (N5 m2 h2) w0 w1 L4 (AX l4 (DS _ _));obtain⟨ys,d6,e6,hp,B6⟩:=yAX (xs:=ri AO.toNat) B5 (by rw[sL];lia) 'l';have dJ:ys.length=AO.toNat:=by rw[hp.length_eq,sL]
 have Jx:ys.Nodup:=hp.nodup_iff.mpr (yGV _);have Jy:∀x,x∈ys->0<=x/\x<AO:=λx hx=>by have:=VQ.mp (hp.mem_iff.mp hx);lia
 rw[sL] at B6
 have s6:IN (.nm 10) (LJ tU 0 [(Ht (AZ 2))]) (O7 d5 EE AO kind wanted kvs u6 u7 u8 u9)=.ok (.nx (U9 d6 EE (.val (.int AO)) (.val (.int kind)) (.val (.int wanted)) (.own AD (.dt kvs)) u6 u7 u8 u9 (.val (.lst (ys.map D.int))) .no)):=by
  refine NO (Qx (ds:=[.lst ((ri AO.toNat).map D.int)]) (E1:=O7 d5 EE AO kind wanted kvs u6 u7 u8 u9) (t:=AK) (d:=d5) rfl (KS (IH (a:=(.int AO,O7 d5 EE AO kind wanted kvs u6 u7 u8 u9)) rfl ?_)) rfl e6) rfl;simp only[L2.guard];rw[if_pos {by lia,by lia},Nc]
 obtain⟨a,d7,e7,a0,a1,B7⟩:=tk (g:=AZ 2) (E:=U9 d6 EE (.val (.int AO)) (.val (.int kind)) (.val (.int wanted)) (.own AD (.dt kvs)) u6 u7 u8 u9 (.val (.lst (ys.map D.int))) .no) (n:=AO) rfl B6 'l' rfl (m1) 'l';obtain⟨c,d8,e8,c0,c1,B8⟩:=tk (g:=gC (.int 3)) (E:=U9 d7 EE (.val (.int AO)) (.val (.int kind)) (.val (.int wanted)) (.own AD (.dt kvs)) u6 u7 u8 u9 (.val (.lst (ys.map D.int))) .no) (n:=3) rfl B7 'l' rfl 'l' 'l';have hz:(0:Int).toNat<ys.length:=by rw[dJ];lia
 have aA:=Jy _ (Cn (ys:=ys) (a:=0) hz)
 have JT:∃g:Int,([D.int (W9 ys 0),.int (W9 ys 0),.int a])[c.toNat]?=AA (.int g)/\0<=g/\g<AO:=by
  have:c=0\/c=1\/c=2:=by lia
  rcases this with h|h|h
  .exact{_,by rw[h];rfl,aA.1,aA.2}
  .exact{_,by rw[h];rfl,aA.1,aA.2}
  .exact{a,by rw[h];rfl,a0,a1}
 obtain⟨BH,hg,g0,g1⟩:=JT;obtain⟨E9,lO⟩:∃E9,E9=U9 d8 EE (.val (.int AO)) (.val (.int kind)) (.val (.int wanted)) (.own AD (.dt kvs)) u6 u7 u8 u9 (.val (.lst (ys.map D.int))) (.val (.int BH)):={_,rfl}
 have s7:IN (.nm 11) (g2 E8 (KM [(g2 E8 (AZ 10) (gC (.int 0))),(g2 E8 (AZ 10) (gC (.int 0))),(LJ LQ 0 [(AZ 2)])]) (LJ LQ 0 [(gC (.int 3))])) (U9 d6 EE (.val (.int AO)) (.val (.int kind)) (.val (.int wanted)) (.own AD (.dt kvs)) u6 u7 u8 u9 (.val (.lst (ys.map D.int))) .no)=.ok (.nx E9):=by
  rw[lO];exact NO (FN (kG (QH (FN (x:=.lst (ys.map D.int)) (y:=.int 0) rfl rfl (xQ 'd' hz)) (QH (FN (x:=.lst (ys.map D.int)) (y:=.int 0) rfl rfl (xQ 'd' hz)) (KS e7))) (show 3<10000 by decide)) e8 (nC (xs:=[]) c0 hg)) rfl
 obtain⟨qs,jB⟩:∃qs,qs=(kvs.map (·.1)).map (pk ys):={_,rfl}
 have dZ:N6 (JS (AZ 5)) 2 [10] (.tp [(.nm 0),(.nm 1)]) VD (RD [(g2 E8 (AZ 2) (AZ 0)),(g2 E8 (AZ 2) (AZ 1))]) (OS [5] E9)=.ok (.lst (qs.map G2),OS [5] E9):=by
  have:=kM (gi:=JS (AZ 5)) (k:=2) (js:=[10]) (t:=.tp [(.nm 0),(.nm 1)]) (tt:=VD) (ge:=RD [(g2 E8 (AZ 2) (AZ 0)),(g2 E8 (AZ 2) (AZ 1))]) (E:=OS [5] E9) (E1:=OS [5] E9) (ds:=(kvs.map (·.1)).map tW) (Ou ys) (λE=>∃x y,E=[x,y,.val (.lst (ys.map D.int))]) (by rw[D7,lO];rfl) (by rw[lO];exact{_,_,rfl}) (by rw[AJ,AJ];lia) (λx hx E hE=>by
   obtain⟨ky,Kw,rfl⟩:=CM.mp hx;obtain⟨p,q,rfl⟩:=hE;obtain⟨a,b,rfl,a0,a1,b0,b1,_⟩:=L5.rg ky Kw
   exact{_,rfl,AK,_,rfl,.inl {rfl,_,_,mU (QH (FN (x:=.lst (ys.map D.int)) (y:=.int a) rfl rfl (xQ a0 (fI dJ a0 a1))) (KS (FN (x:=.lst (ys.map D.int)) (y:=.int b) rfl rfl (xQ b0 (fI dJ b0 b1))))) (show 2<10000 by decide),rfl,_,_,rfl}}) (λEc hEc=>by
   rw[lO]
   have:∀(u:Sl) (j:Nat),j≠10->g9 Ec 2 [10] j (a8 [5] j u)=a8 [5] j u:=λu j hj=>by
    cases u with
    |no=>rfl
    |val d=>rfl
    |own t d =>
     simp only[a8];split<;>rfl
   simp only[XB,OS,U9,iD,cF,EV,Nat.reduceAdd];rw[this u6 6 'd',this u7 7 'd',this u8 8 'd',this u9 9 'd']
   rfl)
  rw[this,Qq L5.rg,jB]
 have Kr:Net AO (Z1 qs):=by
  have pm:=tP qs;refine{m1,N5 m2 h2,by rw[pm.length_eq,jB,AJ,AJ];exact l5,λp hp=>?_,Qs ?_}
  .have hp:=pm.mem_iff.mp hp
   rw[jB] at hp;obtain⟨ky,Kw,rfl⟩:=CM.mp hp;obtain⟨a,b,rfl,a0,a1,b0,b1,ab⟩:=L5.rg ky Kw;have ha:=Jy _ (Cn (ys:=ys) (a:=a) (fI dJ a0 a1));have hb:=Jy _ (Cn (ys:=ys) (a:=b) (fI dJ b0 b1));exact{ha.1,ha.2,hb.1,hb.2,λz=>ab (Cm Jx a0 b0 (fI dJ a0 a1) (fI dJ b0 b1) z)}
  .rw[jB]
   refine D0.mpr (List.Pairwise.imp_of_mem ?_ L5.nd);intro x y hx hy hxy z;obtain⟨a,b,rfl,a0,a1,b0,b1,ab⟩:=L5.rg x hx;obtain⟨a',b',rfl,a0',a1',b0',b1',ab'⟩:=L5.rg y hy;simp only[pk,UJ] at z;exact hxy (by rw[Cm Jx a0 a0' (fI dJ a0 a1) (fI dJ a0' a1') z.1,Cm Jx b0 b0' (fI dJ b0 b1) (fI dJ b0' b1') z.2])
 refine{AO,Z1 qs,BH,d8,RC (E':=E9) (HB e1 (HB (NO e2 rfl) (HB e3 (HB (bD (d:=.dt []) rfl) (HB e4 (HB e5 (HB s6 (HB s7 (SD (bC (d:=.tup [GD AO (Z1 qs),.int BH]) (mU (QH (mU (QH (d:=.int AO) (by rw[lO];rfl) (KS (QX (KS (QX (KS dZ) (Uf qs))) rfl))) (show 2<10000 by decide)) (KS (d:=.int BH) (by rw[lO];rfl))) (show 2<10000 by decide)) ?_)))))))))) (by rw[lO];rfl),Kr,m2,g0,g1,B8.mono 'l'};rw[lO];simp only[kJ,U9,GD,D.flat,pA9,D.nod,pAA,Te]
 rfl
end
section
variable{cl:List Int}{g x a b c:Int}
theorem Rc.ne(h:Rc ps cl g x):x∉cl:=by
 cases h with
 |refl h=>exact h
 |step _ _ h=>exact h
theorem Rc.mono{dl:List Int}(hs:∀z∈dl,z∈cl)(h:Rc ps cl g x):Rc ps dl g x:=by
 induction h with
 |refl h=>exact .refl λz=>h (hs _ z)
 |step _ e h ih=>exact .step ih e λz=>h (hs _ z)
theorem Rc.range(R:Rg AO ps)(h0:0<=g)(h1:g<AO)(h:Rc ps cl g x):0<=x/\x<AO:=by
 cases h with
 |refl _=>exact{h0,h1}
 |step _ e _=>obtain⟨_,_,a,b⟩:=R.rg _ e;exact{a,b}
theorem cB(h:a≠b):a∉[b]:=λz=>h (A8.mp z)
theorem Rc.by(b:Int)(h:Rc ps cl g x):Rc ps [b] g x\/Rc ps cl g b:=by
 induction h with
 |refl h =>
  by_cases e:g=b
  .exact .inr (by rw[<-e];exact .refl h)
  .exact .inl (.refl (cB e))
 |@step x y h e c ih =>
  rcases ih with ih|ih
  .by_cases eb:y=b
   .exact .inr (by rw[<-eb];exact .step h e c)
   .exact .inl (.step ih e (cB eb))
  .exact .inr ih
def Dom(ps:List (Int×Int))(g c x:Int):Prop:=Rc ps [] g x/\¬Rc ps [c] g x
theorem Dom.refl(h:Rc ps [] g x):Dom ps g x x:={h,λz=>z.ne BB}
theorem Dom.rc(h:Dom ps g c x):Rc ps [] g c:=(h.1.by c).resolve_left h.2
theorem Dom.trans(h1:Dom ps g a b)(h2:Dom ps g b c):Dom ps g a c:={h2.1,λz=>(z.by b).elim h2.2 h1.2}
theorem Dom.anti(h1:Dom ps g a b)(h2:Dom ps g b a):a=b:=IC λne=>by
 have JT:∀x,Rc ps [] g x->Rc ps [a,b] g x:=λx h=>by
  have Xu:∀y:Int,y≠a->y≠b->y∉[a,b]:=λy p q z=>by
   simp only[A2,BX,or_false] at z;exact z.elim p q
  induction h with
  |refl _ =>
   refine .refl (Xu g (λe=>h2.2 ?_) (λe=>h1.2 ?_))
   .rw[<-e];exact .refl (cB (by rw[e];exact ne))
   .rw[<-e];exact .refl (cB (by rw[e];exact E7 ne))
  |@step x y _ e _ ih =>
   refine .step ih e (Xu y (λq=>h2.2 ?_) (λq=>h1.2 ?_))
   .rw[<-q];exact .step (ih.mono 's') e (cB (by rw[q];exact ne))
   .rw[<-q];exact .step (ih.mono 's') e (cB (by rw[q];exact E7 ne))
 exact(JT a h2.1).ne BB
theorem Dom.lin(h1:Dom ps g a x)(h2:Dom ps g b x):Dom ps g a b\/Dom ps g b a:=by
 by_cases e:Rc ps [a] g b
 .refine .inr {h1.rc,λz=>?_}
  have ne:a≠b:=λq=>e.ne (by rw[q];exact BB)
  have JT:∀x,Rc ps [] g x->Rc ps [a] g x\/Rc ps [b] g x:=λx h=>by
   induction h with
   |refl _ =>
    by_cases q:g=a
    .exact .inr (.refl (cB (by rw[q];exact ne)))
    .exact .inl (.refl (cB q))
   |@step x y _ e' _ ih =>
    rcases ih with ih|ih
    .by_cases q:y=a
     .exact .inr (by rw[q];exact z)
     .exact .inl (.step ih e' (cB q))
    .by_cases q:y=b
     .exact .inl (by rw[q];exact e)
     .exact .inr (.step ih e' (cB q))
  exact(JT x h1.1).elim h1.2 h2.2
 .exact .inl {h2.rc,e}
theorem Td{p q:Int->Bool}:∀{l:List Int},(∀x∈l,p x=AK->q x=AK)->(l.filter p).length<=(l.filter q).length
 |[],_=>AL _
 |x::l,h=>by
  have ih:=Td (l:=l) λy hy=>h y (A1 _ hy);have hx:=h x BB;rw[IR,IR];split
  .rename_i e;rw[if_pos (hx e)];simp only[BC];lia
  .split
   .simp only[BC];lia
   .exact ih
theorem Tc{p q:Int->Bool}{y:Int}(hq:q y=AK)(hp:¬p y=AK):∀{l:List Int},(∀x∈l,p x=AK->q x=AK)->y∈l->(l.filter p).length<(l.filter q).length
 |x::l,h,hy=>by
  have bJ:=Td (l:=l) λy hy=>h y (A1 _ hy);have hx:=h x BB;rw[IR,IR];rcases A2.mp hy with e|hy
  .subst e
   rw[if_neg hp,if_pos hq];simp only[BC];lia
  .have ih:=Tc hq hp (l:=l) (λy hy=>h y (A1 _ hy)) hy
   split
   .rename_i e;rw[if_pos (hx e)];simp only[BC];lia
   .split
    .simp only[BC];lia
    .exact ih
structure All(ps:List (Int×Int))(g:Int)(L:List Int):Prop where
 nd:L.Nodup
 mem:∀x,x∈L↔Rc ps [] g x
noncomputable instance domDec (ps:List (Int×Int)) (g c x:Int):Decidable (Dom ps g c x):=TW _
noncomputable def mu(ps:List (Int×Int))(g:Int)(L:List Int)(x:Int):List Int:=L.filter λc=>decide (Dom ps g c x)
variable{L zs zs':List Int}{p h:Int}
theorem Cr(A:All ps g L):c∈mu ps g L x↔Dom ps g c x:=by
 unfold mu;rw[CF,decide_eq_true_eq,A.mem];exact{λz=>z.2,λz=>{z.rc,z}}
theorem sC(A:All ps g L)(d:Dom ps g a b)(ne:a≠b):(mu ps g L a).length<(mu ps g L b).length:=by
 refine Tc (y:=b) (decide_eq_true (Dom.refl d.1)) (λz=>ne (d.anti (of_decide_eq_true z))) (λx _ z=>decide_eq_true ((of_decide_eq_true z:Dom ps g x a).trans d)) ((A.mem b).mpr d.1)
structure Srt(ps:List (Int×Int))(g:Int)(L:List Int)(x:Int)(zs:List Int):Prop where
 pm:zs.Perm (mu ps g L x)
 pw:zs.Pairwise λa b=>(mu ps g L a).length<(mu ps g L b).length
theorem Srt.mem(A:All ps g L)(S:Srt ps g L x zs):c∈zs↔Dom ps g c x:=by rw[S.pm.mem_iff,Cr A]
theorem Srt.nodup(S:Srt ps g L x zs):zs.Nodup:=S.pw.imp λh e=>by rw[e] at h;lia
end
theorem Qp{E:Ev}(p:Int->Bool)(cs:List Sl)(hi:gi E=.ok (ns.map D.int,E1))(hc:WM 1 js E1=.no::cs)(hl:ns.length<10000)
  (ht:∀x∈ns,tt (.val (.int x)::cs)=.ok (p x,.val (.int x)::cs)) (hb:∀u,XB E1 (u::cs) 1 js=E1):N6 gi 1 js (.nm 0) tt (AZ 0) E=.ok (.lst ((ns.filter p).map D.int),E1):=by
 have:=kM (gi:=gi) (k:=1) (js:=js) (t:=.nm 0) (tt:=tt) (ge:=AZ 0) (E:=E) (E1:=E1) (ds:=ns.map D.int) (λd=>match d with|.int x=>if p x=AK then[.int x] else[]|_=>[]) (λE=>∃u,E=u::cs) hi {_,hc} (by rw[AJ];exact hl) (λd hd E hE=>by
  obtain⟨x,hx,rfl⟩:=CM.mp hd;obtain⟨u,rfl⟩:=hE;refine{_,rfl,p x,_,ht x hx,?_}
  by_cases h:p x=AK
  .exact .inl {h,.int x,_,rfl,by simp only[h,if_true],_,rfl}
  .exact .inr {by simpa using h,by simp only[h,if_false];rfl,_,rfl}) ((λEc q0=>by obtain⟨u,e⟩:=q0;exact by rw[e];exact hb u))
 rw[this,Ue (g:=D.int) p λx=>rfl]
section
variable{c:Int}
def RE(f:Int->D)(L:List Int):List (Key×D):=L.map λp=>(CQ p,f p)
theorem tL{f:Int->D}{p:Int}:∀{L:List Int},p∈L->M9 (RE f L) (.inl p)=AA (f p)
 |x::L,h=>by
  unfold M9 RE;rw[AU,DR]
  by_cases e:x=p
  .subst e;simp
  .have:decide ((CQ x:Key)=CQ p)=AD:=decide_eq_false λz=>e (HX z)
   simp only[this];exact tL (L:=L) ((A2.mp h).resolve_left (E7 e))
theorem zWA{f:Int->D}{p:Int}{L:List Int}(h:p∉L):P4 (RE f L) (.inl p) (f p)=RE f (L++[p]):=by
 unfold P4 RE;rw[if_neg,HN]
 .rfl
 .simp only[Q8,HA,OJ,decide_eq_true_eq,not_exists,not_and]
  exact λq hq z=>h (HX z▸hq)
theorem Qo{f:Int->D}{L:List Int}:(RE f L).map (λkv=>jY kv.1)=L.map D.int:=by unfold RE;rw[D7];rfl
theorem Pj{α:Type}{f:α->D}{ge:G}{ds:List D}(k:α->Int):∀{cs:List α},(∀c∈cs,ge (.val (f c)::ds.map .val)=.ok (.int (k c),.val (f c)::ds.map .val))->fA ge ds (cs.map f)=.ok (cs.map k)
 |[],_=>rfl
 |c::cs,h=>by
  rw[AU,fA];exact IH (a:=k c) (IH (h c BB) rfl) (IH (Pj k λd hd=>h d (A1 _ hd)) rfl)
theorem Qn{f:α->D}{gl ge:G}{E:Ev}{cs:List α}{ds:List D}(k:α->Int)(hl:gl E=.ok (.lst (cs.map f),E1))(hv:valsJ (shareJ js E1) js=AA ds)(hn:cs.length<64)
  (hk:∀c∈cs,ge (.val (f c)::ds.map .val)=.ok (.int (k c),.val (f c)::ds.map .val)):pN gl js ge E=.ok ((cs.map f,cs.map k),shareJ js E1):=by
 refine IH hl ?_;show(match D.lst (cs.map f),valsJ (shareJ js E1) js with|.lst ys,AA ds=>if ys.length<64 then(fA ge ds ys).bind λkz=>.ok ((ys,kz),shareJ js E1) else .bad|_,_=>.bad)=_;rw[hv];show(if(cs.map f).length<64 then(fA ge ds (cs.map f)).bind λkz=>Out.ok ((cs.map f,kz),shareJ js E1) else .bad)=_;rw[if_pos (by rw[AJ];exact hn)];exact IH (Pj k hk) rfl
theorem Eg{α β γ:Type}(f:α->β)(h:α->γ):∀l:List α,(l.map f).zip (l.map h)=l.map λx=>(f x,h x)
 |[]=>rfl
 |x::l=>by rw[AU,AU,P7,Eg f h l];rfl
theorem yA0{f:α->D}(r:D->α)(hr:∀c,r (f c)=c){k:α->Int}{cs:List α}{qs:List (Int×D)}(h:qN (cs.map k) (cs.map f) qs):∃zs:List α,qs=zs.map (λc=>(k c,f c))/\zs.Perm cs/\zs.Pairwise λa b=>k a<=k b:=by
 obtain⟨pm,pw⟩:=h;rw[Eg] at pm
 have un:∀q∈qs,q=(k (r q.2),f (r q.2)):=λq hq=>by
  obtain⟨c,_,rfl⟩:=CM.mp (pm.mem_iff.mp hq);simp only[hr]
 have e:qs=(qs.map λq=>r q.2).map (λc=>(k c,f c)):=by
  rw[D7];exact((IV λq hq=>(un q hq).symm).trans (List.map_id _)).symm
 refine{_,e,?_,?_}
 .have:=pm.map (λq:Int×D=>r q.2)
  rw[D7] at this;exact this.trans (by rw[show((λq:Int×D=>r q.2)∘λc=>(k c,f c))=id from funext hr,List.map_id])
 .rw[e,D0] at pw
  exact pw
theorem Nb{α:Type}{k:α->Int}:∀{zs:List α},zs.Pairwise (λa b=>k a<k b)->∀a∈zs,∀b∈zs,k a=k b->a=b
 |z::zs,pw,a,ha,b,hb,e=>by
  obtain⟨p1,p2⟩:=P8.mp pw;rcases A2.mp ha with e1|h1
  .rcases A2.mp hb with e2|h2
   .rw[e1,e2]
   .have:=p1 b h2;rw[<-e1] at this;lia
  .rcases A2.mp hb with e2|h2
   .have:=p1 a h1;rw[<-e2] at this;lia
   .exact Nb p2 a h1 b h2 e
open Classical in
theorem Na{f:α->D}(r:D->α)(hr:∀c,r (f c)=c){gl ge:G}{E:Ev}{cs zs:List α}{k:α->Int}(h:pN gl js ge E=.ok ((cs.map f,cs.map k),E1))(pm:zs.Perm cs)(pw:zs.Pairwise λa b=>k a<k b):kH gl js ge E=.ok (.lst (zs.map f),E1):=by
 refine IH h ?_;have q0:qN (cs.map k) (cs.map f) (zs.map λc=>(k c,f c)):={by rw[Eg];exact pm.map _,D0.mpr (pw.imp λh=>LH h)}
 have ex:∃ws,∀qs,qN (cs.map k) (cs.map f) qs->qs.map G8=ws:={zs.map f,λqs hq=>by
  obtain⟨ws,rfl,p1,p2⟩:=yA0 r hr hq;have:ws=zs:=LG (le:=λa b=>k a<=k b) (λa b ha hb h1 h2=>Nb pw a ((p1.trans pm.symm).mem_iff.mp ha) b hb 'l') p2 (pw.imp λh=>LH h) (p1.trans pm.symm)
  rw[this,D7];rfl}
 show(if h:∃ws,∀qs,qN (cs.map k) (cs.map f) qs->qs.map G8=ws then Out.ok (D.lst h.choose,E1) else .bad)=_;rw[dif_pos ex,<-ex.choose_spec _ q0,D7];rfl
theorem zWB{gl ge:G}{E:Ev}{cs zs:List Int}{k:Int->Int}(h:pN gl js ge E=.ok ((cs.map D.int,cs.map k),E1))(pm:zs.Perm cs)(pw:zs.Pairwise λa b=>k a<k b):kH gl js ge E=.ok (.lst (zs.map D.int),E1) :=
 Na (λd=>match d with|.int c=>c|_=>0) (λ_=>rfl) h pm pw
end
section
variable{g:Int}{L:List Int}{p:Int}
def cW(ps:List (Int×Int))(g:Int)(L:List Int)(p:Int):List Int:=(mu ps g L p).mergeSort λa b=>decide ((mu ps g L a).length<=(mu ps g L b).length)
theorem Dj(A:All ps g L):Srt ps g L p (cW ps g L p):=by
 have pm:(cW ps g L p).Perm (mu ps g L p):=PC _ _;have nd:(cW ps g L p).Nodup:=pm.nodup_iff.mpr (A.nd.filter _)
 have pw:=M5 (le:=λa b=>decide ((mu ps g L a).length<=(mu ps g L b).length)) (λa b c h1 h2=>decide_eq_true (AX (of_decide_eq_true h1) (of_decide_eq_true h2)))
  (λa b=>by rcases Nat.le_total (mu ps g L a).length (mu ps g L b).length with h|h<;>simp[h]) (mu ps g L p)
 refine{pm,(pw.and nd).imp_of_mem λ{a b} ha hb h=>?_};have h1:=of_decide_eq_true h.1;have da:=(Cr A).mp (pm.mem_iff.mp ha);have db:=(Cr A).mp (pm.mem_iff.mp hb);rcases da.lin db with z|z
 .exact sC A z h.2
 .have:=sC A z (E7 h.2);lia
end
theorem Di{L:List Int}(R:Rg AO ps)(h0:0<=BH)(h1:BH<AO)(A:All ps BH L):L.length<=AO.toNat:=by
 have:=GW (l₂:=ri AO.toNat) A.nd λx hx=>VQ.mpr (by
  have:=((A.mem x).mp hx).range R h0 h1;lia)
 rwa [sL] at this
abbrev aP(ps:List (Int×Int))(BH:Int)(L:List Int):Int->D:=λp=>.tup ((cW ps BH L p).map D.int)
theorem zWC(R:Rg AO ps)(hm:AO<=24)(h0:0<=BH)(h1:BH<AO):∃L,All ps BH L/\qK [.val (GD AO ps),.val (.int BH)]=.ok (AD,.dk (RE (aP ps BH L) L),.non):=by
 obtain⟨L,eL,nd,mL⟩:=Rw (BR:=AN) (BH:=BH) R h0 h1;have A:All ps BH L:={nd,mL};have hl:=Di R h0 h1 A;have ZO:=λc=>Rw (BR:=AA c) (BH:=BH) R h0 h1
 have wD:kC L (λc=>(ZO c).choose)=.dk (RE (λp=>.lst ((mu ps BH L p).map D.int)) L):=by
  unfold kC RE
  congr 1
  refine IV λp hp=>?_
  congr 3
  refine Q7 λc hc=>decide_eq_decide.mpr ?_;rw[(ZO c).choose_spec.2.2 p];exact{λz=>{(mL p).mp hp,z},λz=>z.2}
 have gt:=yAD (m:=cN) (E:=[.val (GD AO ps),.val (.int BH),.own AD (.dk []),.no,.no,.no,.no]) (net:=GD AO ps) (BH:=.int BH) (L:=L) (left:=λc=>(ZO c).choose) {rfl,{_,_,eL},nd,by lia,λc _=>{_,_,(ZO c).choose_spec.1}};rw[wD] at gt;obtain⟨SO,hr⟩:∃SO,SO=RE (λp=>.lst ((mu ps BH L p).map D.int)) L:={_,rfl};rw[<-hr] at gt;have wS:∀p∈L,E8 (.dk SO) (.int p)=.ok (.lst ((mu ps BH L p).map D.int)):=λp hp=>by rw[hr];exact Gm (tL hp)
 have wH:∀p,(mu ps BH L p).length<64:=λp=>by
  have:=EQ (λc=>decide (Dom ps BH c p)) L;unfold mu;lia
 obtain⟨E',e,u3,rfl⟩:=fO (gi:=JS (AZ 2)) (t:=.nm 3) (g:=RW 6 (AZ 3) (gN ZZ [(kH (g2 E8 (AZ 2) (AZ 3)) [2] (gN QV [(g2 E8 (AZ 1) (AZ 0))]))]))
  (E:=[.val (GD AO ps),.val (.int BH),.val (.dk SO),.no,.no,.no,.own AD (.dk [])]) (ds:=L.map D.int)
  (λi E=>∃u3,E=[.val (GD AO ps),.val (.int BH),.val (.dk SO),u3,.no,.no,.own AD (.dk (RE (aP ps BH L) (L.take i)))])
  (IH (a:=(.dk SO,[.val (GD AO ps),.val (.int BH),.val (.dk SO),.no,.no,.no,.own AD (.dk [])])) rfl (by rw[hr];exact congrArg (λz=>Out.ok (z,_)) Qo)) {_,rfl}
  (λi x E hx hP=>by
   obtain⟨u3,rfl⟩:=hP;rw[AV] at hx;obtain⟨p,hp,rfl⟩:=BS.mp hx;obtain⟨hi,bM⟩:=AE.mp hp;have gF:=CC hp;have S:=Dj (p:=p) A
   have ks:=zWB (zs:=cW ps BH L p) (Qn (gl:=g2 E8 (AZ 2) (AZ 3)) (ge:=gN QV [(g2 E8 (AZ 1) (AZ 0))]) (js:=[2]) (E:=[.val (GD AO ps),.val (.int BH),.val (.dk SO),.val (.int p),.no,.no,.own AD (.dk (RE (aP ps BH L) (L.take i)))]) (λc=>((mu ps BH L c).length:Int))
    (FN (x:=.dk SO) (y:=.int p) rfl rfl (wS p gF)) (ds:=[.dk SO]) rfl (wH p) λc hc=>QX (KS (FN (x:=.dk SO) (y:=.int c) rfl rfl (wS c (CF.mp hc).1))) (Hh (by rw[AJ]))) S.pm (S.pw.imp λh=>by lia)
   refine{_,rfl,_,fQ (i:=6) (t:=AD) (d:=.dk (RE (aP ps BH L) (L.take i))) (v:=aP ps BH L p) (k:=.int p) (d':=.dk (RE (aP ps BH L) (L.take (i+1)))) rfl (QX (KS ks) rfl) rfl rfl ?_,_,rfl};rw[Vz (by unfold RE;rw[AJ,EB];lia),BK hi,bM]
   congr 2
   exact zWA (f:=aP ps BH L) (by rw[<-bM];exact Es nd hi))
 rw[AJ,EJ] at e;exact{L,A,RC (HB (bD (d:=.dk []) rfl) (HB gt (HB (bD (d:=.dk []) rfl) (HB e (SD rfl))))) rfl}
section
variable{cl:List Int}{a b c g p x u v:Int}{L w:List Int}{l:Int×Int}
theorem SG:(a,b)∈back ps↔(b,a)∈ps:=by
 unfold back;rw[(tP _).mem_iff];constructor
 .intro h
  obtain⟨q,hq,e⟩:=CM.mp h;cases e;exact hq
 .exact λh=>CM.mpr {_,h,rfl}
theorem Rc.trans(h1:Rc ps cl a b)(h2:Rc ps cl b c):Rc ps cl a c:=by
 induction h2 with
 |refl _=>exact h1
 |step _ e n ih=>exact .step ih e n
theorem Rc.rev(hq:∀a b,(a,b)∈ps->(b,a)∈qs)(h:Rc ps cl a b):Rc qs cl b a:=by
 induction h with
 |refl n=>exact .refl n
 |step h e n ih=>exact Rc.trans (.step (.refl n) (hq _ _ e) h.ne) ih
theorem iQ:Rc (back ps) cl b a↔Rc ps cl a b:={λh=>h.rev λ_ _ e=>SG.mp e,λh=>h.rev λ_ _ e=>SG.mpr e}
structure Wy(ps:List (Int×Int))(g p:Int)(w:List Int):Prop where
 nd:w.Nodup
 hd:w[0]?=AA g
 ls:w[w.length-1]?=AA p
 ln:∀(i:Nat) x y,w[i]?=AA x->w[i+1]?=AA y->(x,y)∈ps
theorem sW(hd:w[0]?=AA g):∀(i:Nat) (x:Int),w[i]?=AA x->(∀(k:Nat) y,k<=i->w[k]?=AA y->y∉cl)->(∀(k:Nat) y z,k<i->w[k]?=AA y->w[k+1]?=AA z->(y,z)∈qs)->Rc qs cl g x
 |0,x,e,n,_=>by rw[hd] at e;cases e;exact .refl (n 0 _ (AL _) hd)
 |i+1,x,e,n,q=>by
  obtain⟨hi,_⟩:=AE.mp e;have e0:w[i]?=AA w[i]:=A7 'l';exact .step (sW hd i _ e0 (λk y hk=>n k y 'l') λk y z hk=>q k y z 'l') (q i _ _ 'l' e0 e) (n (i+1) x (AL _) e)
structure ML(ps:List (Int×Int))(g p:Int)(l:Int×Int):Prop where
 mem:l∈ps
 rc:Rc ps [] g p
 no:¬Rc (ps.filter λm=>decide (m≠l)) [] g p
theorem VP{m:Int×Int}:m∈(ps.filter λm=>decide (m≠l))↔m∈ps/\m≠l:=by rw[CF,decide_eq_true_eq]
theorem Rc.woT(h:Rc ps [u] g x):Rc (ps.filter λm=>decide (m≠(u,v))) [] g x:=by
 induction h with
 |refl _=>exact .refl BX
 |step h e _ ih=>exact .step ih (VP.mpr {e,λz=>h.ne (by cases z;exact BB)}) BX
theorem Rc.woH(h:Rc ps [v] g x):Rc (ps.filter λm=>decide (m≠(u,v))) [] g x:=by
 induction h with
 |refl _=>exact .refl BX
 |step h e n ih=>exact .step ih (VP.mpr {e,λz=>n (by cases z;exact BB)}) BX
theorem ML.tail(M:ML ps g p (u,v)):Dom ps g u p:={M.rc,λh=>M.no h.woT}
theorem ML.head(M:ML ps g p (u,v)):Dom ps g v p:={M.rc,λh=>M.no h.woH}
theorem ML.on(M:ML ps g p (u,v))(W:Wy ps g p w):∃i:Nat,w[i]?=AA u/\w[i+1]?=AA v:=IC λno=>by
 refine M.no (sW W.hd _ _ W.ls (λ_ _ _ _=>BX) λk y z _ e1 e2=>VP.mpr {W.ln k y z e1 e2,λe=>no ?_});cases e;exact{k,e1,e2}
theorem Wy.inj(W:Wy ps g p w)(e1:w[i]?=AA x)(e2:w[j]?=AA x):i=j:=by
 obtain⟨h1,q1⟩:=AE.mp e1;obtain⟨h2,q2⟩:=AE.mp e2;rcases JY i j with h|h|h
 .exact absurd (q1.trans q2.symm) (B0.mp W.nd i j h1 h2 h)
 .exact h
 .exact absurd (q2.trans q1.symm) (B0.mp W.nd j i h2 h1 h)
theorem Wy.ahead(W:Wy ps g p w)(K3:i<j)(e1:w[i]?=AA a)(e2:w[j]?=AA b):Rc ps [b] g a :=
 sW W.hd i a e1 (λk y hk e z=>by rw[A8.mp z] at e;have:=W.inj e e2;lia) λk y z _=>W.ln k y z
theorem Wy.rc(W:Wy ps g p w)(e1:w[i]?=AA a):Rc ps [] g a:=sW W.hd i a e1 (λ_ _ _ _=>BX) λk y z _=>W.ln k y z
theorem ML.dom(M:ML ps g p (u,v))(W:Wy ps g p w):Dom ps g u v/\u≠v:=by
 obtain⟨i,e1,e2⟩:=M.on W;refine{{W.rc e2,λh=>M.no (Rc.trans h.woT ?_)},λe=>by rw[e] at e1;have:=W.inj e1 e2;lia};obtain⟨hi,_⟩:=AE.mp e2;refine sW (w:=w.drop (i+1)) (by rw[HJ];exact e2) (w.length-1-(i+1)) p (by rw[HJ,show i+1+(w.length-1-(i+1))=w.length-1 by lia];exact W.ls) (λ_ _ _ _=>BX) λk y z _ f1 f2=>?_;rw[HJ] at f1 f2;refine VP.mpr {W.ln _ y z f1 f2,λe=>?_};cases e;have:=W.inj f1 e1;lia
theorem ML.next(M:ML ps g p (u,v))(W:Wy ps g p w)(h1:Dom ps g u c)(h2:Dom ps g c v)(ne:c≠u):c=v:=IC λnv=>by
 have h3:Rc ps [c] g u:=IC λz=>ne (Dom.anti {h1.rc,z} h1);exact h2.2 (.step h3 M.mem (cB (E7 nv)))
theorem ML.lt(A:All ps g L)(M1:ML ps g p (a,x))(M2:ML ps g p (b,c))(h:Rc ps [b] g a):(mu ps g L a).length<(mu ps g L b).length:=by
 have ne:a≠b:=λe=>h.ne (by rw[e];exact BB);rcases M1.tail.lin M2.tail with d|d
 .exact sC A d ne
 .exact absurd h d.2
end
section
variable{a b x:Int}{w:List Int}
theorem Net.rg'(N:Net AO ps):Rg AO ps:={by have:=N.m1;lia,by have:=N.m2;lia,by have:=N.len;lia,λp hp=>let ⟨a,b,c,d,_⟩:=N.rg p hp;{a,b,c,d}}
theorem zS3(ps:List (Int×Int))(j:Nat):(RV ps j).length<=ps.length:=by unfold RV;rw[AJ];exact EQ _ _
theorem zWD(k:Int):UW .non (.int k)=.ok (.bl AD):=by
 unfold UW;simp[D.py,F9,C2]
theorem zWE:∀{ns:List Int} {n:Int},ns.foldl min n∈n::ns:=λ{ns n}=>(El ns n).1
theorem yA1(h:ns≠[]):∃m∈ns,qM [.lst (ns.map D.int)]=.ok (.int m):=by
 cases ns with
 |nil=>exact absurd rfl h
 |cons n ns=>exact{_,zWE,by show(match PH ((n::ns).map D.int) with|some (n::ns)=>Out.ok (D.int (ns.foldl min n))|_=>.bad)=_;rw[nB]}
def jV(AO:Int)(ps:List (Int×Int))(a b:Int)(aw:List (Option Int))(w:List Int)(u:Sl):Ev :=
 [.val (GD AO ps),.val (.int a),.val (.int b),.val (.tup []),.val (.lst (aw.map LO)),.val (aV AO ps),.own AD (.lst (w.map D.int)),u]
structure Pc(ps:List (Int×Int))(AO a:Int)(aw:List (Option Int))(n v:Int)(w:List Int):Prop where
 hd:w[0]?=AA a
 len:(w.length:Int)+v=n+1
 rg:∀x∈w,0<=x/\x<AO
 num:∀(i:Nat) x,w[i]?=AA x->aw[x.toNat]?=AA (AA (n-i))
 ln:∀(i:Nat) x y,w[i]?=AA x->w[i+1]?=AA y->(x,y)∈ps
theorem zD{w:List α}{m y:α}(h:(w++[m])[i]?=AA y):w[i]?=AA y\/(i=w.length/\y=m):=by
 rw[List.getElem?_append] at h;split at h
 .exact .inl h
 .rename_i hi
  obtain⟨h1,h2⟩:=AE.mp h;rw[FI] at h1;have:i-w.length=0:=by lia
  refine .inr {by lia,?_};simp[this] at h2;exact h2.symm
theorem Pc.snoc{n v m:Int}(P:Pc ps AO a aw n v w)(hx:w[w.length-1]?=AA x)(he:(x,m)∈ps)(m0:0<=m)(m1:m<AO)(hm:aw[m.toNat]?=AA (AA (v-1))):Pc ps AO a aw n (v-1) (w++[m]) where
 hd:=by
  have:=(AE.mp P.hd).1;rw[B9 this];exact P.hd
 len:=by rw[BN,FI];have:=P.len;lia
 rg:=λy hy=>by
  rcases CG.mp hy with h|h
  .exact P.rg y h
  .rw[A8.mp h];exact{m0,m1}
 num:=λi y h=>by
  rcases zD h with h|⟨rfl,rfl⟩
  .exact P.num i y h
  .rw[hm];congr 2;have:=P.len;lia
 ln:=λi y z h1 h2=>by
  rcases zD h2 with h|⟨hi,rfl⟩
  .rcases zD h1 with h'|⟨hi,_⟩
   .exact P.ln i y z h' h
   .have:=(AE.mp h).1;lia
  .rcases zD h1 with h'|⟨SW,_⟩
   .rw[show i=w.length-1 by lia,hx] at h';cases h';exact he
   .lia
theorem Pc.nodup{n v:Int}(P:Pc ps AO a aw n v w):w.Nodup:=B0.mpr λi j hi hj K3 e=>by
 have h1:=P.num i _ (A7 hi);have h2:=P.num j _ (A7 hj);rw[e,h2] at h1;have:=BL (BL h1);lia
abbrev Xb:GS:=fG (SC 6 VC [(QD [6] (gN qM [(N6 (JS (g2 E8 (AZ 5) (g2 E8 (AZ 6) (g1 qR (gC (.int 1)))))) 1 [7,4] (.nm 0) (gB (g2 UW (g2 E8 (AZ 2) (AZ 0)) (AZ 1))) (AZ 0))]))])
theorem yA2(R:Rg AO ps)(hl:aw.length=AO.toNat)(L:Lv (back ps) b aw){n v:Int}{u:Sl}(P:Pc ps AO a aw n v w)(hv:0<v)(Yy:v<=n)(hn:n<1000) :
  ∃m,Xb (jV AO ps a b aw w (.val (.int (v-1))))=.ok (.nx (jV AO ps a b aw (w++[m]) (.val (.int (v-1)))))/\Pc ps AO a aw n (v-1) (w++[m]):=by
 have hlw:=P.len;have Yw:0<w.length:=(AE.mp P.hd).1;obtain⟨x,hx⟩:∃x,w[w.length-1]?=AA x:={_,A7 'l'};have hxm:=CC hx;obtain⟨x0,x1⟩:=P.rg x hxm;have Bc:=P.num _ x hx;rw[show n-((w.length-1:Nat):Int)=v by lia] at Bc
 have wL:E8 (.lst (w.map D.int)) (.int (-1))=.ok (.int x):=by
  refine qL ?_;unfold atI YH;rw[AJ,if_neg 'l',if_pos 'l'];simp only[Option.bind_some,AV];rw[show(-1+((w.length:Nat):Int)).toNat=w.length-1 by lia,hx];rfl
 have dZ:=Qp (gi:=JS (g2 E8 (AZ 5) (g2 E8 (AZ 6) (g1 qR (gC (.int 1)))))) (js:=[7,4]) (tt:=gB (g2 UW (g2 E8 (AZ 2) (AZ 0)) (AZ 1)))
  (E:=OS [6] (jV AO ps a b aw w (.val (.int (v-1))))) (E1:=OS [6] (jV AO ps a b aw w (.val (.int (v-1))))) (ns:=RV ps x.toNat) (λy=>decide (aw[y.toNat]?=AA (AA (v-1)))) [.val (.int (v-1)),.val (.lst (aw.map LO))]
  (iK (FN (x:=aV AO ps) (y:=.int x) rfl (FN (x:=.lst (w.map D.int)) (y:=.int (-1)) rfl rfl wL) (Oy x0 x1))) rfl (by have:=R.len;have:=zS3 ps x.toNat;lia)
  (λy hy=>by
   have nW:(x,y)∈ps:=by
    have:=L7.mp hy
    rwa [show((x.toNat:Nat):Int)=x by lia] at this
   obtain⟨_,_,y0,y1⟩:=R.rg _ nW;simp only at y0 y1;obtain⟨o,ho⟩:∃o,aw[y.toNat]?=AA o:={_,A7 'l'};refine OT (FN (x:=LO o) (y:=.int (v-1)) (FN (x:=.lst (aw.map LO)) (y:=.int y) rfl rfl (sB y0 ho)) rfl ?_);rw[ho]
   cases o with
   |none=>exact(zWD _).trans 's'
   |some z=>rw[show LO (AA z)=.int z from rfl,Dq];simp) (λu=>rfl)
 have ZN:(RV ps x.toNat).filter (λy=>decide (aw[y.toNat]?=AA (AA (v-1))))≠[]:=by
  rcases(L x v x0 Bc).2 with⟨_,e⟩|⟨_,y,y0,y1,y2⟩
  .lia
  .intro e
   have:y∈(RV ps x.toNat).filter (λy=>decide (aw[y.toNat]?=AA (AA (v-1)))):=CF.mpr {L7.mpr (by rw[show((x.toNat:Nat):Int)=x by lia];exact SG.mp y1),decide_eq_true y2};rw[e] at this;cases this
 obtain⟨m,hm,em⟩:=yA1 ZN;obtain⟨X6,X5⟩:=CF.mp hm
 have Zg:(x,m)∈ps:=by
  have:=L7.mp X6
  rwa [show((x.toNat:Nat):Int)=x by lia] at this
 obtain⟨_,_,m0,m1⟩:=R.rg _ Zg;refine{m,yT (d:=.non) ?_,P.snoc hx Zg m0 m1 (of_decide_eq_true X5)}
 exact pT (i:=6) (f:=VC) (E:=jV AO ps a b aw w (.val (.int (v-1)))) (xs:=w.map D.int) (ds:=[.int m]) (x:=.non) (V9:=(w++[m]).map D.int) rfl (KS (bC (QX (KS dZ) em) rfl)) rfl (by
  simp only[VC,AJ]
  rw[Z0 'l'];simp)
theorem yA3{g:G}{E:Ev}{j:Int}(h:g E=.ok (.int j,E'))(h2:0<=j/\j<=1000):xO g E=.ok (eZ j.toNat,E'):=IH h (if_pos h2)
theorem zWF(N:Net AO ps)(a0:0<=a)(a1:a<AO)(b0:0<=b)(b1:b<AO) :
  (¬Rc ps [] a b/\cO [.val (GD AO ps),.val (.int a),.val (.int b),.val (.tup [])]=.ok (AD,.non,.non)) \/
  (∃w,Wy ps a b w/\(∀x∈w,0<=x/\x<AO)/\w.length<=1000/\cO [.val (GD AO ps),.val (.int a),.val (.int b),.val (.tup [])]=.ok (AD,.tup (w.map D.int),.non)):=by
 have R:=N.rg';have X5:=R.m2;obtain⟨aw,e1,hl,hr,L⟩:=Ow (cl:=[]) (start:=b) N.back.rg' b0 b1;have oF:ps.length<10000:=by have:=R.len;lia
 obtain⟨o,ho⟩:∃o,aw[a.toNat]?=AA o:={_,A7 'l'}
 have s1:∀{g:GS} {r:Out Fl},g [.val (GD AO ps),.val (.int a),.val (.int b),.val (.tup []),.val (.lst (aw.map LO)),.no,.no,.no]=r->(GA (IN (.nm 4) (LD nA [(LD tM [(AZ 0)]),(AZ 2),(AZ 3)])) g) ([.val (GD AO ps),.val (.int a),.val (.int b),.val (.tup [])]++BG 4 .no)=r:=λh =>
  HB (NO (TQ (ds:=[GD AO (back ps),.int b,.tup []]) (QH (TQ (ds:=[GD AO ps]) rfl (zSO oF)) rfl) e1) rfl) h
 have tN:gB (g2 aS (g2 E8 (AZ 4) (AZ 1)) (gC .non)) [.val (GD AO ps),.val (.int a),.val (.int b),.val (.tup []),.val (.lst (aw.map LO)),.no,.no,.no]=.ok (o.isNone,[.val (GD AO ps),.val (.int a),.val (.int b),.val (.tup []),.val (.lst (aw.map LO)),.no,.no,.no]) :=
  OT (FN (x:=LO o) (y:=.non) (FN (x:=.lst (aw.map LO)) (y:=.int a) rfl rfl (sB a0 ho)) rfl (by cases o<;>rfl))
 cases o with
 |none =>
  refine .inl {λh=>?_,RC (s1 (pM (b:=AD) (d:=.non) (aQ tN (SD rfl)))) rfl};obtain⟨_,v,hv⟩:=(hr a).mpr (iQ.mpr h);rw[ho] at hv;cases hv
 |some n =>
  obtain⟨c1,c2⟩:=L a n a0 ho;have n0:0<=n:=by rcases c2 with⟨_,e⟩|⟨e,_⟩<;>lia
  have n1:n<1000:=by lia
  have P0:Pc ps AO a aw n n [a]:={rfl,by simp;lia,λx hx=>by rw[A8.mp hx];exact{a0,a1},λi x h=>by
   obtain⟨hi,e⟩:=AE.mp h;have:i=0:=by simp at hi;exact hi
   subst this;simp at e;subst e
   rw[ho];congr 2;lia,λi x y _ h=>by have:=(AE.mp h).1;simp at this}
  obtain⟨E',e,w,u,rfl,P⟩:=fO (gi:=xO (g2 E8 (AZ 4) (AZ 1))) (t:=.nm 7) (g:=Xb) (E:=jV AO ps a b aw [a] .no) (ds:=eZ n.toNat)
   (λi E=>∃w u,E=jV AO ps a b aw w u/\Pc ps AO a aw n (n-i) w)
   (yA3 (FN (x:=.lst (aw.map LO)) (y:=.int a) rfl rfl (sB a0 ho)) {n0,by lia}) {[a],_,rfl,by rw[show n-((0:Nat):Int)=n by lia];exact P0}
   (λi d E hd q0=>by
    obtain⟨w,u,rfl,P⟩:=q0;unfold eZ at hd;rw[AV] at hd;obtain⟨j,hj,rfl⟩:=BS.mp hd;obtain⟨hi,e⟩:=AE.mp hj;rw[P9] at e;subst e;rw[HY] at hi;obtain⟨m,em,Pm⟩:=yA2 (b:=b) (u:=u) R hl L P 'l' 'l' n1;rw[show((n.toNat:Nat):Int)-1-(i:Int)=n-i-1 by lia]
    exact{_,rfl,_,em,w++[m],_,rfl,by rw[show n-((i+1:Nat):Int)=n-i-1 by lia];exact Pm})
  have Yw:0<w.length:=(AE.mp P.hd).1;have hln:=P.len;rw[show(eZ n.toNat).length=n.toNat by simp[eZ]] at hln P;obtain⟨x,hx⟩:∃x,w[w.length-1]?=AA x:={_,A7 'l'};have Bc:=P.num _ x hx
  have hxb:x=b:=by
   rcases(L x _ (P.rg x (CC hx)).1 Bc).2 with⟨h,_⟩|⟨h,_⟩
   .exact h
   .lia
  refine .inr {w,{P.nodup,P.hd,by rw[hx,hxb],P.ln},P.rg,by lia,RC (s1 (HB (UQ tN rfl) (HB (NO (TQ (ds:=[GD AO ps]) rfl (Ox R)) rfl) (HB (bD (d:=.lst [.int a]) rfl) (HB e (SD (bC (QX (d:=.tup (w.map D.int)) (KS (d:=.lst (w.map D.int)) rfl) rfl) (by simp[kJ,jV,tZ,Hc,D.flat,D.nod,Fi,zI])))))))) rfl}
end
theorem Dh(x:Int×Int):(G2 x).py=AA (.tuple [.int x.1,.int x.2]):=by simp[G2,D.py,pAH]
theorem Qm(x y:Int×Int):C2 (.tuple [.int x.1,.int x.2]) (.tuple [.int y.1,.int y.2])=decide (x=y):=by
 obtain⟨a,b⟩:=x;obtain⟨c,d⟩:=y;simp only[C2,U5,UJ]
 by_cases h1:a=c<;>by_cases h2:b=d<;>simp[h1,h2]
theorem Ql(x y:Int×Int):LZ (G2 x) (G2 y)=.ok (.bl (decide (x≠y))):=by
 unfold LZ;simp only[Dh];rw[if_pos (AX (N9 _ _) (by simp[F9,KL])),Qm]
 by_cases h:x=y<;>simp[h]
theorem Rt:∀ps:List (Int×Int),pAH (ps.map G2)=AA (ps.map λx=>WX [.int x.1,.int x.2])
 |[]=>rfl
 |x::ps=>by rw[AU,pAH,Dh,Rt ps];rfl
theorem any_pairs(x:Int×Int):∀ps:List (Int×Int),((ps.map λx=>WX [.int x.1,.int x.2]).any λd=>C2 d (.tuple [.int x.1,.int x.2]))=decide (x∈ps)
 |[]=>rfl
 |y::ps=>by
  rw[AU,ER,any_pairs x ps,Qm]
  by_cases h:y=x<;>by_cases h2:x∈ps<;>simp[h,h2,E7,eq_comm]
theorem zWG(x:Int×Int)(ps:List (Int×Int)):RX (G2 x) (.tup (ps.map G2))=.ok (.bl (decide (x∈ps))):=by
 unfold RX;simp only[Rt,Dh];rw[if_pos (by simp[F9,KL]),any_pairs]
theorem zPT(x:Int×Int)(ps:List (Int×Int)):P5 (G2 x) (.tup (ps.map G2))=.ok (.bl (decide (x∉ps))):=by
 rw[P5,zWG];simp[Out.bind]
noncomputable def kW:D->Int×Int:=λd=>match d with|.tup [.int a,.int b]=>(a,b)|_=>(0,0)
theorem sK(x:Int×Int):kW (G2 x)=x:=rfl
theorem Mz{α:Type}{f:α->D}(r:D->α)(hr:∀c,r (f c)=c)(p:α->Bool):∀xs:List α,(xs.map f).flatMap (λd=>if p (r d)=AK then[d] else[])=(xs.filter p).map f
 |[]=>rfl
 |x::l=>by
  rw[AU,EF,Mz r hr p l,hr,IR]
  by_cases e:p x=AK
  .rw[if_pos e,if_pos e];rfl
  .rw[if_neg e,if_neg e];rfl
theorem xN{f:α->D}(r:D->α)(hr:∀c,r (f c)=c){E:Ev}{xs:List α}(p:α->Bool)(cs:List Sl)(hi:gi E=.ok (xs.map f,E1))(hc:WM 1 js E1=.no::cs)(hl:xs.length<10000)
  (ht:∀x∈xs,tt (.val (f x)::cs)=.ok (p x,.val (f x)::cs)) (hb:∀u,XB E1 (u::cs) 1 js=E1):N6 gi 1 js (.nm 0) tt (AZ 0) E=.ok (.lst ((xs.filter p).map f),E1):=by
 have:=kM (gi:=gi) (k:=1) (js:=js) (t:=.nm 0) (tt:=tt) (ge:=AZ 0) (E:=E) (E1:=E1) (ds:=xs.map f) (λd=>if p (r d)=AK then[d] else[]) (λE=>∃u,E=u::cs) hi {_,hc} (by rw[AJ];exact hl) (λd hd E hE=>by
  obtain⟨x,hx,rfl⟩:=CM.mp hd;obtain⟨u,rfl⟩:=hE;refine{_,rfl,p x,_,ht x hx,?_}
  by_cases h:p x=AK
  .exact .inl {h,f x,_,rfl,by simp only[hr,h,if_true],_,rfl}
  .exact .inr {by simpa using h,by simp only[hr,h,if_false];rfl,_,rfl}) ((λEc q0=>by obtain⟨u,e⟩:=q0;exact by rw[e];exact hb u))
 rw[this,Mz r hr]
section
variable{g p:Int}{l:Int×Int}{w:List Int}
theorem yGW(hl:ps.length<10000)(h:l∈ps):qF [.val (GD AO ps),.val (G2 l)]=.ok (AD,GD AO (ps.filter λm=>decide (m≠l)),.non):=by
 have hc:=xN kW sK (gi:=JS (AZ 3)) (js:=[1]) (tt:=gB (g2 LZ (AZ 0) (AZ 1))) (E:=[.val (GD AO ps),.val (G2 l),.val (.int AO),.val (.tup (ps.map G2))]) (xs:=ps) (λm=>decide (m≠l)) [.val (G2 l)] (tH rfl) rfl hl
  (λx _=>OT (FN (x:=G2 x) (y:=G2 l) rfl rfl (Ql x l))) (λu=>rfl)
 have t:gB (g2 P5 (AZ 1) (AZ 3)) [.val (GD AO ps),.val (G2 l),.val (.int AO),.val (.tup (ps.map G2))]=.ok (AD,[.val (GD AO ps),.val (G2 l),.val (.int AO),.val (.tup (ps.map G2))]) :=
  OT (FN (x:=G2 l) (y:=.tup (ps.map G2)) rfl rfl ((zPT l ps).trans (blF λz=>z h)))
 exact RC (HB (NO (d:=GD AO ps) rfl rfl) (HB (UQ t rfl) (SD (mU (ds:=[.int AO,.tup ((ps.filter λm=>decide (m≠l)).map G2)]) (QH rfl (KS (QX (KS hc) rfl))) (show 2<10000 by decide))))) rfl
theorem Rg.wo(R:Rg AO ps):Rg AO (ps.filter λm=>decide (m≠l)):={R.m1,R.m2,AX (EQ _ _) R.len,λq hq=>R.rg q (CF.mp hq).1}
noncomputable instance rcDec (ps:List (Int×Int)) (cl:List Int) (g x:Int):Decidable (Rc ps cl g x):=TW _
noncomputable def fU(ps:List (Int×Int))(g p:Int)(l:Int×Int):Bool:=decide (¬Rc (ps.filter λm=>decide (m≠l)) [] g p)
def cC(w:List Int):List (Int×Int):=w.zip (w.drop 1)
theorem SF{a b:Int}:(a,b)∈cC w↔∃i:Nat,w[i]?=AA a/\w[i+1]?=AA b:=by
 unfold cC;rw[HS];constructor
 .rintro⟨i,h⟩
  rw[GP,HJ] at h;exact{i,h.1,by rw[RS];exact h.2}
 .rintro⟨i,h1,h2⟩
  exact{i,by rw[GP,HJ];exact{h1,by rw[RS];exact h2}}
def nG(ps:List (Int×Int))(g p:Int)(w:List Int):List (Int×Int):=(cC w).filter (fU ps g p)
theorem yA5(N:Net AO ps)(g0:0<=g)(g1:g<AO)(W:Wy ps g p w)(hw:w.length<=1000)(e:cO [.val (GD AO ps),.val (.int g),.val (.int p),.val (.tup [])]=.ok (AD,.tup (w.map D.int),.non)) :
  kR [.val (GD AO ps),.val (.int g),.val (.int p)]=.ok (AD,.tup ((nG ps g p w).map G2),.non):=by
 have R:=N.rg';obtain⟨E,hE⟩:∃E:Ev,E=[.val (GD AO ps),.val (.int g),.val (.int p),.val (.tup (w.map D.int))]:={_,rfl}
 have sl:mR (AZ 3) (AA (gC (.int 1))) AN E=.ok (.tup ((w.drop 1).map D.int),E):=by
  rw[hE];show Out.ok (D.tup (X0 (w.map D.int) (AA 1) AN),_)=_;rw[yIZ,List.map_drop]
 have zi:qO (AZ 3) (mR (AZ 3) (AA (gC (.int 1))) AN) E=.ok ((cC w).map G2,E):=by
  refine IH (a:=(.tup (w.map D.int),E)) (by rw[hE];rfl) (IH sl ?_);show Out.ok (hU (w.map D.int) ((w.drop 1).map D.int),_)=_;unfold hU cC;rw[List.zip_map,D7];rfl
 have hc:=xN kW sK (gi:=qO (AZ 3) (mR (AZ 3) (AA (gC (.int 1))) AN)) (js:=[2,0,1]) (tt:=gB (g2 P5 (AZ 1) (LD pY [(LD qF [(AZ 2),(AZ 0)]),(AZ 3)]))) (fU ps g p) [.val (.int p),.val (GD AO ps),.val (.int g)] zi (by rw[hE];rfl)
  (by unfold cC;rw[TU];lia)
  (λl hl=>by
   obtain⟨a,b⟩:=l;obtain⟨i,h1,h2⟩:=SF.mp hl;obtain⟨xs,e1,_,m1⟩:=zPS (start:=g) (R.wo (l:=(a,b))) g0 g1;refine OT (FN (x:=.int p) (y:=.tup (xs.map D.int)) rfl (TQ (ds:=[GD AO (ps.filter λm=>decide (m≠(a,b))),.int g]) (QH (TQ (ds:=[GD AO ps,G2 (a,b)]) rfl (yGW (by have:=R.len;lia) (W.ln i a b h1 h2))) rfl) e1) ?_);rw[zPO];unfold fU
   rw[decide_eq_decide.mpr (not_congr (m1 p))])
  (λu=>by rw[hE];rfl)
 have t:gB (g2 aS (AZ 3) (gC .non)) E=.ok (AD,E):=by rw[hE];rfl
 have a1:IN (.nm 3) (LD cO [(AZ 0),(AZ 1),(AZ 2),(RD [])]) [.val (GD AO ps),.val (.int g),.val (.int p),.no]=.ok (.nx E):=by
  rw[hE];exact NO (TQ (ds:=[GD AO ps,.int g,.int p,.tup []]) rfl e) rfl
 exact RC (HB a1 (HB (UQ t rfl) (SD (QX (KS hc) rfl)))) (by rw[hE];rfl)
end
theorem Pi(n:Nat)(a:Int):zA0 (n+1) [.val (.int a),.val (.int a)]=.ok (AD,.bl AK,.non) :=
 RC (HB (UQ (E1:=[.val (.int a),.val (.int a)]) (kD (yR (d:=.int a) rfl) rfl) rfl) (SD (yGH (E1:=[.val (.int a),.val (.int a)]) (yD6 (yR (d:=.int a) rfl)) (FN (x:=.int a) (y:=.int a) rfl rfl (d:=.bl AK) (by rw[Dq];simp))))) rfl
theorem Ph{ds:List D}(hl:ds.length<10000)(h:∀d∈ds,zA0 n [.val d,.val d]=.ok (AD,.bl AK,.non)):zA0 (n+1) [.val (.tup ds),.val (.tup ds)]=.ok (AD,.bl AK,.non):=by
 have hc:N6 (qO (AZ 0) (AZ 1)) 2 [] (.tp [(.nm 0),(.nm 1)]) VD (LD (zA0 n) [(AZ 0),(AZ 1)]) [.val (.tup ds),.val (.tup ds)]=.ok (.lst ((hU ds ds).map λ_=>.bl AK),[.val (.tup ds),.val (.tup ds)]):=by
  refine zV3 (λE=>E.length=2) rfl rfl (by simpa[hU] using hl) (λd hd E hE=>?_) λEc _=>yH Ec 2 0 _;obtain⟨x,y,rfl⟩:=Cp hE;obtain⟨⟨p,q⟩,hp,rfl⟩:=CM.mp hd
  have NR:p=q/\p∈ds:=by
   obtain⟨i,hi⟩:=HS.mp hp;rw[GP] at hi;obtain⟨a,b⟩:=hi;rw[a] at b;exact{BL b,CC a}
  obtain⟨rfl,hm⟩:=NR;exact{_,rfl,_,TQ (ds:=[p,p]) rfl (h p hm),rfl}
 have t1:j3 (Z2 (W0 (pI "tuple" (AZ 0)))) (gB (g2 LZ (gN QV [(AZ 0)]) (gN QV [(AZ 1)]))) [.val (.tup ds),.val (.tup ds)]=.ok (AD,[.val (.tup ds),.val (.tup ds)]) :=
  Cc (yS (b:=AK) (kD (yR (d:=.tup ds) rfl) rfl)) (OT (FN (QX (KS (d:=.tup ds) rfl) rfl) (QX (KS (d:=.tup ds) rfl) rfl) (d:=.bl AD) (by rw[Dp];simp)))
 exact RC (pM (aQ (E1:=[.val (.tup ds),.val (.tup ds)]) (kD (yR (d:=.tup ds) rfl) rfl) (HB (UQ t1 rfl) (SD (QX (KS hc) (Qr _)))))) rfl
theorem zS7(hl:qs.length<10000):zA0 5 [.val (.tup (qs.map G2)),.val (.tup (qs.map G2))]=.ok (AD,.bl AK,.non) :=
 Ph (by rw[AJ];exact hl) λd hd=>by
  obtain⟨p,_,rfl⟩:=CM.mp hd;refine Ph (n:=3) (ds:=[.int p.1,.int p.2]) (show 2<10000 by decide) λd hd=>?_;rcases A2.mp hd with rfl|hd
  .exact Pi 2 _
  .rw[A8.mp hd];exact Pi 2 _
noncomputable def kb:List D:=[.bl AK,.bl AD,.bl AD,.bl AD,.bl AD,.bl AD,.bl AD,.bl AD,.bl AD,.bl AD,.bl AK]
theorem yEL:UW (.lst []) (.lst [])=.ok (.bl AK):=zVL (Pls.lst (n:=59) (.nil _))
theorem yGX{g:GS}{gs:List G}{mx:List D->Out Ev}{bs:List Bool}{E:Ev}{r:Fl}(h:g E=.ok r):mB g gs mx ik ie bs E=.ok r:=by unfold mB;rw[h]
theorem yGY{g:GS}{gs:List G}{mx:List D->Out Ev}{bs:List Bool}{E z:Ev}{ds:List D}(h:g E=.bad)(h1:OU gs E=.ok (ds,E1))(h2:mx ds=.ok z):mB g gs mx ik ie bs E=.ok (.nx ((E1.set ik (.val (.lst (bs.map D.bl)))).set ie .no)):=by
 unfold mB;rw[h];exact IH h1 (IH h2 rfl)
section
variable{g p:Int}{w:List Int}
theorem yEM{d:D}(h:kR [.val (GD AO ps),.val (.int g),.val (.int p)]=.ok (AD,d,.non)):qH [.val (GD AO ps),.val (.int g),.val (.int p)]=.ok (AD,d,.non):=by
 refine RC (HB (NO (d:=.non) rfl rfl) (HB (NO (d:=.lst []) rfl rfl) (HB (E1:=[.val (GD AO ps),.val (.int g),.val (.int p),.val d,.val (.lst []),.no]) ?_ (SD (IH (OT (FN (x:=.lst []) (y:=.lst []) rfl rfl yEL)) (by rw[if_pos rfl];rfl)))))) rfl;have:IN (.nm 3) (LD kR [(AZ 0),(AZ 1),(AZ 2)]) [.val (GD AO ps),.val (.int g),.val (.int p),.val .non,.val (.lst []),.no]=.ok (.nx [.val (GD AO ps),.val (.int g),.val (.int p),.val d,.val (.lst []),.no]):=NO (TQ (ds:=[GD AO ps,.int g,.int p]) rfl h) rfl;exact yGX this
theorem Mx{acc c:CN}{r:List (CN ⊕ G)}{E:Ev}:gJ acc (.inl c::r) E=gJ (acc++c) r E:=by rw[gJ]
theorem Mw{acc:CN}{g:G}{r:List (CN ⊕ G)}{E:Ev}{a:Int}(h:g E=.ok (.int a,E1))(h2:0<=a/\a<100):gJ acc (.inr g::r) E=gJ (acc++(toString a:CN)) r E1:=by
 rw[gJ];exact IH h (if_pos h2)
theorem zWI{gs:List G}{E:Ev}{ds:List D}(h1:OU gs E=.ok (ds,E'))(h2:m (ds.map Sl.val)=.bad):LD m gs E=.bad:=IH h1 (by show(m (ds.map Sl.val)).bind _=_;rw[h2];rfl)
theorem yA6{g:G}{t:Tg}{E:Ev}(h:g E=.bad):IN t g E=.bad:=by unfold IN;rw[h];rfl
theorem yGZ{t:Ev->Out (Bool×Ev)}{g:GX}{E:Ev}{r:Out Ev}(h:t E=.ok (AK,E1))(h2:g E1=r):z9 t g E=r:=by
 unfold z9;rw[h];show(if AK=AK then g E1 else .bad)=r;rw[if_pos rfl];exact h2
theorem yI2{g:GS}{E:Ev}{r:Out Ev}(h:g E=.ok (.nx E1))(h2:gx E1=r):xP g gx E=r:=by unfold xP;rw[h];exact h2
theorem yEN(hg:0<=g/\g<100)(hp:0<=p/\p<100)(e:cO [.val (GD AO ps),.val (.int g),.val (.int p),.val (.tup [])]=.ok (AD,.non,.non)):qH [.val (GD AO ps),.val (.int g),.val (.int p)]=.ok (AD,.lst kb,.non):=by
 have a1:IN (.nm 3) (LD cO [(AZ 0),(AZ 1),(AZ 2),(RD [])]) [.val (GD AO ps),.val (.int g),.val (.int p),.no]=.ok (.nx [.val (GD AO ps),.val (.int g),.val (.int p),.val .non]) :=
  NO (TQ (ds:=[GD AO ps,.int g,.int p,.tup []]) rfl e) rfl
 have t:gB (g2 aS (AZ 3) (gC .non)) [.val (GD AO ps),.val (.int g),.val (.int p),.val .non]=.ok (AK,[.val (GD AO ps),.val (.int g),.val (.int p),.val .non]):=rfl
 have bad:kR [.val (GD AO ps),.val (.int g),.val (.int p)]=.bad:=by
  show(GA _ _ [.val (GD AO ps),.val (.int g),.val (.int p),.no]).bind _=_
  rw[show GA _ _ [.val (GD AO ps),.val (.int g),.val (.int p),.no]=.bad from by
   rw[HB a1 rfl];show(O6 _ _ _ [.val (GD AO ps),.val (.int g),.val (.int p),.val .non]).bind _=_
   rw[aQ t rfl];rfl]
  rfl
 have j1:gJ O9 [.inl "no way leads from ",.inr (AZ 1),.inl " to ",.inr (AZ 2)] [.val (GD AO ps),.val (.int g),.val (.int p),.val .non]=.ok (.str (O9++"no way leads from "++(toString g:CN)++" to "++(toString p:CN)),[.val (GD AO ps),.val (.int g),.val (.int p),.val .non]):=by
  rw[Mx,Mw (a:=g) (E1:=[.val (GD AO ps),.val (.int g),.val (.int p),.val .non]) rfl hg,Mx,Mw (a:=p) (E1:=[.val (GD AO ps),.val (.int g),.val (.int p),.val .non]) rfl hp,gJ]
 have gx:∃z,zT [GD AO ps,.int g,.int p]=.ok z:={_,show Ga [.val (GD AO ps),.val (.int g),.val (.int p),.no]=_ from yI2 a1 (yGZ t (IH (KS j1) (Z0 (show 1<10000 by decide))))};obtain⟨z,hz⟩:=gx;refine RC (HB (NO (d:=.non) rfl rfl) (HB (NO (d:=.lst []) rfl rfl) (HB (E1:=[.val (GD AO ps),.val (.int g),.val (.int p),.val .non,.val (.lst kb),.no]) ?_ (SD (IH (OT (FN (x:=.lst kb) (y:=.lst []) (d:=.bl AD) rfl rfl rfl)) (by rw[if_neg CH];rfl)))))) rfl;have:IN (.nm 3) (LD kR [(AZ 0),(AZ 1),(AZ 2)]) [.val (GD AO ps),.val (.int g),.val (.int p),.val .non,.val (.lst []),.no]=.bad:=yA6 (zWI (ds:=[GD AO ps,.int g,.int p]) rfl bad);exact yGY this (ds:=[GD AO ps,.int g,.int p]) (E1:=[.val (GD AO ps),.val (.int g),.val (.int p),.val .non,.val (.lst []),.no]) rfl hz
end
theorem yA7:tQ [.val (.int 0)]=.ok (AD,.lst kb,.non):=by
 rfl
section
variable{fl:List (Int×Int)}{g p u v a b x:Int}{L w zs:List Int}{l:Int×Int}
theorem Mv{w:List α}(nd:w.Nodup){x:α}(e1:w[i]?=AA x)(e2:w[j]?=AA x):i=j:=by
 obtain⟨h1,q1⟩:=AE.mp e1;obtain⟨h2,q2⟩:=AE.mp e2;rcases JY i j with h|h|h
 .exact absurd (q1.trans q2.symm) (B0.mp nd i j h1 h2 h)
 .exact h
 .exact absurd (q2.trans q1.symm) (B0.mp nd j i h2 h1 h)
theorem Srt.at(S:Srt ps g L p zs){i j:Nat}(e1:zs[i]?=AA a)(e2:zs[j]?=AA b)(h:i<j):(mu ps g L a).length<(mu ps g L b).length:=by
 obtain⟨h1,q1⟩:=AE.mp e1;obtain⟨h2,q2⟩:=AE.mp e2;have:=B0.mp S.pw i j h1 h2 h
 rwa [q1,q2] at this
theorem Srt.lt(S:Srt ps g L p zs)(e1:zs[i]?=AA a)(e2:zs[j]?=AA b)(h:(mu ps g L a).length<(mu ps g L b).length):i<j:=by
 rcases JY i j with q|q|q
 .exact q
 .subst q;rw[e1] at e2;cases e2;lia
 .have:=S.at e2 e1 q;lia
theorem Rs(A:All ps g L)(h1:Dom ps g a p)(h2:Dom ps g b p)(h:(mu ps g L a).length<(mu ps g L b).length):Dom ps g a b:=by
 rcases h1.lin h2 with d|d
 .exact d
 .by_cases e:b=a
  .rw[e] at h;lia
  .have:=sC A d e;lia
theorem zWJ(A:All ps g L)(S:Srt ps g L p zs)(M:ML ps g p (u,v))(W:Wy ps g p w):∃i:Nat,zs[i]?=AA u/\zs[i+1]?=AA v:=by
 obtain⟨d,ne⟩:=M.dom W;obtain⟨i,hi⟩:=HS.mp ((S.mem A).mpr M.tail);obtain⟨j,hj⟩:=HS.mp ((S.mem A).mpr M.head);have K3:=S.lt hi hj (sC A d ne);have Zl:=(AE.mp hj).1;obtain⟨c,hc⟩:∃c,zs[i+1]?=AA c:={_,A7 'l'};have Zo:Dom ps g c p:=(S.mem A).mp (CC hc);have h1:=S.at hi hc (DG i);refine{i,hi,?_}
 by_cases e:i+1=j
 .rw[e];exact hj
 .have h2:=S.at hc hj 'l'
  have:=M.next W (Rs A M.tail Zo h1) (Rs A Zo M.head h2) (λz=>by rw[z] at h1;lia);rw[hc,this]
theorem mO(W:Wy ps g p w)(h:l∈nG ps g p w):ML ps g p l:=by
 obtain⟨h1,h2⟩:=CF.mp h;obtain⟨a,b⟩:=l;obtain⟨i,e1,e2⟩:=SF.mp h1;exact{W.ln i a b e1 e2,W.rc W.ls,of_decide_eq_true h2}
theorem Ny(W:Wy ps g p w):(cC w).Pairwise λl m=>Rc ps [m.1] g l.1:=B0.mpr λi j hi hj K3=>by
 have e:∀(k:Nat) (hk:k<(cC w).length),w[k]?=AA (cC w)[k].1:=λk hk=>by
  have h:=A7 hk;unfold cC at h;rw[GP] at h;exact h.1
 exact W.ahead K3 (e i hi) (e j hj)
theorem Nx(A:All ps g L)(W:Wy ps g p w):(nG ps g p w).Pairwise λl m=>(mu ps g L l.1).length<(mu ps g L m.1).length :=
 ((Ny W).filter _).imp_of_mem λ{l m} hl hm h=>(mO W hl).lt A (mO W hm) h
theorem yEO(W:Wy ps g p w):(nG ps g p w).Nodup:=((Ny W).filter _).imp λ{l m} h e=>h.ne (by rw[e];exact BB)
theorem zWK(N:Net AO ps)(W:Wy ps g p w):(nG ps g p w).Perm (ps.filter (fU ps g p)):=by
 refine(List.perm_ext_iff_of_nodup (yEO W) ((N.pw.imp λh=>Co h).filter _)).mpr λl=>?_;rw[CF];constructor
 .exact λh=>{(mO W h).mem,(CF.mp h).2}
 .rintro⟨h1,h2⟩
  obtain⟨a,b⟩:=l;have M:ML ps g p (a,b):={h1,W.rc W.ls,of_decide_eq_true h2};exact CF.mpr {SF.mpr (M.on W),h2}
theorem yA8(W:Wy ps g p w)(hr:∀x∈w,0<=x/\x<AO):w.length<=AO.toNat:=by
 have:=GW (l₂:=ri AO.toNat) W.nd λx hx=>VQ.mpr (by have:=hr x hx;lia)
 rwa [sL] at this
theorem yA9:(nG ps g p w).length<=w.length:=by
 refine AX (EQ _ _) ?_;unfold cC;rw[TU];lia
theorem Nv{h:Int×Int->D}:∀fl:List (Int×Int),(fl.map G2).flatMap (λd=>[h (kW d)])=fl.map h
 |[]=>rfl
 |x::l=>by rw[AU,EF,Nv l,AU];rfl
theorem Vw{ge:G}{E:Ev}(h:Int×Int->D)(cs:List Sl)(hi:gi E=.ok (fl.map G2,E1))(hc:WM 2 js E1=.no::.no::cs)(hl:fl.length<10000)
  (hg:∀l∈fl,ge (.val (.int l.1)::.val (.int l.2)::cs)=.ok (h l,.val (.int l.1)::.val (.int l.2)::cs)) (hb:∀u v,XB E1 (u::v::cs) 2 js=E1):N6 gi 2 js (.tp [.nm 0,.nm 1]) VD ge E=.ok (.lst (fl.map h),E1):=by
 have:=kM (gi:=gi) (k:=2) (js:=js) (t:=.tp [.nm 0,.nm 1]) (tt:=VD) (ge:=ge) (E:=E) (E1:=E1) (ds:=fl.map G2) (λd=>[h (kW d)]) (λE=>∃u v,E=u::v::cs) hi {_,_,hc} (by rw[AJ];exact hl) (λd hd E hE=>by
  obtain⟨x,hx,rfl⟩:=CM.mp hd;obtain⟨u,v,rfl⟩:=hE
  exact{_,rfl,AK,_,rfl,.inl {rfl,h x,_,hg x hx,rfl,_,_,rfl}}) (λEc q0=>by obtain⟨u,v,e⟩:=q0;rw[e];exact hb u v)
 rw[this,Nv]
theorem Nu(h:x∈zs)(hl:zs.length<10000):jW (.lst (zs.map D.int)) (.int x)=.ok (.int (zs.idxOf x:Nat)):=by
 unfold jW;simp only[nB];exact if_pos {hl,h}
theorem yEQ(nd:zs.Nodup)(h:zs[i]?=AA x):zs.idxOf x=i:=by
 have hx:=CC h;have IU:zs.idxOf x<zs.length:=I0.mpr hx;exact Mv nd (AE.mpr {IU,LN IU}) h
theorem zWL(nd:zs.Nodup)(hz:zs.length<1000)(hl:fl.length<1000)(hn:∀l∈fl,∃i:Nat,zs[i]?=AA l.1/\zs[i+1]?=AA l.2)(hp:fl.Pairwise λl m=>zs.idxOf l.1<zs.idxOf m.1) :
  qG [.val (.lst (zs.map D.int)),.val (.lst (fl.map G2))]=.ok (AD,.bl AK,.non):=by
 have hm:∀l∈fl,l.1∈zs:=λl h=>let ⟨_,e,_⟩:=hn l h;CC e
 have c1:=Vw (fl:=fl) (gi:=JS (AZ 1)) (js:=[0]) (ge:=g2 jW (AZ 2) (AZ 0)) (E:=[.val (.lst (zs.map D.int)),.val (.lst (fl.map G2)),.no]) (λl=>.int (zs.idxOf l.1:Nat)) [.val (.lst (zs.map D.int))] (iK rfl) rfl 'l'
  (λl h=>FN (x:=.lst (zs.map D.int)) (y:=.int l.1) rfl rfl (Nu (hm l h) 'l')) (λu v=>rfl)
 obtain⟨sp,X3⟩:∃sp:List Int,sp=fl.map λl=>((zs.idxOf l.1:Nat):Int):={_,rfl};rw[show(fl.map λl=>D.int (zs.idxOf l.1:Nat))=sp.map D.int by rw[X3,D7];rfl] at c1;have gE:sp.Pairwise (· < ·):=by rw[X3,D0];exact hp.imp λh=>by lia
 have Kg:sp.length<1000:=by rw[X3,AJ];exact hl
 obtain⟨E,hE⟩:∃E:Ev,E=[.val (.lst (zs.map D.int)),.val (.lst (fl.map G2)),.val (.lst (sp.map D.int))]:={_,rfl}
 have t1:gB (g2 LZ (AZ 2) (gN aY [(AZ 2)])) E=.ok (AD,E):=by
  rw[hE];refine OT (FN (x:=.lst (sp.map D.int)) (y:=.lst (sp.map D.int)) rfl (QX (KS rfl) ?_) (zVM (Pls.lst (n:=59) (Pls.ints _ _))));rw[zPN,<-Qz (GB sp) (gE.imp λh=>LH h)]
 have t2:gB (g2 ZH (Dl (AZ 2)) (gN QV [(AZ 2)])) E=.ok (AD,E):=by
  rw[hE];refine OT (FN (x:=.int ((a9 sp).length:Nat)) (y:=.int (sp.length:Nat)) ?_ (QX (KS (E:=[.val (.lst (zs.map D.int)),.val (.lst (fl.map G2)),.val (.lst (sp.map D.int))]) (d:=.lst (sp.map D.int)) rfl) (Hh (by rw[AJ]))) ?_)
  .refine IH (a:=(.lst (sp.map D.int),_)) rfl ?_
   show(match PH (sp.map D.int) with|some ns=>L2.guard (ns.length<1000) (Out.ok (D.int ((a9 ns).length:Nat),_))|none=>.bad)=_;rw[nB];exact if_pos Kg
  .rw[(zT9 sp).mpr (gE.imp λh=>by lia)]
   show Out.ok (D.bl (decide ((sp.length:Int)<(sp.length:Int))))=_;rw[decide_eq_false 'l']
 have c2:=Vw (fl:=fl) (gi:=JS (AZ 1)) (js:=[0]) (ge:=g2 UW (g2 E8 (AZ 2) (g2 MZ (g2 jW (AZ 2) (AZ 0)) (gC (.int 1)))) (AZ 1)) (E:=E) (E1:=E) (λ_=>.bl AK) [.val (.lst (zs.map D.int))] (by rw[hE];exact iK rfl) (by rw[hE];rfl) 'l'
  (λl h=>by
   obtain⟨i,e1,e2⟩:=hn l h;have hi:=yEQ nd e1;refine FN (x:=.int l.2) (y:=.int l.2) (FN (x:=.lst (zs.map D.int)) (y:=.int ((zs.idxOf l.1:Nat)+1)) rfl (FN (x:=.int (zs.idxOf l.1:Nat)) (y:=.int 1) (FN (x:=.lst (zs.map D.int)) (y:=.int l.1) rfl rfl (Nu (hm l h) 'l')) rfl rfl) (qL (sP 'l' ?_))) rfl ((Dq _ _).trans (blT rfl))
   rw[AV,hi,show(((i:Nat):Int)+1).toNat=i+1 by lia,e2];rfl) (λu v=>by rw[hE];rfl)
 refine RC (HB (E1:=E) (by rw[hE];exact NO c1 rfl) (HB (UQ (Cc t1 t2) rfl) (SD (QX (KS c2) (Qr fl))))) (by rw[hE];rfl)
end
theorem zWM(f:α->β)(xs:List α)(lo hi:Option Int):X0 (xs.map f) lo hi=(X0 xs lo hi).map f:=by
 unfold X0;rw[AJ,<-List.map_drop,<-List.map_take]
theorem yBA(ns:List Int):∃c:Int,qJ [.val (.lst (ns.map D.int)),.val (.int 0)]=.ok (AD,.int c,.non):=by
 unfold qJ
 cases ns with
 |nil=>exact{0,RC (HB (UQ (E1:=[.val (.lst []),.val (.int 0)]) (OT (FN (x:=.int 0) (y:=.int 0) rfl (QX (KS (d:=.lst []) rfl) rfl) rfl)) rfl) (SD (d:=.int 0) rfl)) rfl}
 |cons n ns =>
  refine{n,RC (pM (E1:=[.val (.lst ((n::ns).map D.int)),.val (.int 0)]) (aQ (E1:=[.val (.lst ((n::ns).map D.int)),.val (.int 0)]) (OT (FN (x:=.int 0) (y:=.int ((n::ns).map D.int).length) rfl (QX (KS (d:=.lst ((n::ns).map D.int)) rfl) rfl) ?_)) (SD (FN (x:=.lst ((n::ns).map D.int)) (y:=.int 0) rfl rfl (nC (xs:=[]) 'd' rfl))))) rfl};simp only[ZH];rw[decide_eq_true (by simp only[AU,BC];lia)]
theorem yER{ge:G}{f:Int->D}{L:List Int}{E:Ev}(h:ge E=.ok (.dk (RE f L),E1)):JS ge E=.ok (L.map D.int,E1):=IH h (congrArg (λz=>Out.ok (z,E1)) Qo)
theorem Pg{f:Int->D}{p:Int}:∀{L:List Int},p∉L->M9 (RE f L) (.inl p)=AN
 |[],_=>rfl
 |x::L,h=>by
  unfold M9 RE;rw[AU,DR];have:decide ((CQ x:Key)=CQ p)=AD:=decide_eq_false λz=>h (by rw[HX z];exact BB);simp only[this];exact Pg (L:=L) λz=>h (A1 _ z)
theorem zWN{f:Int->D}{p:Int}{L:List Int}:P5 (.int p) (.dk (RE f L))=.ok (.bl (decide (p∉L))):=by
 simp only[P5,RX,iB,iC,HI]
 by_cases h:p∈L
 .rw[tL h];simp[Out.bind,h]
 .rw[Pg h];simp[Out.bind,h]
theorem Qk{E Ec:Ev}(h:∀n j,js[n]?=AA j->Ec[k+n]?=E[j]?):XB E Ec k js=E:=eX λi=>by
 rw[En,EV]
 cases e:E[i]? with
 |none=>rfl
 |some s =>
  cases s with
  |own t d =>
   simp only[Option.map,g9]
   cases q:j9 i js 0 with
   |none=>rfl
   |some n =>
    obtain⟨m,wJ,hm⟩:=Fk q;rw[EV] at wJ;subst wJ;simp only[h _ i hm,e,Option.getD_some]
  |_=>rfl
theorem Us{E:Ev}{a b:Sl}(h:E[j]?=AA b):XB E [a,b] 1 [j]=E:=Qk λn i e=>by
 cases n with
 |zero=>cases e;exact h.symm
 |succ n=>simp at e
theorem yI3{E:Ev}{a b c:Sl}(h:E[i]?=AA b)(h2:E[j]?=AA c):XB E [a,b,c] 1 [i,j]=E:=Qk λn k e=>by
 match n,e with
 |0,e=>cases e;exact h.symm
 |1,e=>cases e;exact h2.symm
 |n+2,e=>simp at e
theorem zS9{l:List α}(nd:l.Nodup)(hi:i<l.length):l[i]∉l.take i:=λh=>by
 obtain⟨j,hj⟩:=HS.mp h;obtain⟨Zl,_⟩:=AE.mp hj;rw[EB] at Zl;rw[MK 'l'] at hj;have:=Mv nd hj (A7 hi);lia
noncomputable def O8(f:Int×Int->D)(qs:List (Int×Int)):List (List Int×D):=qs.map λl=>([l.1,l.2],f l)
theorem Ur{l m:Int×Int}(e:([l.1,l.2]:List Int)=[m.1,m.2]):l=m:=by
 injection e with e1 e2;injection e2 with e2 _;exact ZS e1 e2
theorem Qj{f:Int×Int->D}{m:Int×Int}:∀{qs:List (Int×Int)},m∈qs->M9 (O8 f qs) [m.1,m.2]=AA (f m)
 |x::L,h=>by
  unfold M9 O8;rw[AU,DR]
  by_cases e:x=m
  .subst e;simp
  .have:decide (([x.1,x.2]:List Int)=[m.1,m.2])=AD:=decide_eq_false λz=>e (Ur z)
   simp only[this];exact Qj (qs:=L) ((A2.mp h).resolve_left (E7 e))
theorem zWO{f:Int×Int->D}{m:Int×Int}(h:m∉qs):P4 (O8 f qs) [m.1,m.2] (f m)=O8 f (qs++[m]):=by
 unfold P4 O8;rw[if_neg,HN]
 .rfl
 .simp only[Q8,HA,OJ,decide_eq_true_eq,not_exists,not_and]
  exact λq hq z=>h (Ur z▸hq)
theorem yES{f:Int×Int->D}{m:Int×Int}(h:m∈qs):E8 (.dt (O8 f qs)) (G2 m)=.ok (f m):=Pa (congrArg AA (Qj h))
section
variable{sc:D}{n g p:Int}{L:List Int}{u6 u7 u8 u9:Sl}
noncomputable def sA(ps:List (Int×Int))(g:Int)(L:List Int)(l:Int×Int):List Int:=L.filter λx=>decide (¬Rc (ps.filter λm=>decide (m≠l)) [] g x)
abbrev QG(ps:List (Int×Int))(g:Int)(L:List Int):Int×Int->D:=λl=>.lst ((sA ps g L l).map D.int)
def pE(sc:D)(n AO:Int)(ps:List (Int×Int))(g:Int)(L:List Int)(lk u6 u7 u8 u9 u10:Sl):Ev :=
 [.val sc,.val (.int n),.val (GD AO ps),.val (.int g),.val (.dk (RE (aP ps g L) L)),lk,u6,u7,u8,u9,u10]
abbrev Hm:GS:=GA (IN (.nm 7) (LD cN [(RD [(g2 E8 (AZ 2) (gC (.int 0))),(N6 (JS (g2 E8 (AZ 2) (gC (.int 1)))) 1 [6] (.nm 0) (gB (g2 LZ (AZ 0) (AZ 1))) (AZ 0))]),(AZ 3),(gC .non)]))
 (RW 5 (AZ 6) (N6 (JS (AZ 4)) 1 [7] (.nm 0) (gB (g2 P5 (AZ 0) (AZ 1))) (AZ 0)))
theorem yG0(N:Net AO ps)(g0:0<=g)(g1:g<AO)(hL:L.length<=1000):∃v6 v7,RB (JS (g2 E8 (AZ 2) (gC (.int 1)))) (.nm 6) Hm (pE sc n AO ps g L (.own AD (.dt [])) u6 u7 u8 u9 u10) =
  .ok (.nx (pE sc n AO ps g L (.own AD (.dt (O8 (QG ps g L) ps))) v6 v7 u8 u9 u10)):=by
 have R:=N.rg';have ET:=R.len;have nd:ps.Nodup:=N.pw.imp λh=>Co h
 obtain⟨E',e,v6,v7,rfl⟩:=fO (gi:=JS (g2 E8 (AZ 2) (gC (.int 1)))) (t:=.nm 6) (g:=Hm) (E:=pE sc n AO ps g L (.own AD (.dt [])) u6 u7 u8 u9 u10) (E1:=pE sc n AO ps g L (.own AD (.dt [])) u6 u7 u8 u9 u10) (ds:=ps.map G2)
  (λi E=>∃v6 v7,E=pE sc n AO ps g L (.own AD (.dt (O8 (QG ps g L) (ps.take i)))) v6 v7 u8 u9 u10) (tH (FN (x:=GD AO ps) (y:=.int 1) rfl rfl rfl)) {_,_,rfl}
  (λi d E hd hP=>by
   obtain⟨v6,v7,rfl⟩:=hP;rw[AV] at hd;obtain⟨l,hl,rfl⟩:=BS.mp hd;obtain⟨hi,lG⟩:=AE.mp hl;obtain⟨fs,ef,_,mf⟩:=Ov (BR:=AN) (BH:=g) (AO:=AO) (ps:=ps.filter λm=>decide (m≠l)) (.inr rfl) R.wo g0 g1;obtain⟨E0,aC⟩:∃E0,E0=pE sc n AO ps g L (.own AD (.dt (O8 (QG ps g L) (ps.take i)))) (.val (G2 l)) v7 u8 u9 u10:={_,rfl}
   have hc:=xN kW sK (gi:=JS (g2 E8 (AZ 2) (gC (.int 1)))) (js:=[6]) (tt:=gB (g2 LZ (AZ 0) (AZ 1))) (E:=E0) (E1:=E0) (xs:=ps) (λm=>decide (m≠l)) [.val (G2 l)] (by rw[aC];exact tH (FN (x:=GD AO ps) (y:=.int 1) rfl rfl rfl)) (by rw[aC];rfl) 'l'
    (λx _=>OT (FN (x:=G2 x) (y:=G2 l) rfl rfl (Ql x l))) (λu=>Us (by rw[aC];rfl))
   obtain⟨E1,X8⟩:∃E1,E1=pE sc n AO ps g L (.own AD (.dt (O8 (QG ps g L) (ps.take i)))) (.val (G2 l)) (.val (.lst (fs.map D.int))) u8 u9 u10:={_,rfl}
   have a1:IN (.nm 7) (LD cN [(RD [(g2 E8 (AZ 2) (gC (.int 0))),(N6 (JS (g2 E8 (AZ 2) (gC (.int 1)))) 1 [6] (.nm 0) (gB (g2 LZ (AZ 0) (AZ 1))) (AZ 0))]),(AZ 3),(gC .non)]) E0=.ok (.nx E1):=by
    have ar:OU [(RD [(g2 E8 (AZ 2) (gC (.int 0))),(N6 (JS (g2 E8 (AZ 2) (gC (.int 1)))) 1 [6] (.nm 0) (gB (g2 LZ (AZ 0) (AZ 1))) (AZ 0))]),(AZ 3),(gC .non)] E0=.ok ([.tup [.int AO,.lst ((ps.filter λm=>decide (m≠l)).map G2)],.int g,.non],E0) :=
     QH (mU (QH (E1:=E0) (d:=.int AO) (by rw[aC];rfl) (KS hc)) (show 2<10000 by decide)) (by rw[aC];rfl)
    exact NO (TQ ar ef) (by rw[aC,X8];rfl)
   have c2:=Qp (gi:=JS (AZ 4)) (js:=[7]) (tt:=gB (g2 P5 (AZ 0) (AZ 1))) (E:=E1) (E1:=E1) (ns:=L) (λx=>decide (x∉fs)) [.val (.lst (fs.map D.int))] (by rw[X8];exact yER rfl) (by rw[X8];rfl) 'l'
    (λx _=>OT (FN (x:=.int x) (y:=.lst (fs.map D.int)) rfl rfl (Tj x fs))) (λu=>Us (by rw[X8];rfl))
   rw[show L.filter (λx=>decide (x∉fs))=sA ps g L l from Q7 λx _=>decide_eq_decide.mpr (not_congr (mf x))] at c2
   have a2:RW 5 (AZ 6) (N6 (JS (AZ 4)) 1 [7] (.nm 0) (gB (g2 P5 (AZ 0) (AZ 1))) (AZ 0)) E1=.ok (.nx (pE sc n AO ps g L (.own AD (.dt (O8 (QG ps g L) (ps.take (i+1))))) (.val (G2 l)) (.val (.lst (fs.map D.int))) u8 u9 u10)):=by
    have:=fQ (i:=5) (t:=AD) (t2:=AD) (d0:=.dt (O8 (QG ps g L) (ps.take i))) (d:=.dt (O8 (QG ps g L) (ps.take i))) (v:=QG ps g L l) (k:=G2 l) (d':=.dt (O8 (QG ps g L) (ps.take (i+1)))) (gk:=AZ 6) (gv:=N6 (JS (AZ 4)) 1 [7] (.nm 0) (gB (g2 P5 (AZ 0) (AZ 1))) (AZ 0)) (E:=E1) (E2:=E1) (by rw[X8];rfl) c2 (by rw[X8];rfl) (by rw[X8];rfl) (by
     show few (O8 (QG ps g L) (ps.take i)).length (Out.ok (D.dt (P4 (O8 (QG ps g L) (ps.take i)) [l.1,l.2] (QG ps g L l))))=_
     rw[Z0 (by unfold O8;rw[AJ,EB];lia),zWO (by rw[<-lG];exact zS9 nd hi),BK hi,lG])
    rw[this,X8];rfl
   exact{E0,by rw[aC];rfl,_,HB a1 a2,_,_,rfl})
 rw[AJ,EJ] at e;exact{v6,v7,e}
abbrev Hl:GS:=GA (IN (.nm 9) (LD qH [(AZ 2),(AZ 3),(AZ 8)]))
 (O6 (gB (g2 P5 (AZ 8) (AZ 4)))
 (O6 (gB (g2 LZ (AZ 9) (LD tQ [(gC (.int 0))])))
 (OM (gC (.bl AD)))
 SH)
 (GA (IN (.nm 10) (N6 (JS (g2 E8 (AZ 2) (gC (.int 1)))) 1 [8,5] (.nm 0) (US [2] (gB (g2 RX (AZ 1) (g2 E8 (AZ 2) (AZ 0))))) (AZ 0)))
 (GA (IN (.nm 10) (gN ZZ [(kH (AZ 10) [4] (gN QV [(g2 E8 (AZ 1) (g2 E8 (AZ 0) (gC (.int 0))))]))]))
 (O6 (j3 (Z2 (W0 (LD (zA0 5) [(AZ 9),(AZ 10)]))) (Z2 (W0 (LD qG [(gN aX [(g2 E8 (AZ 4) (AZ 8))]),(gN aX [(AZ 9)])]))))
 (OM (gC (.bl AD)))
 SH))))
theorem yG1(N:Net AO ps)(g0:0<=g)(g1:g<AO)(A:All ps g L)(p0:0<=p)(p1:p<AO):∃v9 rE,Hl (pE sc n AO ps g L (.own AD (.dt (O8 (QG ps g L) ps))) u6 u7 (.val (.int p)) u9 u10) =
  .ok (.nx (pE sc n AO ps g L (.own AD (.dt (O8 (QG ps g L) ps))) u6 u7 (.val (.int p)) v9 rE)):=by
 have R:=N.rg';have ET:=R.len;have hm:=N.m2
 have tn:∀{v9:Sl},gB (g2 P5 (AZ 8) (AZ 4)) (pE sc n AO ps g L (.own AD (.dt (O8 (QG ps g L) ps))) u6 u7 (.val (.int p)) v9 u10)=.ok (decide (p∉L),pE sc n AO ps g L (.own AD (.dt (O8 (QG ps g L) ps))) u6 u7 (.val (.int p)) v9 u10):=λ{v9} =>
  OT (FN (x:=.int p) (y:=.dk (RE (aP ps g L) L)) rfl rfl zWN)
 rcases zWF N g0 g1 p0 p1 with⟨nr,e⟩|⟨w,W,hr,hw,e⟩
 .have ht:=yEN (ps:=ps) (AO:=AO) (g:=g) (p:=p) {g0,by lia} {p0,by lia} e
  have hn:p∉L:=λz=>nr ((A.mem p).mp z);refine{.val (.lst kb),u10,HB (NO (TQ (ds:=[GD AO ps,.int g,.int p]) rfl ht) rfl) (aQ (E1:=pE sc n AO ps g L (.own AD (.dt (O8 (QG ps g L) ps))) u6 u7 (.val (.int p)) (.val (.lst kb)) u10) (tn.trans (by rw[decide_eq_true hn])) (UQ (OT (FN (x:=.lst kb) (y:=.lst kb) rfl (TQ (ds:=[.int 0]) rfl yA7) (d:=.bl AD) rfl)) rfl))}
 .have ht:=yEM (yA5 N g0 g1 W hw e)
  have hp:Rc ps [] g p:=W.rc W.ls;have gF:p∈L:=(A.mem p).mpr hp;obtain⟨fl,dX⟩:∃fl,fl=nG ps g p w:={_,rfl};rw[<-dX] at ht;have Bd:=yA8 W hr;have Bm:fl.length<=24:=by have:=yA9 (ps:=ps) (g:=g) (p:=p) (w:=w);rw[dX];lia
  have pm:fl.Perm (ps.filter (fU ps g p)):=by rw[dX];exact zWK N W
  obtain⟨E1,X8⟩:∃E1,E1=pE sc n AO ps g L (.own AD (.dt (O8 (QG ps g L) ps))) u6 u7 (.val (.int p)) (.val (.tup (fl.map G2))) u10:={_,rfl}
  have X7:∀l,RX (.int p) (QG ps g L l)=.ok (.bl (fU ps g p l)):=λl=>by
   have e:decide (p∈sA ps g L l)=fU ps g p l:=decide_eq_decide.mpr (by
    unfold sA;rw[CF,decide_eq_true_eq]
    exact{λz=>z.2,λz=>{gF,z}})
   exact(Pd p (sA ps g L l)).trans (by rw[e])
  have c1:=xN kW sK (gi:=JS (g2 E8 (AZ 2) (gC (.int 1)))) (js:=[8,5]) (tt:=US [2] (gB (g2 RX (AZ 1) (g2 E8 (AZ 2) (AZ 0))))) (E:=E1) (E1:=E1) (xs:=ps) (fU ps g p) [.val (.int p),.own AD (.dt (O8 (QG ps g L) ps))] (by rw[X8];exact tH (FN (x:=GD AO ps) (y:=.int 1) rfl rfl rfl)) (by rw[X8];rfl) 'l'
   (λl hl=>Z5 (OT (FN (x:=.int p) (y:=QG ps g L l) rfl (FN (x:=.dt (O8 (QG ps g L) ps)) (y:=G2 l) rfl rfl (yES hl)) (X7 l)))) (λu=>yI3 (by rw[X8];rfl) (by rw[X8];rfl))
  obtain⟨E2,Br⟩:∃E2,E2=pE sc n AO ps g L (.own AD (.dt (O8 (QG ps g L) ps))) u6 u7 (.val (.int p)) (.val (.tup (fl.map G2))) (.val (.lst ((ps.filter (fU ps g p)).map G2))):={_,rfl};have wX:∀c,(cW ps g L c).length=(mu ps g L c).length:=λc=>(Dj (p:=c) A).pm.length_eq
  have kd:=Qn (f:=G2) (gl:=AZ 10) (ge:=gN QV [(g2 E8 (AZ 1) (g2 E8 (AZ 0) (gC (.int 0))))]) (js:=[4]) (E:=E2) (E1:=E2) (cs:=ps.filter (fU ps g p)) (ds:=[.dk (RE (aP ps g L) L)]) (λl=>((mu ps g L l.1).length:Int)) (by rw[Br];rfl) (by rw[Br];rfl) (by rw[<-pm.length_eq];lia)
   (λc hc=>by
    have M:=mO W (by rw[<-dX];exact pm.mem_iff.mpr hc);refine QX (KS (FN (x:=.dk (RE (aP ps g L) L)) (y:=.int c.1) rfl (FN (x:=G2 c) (y:=.int 0) rfl rfl rfl) (Gm (tL ((A.mem c.1).mpr M.tail.rc))))) (yGI ?_)
    rw[AJ,wX])
  have sk:=Na kW sK kd pm (by rw[dX];exact(Nx A W).imp λh=>by lia);obtain⟨E3,ZQ⟩:∃E3,E3=pE sc n AO ps g L (.own AD (.dt (O8 (QG ps g L) ps))) u6 u7 (.val (.int p)) (.val (.tup (fl.map G2))) (.val (.tup (fl.map G2))):={_,rfl};have S:=Dj (p:=p) A
  have rV:(cW ps g L p).length<1000:=by
   have:=Di R g0 g1 A;have h2:=EQ (λc=>decide (Dom ps g c p)) L;rw[wX];unfold mu;lia
  have od:=zWL (zs:=cW ps g L p) (fl:=fl) S.nodup rV 'l' (λl hl=>by obtain⟨a,b⟩:=l;exact zWJ A S (mO W (by rw[<-dX];exact hl)) W) (by
   have q:fl.Pairwise λl m=>(mu ps g L l.1).length<(mu ps g L m.1).length:=by rw[dX];exact Nx A W
   refine q.imp_of_mem λ{l m} hl hmm h=>?_;have m1:l.1∈cW ps g L p:=(S.mem A).mpr (mO W (by rw[<-dX];exact hl)).tail;have m2:m.1∈cW ps g L p:=(S.mem A).mpr (mO W (by rw[<-dX];exact hmm)).tail;have i1:=I0.mpr m1;have i2:=I0.mpr m2
   exact S.lt (AE.mpr {i1,LN i1}) (AE.mpr {i2,LN i2}) h)
  have t9:j3 (Z2 (W0 (LD (zA0 5) [(AZ 9),(AZ 10)]))) (Z2 (W0 (LD qG [(gN aX [(g2 E8 (AZ 4) (AZ 8))]),(gN aX [(AZ 9)])]))) E3=.ok (AD,E3):=by
   rw[ZQ];refine Cc (yS (b:=AK) (kD (TQ (ds:=[.tup (fl.map G2),.tup (fl.map G2)]) rfl (zS7 'l')) rfl)) (yS (b:=AK) (kD (TQ (ds:=[.lst ((cW ps g L p).map D.int),.lst (fl.map G2)]) (QH (QX (KS (FN (x:=.dk (RE (aP ps g L) L)) (y:=.int p) rfl rfl (Gm (tL gF)))) rfl) rfl) od) rfl))
  refine{_,_,HB (E1:=E1) (by rw[X8];exact NO (TQ (ds:=[GD AO ps,.int g,.int p]) rfl ht) rfl) (UQ (E1:=E1) (by rw[X8];exact tn.trans (by rw[decide_eq_false (λz=>z gF)])) (HB (E1:=E2) (NO c1 (by rw[X8,Br];rfl)) (HB (E1:=E3) (NO (QX (KS sk) rfl) (by rw[Br,ZQ];rfl)) (UQ t9 (by rw[ZQ];rfl)))))}
end
theorem law_true:∀ns:List Int,ns.length<=63->∃b d',m_law [.val (.lst (ns.map D.int))]=.ok (b,.bl AK,d'):=by
 intro ns jE;obtain⟨c,ec⟩:=yBA ns;obtain⟨sc,Yz⟩:∃sc:D,sc=.lst (ns.map D.int):={_,rfl}
 have hcut:(X0 ns (AA 1) (AA 5)).length<=63:=by
  unfold X0;rw[EB,R9];lia
 obtain⟨E',e,u1,u2,u3,u4,u5,u6,u7,u8,u9,u10,rfl⟩:=fO (gi:=JS (g2 MZ (KM [(LD qJ [(AZ 0),(gC (.int 0))])]) (mR (AZ 0) (AA (gC (.int 1))) (AA (gC (.int 5)))))) (t:=.nm 1)
  (g:=(GA (IN (.tp [(.nm 2),(.nm 3)]) (pO qA (pP qI [(AZ 1),(gC (.int 0))]) [(gC (.int 24))]))
 (GA (IN (.nm 4) (LD qK [(AZ 2),(AZ 3)]))
 (GA (VH 5 (gC (.dt [])))
 (GA (RB (JS (g2 E8 (AZ 2) (gC (.int 1)))) (.nm 6) Hm)
 (RB (cI (g2 E8 (AZ 2) (gC (.int 0)))) (.nm 8) Hl)))))) (E:=[.val sc,.no,.no,.no,.no,.no,.no,.no,.no,.no,.no]) (E1:=[.val sc,.no,.no,.no,.no,.no,.no,.no,.no,.no,.no]) (ds:=(c::X0 ns (AA 1) (AA 5)).map D.int)
  (λi E=>∃u1 u2 u3 u4 u5 u6 u7 u8 u9 u10,E=[.val sc,u1,u2,u3,u4,u5,u6,u7,u8,u9,u10])
  (by
   rw[Yz];refine iK (FN (x:=.lst [.int c]) (y:=.lst ((X0 ns (AA 1) (AA 5)).map D.int)) (kG (KS (TQ (ds:=[.lst (ns.map D.int),.int 0]) rfl ec)) (show 1<10000 by decide)) ?_ ?_)
   .rw[<-zWM];rfl
   .exact Wm (by rw[AJ];show 1+_<10000;lia) rfl) {_,_,_,_,_,_,_,_,_,_,rfl}
  (λi x E hx hP=>by
   obtain⟨u1,u2,u3,u4,u5,u6,u7,u8,u9,u10,hE⟩:=hP;subst hE;rw[AV] at hx;obtain⟨n,_,rfl⟩:=BS.mp hx;refine{_,rfl,?_};obtain⟨w,ew,B⟩:=yAO n;obtain⟨AO,ps,BH,d',en,N,_,h0,h1,_⟩:=yAZ (EE:=24) B 'd' 'd' 'd';have R:=N.rg';have hm:=N.m2;have X6:=N.m1;obtain⟨L,A,et⟩:=zWC R hm h0 h1;have hL:=Di R h0 h1 A
   have s1:IN (.tp [(.nm 2),(.nm 3)]) (pO qA (pP qI [(AZ 1),(gC (.int 0))]) [(gC (.int 24))]) [.val sc,.val (.int n),u2,u3,u4,u5,u6,u7,u8,u9,u10]=.ok (.nx [.val sc,.val (.int n),.val (GD AO ps),.val (.int BH),u4,u5,u6,u7,u8,u9,u10]) :=
    NO (zVP (zVQ (ds:=[.int n,.int 0]) rfl ew) (KS (d:=.int 24) rfl) en) rfl
   have s2:IN (.nm 4) (LD qK [(AZ 2),(AZ 3)]) [.val sc,.val (.int n),.val (GD AO ps),.val (.int BH),u4,u5,u6,u7,u8,u9,u10]=.ok (.nx (pE sc n AO ps BH L u5 u6 u7 u8 u9 u10)):=NO (TQ (ds:=[GD AO ps,.int BH]) rfl et) rfl;have s3:VH 5 (gC (.dt [])) (pE sc n AO ps BH L u5 u6 u7 u8 u9 u10)=.ok (.nx (pE sc n AO ps BH L (.own AD (.dt [])) u6 u7 u8 u9 u10)):=bD (E':=pE sc n AO ps BH L u5 u6 u7 u8 u9 u10) (d:=.dt []) rfl;obtain⟨v6,v7,s4⟩:=yG0 (sc:=sc) (n:=n) (L:=L) (u6:=u6) (u7:=u7) (u8:=u8) (u9:=u9) (u10:=u10) N h0 h1 'l'
   obtain⟨E9,e9,v8,v9,rE,rfl⟩:=fO (gi:=cI (g2 E8 (AZ 2) (gC (.int 0)))) (t:=.nm 8) (g:=Hl) (E:=pE sc n AO ps BH L (.own AD (.dt (O8 (QG ps BH L) ps))) v6 v7 u8 u9 u10) (E1:=pE sc n AO ps BH L (.own AD (.dt (O8 (QG ps BH L) ps))) v6 v7 u8 u9 u10) (ds:=TX 0 AO.toNat)
    (λi E=>∃v8 v9 rE,E=pE sc n AO ps BH L (.own AD (.dt (O8 (QG ps BH L) ps))) v6 v7 v8 v9 rE) (Dn (FN (x:=GD AO ps) (y:=.int 0) rfl rfl rfl) {by lia,by lia}) {_,_,_,rfl} (λi x E hx hP=>by
    obtain⟨v8,v9,rE,rfl⟩:=hP;rw[Nc,AV] at hx;obtain⟨p,hp,rfl⟩:=BS.mp hx;obtain⟨p0,p1⟩:=VQ.mp (CC hp);obtain⟨w9,w10,er⟩:=yG1 (sc:=sc) (n:=n) (u6:=v6) (u7:=v7) (u9:=v9) (u10:=rE) N h0 h1 A p0 'l'
    exact{_,rfl,_,er,_,_,_,rfl})
   exact{_,HB s1 (HB s2 (HB s3 (HB s4 e9))),_,_,_,_,_,_,_,_,_,_,rfl})
 refine{AD,.non,?_};rw[<-Yz];exact RC (HB e (SD (d:=.bl AK) rfl)) rfl
structure FA(K:AC)(x:CN)(st:FC)(f:AR)(fd:JO):Prop where
 a:BV K BJ x=AA (AA (.ref f))
 F:Fun K x x st f fd
section
variable{K:AC}{st:FC}
theorem fa{kV dc:AI}{sl:Array (Option AI)}(a:BV K BJ x=AA (AA (.ref f)))(l:K.lookup f=AA {oc,od,.func (FL x x (fM st) (W7 st) (J7 st) .none kV dc pm an cd ct),sl})(c:JG K cd x=AK)(k:E6 K (.ref f)=AK):FA K x st f (FL x x (fM st) (W7 st) (J7 st) .none kV dc pm an cd ct):={a,Cz l c k}
theorem FA.cal{P:CO}{w:D2}{mg:CN->Option AI}{base h:D3}{ps:List CN}{k np:Nat}{m:Mr}(A:FA K x st f fd)(X:K.In h)(G:h.Ns BJ mg)(o:FnOk P w K mg base L6 k f fd ps (N7 K np m))(b:Binds K fd ps []):N8 P w K mg base x k np m:=Fun.cal A.F o (DL X G A.a) b
abbrev bA(x:CN)(st:FC)(us:List AI)(r:List (CN×AI)):Prop:=∀(kV SY pm:AI) (an:Option AR) (G3 ct:AI),OH (FL x x (fM st) (W7 st) (J7 st) .none kV SY pm an G3 ct) {us,[]}=pure r
theorem FA.b1{p:CN}(A:FA K x st f fd)(h:∀u,bA x st [u] [(p,u)]:=by exact λ_ _ _ _ _ _ _=>rfl):Binds K fd [p] []:=A.F.binds λ_ _ _ _ _ _ us hl=>by
 match us,hl with
 |[u],_=>exact h u _ _ _ _ _ _
theorem FA.b2{p:CN}(A:FA K x st f fd)(h:∀u v,bA x st [u,v] [(p,u),(q,v)]:=by exact λ_ _ _ _ _ _ _ _=>rfl):Binds K fd [p,q] []:=A.F.binds λ_ _ _ _ _ _ us hl=>by
 match us,hl with
 |[u,v],_=>exact h u v _ _ _ _ _ _
theorem FA.b3{p r:CN}(A:FA K x st f fd)(h:∀u v w,bA x st [u,v,w] [(p,u),(q,v),(r,w)]:=by exact λ_ _ _ _ _ _ _ _ _=>rfl):Binds K fd [p,q,r] []:=A.F.binds λ_ _ _ _ _ _ us hl=>by
 match us,hl with
 |[u,v,w],_=>exact h u v w _ _ _ _ _ _
theorem FA.b4{p r s:CN}(A:FA K x st f fd)(h:∀u v w z,bA x st [u,v,w,z] [(p,u),(q,v),(r,w),(s,z)]:=by exact λ_ _ _ _ _ _ _ _ _ _=>rfl):Binds K fd [p,q,r,s] []:=A.F.binds λ_ _ _ _ _ _ us hl=>by
 match us,hl with
 |[u,v,w,z],_=>exact h u v w z _ _ _ _ _ _
end
theorem all_mk{l:RO}{K:AC}{fa f0 f1 f2 f3 f4 f5 f6 f7 f8 f9 f10 f11 f12 f13 f14 f15 f16 f17 Mh f19 Mg:AR}{d0 d1 d2 d3 d4 d5 d6 d7 d8 d9 d10 d11 d12 lV eF d15 d16 d17 d19:JO}(X:K.In h)(G:h.Ns BJ mg)(hfa:mg "law"=AA (.ref fa))
  (x0:FA K "turned" Er f0 d0)
  (x1:FA K "without_lane" Gj f1 d1)
  (x2:FA K "next_places" zU f2 d2)
  (x3:FA K "_law_cell" Fw f3 d3)
  (x4:FA K "_law_well" Fv f4 d4)
  (x5:FA K "_law_take" Fu f5 d5)
  (x6:FA K "_law_reach" Ge f6 d6)
  (x7:FA K "_law_kinds" Gd f7 d7)
  (x8:FA K "_law_only" Ft f8 d8)
  (x9:FA K "_law_in_order" Gh f9 d9)
  (Il:FA K "lanes_away" Gc f10 d10)
  (Ik:FA K "_law_shuffled" Gg f11 d11)
  (Ij:FA K "least_way" Fq f12 d12)
  (Ii:FA K "reached_past" Gi f13 lV)
  (Ih:FA K "_law_net" Fj f14 eF)
  (Ig:FA K "reached" Fh f15 d15)
  (nP:FA K "must_lanes" zP f16 d16)
  (uL:FA K "_law_is" Fg f17 d17)
  (Ie:FA K "_law_told" Fp f19 d19)
  {Jm Mp:Option AR} {Iy:Array (Option AI)} {Jo Jv Ml Jc Mn Jg:AI}
  {pF T18:AR} {uP:Array AI} {Jk:Option AR} {Iw:Array (Option AI)}
  (Mq:BV K BJ "_law_table"=AA (AA (.ref Mh))) (Ys:K.lookup Mh=AA {Jo,Jm,.func (FL "_law_table" "_law_table" (fM qD) (W7 qD) (J7 qD) .none Jv Ml Jc Mp (.ref pF) Mn),Iy}) (c18:JG K (.ref pF) "_law_table"=AK) (k18:E6 K (.ref Mh)=AK) (n18:K.lookup pF=AA {Jg,Jk,.fields uP,Iw}) (r18:uP[11]?=AA (.ref T18))
  {Jl xL:Option AR} {Ix:Array (Option AI)} {Jn vT xE vD xG Jf:AI}
  {jI T20:AR} {uO:Array AI} {Jj:Option AR} {Iv:Array (Option AI)}
  (a20:BV K BJ "law"=AA (AA (.ref Mg))) (Yr:K.lookup Mg=AA {Jn,Jl,.func (FL "law" "law" (fM iF) (W7 iF) (J7 iF) .none vT xE vD xL (.ref jI) xG),Ix}) (c20:JG K (.ref jI) "law"=AK) (k20:E6 K (.ref Mg)=AK) (n20:K.lookup jI=AA {Jf,Jj,.fields uO,Iv}) (r20:uO[11]?=AA (.ref T20))
  {y0 y1 y2 y3 y4 y5 y6 y7 y8 y9 WA:AR} (yW:BV K BJ "WayError"=AA (AA (.ref WA))) (Xp:BV K BJ "NotReached"=AA (AA (.ref y0))) (ya1:BV K BJ "NoPaper"=AA (AA (.ref y1))) (ya2:BV K BJ "TooMany"=AA (AA (.ref y2))) (ya3:BV K BJ "NoSuch"=AA (AA (.ref y3))) (ya4:BV K BJ "NoLane"=AA (AA (.ref y4))) (ya5:BV K BJ "NoRound"=AA (AA (.ref y5))) (ya6:BV K BJ "NoText"=AA (AA (.ref y6))) (ya7:BV K BJ "NoRow"=AA (AA (.ref y7))) (ya8:BV K BJ "NoPlace"=AA (AA (.ref y8))) (ya9:BV K BJ "NothingLeft"=AA (AA (.ref y9)))
  (ye0:BQ K (.ref y0) (.ref y0)=AA AK) (ye1:BQ K (.ref y0) (.ref y1)=AA AD) (ye2:BQ K (.ref y0) (.ref y2)=AA AD) (ye3:BQ K (.ref y0) (.ref y3)=AA AD) (ye4:BQ K (.ref y0) (.ref y4)=AA AD) (ye5:BQ K (.ref y0) (.ref y5)=AA AD) (ye6:BQ K (.ref y0) (.ref y6)=AA AD) (ye7:BQ K (.ref y0) (.ref y7)=AA AD) (ye8:BQ K (.ref y0) (.ref y8)=AA AD) (ye9:BQ K (.ref y0) (.ref y9)=AA AD) (Ic:BQ K (.ref y0) (.type "ValueError")=AA AK) (yx:N2 K (.ref y0) (.ref WA)=AA AK) (yz:ExK K y0 [.type "ValueError",.type "Exception",.type "BaseException",.type "object"] "ValueError.__new__")
  (V0:BV K BJ "ValueError"=AA AN) (uK:BV K BJ "all"=AA AN) (nO:BV K BJ "bool"=AA AN) (XC:BV K BJ "enumerate"=AA AN) (VZ:BV K BJ "isinstance"=AA AN) (uJ:BV K BJ "len"=AA AN) (nN:BV K BJ "list"=AA AN) (uI:BV K BJ "min"=AA AN) (iX:BV K BJ "range"=AA AN) (YL:BV K BJ "reversed"=AA AN) (uH:BV K BJ "set"=AA AN) (cX:BV K BJ "sorted"=AA AN) (iW:BV K BJ "tuple"=AA AN) (uG:BV K BJ "zip"=AA AN) :
  ∃fd:JO,(∀(s:AT) (v:AI),UO s fd {[v],[]} [("script",v)])/\∀base:D3,K.In base->base.Ns BJ mg->CB K base->FnOk l.prog w K mg base L6 7 fa fd ["script"] (N7 K 1 m_law):=by
 have e:=hfa.symm.trans (DL X G a20);cases e;have T:Bt mg:={C1 X G V0,C1 X G uK,C1 X G nO,C1 X G XC,C1 X G VZ,C1 X G uJ,C1 X G nN,C1 X G uI,C1 X G iX,C1 X G YL,C1 X G uH,C1 X G cX,C1 X G iW,C1 X G uG};have Mu:=Cz (st:=qD) Ys c18 k18;have F20:=Cz (st:=iF) Yr c20 k20;refine{FL "law" "law" (fM iF) (W7 iF) (J7 iF) .none vT xE vD xL (.ref jI) xG,λs v=>.of_eq rfl,λbase _ _ cb=>?_};have uR:=tabIn_of Mq Ys rfl n18 r18;have uQ:=tabIn_of a20 Yr rfl n20 r20;have q0:=x0.cal X G (zSJ (P:=l.prog) (w:=w) (base:=base) x0.F T ) x0.b1;have q1:=x1.cal X G (zG9 (P:=l.prog) (w:=w) (base:=base) x1.F T ) x1.b2;have q2:=x2.cal X G (zHZ (P:=l.prog) (w:=w) (base:=base) x2.F T ) x2.b1;have q3:=x3.cal X G (zL4 (P:=l.prog) (w:=w) (base:=base) x3.F T ) x3.b2;have q4:=x4.cal X G (zL5 (P:=l.prog) (w:=w) (base:=base) x4.F T ) x4.b2;have q5:=x5.cal X G (zL6 (P:=l.prog) (w:=w) (base:=base) x5.F T ) x5.b2;have q6:=x6.cal X G (zJ7 (P:=l.prog) (w:=w) (base:=base) x6.F T ) x6.b3;have ts:TryS l.prog w K mg base y0 WA f7 [AK,AD,AD,AD,AD,AD,AD,AD,AD,AD,AK]:={ku x7.F T x7.b1 yz (DL X G Xp) ye0 (DL X G ya1) ye1 (DL X G ya2) ye2 (DL X G ya3) ye3 (DL X G ya4) ye4 (DL X G ya5) ye5 (DL X G ya6) ye6 (DL X G ya7) ye7 (DL X G ya8) ye8 (DL X G ya9) ye9 Ic,DL X G x7.a,x7.F.kp,DL X G yW,yx};have q8:=x8.cal X G (zL7 (P:=l.prog) (w:=w) (base:=base) x8.F T ) x8.b1;have q9:=x9.cal X G (zGC (P:=l.prog) (w:=w) (base:=base) x9.F T ) x9.b2;have Yi:=Il.cal X G (zJ8 (P:=l.prog) (w:=w) (base:=base) Il.F T q2) Il.b3;have q11:=Ik.cal X G (zGD (P:=l.prog) (w:=w) (base:=base) Ik.F T q5) Ik.b2;have Yh:=Ij.cal X G (zL8 (P:=l.prog) (w:=w) (base:=base) Ij.F T Yi q2 q0) Ij.b4;have q13:=Ii.cal X G (zHF (P:=l.prog) (w:=w) (base:=base) Ii.F T Yi) Ii.b3;have q14:=Ih.cal X G (zNL (P:=l.prog) (w:=w) (base:=base) Ih.F T q5 q11) Ih.b2;have Yg:=Ig.cal X G (zPR (P:=l.prog) (w:=w) (base:=base) Ig.F T q13) Ig.b2;have q16:=nP.cal X G (zJ9 (P:=l.prog) (w:=w) (base:=base) nP.F T Yh Yg q1) nP.b3;have MO:=pAO nP.F (zKA (P:=l.prog) (w:=w) (base:=base) nP.F T (DL X G Xp) yz.ex Yh Yg q1) (DL X G nP.a) nP.b3;have q17:N8 l.prog w K mg base "_law_is" 5 2 (zA0 5):=uL.cal X G (Th uL.F T (DL X G uL.a) uL.b2  5) uL.b2;have q18:=Fun.cal Mu (zKB (P:=l.prog) (w:=w) (base:=base) Mu T rfl (cb "_law_table" (by decide +kernel) _ _ uR) {"_law_table",_,by decide +kernel,uR,rfl} q6) (DL X G Mq) (FA.b2 {Mq,Mu});have q19:=Ie.cal X G (zMA (P:=l.prog) (w:=w) (base:=base) Ie.F T ts MO q16) Ie.b3;exact yEI F20 T rfl (cb "law" (by decide +kernel) _ _ uQ) {"law",_,by decide +kernel,uQ,rfl} q14 q18 q3 q4 q6 q19 q8 q17 q9
end My
namespace PySem.W.Fast
theorem tw13863744780937903454:True:=trivial
theorem tw3355163772513879009:True:=trivial
theorem tw5726069597842513634:True:=trivial
theorem tw16853637606187088644:True:=trivial
theorem tw9107809781936417436:True:=trivial
theorem tw16982067992697966784:True:=trivial
theorem tw18058900979646552022:True:=trivial
theorem tw388726947575956107:True:=trivial
theorem tw11501839393145328827:True:=trivial
theorem tw5643978910059912346:True:=trivial
theorem tw6473222410188924043:True:=trivial
theorem tw16930743250803135127:True:=trivial
theorem tw9859516277361584238:True:=trivial
theorem tw18202258943759337031:True:=trivial
theorem tw17859260056933292852:True:=trivial
theorem tw5850166438354655157:True:=trivial
theorem tw1464971334726879228:True:=trivial
theorem tw1546926857386090770:True:=trivial
theorem tw8382604540980575265:True:=trivial
theorem tw4972656512674396557:True:=trivial
theorem tw13819223214868247431:True:=trivial
theorem tw6815423445493654189:True:=trivial
theorem tw10068436599703285353:True:=trivial
theorem tw3451005688630934935:True:=trivial
theorem tw3659273222136475692:True:=trivial
theorem tw2800173513236713143:True:=trivial
theorem tw9510354831040913138:True:=trivial
theorem tw9489348578832386252:True:=trivial
theorem tw7848318436394069529:True:=trivial
theorem tw1551956279484505318:True:=trivial
theorem tw4116732816444809624:True:=trivial
theorem tw9985929657855743279:True:=trivial
theorem tw16439001230541374188:True:=trivial
theorem tw8146119321749913073:True:=trivial
theorem tw1616458814891965621:True:=trivial
theorem tw17124979431022670195:True:=trivial
theorem tw15862095089231950156:True:=trivial
theorem tw35864862773965624:True:=trivial
theorem tw1216908945994874424:True:=trivial
theorem tw7969667557488887030:True:=trivial
theorem tw8446550082854470325:True:=trivial
theorem tw15205564832485518456:True:=trivial
theorem tw7500223325018314477:True:=trivial
theorem tw12197665362151355390:True:=trivial
theorem tw8190373315520043866:True:=trivial
theorem tw16006297209769268899:True:=trivial
theorem tw7715511526965312958:True:=trivial
theorem tw13479781809097057108:True:=trivial
theorem tw2335767099824218691:True:=trivial
theorem tw10225503186799140942:True:=trivial
theorem tw1175489085683027899:True:=trivial
theorem tw7732796929513245618:True:=trivial
theorem tw11626067792647049691:True:=trivial
theorem tw12700006871690648668:True:=trivial
theorem tw17397209811795589176:True:=trivial
theorem tw8063459811872359633:True:=trivial
theorem tw17678613673743089278:True:=trivial
theorem tw17426499936351934708:True:=trivial
theorem tw8965809966586917067:True:=trivial
theorem tw13332623594387843282:True:=trivial
theorem tw3268960326765936932:True:=trivial
theorem tw6267362083536231734:True:=trivial
theorem tw8823847816192184594:True:=trivial
theorem tw4554646279853673106:True:=trivial
theorem tw10709309476738873942:True:=trivial
theorem tw2176607487047876541:True:=trivial
theorem tw7201506945527265710:True:=trivial
theorem tw18221736836475502605:True:=trivial
theorem tw2936355178600956725:True:=trivial
theorem tw15952003951320126081:True:=trivial
theorem tw7323208212958943620:True:=trivial
theorem tw14351383976528599781:True:=trivial
theorem tw9142174396486337787:True:=trivial
theorem tw4394163752532034239:True:=trivial
theorem tw16935251461568798577:True:=trivial
theorem tw14482720013742880335:True:=trivial
theorem tw9942052203539915035:True:=trivial
theorem tw15567875732533299457:True:=trivial
end PySem.W.Fast
open PySem PySem.W PyProof.Rows
set_option maxRecDepth 100000 in
set_option maxHeartbeats 0 in
theorem PySem.Challenge.cw_waymusts_k08_lanes_that_must_be_holds : PySem.Challenge.rw_waymusts_k08_lanes_that_must_be.Holds := by
 w_on;o_law;k_head;(case hw=>w_witness2)
 k_fill
 refine L2.walk_v (l:=PySem.Challenge.rw_waymusts_k08_lanes_that_must_be) (m:=My.m_law) (lv:=7) rfl rfl {rfl,by decide,by decide,rfl} (λw h Y=>PySem.W.km_in_of Y) ?tK My.law_true ?F
 case tK =>
  intro w;refine' L2.tabs5 ?h1 ?h2 ?h3 ?h4 ?h5 ?ap
  (case h1=>refine' .no ?z;(case z=>k_is))
  (case h2=>refine' L2.TabE.tab (L2.tabIn_of ?a ?l ?e ?m ?r) ?o ?d;(case a=>k_is);(case l=>k_is);(case e=>exact rfl);(case m=>k_is);(case r=>exact rfl);(case o=>kernel_rfl);(case d=>exact rfl))
  (case h3=>refine' .no ?z;(case z=>k_is))
  (case h4=>refine' .no ?z;(case z=>k_is))
  (case h5=>refine' L2.TabE.tab (L2.tabIn_of ?a ?l ?e ?m ?r) ?o ?d;(case a=>k_is);(case l=>k_is);(case e=>exact rfl);(case m=>k_is);(case r=>exact rfl);(case o=>kernel_rfl);(case d=>exact rfl))
  (case ap=>decide)
 case F =>
  intro w mg fa h KX G wI;refine' My.all_mk KX G wI ?_ ?_ ?_ ?_ ?_ ?_ ?_ ?_ ?_ ?_ ?_ ?_ ?_ ?_ ?_ ?_ ?_ ?_ ?_ ?_ ?_ ?_ ?_ ?_ ?r18 ?_ ?_ ?_ ?_ ?_ ?r20 ?_ ?_ ?_ ?_ ?_ ?_ ?_ ?_ ?_ ?_ ?_ ?_ ?_ ?_ ?_ ?_ ?_ ?_ ?_ ?_ ?_ ?_ ?_ ?_ ?_ ?_ ?_ ?_ ?_ ?_ ?_ ?_ ?_ ?_ ?_ ?_ ?_ ?_
  any_goals (refine' My.fa ?a ?l ?c ?k;(case a=>k_is);(case l=>k_is);(case c=>k_is);(case k=>k_is))
  any_goals k_is
  (case r18=>exact rfl)
  (case r20=>exact rfl)
  any_goals kernel_rfl
  any_goals (refine' L2.ExK.mk ?a ?_ ?_ ?_ ?_ ?_ ?_ ?_;(case a=>k_exc);all_goals k_is)
