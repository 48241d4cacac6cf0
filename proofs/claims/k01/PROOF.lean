import PyProof.Rows.All
import Wide.All
import OpenK.AllK
import Wide.FinOn
import Lean
import PyProof.EqAt
import PyProof.EqKinds
import PyProof.TupleCall
import KE.KSortKey
import KE.KDflt
import PyProof.Rows.SortRuns
import PyProof.DictCompW
import KE.KLam
import PyProof.Rows.StrRev
import PyProof.WalksMore
import PyProof.ReprRoads
import PyProof.CallStr
import PyProof.ReprLen
import PySem.Challenge.RW_waymusts_k01_what_is_a_net
set_option autoImplicit false
set_option linter.all false
set_option Elab.async false
set_option maxRecDepth 100000
set_option maxHeartbeats 8000000
namespace L2
open PySem PySem.Spec PyProof.Rows
abbrev Key:=Sum Int Str
noncomputable def zJU:Key->Value->Bool
 |.inl k,v=>Value.isInt k v
 |.inr x,v=>Value.isStrOf x v
noncomputable def yAG(w:World):Key->Int
 |.inl k=>hashInt k
 |.inr x=>hashStr w x
theorem zA2:∀{k:Key} {v:Value},zJU k v=true->(∃i t,k=Sum.inl i/\v=Value.int i t)\/(∃x t,k=Sum.inr x/\v=Value.str x t)
 |.inl i,v,h=>by
  obtain⟨t,e⟩:=Value.isInt_shape (k:=i) (v:=v) h
  exact .inl ⟨i,t,rfl,e⟩
 |.inr x,v,h=>by
  obtain⟨t,e⟩:=Value.isStrOf_shape (x:=x) (v:=v) h
  exact .inr ⟨x,t,rfl,e⟩
theorem zM1(i:Int)(t:Tok):zJU (.inl i) (.int i t)=true:=by simp[zJU,Value.isInt]
theorem zM2(x:Str)(t:Tok):zJU (.inr x) (.str x t)=true:=by simp[zJU,Value.isStrOf]
theorem zVK(a b:Int):decide ((Sum.inl a:Key)=Sum.inl b)=(a==b):=by
 by_cases e:a=b
 ·subst e;simp
 ·have h:¬(Sum.inl a:Key)=Sum.inl b:=λq=>e (Sum.inl.inj q)
  rw[decide_eq_false h]
  exact(beq_eq_false_iff_ne.mpr e).symm
theorem zVL(a b:Str):decide ((Sum.inr a:Key)=Sum.inr b)=decide (a=b):=by
 by_cases e:a=b
 ·subst e;simp
 ·have h:¬(Sum.inr a:Key)=Sum.inr b:=λq=>e (Sum.inr.inj q)
  rw[decide_eq_false h,decide_eq_false e]
theorem zVM(a:Int)(b:Str):decide ((Sum.inl a:Key)=Sum.inr b)=false:=decide_eq_false (λq=>nomatch q)
theorem zVN(a:Str)(b:Int):decide ((Sum.inr a:Key)=Sum.inl b)=false:=decide_eq_false (λq=>nomatch q)
noncomputable def zBN(prog:Program)(w:World):PySem.KeyKind prog w Key where
 is:=zJU
 hash:=yAG w
 inj:=λv a b ha hb=>by
  rcases zA2 ha with⟨i,t,rfl,rfl⟩|⟨x,t,rfl,rfl⟩
  ·rcases zA2 hb with⟨j,u,rfl,e⟩|⟨y,u,rfl,e⟩
   ·injection e with e1 _;rw[e1]
   ·exact nomatch e
  ·rcases zA2 hb with⟨j,u,rfl,e⟩|⟨y,u,rfl,e⟩
   ·exact nomatch e
   ·injection e with e1 _;rw[e1]
 byValue:=λk v h=>by
  rcases zA2 h with⟨i,t,rfl,rfl⟩|⟨x,t,rfl,rfl⟩<;>rfl
 pyHash:=λhv h=>by
  rcases zA2 hv with⟨i,t,rfl,rfl⟩|⟨x,t,rfl,rfl⟩
  ·exact wpAny_pyHash_int h
  ·exact wpAny_pyHash_str h
 eqBool:=λhu hv h=>by
  rcases zA2 hu with⟨i,t,rfl,rfl⟩|⟨x,t,rfl,rfl⟩
  ·rcases zA2 hv with⟨j,u,rfl,rfl⟩|⟨y,u,rfl,rfl⟩
   ·rw[zVK] at h;exact wpAny_eqBool_int h
   ·rw[zVM] at h;exact SeqAt.EqAt.int_str i t y u _ _ _ _ h
  ·rcases zA2 hv with⟨j,u,rfl,rfl⟩|⟨y,u,rfl,rfl⟩
   ·rw[zVN] at h;exact SeqAt.EqAt.str_int x t j u _ _ _ _ h
   ·rw[zVL] at h;exact wpAny_eqBool_str h
 «strs»:=λk x t v h=>by
  rcases zA2 h with⟨i,u,rfl,e⟩|⟨y,u,rfl,e⟩
  ·exact nomatch e
  ·injection e with e1 _
   subst e1
   cases v<;>rfl
theorem zGD(prog:Program)(w:World)(k:Key)(v:Value):(zBN prog w).is k v=zJU k v:=rfl
theorem zJV(prog:Program)(w:World)(i:Int)(t:Tok):(zBN prog w).is (.inl i) (.int i t)=true:=zM1 i t
theorem zJW(prog:Program)(w:World)(x:Str)(t:Tok):(zBN prog w).is (.inr x) (.str x t)=true:=zM2 x t
inductive V where
 |non|bl (b:Bool)|int (i:Int)|str (x:Str)|byt (b:Array UInt8)|flt (b:UInt64)|ref (a:Addr)|ty (n:String)
 deriving DecidableEq
def RelV:V->Value->Prop
 |.non,u=>u=Value.none
 |.bl b,u=>u=Value.bool b
 |.int i,u=>∃t,u=Value.int i t
 |.str x,u=>∃t,u=Value.str x t
 |.byt b,u=>∃t,u=Value.bytes b t
 |.flt b,u=>∃t,u=Value.float b t
 |.ref a,u=>u=Value.ref a
 |.ty n,u=>u=Value.type n
abbrev Vals:List V->List Value->Prop:=Paired RelV
theorem Vals.length{xs:List V}{us:List Value}(r:Vals xs us):xs.length=us.length:=Paired.length r
theorem Vals.get:∀{xs:List V} {us:List Value} {i:Nat} {x:V},Vals xs us->xs[i]?=some x->∃u,us[i]?=some u/\RelV x u
 |_,_,_,_,.nil,e=>by simp at e
 |_,_,0,_,.cons r _,e=>by simp at e;subst e;exact⟨_,rfl,r⟩
 |_,_,i+1,x,.cons _ t,e=>by
  obtain⟨u,h1,h2⟩:=Vals.get (i:=i) (x:=x) t (by simpa using e)
  exact⟨u,by simpa using h1,h2⟩
theorem Vals.set{x:V}{u:Value}(r:RelV x u):∀{xs:List V} {us:List Value} (i:Nat),Vals xs us->Vals (xs.set i x) (us.set i u)
 |_,_,_,.nil=>.nil
 |_,_,0,.cons _ t=>.cons r t
 |_,_,i+1,.cons q t=>.cons q (Vals.set r i t)
theorem Vals.append:∀{xs ys:List V} {us ws:List Value},Vals xs us->Vals ys ws->Vals (xs++ys) (us++ws)
 |_,_,_,_,.nil,s=>s
 |_,_,_,_,.cons r t,s=>.cons r (Vals.append t s)
theorem Vals.take:∀{xs:List V} {us:List Value} (n:Nat),Vals xs us->Vals (xs.take n) (us.take n)
 |_,_,0,_=>.nil
 |_,_,_+1,.nil=>.nil
 |_,_,n+1,.cons r t=>.cons r (Vals.take n t)
theorem Vals.drop:∀{xs:List V} {us:List Value} (n:Nat),Vals xs us->Vals (xs.drop n) (us.drop n)
 |_,_,0,r=>r
 |_,_,_+1,.nil=>.nil
 |_,_,n+1,.cons _ t=>Vals.drop n t
def RelO:Option V->Option Value->Prop
 |some v,some u=>RelV v u
 |none,none=>True
 |_,_=>False
def KV{κ:Type}:List (κ×V)->List (κ×Value)->Prop:=Paired λ(p:κ×V) (q:κ×Value)=>p.1=q.1/\RelV p.2 q.2
noncomputable def kV:Key->V
 |.inl i=>.int i
 |.inr x=>.str x
inductive HO where
 |lst (xs:List V)
 |tup (xs:List V)
 |dK (kvs:List (Key×V))|dT (kvs:List (List Key×V))
 |set (S:Int->Bool) (n:Nat)
 |ins (C dx:Addr) (fs:List (Str×V))
 |own (x:Addr)
 |xd (fs:List (Str×V))
 |met (f x:Addr)
 |rng (lo hi:Int)
 |frz (o:Obj) (u:HO)
 |tbl (q:Str) (ps:Array Value)
 |ext (φ:Heap->Prop)
abbrev Hp:=Addr->Option HO
noncomputable def upd(H:Hp)(a:Addr)(o:HO):Hp:=λb=>if b=a then some o else H b
theorem zAN{H:Hp}{a:Addr}{o:HO}:upd H a o a=some o:=by unfold upd;rw[if_pos rfl]
theorem zAL{H:Hp}{a b:Addr}{o:HO}(h:b≠a):upd H a o b=H b:=by unfold upd;rw[if_neg h]
theorem zX8{H:Hp}{a b:Addr}{o u:HO}(h:H a=some o)(h':H b=some u)(d:o≠u):a≠b:=by
 intro e;subst e;rw[h] at h';exact d (Option.some.inj h')
theorem zBY{H:Hp}{a b:Addr}{o:HO}(h:H a=some o)(h':H b=none):a≠b:=by
 intro e;subst e;rw[h] at h';cases h'
def IsTupP(h:Heap)(a:Addr)(items:Array Value):Prop:=∃o,h.get? a=some o/\o.cls=.type "tuple"/\o.dict=none/\∃n,o.data=.seq items n
theorem IsTupP.isTup{h:Heap}{a:Addr}{items:Array Value}(p:IsTupP h a items):IsTup h a items:=let ⟨o,e,c,_,n⟩:=p;⟨o,e,c,n⟩
theorem IsTupP.new(h:Heap)(items:Array Value):IsTupP (h.push { cls:=.type "tuple",data:=.seq items }) h.objs.size items:=⟨_,Heap.get?_push_size _ rfl,rfl,rfl,_,rfl⟩
section
variable(P:Program)(w:World)
def ObjOk(H:Hp)(h:Heap)(a:Addr):HO->Prop
 |.lst xs=>xs.length<=sizeLine/\∃(its:List Value) (n:Nat),Vals xs its/\h.get? a=some { cls:=.type "list",data:=.seq its.toArray n }
 |.tup xs=>xs.length<=sizeLine/\∃its:List Value,Vals xs its/\IsTupP h a its.toArray
 |.dK kvs=>kvs.length<=sizeLine/\(a==sysModules)=false/\∃vs,KV kvs vs/\h.DictOf (zBN P w) a vs
 |.dT kvs=>kvs.length<=sizeLine/\(a==sysModules)=false/\∃xs:List (List Key×Addr×Value),
   Paired (λ(p:List Key×V) (q:List Key×Addr×Value)=>p.1=q.1/\H q.2.1=some (.tup (p.1.map kV))/\RelV p.2 q.2.2) kvs xs /\
   ∃o es ep,h.get? a=some o/\o.ExactDict/\o.data=.dict es ep/\es.toList=xs.map (entryOfKey (tupleKind (zBN P w)))/\(xs.map (·.1)).Nodup
 |.set S n=>h.SetOf (intKind P w) a S n
 |.ins C dx fs=>H dx=some (.own a)/\fs.length<=1000/\dx≠a/\h.get? a=some (PySem.W.instObj C dx) /\
   ∃mA,h.Ns1 dx mA/\(∀f,RelO (fs.lookup f) (mA f))/\PySem.Within mA (fs.map (·.1))
 |.own _=>∃o,h.get? a=some o
 |.xd fs=>∃mA,h.Ns1 a mA/\∀f,RelO (fs.lookup f) (mA f)
 |.rng lo hi=>∃t u v,h.get? a=some { cls:=.type "range",data:=.fields #[.int lo t,.int hi u,.int 1 v] }
 |.frz o u=>h.get? a=some o/\ObjOk H h a u
 |.tbl q ps=>h.get? a=some { cls:=.none,data:=.fields ps }/\TriplesOk ps.toList/\∀pos cv,codeAmong pos ps.toList=some cv->∃c' o vs t,cv=.ref c'/\H c'=some (.frz o (.own c'))/\o.data=.fields vs/\vs[1]?=some (.str q t)
 |.met f x=>h.get? a=some (PySem.W.methodObj (.ref f) (.ref x))
 |.ext φ=>φ h/\(∃o,h.get? a=some o)/\∀h1 h2:Heap,φ h1->(∀o,h1.get? a=some o->h2.get? a=some o)->φ h2
def HOk(H:Hp)(h:Heap):Prop:=∀a o,H a=some o->ObjOk P w H h a o
end
section
variable{P:Program}{w:World}{H H':Hp}{h h':Heap}{a:Addr}{o:HO}
theorem ObjOk.lt(x:ObjOk P w H h a o):a<h.objs.size:=by
 cases o with
 |lst xs=>obtain⟨_,_,_,_,e⟩:=x;exact Heap.lt_size e
 |tup xs=>obtain⟨_,_,_,p⟩:=x;exact p.isTup.lt
 |dK kvs=>obtain⟨_,_,_,_,o,_,_,e,_⟩:=x;exact Heap.lt_size e
 |dT kvs=>obtain⟨_,_,_,_,o,_,_,e,_⟩:=x;exact Heap.lt_size e
 |set S n=>obtain⟨o,_,_,_,e,_⟩:=x;exact Heap.lt_size e
 |ins C dx fs=>obtain⟨_,_,_,e,_⟩:=x;exact Heap.lt_size e
 |own y=>obtain⟨_,e⟩:=x;exact Heap.lt_size e
 |xd fs=>obtain⟨_,⟨_,_,_,e,_⟩,_⟩:=x;exact Heap.lt_size e
 |rng lo hi=>obtain⟨_,_,_,e⟩:=x;exact Heap.lt_size e
 |frz ob u=>obtain⟨e,_⟩:=x;exact Heap.lt_size e
 |tbl q ps=>exact Heap.lt_size x.1
 |met f y=>exact Heap.lt_size (show h.get? a=some _ from x)
 |ext φ=>obtain⟨_,⟨_,e⟩,_⟩:=x;exact Heap.lt_size e
theorem Paired.mapP{α β:Type}{F G:α->β->Prop}:∀{l₁:List α} {l₂:List β},Paired F l₁ l₂->(∀a b,F a b->G a b)->Paired G l₁ l₂
 |_,_,.nil,_=>.nil
 |_,_,.cons r t,f=>.cons (f _ _ r) (Paired.mapP t f)
theorem ObjOk.stay(x:ObjOk P w H h a o)(k:∀b u,(b=a\/H b=some (.own a))->h.get? b=some u->h'.get? b=some u)
  (ho:∀b,H b=some (.own a)->H' b=some (.own a)) (ht:∀b xs,H b=some (.tup xs)->H' b=some (.tup xs)) (hf:∀b o x,H b=some (.frz o (.own x))->H' b=some (.frz o (.own x))):ObjOk P w H' h' a o:=by
 induction o with
 |lst xs=>obtain⟨z,its,n,r,e⟩:=x;exact⟨z,its,n,r,k _ _ (.inl rfl) e⟩
 |tup xs=>obtain⟨z,its,r,ob,e,c⟩:=x;exact⟨z,its,r,ob,k _ _ (.inl rfl) e,c⟩
 |dK kvs=>obtain⟨z,y,vs,r,ob,es,ep,e,c⟩:=x;exact⟨z,y,vs,r,ob,es,ep,k _ _ (.inl rfl) e,c⟩
 |dT kvs =>
  obtain⟨z,y,xs,r,ob,es,ep,e,c⟩:=x
  exact⟨z,y,xs,Paired.mapP r λp q z=>⟨z.1,ht _ _ z.2.1,z.2.2⟩,ob,es,ep,k _ _ (.inl rfl) e,c⟩
 |set S n=>obtain⟨ob,es,ep,t,e,c⟩:=x;exact⟨ob,es,ep,t,k _ _ (.inl rfl) e,c⟩
 |ins C dx fs =>
  obtain⟨d,z,ne,e,mA,⟨od,es,ep,e2,c⟩,r⟩:=x
  exact⟨ho _ d,z,ne,k _ _ (.inl rfl) e,mA,⟨od,es,ep,k _ _ (.inr d) e2,c⟩,r⟩
 |own y=>obtain⟨ob,e⟩:=x;exact⟨ob,k _ _ (.inl rfl) e⟩
 |xd fs=>obtain⟨mA,⟨od,es,ep,e,c⟩,r⟩:=x;exact⟨mA,⟨od,es,ep,k _ _ (.inl rfl) e,c⟩,r⟩
 |rng lo hi=>obtain⟨t,u,v,e⟩:=x;exact⟨t,u,v,k _ _ (.inl rfl) e⟩
 |frz ob u ih=>obtain⟨e,q⟩:=x;exact⟨k _ _ (.inl rfl) e,ih q⟩
 |tbl q ps =>
  obtain⟨e,tr,al⟩:=x
  refine⟨k a _ (.inl rfl) e,tr,λpos cv z=>?_⟩
  obtain⟨c',o,vs,t,r1,r2,r3⟩:=al pos cv z
  exact⟨c',o,vs,t,r1,hf _ _ _ r2,r3⟩
 |met f y =>
  have e:h.get? a=some (PySem.W.methodObj (.ref f) (.ref y)):=x
  show h'.get? a=some (PySem.W.methodObj (.ref f) (.ref y))
  exact k a _ (.inl rfl) e
 |ext φ=>obtain⟨p,⟨o,e⟩,st⟩:=x;exact⟨st _ _ p λo q=>k _ _ (.inl rfl) q,⟨o,k _ _ (.inl rfl) e⟩,st⟩
theorem HOk.lt(x:HOk P w H h)(e:H a=some o):a<h.objs.size:=(x a o e).lt
theorem HOk.fresh(x:HOk P w H h)(e:h.objs.size<=a):H a=none:=by
 cases q:H a with
 |none=>rfl
 |some u=>exact absurd (Nat.lt_of_lt_of_le (x.lt q) e) (Nat.lt_irrefl _)
theorem HOk.kept(x:HOk P w H h)(k:∀b u,h.get? b=some u->h'.get? b=some u):HOk P w H h':=λa o e =>
 (x a o e).stay (λb u _ q=>k b u q) (λ_ q=>q) (λ_ _ q=>q) λ_ _ _ q=>q
theorem HOk.laid(x:HOk P w H h)(k:∀b u,h.get? b=some u->h'.get? b=some u)(hp:h.objs.size<=a)(new:ObjOk P w (upd H a o) h' a o):HOk P w (upd H a o) h':=λb u e=>by
 have hn:=x.fresh hp
 by_cases hb:b=a
 ·subst hb;rw[zAN] at e;cases e;exact new
 ·rw[zAL hb] at e
  exact(x b u e).stay (λc v _ q=>k c v q) (λc q=>by rw[zAL (zBY q hn)];exact q) (λc xs q=>by rw[zAL (zBY q hn)];exact q) λc o x q=>by rw[zAL (zBY q hn)];exact q
end
def Rd(H:Hp)(a:Addr)(u:HO):Prop:=H a=some u\/∃o,H a=some (.frz o u)
theorem Rd.ok{P:Program}{w:World}{H:Hp}{h:Heap}{a:Addr}{u:HO}(r:Rd H a u)(x:HOk P w H h):ObjOk P w H h a u:=by
 rcases r with r|⟨o,r⟩
 ·exact x a u r
 ·obtain⟨_,q⟩:=x a _ r
  exact q
def Mut:Option HO->Prop
 |some (.lst _)=>True
 |some (.dK _)=>True
 |some (.dT _)=>True
 |some (.set _ _)=>True
 |some (.ins _ _ _)=>True
 |some (.ext _)=>True
 |_=>False
section
variable{P:Program}{w:World}{H:Hp}{h h':Heap}{x e:Addr}{o':HO}
theorem HOk.write(ok:HOk P w H h)(mu:Mut (H x))(he:e=x\/H e=some (.own x))(k:∀b u,b≠e->h.get? b=some u->h'.get? b=some u)(heo:∃u,h'.get? e=some u)
  (new:ObjOk P w (upd H x o') h' x o'):HOk P w (upd H x o') h':=λb u q=>by
 have nown:∀c y,H c=some (.own y)->c≠x:=λc y r z=>by subst z;rw[r] at mu;exact mu
 have ntup:∀c xs,H c=some (.tup xs)->c≠x:=λc xs r z=>by subst z;rw[r] at mu;exact mu
 have nfrz:∀c o y,H c=some (.frz o (.own y))->c≠x:=λc o y r z=>by subst z;rw[r] at mu;exact mu
 by_cases hb:b=x
 ·subst hb;rw[zAN] at q;cases q;exact new
 ·rw[zAL hb] at q
  by_cases hbe:b=e
  ·have q':H b=some (.own x):=by
    rcases he with z|z
    ·exact absurd (hbe.trans z) hb
    ·rw[hbe];exact z
   rw[q] at q';cases q'
   obtain⟨v,hv⟩:=heo
   exact⟨v,by rw[hbe];exact hv⟩
  ·refine(ok b u q).stay (λc v hc r=>k c v ?_ r) (λc r=>by rw[zAL (nown c b r)];exact r) (λc xs r=>by rw[zAL (ntup c xs r)];exact r) λc o y r=>by rw[zAL (nfrz c o y r)];exact r
   rcases hc with rfl|hc
   ·exact hbe
   ·rintro rfl
    rcases he with z|z
    ·exact nown c b hc z
    ·rw[hc] at z;cases z;exact hb rfl
end
structure Un(fs ex:List Addr)(H H':Hp)(h h':Heap):Prop where
 keep:∀b o,h.get? b=some o->H b=none->b∉fs->b∉ex->h'.get? b=some o
 slot:∀b o,h.get? b=some o->H b=none->b∈fs->b∉ex->∃sl,h'.get? b=some { o with slots:=sl }
 free:∀b o,h.get? b=some o->H b=none->b∉ex->H' b=none
 there:∀b o,h.get? b=some o->b∉ex->∃o',h'.get? b=some o'
 tups:∀b xs,H b=some (.tup xs)->H' b=some (.tup xs)
 frzs:∀b o u,H b=some (.frz o u)->H' b=some (.frz o u)
 tbls:∀b t ps,H b=some (.tbl t ps)->∃more,H' b=some (.tbl t (ps++more))
section
variable{fs fs' ex ex':List Addr}{H H1 H2:Hp}{h h1 h2 h':Heap}{a x e:Addr}{o:HO}
theorem Un.any(u:Un fs ex H H1 h h1){b:Addr}{ob:Obj}(q:h.get? b=some ob)(n:H b=none)(hx:b∉ex):∃sl,h1.get? b=some { ob with slots:=sl }:=by
 by_cases hb:b∈fs
 ·exact u.slot b ob q n hb hx
 ·exact⟨ob.slots,u.keep b ob q n hb hx⟩
theorem Un.kept(k:∀b u,h.get? b=some u->h'.get? b=some u):Un fs ex H H h h' :=
 ⟨λb ob q _ _ _=>k b ob q,λb ob q _ _ _=>⟨ob.slots,k b ob q⟩,λ_ _ _ n _=>n,λb ob q _=>⟨ob,k b ob q⟩,λ_ _ q=>q,λ_ _ _ q=>q,λ_ _ ps q=>⟨#[],by rw[q];simp⟩⟩
theorem Un.refl:Un fs ex H H h h:=Un.kept λ_ _ q=>q
theorem Un.laid(k:∀b u,h.get? b=some u->h'.get? b=some u)(hp:h.objs.size<=a)(hn:H a=none):Un fs ex H (upd H a o) h h' where
 keep:=λb u q _ _ _=>k b u q
 slot:=λb u q _ _ _=>⟨u.slots,k b u q⟩
 free:=λb u q n _=>by rw[zAL (Nat.ne_of_lt (Nat.lt_of_lt_of_le (Heap.lt_size q) hp))];exact n
 there:=λb u q _=>⟨u,k b u q⟩
 tups:=λb xs q=>by rw[zAL (zBY q hn)];exact q
 frzs:=λb u xs q=>by rw[zAL (zBY q hn)];exact q
 tbls:=λb t ps q=>⟨#[],by rw[zAL (zBY q hn),q];simp⟩
theorem Un.write(mu:Mut (H x))(he:e=x\/H e=some (.own x))(k:∀b u,b≠e->h.get? b=some u->h'.get? b=some u)(heo:∃u,h'.get? e=some u):Un fs ex H (upd H x o) h h':=by
 have hx:∀b,H b=none->b≠x:=λb n z=>by subst z;rw[n] at mu;exact mu
 have hb:∀b,H b=none->b≠e:=λb n z=>by
  subst z
  rcases he with r|r
  ·exact hx b n r
  ·rw[n] at r;cases r
 have hm:∀b u,H b=some u->¬Mut (some u)->b≠x:=λb u q nm z=>by subst z;rw[q] at mu;exact nm mu
 refine⟨λb u q n _ _=>k b u (hb b n) q,λb u q n _ _=>⟨u.slots,k b u (hb b n) q⟩,λb u q n _=>by rw[zAL (hx b n)];exact n,λb u q _=>?_,
  λb xs q=>by rw[zAL (hm b _ q λz=>z)];exact q,λb u xs q=>by rw[zAL (hm b _ q λz=>z)];exact q,λb t ps q=>⟨#[],by rw[zAL (hm b _ q λz=>z),q];simp⟩⟩
 by_cases hbe:b=e
 ·subst hbe;exact heo
 ·exact⟨u,k b u hbe q⟩
end
noncomputable def trk(h:Heap)(H:Hp):List Addr:=(List.range h.objs.size).filter λa=>(H a).isSome
noncomputable def zPS(h:Heap)(H:Hp):Heap:=PySem.W.hideAll h (trk h H)
theorem zM3(h:Heap)(H:Hp):(zPS h H).objs.size=h.objs.size:=PySem.W.hideAll_size _ _
theorem zPW{h:Heap}{H:Hp}{b:Addr}{o:Obj}(e:h.get? b=some o)(n:H b=none):(zPS h H).get? b=some o :=
 PySem.W.hideAll_get _ e λhm=>by
  have q:(H b).isSome=true:=(List.mem_filter.mp hm).2
  rw[n] at q;simp at q
theorem zSS{h:Heap}{H:Hp}{b:Addr}{o:Obj}(e:(zPS h H).get? b=some o):h.get? b=some o/\H b=none:=by
 have e':h.get? b=some o:=PySem.W.of_hideAll (trk h H) e
 refine⟨e',?_⟩
 cases q:H b with
 |none=>rfl
 |some x =>
  have hm:b∈trk h H:=List.mem_filter.mpr ⟨List.mem_range.mpr (Heap.lt_size e'),by simp[q]⟩
  have z:(zPS h H).get? b=none:=PySem.W.hideAll_none (trk h H) hm
  rw[z] at e;cases e
noncomputable def zST(g h:Heap)(L:Addr):List (Addr×Obj):=(List.range h.objs.size).filterMap λa=>if a=L\/(g.get? a).isSome=true then none else(h.get? a).map λo=>(a,o)
noncomputable def rest(g h:Heap)(L d:Addr):List (Addr×Obj):=(zST g h L).filter λp=>decide (p.1≠d)
structure Mod(K:PySem.W.Frag)(mg:Str->Option Value)(base:Heap):Prop where
 kin:K.In base
 glob:base.Ns mainGlobals mg
 blt:∃mb,base.Ns builtinsNs mb/\∀x:Str,x≠"__name__"->mb x=bootBuiltins x
 nolimit:base.NoLimit
 bmain:∃bm ob,mg "__builtins__"=some (.ref bm)/\bm≠builtinsNs/\base.get? bm=some ob/\ob.cls=.type "module"/\ob.dict=some builtinsNs/\ob.data=.plain
structure Cx where
 prog:Program
 w:World
 K:PySem.W.Frag
 mg:Str->Option Value
 base:Heap
 A:Around
 N:List Str
 s₀:Shared
 H₀:Hp
 env:Env
 outer:List Env
 stack:List Env
 ex:List Addr
 fn:Str->Bool
 calm:Bool
 pn:List (Addr×Obj)
 xe:Value->Shared->Prop
noncomputable def frs(l:List Env):List Addr:=l.filterMap (·.frame)
noncomputable abbrev Cx.fs(X:Cx):List Addr:=frs X.outer
def Vis(sc:Scope)(x:Str):Prop:=sc.names.lookup x=some .local\/sc.names.lookup x=some .cell\/sc.names.lookup x=some .free
def Loc(sc:Scope)(x:Str):Prop:=sc.names.lookup x=some .local\/sc.names.lookup x=some .cell
def yAH(env:Env)(h:Heap)(m:Str->Option Value)(x:Str)(u:Value):Prop :=
 (env.kindOf x=some .local/\m x=some u)\/((env.kindOf x=some .cell\/env.kindOf x=some .free)/\∃c,env.cells.lookup x=some c/\h.IsCell c (some u))
noncomputable def zCH:List Str:=["holders","_law_table","_law_back","_law_kept_right"]
def TB(K:PySem.W.Frag)(T:Addr)(q:Str):Prop:=∃x c,x∈zCH/\PySem.W.tabIn K x=some (c,T)/\q=x++(".<locals>.<lambda>":Str)
structure Cx.Ok(X:Cx):Prop where
 tab:∀T q,TB X.K T q->∃ps,X.H₀ T=some (.tbl q ps)
 mod:Mod X.K X.mg X.base
 kind:X.env.scope.kind=.function
 glob:X.env.globals=mainGlobals
 blt:X.env.builtins=builtinsNs
 above:X.s₀.heap.objs.size<=X.env.locals
 inj:∀x y c,X.env.cells.lookup x=some c->X.env.cells.lookup y=some c->x=y
 has:∀x,(X.env.kindOf x=some .cell\/X.env.kindOf x=some .free)->∃c,X.env.cells.lookup x=some c
 cab:∀x c,X.fn x=true->X.env.cells.lookup x=some c->X.s₀.heap.objs.size<=c
 hd:X.calm=true->X.A.handled=none
 frames:X.A.frames=some X.stack
 stk:X.stack=X.outer\/(X.stack=X.env::X.outer/\X.env.frame=some X.env.locals)
 exf:∀b∈X.ex,b≠X.env.locals/\∀x c,X.env.cells.lookup x=some c->c≠b
 bs:∀b o,X.base.get? b=some o->X.s₀.heap.get? b=some o/\X.H₀ b=none
 bsz:X.base.objs.size<=X.s₀.heap.objs.size
 noex:∀b o,X.base.get? b=some o->b∉X.ex
 exfs:∀b∈X.ex,b∉X.fs
 funs:X.s₀.heap.FunFrames X.base X.outer
 frf:∀b∈X.fs,X.H₀ b=none
structure Inv(X:Cx)(pins:List (Addr×Obj))(σ:List (Option V))(H:Hp)(s:Shared):Prop where
 ok:X.Ok
 os:s.os=X.s₀.os
 bare:AllBare s.gens
 base:Un X.fs X.ex X.H₀ H X.s₀.heap s.heap
 loc:∃m,s.heap.Ns X.env.locals m/\∀(i:Nat) (x:Str) (v:V),X.N[i]?=some x->σ[i]?=some (some v)->Vis X.env.scope x->∃u,RelV v u/\yAH X.env s.heap m x u
 cell:∀x c,X.env.cells.lookup x=some c->∃v,s.heap.IsCell c v
 free:H X.env.locals=none
 freeC:∀x c,X.env.cells.lookup x=some c->H c=none
 pin:∀p∈X.pn++pins,s.heap.get? p.1=some p.2/\H p.1=none/\p.1≠X.env.locals/\p.1∉X.fs/\∀v,p.2.data≠.cell v
 hok:HOk X.prog X.w H s.heap
 len:σ.length=X.N.length
section
variable{X:Cx}{pins:List (Addr×Obj)}{σ:List (Option V)}{H H':Hp}{s:Shared}{h':Heap}
theorem Cx.Ok.nofr(ok:X.Ok){b:Addr}{o:Obj}(e:X.base.get? b=some o):b∉X.fs:=λhb=>by
 have:=(ok.funs.mem hb).1
 rw[e] at this;cases this
theorem Inv.bs(I:Inv X pins σ H s):∀b o,X.base.get? b=some o->s.heap.get? b=some o/\H b=none:=λb o e =>
 ⟨I.base.keep b o (I.ok.bs b o e).1 (I.ok.bs b o e).2 (I.ok.nofr e) (I.ok.noex b o e),I.base.free b o (I.ok.bs b o e).1 (I.ok.bs b o e).2 (I.ok.noex b o e)⟩
theorem Inv.bk(I:Inv X pins σ H s):∀b o,X.base.get? b=some o->s.heap.get? b=some o:=λb o e=>(I.bs b o e).1
theorem Inv.tab(I:Inv X pins σ H s):∀T q,TB X.K T q->∃ps,H T=some (.tbl q ps):=λT q b=>by
 obtain⟨ps,e⟩:=I.ok.tab T q b
 obtain⟨m,e'⟩:=I.base.tbls T q ps e
 exact⟨_,e'⟩
theorem Inv.mod(I:Inv X pins σ H s):Mod X.K X.mg X.base:=I.ok.mod
theorem Inv.kIn(I:Inv X pins σ H s):X.K.In s.heap:=I.ok.mod.kin.keeps I.bk
theorem Inv.lt(I:Inv X pins σ H s):X.env.locals<s.heap.objs.size:=let ⟨_,hn,_⟩:=I.loc;hn.lt
theorem Inv.sz(I:Inv X pins σ H s):X.s₀.heap.objs.size<=s.heap.objs.size:=Nat.le_trans I.ok.above (Nat.le_of_lt I.lt)
theorem Inv.nofs(I:Inv X pins σ H s){a:Addr}(h:s.heap.objs.size<=a):a∉X.fs:=λhb=>by
 obtain⟨_,o,ho,_⟩:=I.ok.funs.mem hb
 exact absurd (Nat.lt_of_lt_of_le (Heap.lt_size ho) (Nat.le_trans I.sz h)) (Nat.lt_irrefl _)
theorem Inv.cne(I:Inv X pins σ H s):∀x c,X.env.cells.lookup x=some c->c≠X.env.locals:=λx c e z=>by
 obtain⟨v,o,ho,hd⟩:=I.cell x c e
 obtain⟨m,⟨o',es,ep,ho',hd',_⟩,_⟩:=I.loc
 rw[z,ho'] at ho;cases ho;rw[hd'] at hd;cases hd
theorem Inv.funs(I:Inv X pins σ H s):s.heap.FunFrames X.base X.outer:=by
 have all:∀(l:List Env),(∀b∈frs l,b∈X.fs)->X.s₀.heap.FunFrames X.base l->s.heap.FunFrames X.base l:=by
  intro l
  induction l with
  |nil=>intro _ _;trivial
  |cons env r ih =>
   intro hs hl
   obtain⟨hk,⟨L,o,hf,hn,ho,hd⟩,hr⟩:=hl
   have hL:L∈X.fs:=hs L (by unfold frs;rw[List.filterMap_cons,hf];exact List.mem_cons_self)
   obtain⟨sl,e⟩:=I.base.slot L o ho (I.ok.frf L hL) hL λz=>I.ok.exfs L z hL
   exact⟨hk,⟨L,_,hf,hn,e,hd⟩,ih (λb hb=>hs b (by unfold frs;rw[List.filterMap_cons,hf];exact List.mem_cons_of_mem _ hb)) hr⟩
 exact all X.outer (λ_ hb=>hb) I.ok.funs
theorem Inv.stack(I:Inv X pins σ H s):s.heap.FunFrames X.base X.stack:=by
 rcases I.ok.stk with e|⟨e,hf⟩
 ·rw[e];exact I.funs
 ·rw[e]
  obtain⟨m,hn,_⟩:=I.loc
  refine .cons (by rw[I.ok.kind];decide) hf hn ?_ I.funs
  exact Heap.get?_none_of_le (Nat.le_trans I.ok.bsz I.ok.above)
theorem Inv.stkSub(I:Inv X pins σ H s):∀b∈frs X.stack,b∈X.env.locals::X.fs:=λb hb=>by
 rcases I.ok.stk with e|⟨e,hf⟩
 ·rw[e] at hb;exact List.mem_cons_of_mem _ hb
 ·rw[e] at hb
  unfold frs at hb
  rw[List.filterMap_cons,hf] at hb
  exact hb
theorem Inv.stkFree(I:Inv X pins σ H s):∀b∈frs X.stack,H b=none:=λb hb=>by
 rcases List.mem_cons.mp (I.stkSub b hb) with e|hb
 ·rw[e];exact I.free
 ·obtain⟨_,o,ho,_⟩:=I.ok.funs.mem hb
  exact I.base.free b o ho (I.ok.frf b hb) λz=>I.ok.exfs b z hb
theorem Inv.step{g':Array GenState}{t':Nat}{d':Drawn}{ch:List Addr}(I:Inv X pins σ H s)
  (hch:∀b∈ch,(b∈X.ex\/X.s₀.heap.objs.size<=b)/\b≠X.env.locals/\(∀x c,X.env.cells.lookup x=some c->c≠b)/\∀p∈X.pn++pins,p.1≠b)
  (keep:∀b o,b≠X.env.locals->b∉X.fs->b∉ch->s.heap.get? b=some o->H b=none->h'.get? b=some o)
  (slot:∀b o,b≠X.env.locals->b∈X.fs->b∉ch->s.heap.get? b=some o->H b=none->∃sl,h'.get? b=some { o with slots:=sl }) (free:∀b o,b∉ch->s.heap.get? b=some o->H b=none->H' b=none)
  (there:∀b o,b∉ch->s.heap.get? b=some o->∃o',h'.get? b=some o')
  (tups:∀b xs,H b=some (.tup xs)->H' b=some (.tup xs)) (frzs:∀b o u,H b=some (.frz o u)->H' b=some (.frz o u)) (tbls:∀b t ps,H b=some (.tbl t ps)->∃more,H' b=some (.tbl t (ps++more)))
  (ns:∀m,s.heap.Ns X.env.locals m->h'.Ns X.env.locals m) (hok:HOk X.prog X.w H' h') (hg:AllBare g') :
  Inv X pins σ H' { s with heap:=h',gens:=g',drawn:=d',toks:=t' }:=by
 have neL:∀b o,X.s₀.heap.get? b=some o->b≠X.env.locals:=λb o e=>Nat.ne_of_lt (Nat.lt_of_lt_of_le (Heap.lt_size e) I.ok.above)
 have neC:∀b o,X.s₀.heap.get? b=some o->b∉X.ex->b∉ch:=λb o e hx hb=>by
  rcases(hch b hb).1 with z|z
  ·exact hx z
  ·exact absurd (Nat.lt_of_lt_of_le (Heap.lt_size e) z) (Nat.lt_irrefl _)
 have cellK:∀x c,X.env.cells.lookup x=some c->∀v,s.heap.IsCell c v->h'.IsCell c v:=λx c e v ⟨o,ho,hd⟩=>by
  have nch:c∉ch:=λz=>(hch c z).2.2.1 x c e rfl
  by_cases hc:c∈X.fs
  ·obtain⟨sl,q⟩:=slot c o (I.cne x c e) hc nch ho (I.freeC x c e)
   exact⟨_,q,hd⟩
  ·exact⟨o,keep c o (I.cne x c e) hc nch ho (I.freeC x c e),hd⟩
 refine⟨I.ok,I.os,hg,⟨λb o e n hb hx=>?_,λb o e n hb hx=>?_,λb o e n hx=>?_,λb o e hx=>?_,λb xs e=>tups b xs (I.base.tups b xs e),λb o xs e=>frzs b o xs (I.base.frzs b o xs e),λb t ps e=>?_⟩,?_,λx c e=>?_,?_,λx c e=>?_,λp hp=>?_,hok,I.len⟩
 ·exact keep b o (neL b o e) hb (neC b o e hx) (I.base.keep b o e n hb hx) (I.base.free b o e n hx)
 ·obtain⟨sl,e1⟩:=I.base.slot b o e n hb hx
  obtain⟨sl',e2⟩:=slot b _ (neL b o e) hb (neC b o e hx) e1 (I.base.free b o e n hx)
  exact⟨sl',e2⟩
 ·obtain⟨o',e1⟩:=I.base.there b o e hx
  exact free b o' (neC b o e hx) e1 (I.base.free b o e n hx)
 ·obtain⟨o',e1⟩:=I.base.there b o e hx
  exact there b o' (neC b o e hx) e1
 ·obtain⟨m1,e1⟩:=I.base.tbls b t ps e
  obtain⟨m2,e2⟩:=tbls b t _ e1
  exact⟨m1++m2,by rw[e2,Array.append_assoc]⟩
 ·obtain⟨m,hn,hl⟩:=I.loc
  refine⟨m,ns m hn,λi x v e1 e2 e3=>?_⟩
  obtain⟨u,r,l⟩:=hl i x v e1 e2 e3
  refine⟨u,r,?_⟩
  rcases l with l|⟨k,c,e,z⟩
  ·exact .inl l
  ·exact .inr ⟨k,c,e,cellK x c e _ z⟩
 ·obtain⟨v,z⟩:=I.cell x c e
  exact⟨v,cellK x c e v z⟩
 ·obtain⟨m,⟨o,_,_,ho,_⟩,_⟩:=I.loc
  exact free _ o (λz=>(hch _ z).2.1 rfl) ho I.free
 ·obtain⟨v,o,ho,hd⟩:=I.cell x c e
  exact free c o (λz=>(hch c z).2.2.1 x c e rfl) ho (I.freeC x c e)
 ·obtain⟨e,n,ne,nf,d⟩:=I.pin p hp
  have nch:p.1∉ch:=λz=>(hch p.1 z).2.2.2 p hp rfl
  exact⟨keep p.1 p.2 ne nf nch e n,free p.1 p.2 nch e n,ne,nf,d⟩
theorem Inv.un{t':Nat}(I:Inv X pins σ H s)(u:Un X.fs [] H H' s.heap h')(hok:HOk X.prog X.w H' h'):Inv X pins σ H' { s with heap:=h',toks:=t' }:=by
 obtain⟨m,⟨o,es,ep,ho,r⟩,_⟩:=id I.loc
 obtain⟨sl,hL⟩:=u.any ho I.free (by simp)
 exact I.step (g':=s.gens) (d':=s.drawn) (ch:=[]) (λ_ z=>nomatch z) (λb o _ hb _ e n=>u.keep b o e n hb (by simp)) (λb o _ hb _ e n=>u.slot b o e n hb (by simp)) (λb o _ e n=>u.free b o e n (by simp)) (λb o _ e=>u.there b o e (by simp)) u.tups u.frzs u.tbls (λm' hm=>by
  obtain⟨o',es',ep',ho',r'⟩:=hm
  rw[ho] at ho';cases ho'
  exact⟨_,es',ep',hL,r'⟩) hok I.bare
theorem Inv.call{g':Array GenState}{t':Nat}{d':Drawn}{ch:List Addr}(I:Inv X pins σ H s)(u:Un (frs X.stack) ch H H' s.heap h')(hok:HOk X.prog X.w H' h')(hg:AllBare g')
  (hch:∀b∈ch,(b∈X.ex\/X.s₀.heap.objs.size<=b)/\b≠X.env.locals/\(∀x c,X.env.cells.lookup x=some c->c≠b)/\∀p∈X.pn++pins,p.1≠b) :
  Inv X pins σ H' { s with heap:=h',gens:=g',drawn:=d',toks:=t' }:=by
 obtain⟨m,⟨o,es,ep,ho,r⟩,_⟩:=id I.loc
 obtain⟨sl,hL⟩:=u.any ho I.free λz=>(hch _ z).2.1 rfl
 exact I.step (ch:=ch) hch (λb o hL hb hc e n=>u.keep b o e n (λz=>(List.mem_cons.mp (I.stkSub b z)).elim hL hb) hc) (λb o _ _ hc e n=>u.any e n hc) (λb o hc e n=>u.free b o e n hc) (λb o hc e=>u.there b o e hc) u.tups u.frzs u.tbls (λm' hm=>by
  obtain⟨o',es',ep',ho',r'⟩:=hm
  rw[ho] at ho';cases ho'
  exact⟨_,es',ep',hL,r'⟩) hok hg
theorem Inv.turned{t':Nat}{it:Addr}(I:Inv X pins σ H s)(k:∀b o,b≠it->s.heap.get? b=some o->h'.get? b=some o)(hn:H it=none)(hL:it≠X.env.locals)
  (h1:it∈X.ex\/X.s₀.heap.objs.size<=it) (h2:∀x c,X.env.cells.lookup x=some c->c≠it) (h3:∀p∈X.pn++pins,p.1≠it):Inv X pins σ H { s with heap:=h',toks:=t' }:=by
 have nit:∀b u,H b=some u->b≠it:=λb u e z=>by rw[z,hn] at e;cases e
 refine I.step (g':=s.gens) (d':=s.drawn) (ch:=[it]) (λb hb=>?_) (λb o _ _ hc e _=>k b o (λz=>hc (by simp[z])) e) (λb o _ _ hc e _=>⟨o.slots,k b o (λz=>hc (by simp[z])) e⟩) (λ_ _ _ _ n=>n)
  (λb o hc e=>⟨o,k b o (λz=>hc (by simp[z])) e⟩) (λ_ _ e=>e) (λ_ _ _ e=>e) (λb t ps e=>⟨#[],by rw[e];simp⟩) (λm hm=>?_) (λb u e=>?_) I.bare
 ·have e:b=it:=by simpa using hb
  subst e
  exact⟨h1,hL,h2,h3⟩
 ·obtain⟨o,es,ep,ho,r⟩:=hm
  exact⟨o,es,ep,k _ o (Ne.symm hL) ho,r⟩
 ·refine(I.hok b u e).stay (λc v hc q=>k c v ?_ q) (λ_ q=>q) (λ_ _ q=>q) λ_ _ _ q=>q
  rcases hc with z|z
  ·rw[z];exact nit b u e
  ·exact nit c _ z
theorem Inv.tok(I:Inv X pins σ H s)(t:Nat):Inv X pins σ H { s with toks:=t }:=I.un (h':=s.heap) (t':=t) Un.refl I.hok
theorem Inv.kept{t':Nat}(I:Inv X pins σ H s)(k:∀b u,s.heap.get? b=some u->h'.get? b=some u):Inv X pins σ H { s with heap:=h',toks:=t' }:=I.un (Un.kept k) (I.hok.kept k)
theorem Inv.laid{a:Addr}{o:HO}{t':Nat}(I:Inv X pins σ H s)(k:∀b u,s.heap.get? b=some u->h'.get? b=some u)(hp:s.heap.objs.size<=a)(new:ObjOk X.prog X.w (upd H a o) h' a o) :
  Inv X pins σ (upd H a o) { s with heap:=h',toks:=t' }:=I.un (Un.laid k hp (I.hok.fresh hp)) (I.hok.laid k hp new)
theorem Inv.write{x e:Addr}{o:HO}{t':Nat}(I:Inv X pins σ H s)(mu:Mut (H x))(he:e=x\/H e=some (.own x))(k:∀b u,b≠e->s.heap.get? b=some u->h'.get? b=some u)(heo:∃u,h'.get? e=some u)
  (new:ObjOk X.prog X.w (upd H x o) h' x o):Inv X pins σ (upd H x o) { s with heap:=h',toks:=t' }:=I.un (Un.write mu he k heo) (I.hok.write mu he k heo new)
theorem Inv.pins_of{pins':List (Addr×Obj)}(I:Inv X pins σ H s)(h:∀p∈pins',s.heap.get? p.1=some p.2/\H p.1=none/\p.1≠X.env.locals/\p.1∉X.fs/\∀v,p.2.data≠.cell v):Inv X pins' σ H s :=
 ⟨I.ok,I.os,I.bare,I.base,I.loc,I.cell,I.free,I.freeC,λp hp=>(List.mem_append.mp hp).elim (λz=>I.pin p (List.mem_append_left _ z)) (h p),I.hok,I.len⟩
theorem zKX{N:List Str}(hN:N.Nodup){i j:Nat}{x:Str}(a:N[i]?=some x)(b:N[j]?=some x):i=j:=by
 obtain⟨h1,e1⟩:=List.getElem?_eq_some_iff.mp a
 obtain⟨h2,e2⟩:=List.getElem?_eq_some_iff.mp b
 exact(List.getElem_inj hN).mp (e1.trans e2.symm)
theorem zIC{M:Model}{A:Around}{E:Value->Shared->Prop}{i:Nat}{x:Str}{v:V}{u:Value}{Q:Unit->Shared->Prop}(I:Inv X pins σ H s)(hN:X.N.Nodup)(hi:X.N[i]?=some x)(hx:Loc X.env.scope x)(r:RelV v u)
  (h:∀s',Inv X pins (σ.set i (some v)) H s'->(∃a,Heap.SameBut a s.heap s'.heap/\(a=X.env.locals\/X.env.cells.lookup x=some a))->Q () s') (hf:X.fn x=true\/X.env.scope.names.lookup x=some .local:=by first|exact .inl rfl|exact .inr rfl|assumption):wpAny M A (storeName X.env x u) Q E s:=by
 obtain⟨m,hn,hl⟩:=id I.loc
 have hcls:(X.env.scope.kind==.class||(X.env.scope.kind==.module&&X.env.locals != X.env.globals))=false:=by rw[I.ok.kind];rfl
 have hiσ:i < σ.length:=by rw[I.len];exact(List.getElem?_eq_some_iff.mp hi).1
 have cne:=I.cne
 have tracked:∀{a:Addr} {h':Heap},(∃o,s.heap.get? a=some o/\H a=none)->Heap.SameBut a s.heap h'->HOk X.prog X.w H h':=λ{a h'} ha hs b ob e=>by
  obtain⟨_,_,hfree⟩:=ha
  refine(I.hok b ob e).stay (λc w' hc q=>(hs.2 c ?_).trans q) (λ_ q=>q) (λ_ _ q=>q) λ_ _ _ q=>q
  rintro rfl
  rcases hc with rfl|hc
  ·rw[hfree] at e;cases e
  ·rw[hfree] at hc;cases hc
 rcases hx with hk|hk
 ·refine wpAny_storeName_local hk hn (λh' hn' hs=>?_) hcls
  obtain⟨oL,_,_,hoL,_⟩:=id hn
  refine h _ ⟨I.ok,I.os,I.bare,⟨λb o e n hb hx=>?_,λb o e n hb hx=>?_,I.base.free,λb o e hx=>?_,I.base.tups,I.base.frzs,I.base.tbls⟩,⟨_,hn',λj y v' e1 e2 e3=>?_⟩,λy c e=>?_,I.free,I.freeC,λp hp=>?_,tracked ⟨oL,hoL,I.free⟩ hs,by simpa using I.len⟩ ⟨_,hs,.inl rfl⟩
  ·exact(hs.2 b (Nat.ne_of_lt (Nat.lt_of_lt_of_le (Heap.lt_size e) I.ok.above))).trans (I.base.keep b o e n hb hx)
  ·obtain⟨sl,e1⟩:=I.base.slot b o e n hb hx
   exact⟨sl,(hs.2 b (Nat.ne_of_lt (Nat.lt_of_lt_of_le (Heap.lt_size e) I.ok.above))).trans e1⟩
  ·obtain⟨o',e1⟩:=I.base.there b o e hx
   exact⟨o',(hs.2 b (Nat.ne_of_lt (Nat.lt_of_lt_of_le (Heap.lt_size e) I.ok.above))).trans e1⟩
  ·by_cases hj:j=i
   ·subst hj
    rw[hi] at e1;cases e1
    rw[List.getElem?_set_self hiσ] at e2
    cases e2
    exact⟨u,r,.inl ⟨hk,by simp⟩⟩
   ·rw[List.getElem?_set_ne (Ne.symm hj)] at e2
    obtain⟨u',r',q⟩:=hl j y v' e1 e2 e3
    refine⟨u',r',?_⟩
    rcases q with⟨k,e⟩|⟨k,c,e,z⟩
    ·refine .inl ⟨k,?_⟩
     have:y≠x:=λe=>hj (zKX hN e1 (e▸hi))
     simp[this,e]
    ·exact .inr ⟨k,c,e,z.sameBut hs (cne y c e)⟩
  ·obtain⟨w',z⟩:=I.cell y c e
   exact⟨w',z.sameBut hs (cne y c e)⟩
  ·obtain⟨e,n,ne,nf,d⟩:=I.pin p hp
   exact⟨(hs.2 p.1 ne).trans e,n,ne,nf,d⟩
 ·have hfn:X.fn x=true:=by
   rcases hf with z|z
   ·exact z
   ·rw[z] at hk;cases hk
  obtain⟨c,hc⟩:=I.ok.has x (.inl hk)
  obtain⟨w',z⟩:=I.cell x c hc
  refine wpAny_storeName_cell I.ok.kind hk hc z (λh' hc' hs=>?_)
  obtain⟨oc,hoc,hocd⟩:=id z
  refine h { s with heap:=h' } ⟨I.ok,I.os,I.bare,⟨λb o e n hb hx=>?_,λb o e n hb hx=>?_,I.base.free,λb o e hx=>?_,I.base.tups,I.base.frzs,I.base.tbls⟩,⟨m,hn.sameBut hs (Ne.symm (cne x c hc)),λj y v' e1 e2 e3=>?_⟩,λy c' e=>?_,I.free,I.freeC,λp hp=>?_,tracked ⟨oc,hoc,I.freeC x c hc⟩ hs,by simpa using I.len⟩ ⟨c,hs,.inr hc⟩
  ·exact(hs.2 b (Nat.ne_of_lt (Nat.lt_of_lt_of_le (Heap.lt_size e) (I.ok.cab x c hfn hc)))).trans (I.base.keep b o e n hb hx)
  ·obtain⟨sl,e1⟩:=I.base.slot b o e n hb hx
   exact⟨sl,(hs.2 b (Nat.ne_of_lt (Nat.lt_of_lt_of_le (Heap.lt_size e) (I.ok.cab x c hfn hc)))).trans e1⟩
  ·obtain⟨o',e1⟩:=I.base.there b o e hx
   exact⟨o',(hs.2 b (Nat.ne_of_lt (Nat.lt_of_lt_of_le (Heap.lt_size e) (I.ok.cab x c hfn hc)))).trans e1⟩
  ·by_cases hj:j=i
   ·subst hj
    rw[hi] at e1;cases e1
    rw[List.getElem?_set_self hiσ] at e2
    cases e2
    exact⟨u,r,.inr ⟨.inl hk,c,hc,hc'⟩⟩
   ·rw[List.getElem?_set_ne (Ne.symm hj)] at e2
    obtain⟨u',r',q⟩:=hl j y v' e1 e2 e3
    refine⟨u',r',?_⟩
    rcases q with q|⟨k,c',e,z'⟩
    ·exact .inl q
    ·refine .inr ⟨k,c',e,z'.sameBut hs ?_⟩
     rintro rfl
     exact hj (zKX hN e1 (I.ok.inj _ _ _ e hc▸hi))
  ·by_cases hcc:c'=c
   ·subst hcc;exact⟨_,hc'⟩
   ·obtain⟨w2,z2⟩:=I.cell y c' e
    exact⟨w2,z2.sameBut hs hcc⟩
  ·obtain⟨e,n,ne,nf,d⟩:=I.pin p hp
   refine⟨(hs.2 p.1 ?_).trans e,n,ne,nf,d⟩
   intro q
   rw[q,hoc] at e
   have q':oc=p.2:=Option.some.inj e
   exact d w' (by rw[<-q'];exact hocd)
theorem zKY{M:Model}{A:Around}{E:Value->Shared->Prop}{i:Nat}{x:Str}{v:V}{u:Value}{Q:Unit->Shared->Prop}(I:Inv X pins σ H s)(hN:X.N.Nodup)(hi:X.N[i]?=some x)(hx:Loc X.env.scope x)(r:RelV v u)
  (h:∀s',Inv X pins (σ.set i (some v)) H s'->Q () s') (hf:X.fn x=true\/X.env.scope.names.lookup x=some .local:=by first|exact .inl rfl|exact .inr rfl|assumption):wpAny M A (storeName X.env x u) Q E s :=
 zIC I hN hi hx r (λs' I' _=>h s' I') hf
theorem Inv.call'{s':Shared}{ch:List Addr}(I:Inv X pins σ H s)(ho:s'.os=s.os)(u:Un (frs X.stack) ch H H' s.heap s'.heap)(hok:HOk X.prog X.w H' s'.heap)(hg:AllBare s'.gens)
  (hch:∀b∈ch,(b∈X.ex\/X.s₀.heap.objs.size<=b)/\b≠X.env.locals/\(∀x c,X.env.cells.lookup x=some c->c≠b)/\∀p∈X.pn++pins,p.1≠b):Inv X pins σ H' s':=by
 obtain⟨h',g',d',t',o'⟩:=s'
 have e:o'=s.os:=ho
 subst e
 exact I.call (g':=g') (t':=t') (d':=d') u hok hg hch
end
abbrev XK:=Value->Option Addr->Hp->Prop
abbrev St:=List (Option V)
abbrev VK:=V->Hp->Prop
abbrev TE:=St->Hp->VK->Prop
abbrev TT:=St->Hp->(Bool->Hp->Prop)->Prop
abbrev TA:=St->Hp->(List V->Hp->Prop)->Prop
structure Ends where
 nx:St->Hp->Prop
 rt:VK
 bk:St->Hp->Prop:=λ_ _=>False
 ct:St->Hp->Prop:=λ_ _=>False
abbrev TS:=Ends->St->Hp->Prop
def EP(X:Cx)(pins:List (Addr×Obj))(σ:St)(Q:VK)(u:Value)(s':Shared):Prop:=∃v H',Inv X pins σ H' s'/\RelV v u/\Q v H'
def TP(X:Cx)(pins:List (Addr×Obj))(σ:St)(Q:Bool->Hp->Prop)(b:Bool)(s':Shared):Prop:=∃H',Inv X pins σ H' s'/\Q b H'
def AP(X:Cx)(pins:List (Addr×Obj))(σ:St)(Q:List V->Hp->Prop)(us:List Value)(s':Shared):Prop:=∃vs H',Inv X pins σ H' s'/\Vals vs us/\Q vs H'
def SP(X:Cx)(pins:List (Addr×Obj))(D:Ends)(f:Flow)(s':Shared):Prop :=
 match f with
 |.next=>∃σ' H',Inv X pins σ' H' s'/\D.nx σ' H'
 |.brk=>∃σ' H',Inv X pins σ' H' s'/\D.bk σ' H'
 |.cont=>∃σ' H',Inv X pins σ' H' s'/\D.ct σ' H'
 |.ret u=>∃v σ' H',Inv X pins σ' H' s'/\RelV v u/\D.rt v H'
def PE(X:Cx)(e:Expr)(t:TE):Prop :=
 ∀(pins:List (Addr×Obj)) (s:Shared) (σ:St) (H:Hp) (Q:VK),Inv X pins σ H s->t σ H Q->wpAny (model X.prog X.w) X.A (eval e X.env) (EP X pins σ Q) X.xe s
def PT(X:Cx)(e:Expr)(t:TT):Prop :=
 ∀(pins:List (Addr×Obj)) (s:Shared) (σ:St) (H:Hp) (Q:Bool->Hp->Prop),Inv X pins σ H s->t σ H Q->wpAny (model X.prog X.w) X.A (isTrue e X.env (eval e X.env)) (TP X pins σ Q) X.xe s
def PW(X:Cx)(e:Expr)(t:TT):Prop :=
 ∀(whole:Sem Value) (pins:List (Addr×Obj)) (s:Shared) (σ:St) (H:Hp) (Q:Bool->Hp->Prop),Inv X pins σ H s->t σ H Q->wpAny (model X.prog X.w) X.A (isTrue e X.env whole) (TP X pins σ Q) X.xe s
theorem PW.pt{X:Cx}{e:Expr}{t:TT}(h:PW X e t):PT X e t:=h _
def PA(X:Cx)(es:List Expr)(t:TA):Prop :=
 ∀(pos:Pos) (pins:List (Addr×Obj)) (s:Shared) (σ:St) (H:Hp) (Q:List V->Hp->Prop),Inv X pins σ H s->t σ H Q->wpAny (model X.prog X.w) X.A (spliced (backTo pos (starEach es X.env))) (AP X pins σ Q) X.xe s
def PS(X:Cx)(st:Stmt)(t:TS):Prop :=
 ∀(pins:List (Addr×Obj)) (s:Shared) (σ:St) (H:Hp) (D:Ends),Inv X pins σ H s->t D σ H->wpAny (model X.prog X.w) X.A (exec st X.env) (SP X pins D) X.xe s
def PSs(X:Cx)(st:List Stmt)(t:TS):Prop :=
 ∀(pins:List (Addr×Obj)) (s:Shared) (σ:St) (H:Hp) (D:Ends),Inv X pins σ H s->t D σ H->wpAny (model X.prog X.w) X.A (execs st X.env) (SP X pins D) X.xe s
theorem thn{α:Type}{t:Sem α}{Q Q':α->Shared->Prop}{M:Model}{A:Around}{E:Value->Shared->Prop}{s:Shared}(h:wpAny M A t Q E s)(hQ:∀a s,Q a s->Q' a s):wpAny M A t Q' E s:=wpAny_mono h hQ λ_ _ x=>x
section
variable{X:Cx}
theorem bin{a b:Expr}{ta tb:TE}(ha:PE X a ta)(hb:PE X b tb){pins:List (Addr×Obj)}{s:Shared}{σ:St}{H:Hp}{R:V->V->Hp->Prop}(I:Inv X pins σ H s)(h:ta σ H λx H1=>tb σ H1 λy H2=>R x y H2)
  {α:Type} {Q:α->Shared->Prop} {f:Value->Value->Sem α}
  (hf:∀v u s2 x y H2,Inv X pins σ H2 s2->RelV x v->RelV y u->R x y H2->wpAny (model X.prog X.w) X.A (f v u) Q X.xe s2) :
  wpAny (model X.prog X.w) X.A (eval a X.env) (λv s₁=>wpAny (model X.prog X.w) X.A (eval b X.env) (λu s₂=>wpAny (model X.prog X.w) X.A (f v u) Q X.xe s₂) X.xe s₁) X.xe s:=by
 refine thn (ha pins s σ H _ I h) λv s1 ⟨x,H1,I1,r1,q1⟩=>?_
 refine thn (hb pins s1 σ H1 _ I1 q1) λu s2 ⟨y,H2,I2,r2,q2⟩=>?_
 exact hf v u s2 x y H2 I2 r1 r2 q2
def zX9(i:Nat):TE:=λσ H Q=>∃v,σ[i]?=some (some v)/\Q v H
def tC(v:V):TE:=λ_ H Q=>Q v H
theorem zGE{i:Nat}{x:Str}{pos:Pos}(hN:X.N[i]?=some x)(hv:Vis X.env.scope x)(hd:(x==("__debug__":Str))=false:=by decide)(hcd:(x==("__classdict__":Str))=false:=by decide):PE X (.Name x pos) (zX9 i):=by
 intro pins s σ H Q I h
 obtain⟨v,e,h⟩:=h
 obtain⟨m,hn,hl⟩:=I.loc
 obtain⟨u,r,l⟩:=hl i x v hN e hv
 have fin:EP X pins σ Q u s:=⟨v,H,I,r,h⟩
 rcases l with⟨hk,hm⟩|⟨hk,c,hc,hcell⟩
 ·exact wpAny_Name (wpAny_loadName_local I.ok.kind hk hn hm fin) hd
 ·rcases hk with hk|hk
  ·exact wpAny_Name (wpAny_loadName_cell I.ok.kind hk hc hcell fin) hd
  ·exact wpAny_Name (wpAny_loadName_free I.ok.kind hk hc hcell fin hcd) hd
theorem pe_int {i j pos}:PE X (.Constant (.int i) j pos) (tC (.int i)):=λ_ _ _ H _ I h=>wpAny_Constant_int ⟨.int i,H,I.tok _,⟨_,rfl⟩,h⟩
theorem pe_bl {b j pos}:PE X (.Constant (.bool b) j pos) (tC (.bl b)):=λ_ _ _ H _ I h=>Constant_bool ⟨.bl b,H,I,rfl,h⟩
theorem pe_non {j pos}:PE X (.Constant .none j pos) (tC .non):=λ_ _ _ H _ I h=>Constant_none ⟨.non,H,I,rfl,h⟩
theorem pe_str {x j pos}:PE X (.Constant (.str x) j pos) (tC (.str x)):=λ_ _ _ H _ I h=>Calls.Constant_str ⟨.str x,H,I.tok _,⟨_,rfl⟩,h⟩
def Gl(X:Cx)(x:Str):Prop:=X.env.kindOf x=some .globalImplicit
theorem zM4{E:Value->Shared->Prop}{pins:List (Addr×Obj)}{s:Shared}{σ:St}{H:Hp}{x:Str}{u:Value}{pos:Pos}{Q:Value->Shared->Prop}(I:Inv X pins σ H s)(hg:Gl X x)(hm:X.mg x=some u)(h:Q u s)
  (hd:(x==("__debug__":Str))=false:=by decide):wpAny (model X.prog X.w) X.A (eval (.Name x pos) X.env) Q E s :=
 Calls.Name_function_global I.ok.kind hg (Calls.loadGlobal_global (by rw[I.ok.glob];exact I.mod.glob.keeps I.bk) hm h) hd
theorem zGF{E:Value->Shared->Prop}{pins:List (Addr×Obj)}{s:Shared}{σ:St}{H:Hp}{x:Str}{u:Value}{pos:Pos}{Q:Value->Shared->Prop}(I:Inv X pins σ H s)(hg:Gl X x)(hm:X.mg x=none)(hv:bootBuiltins x=some u)(h:Q u s)
  (hn:x≠"__name__":=by decide) (hd:(x==("__debug__":Str))=false:=by decide):wpAny (model X.prog X.w) X.A (eval (.Name x pos) X.env) Q E s:=by
 obtain⟨mb,h1,h2⟩:=I.mod.blt
 exact Calls.Name_function_global I.ok.kind hg (Calls.loadGlobal_builtin (by rw[I.ok.glob];exact I.mod.glob.keeps I.bk) hm (by rw[I.ok.blt];exact h1.keeps I.bk) ((h2 x hn).trans hv) h) hd
theorem zSU{x:Str}{v:V}{u:Value}{pos:Pos}(hg:Gl X x)(hm:X.mg x=some u)(r:RelV v u)(hd:(x==("__debug__":Str))=false:=by decide):PE X (.Name x pos) (tC v) :=
 λ_ _ _ H _ I h=>zM4 I hg hm ⟨v,H,I,r,h⟩ hd
theorem zSV{x:Str}{v:V}{u:Value}{pos:Pos}(hg:Gl X x)(hm:X.mg x=none)(hv:bootBuiltins x=some u)(r:RelV v u)(hn:x≠"__name__":=by decide)(hd:(x==("__debug__":Str))=false:=by decide):PE X (.Name x pos) (tC v) :=
 λ_ _ _ H _ I h=>zGF I hg hm hv ⟨v,H,I,r,h⟩ hn hd
variable{a b:Expr}{ta tb:TE}{pos:Pos}
variable{tA tB':TT}{rest:List Expr}
def yAI(t u:TT):TT:=λσ H Q=>t σ H λc H1=>if c=true then u σ H1 Q else Q false H1
def tOr(t u:TT):TT:=λσ H Q=>t σ H λc H1=>if c=true then Q true H1 else u σ H1 Q
def yAJ(t:TT):TT:=λσ H Q=>t σ H λc H1=>Q (!c) H1
theorem zSW(ha:PT X a tA):PW X (.BoolOp .And [a] pos) tA:=by
 intro wh pins s σ H Q I h
 refine isTrue_and (thn (ha pins s σ H Q I h) λc s1 e=>?_)
 cases c with
 |true=>exact isTrue_and_nil e
 |false=>exact e
theorem zVO(ha:PT X a tA):PW X (.BoolOp .Or [a] pos) tA:=by
 intro wh pins s σ H Q I h
 refine isTrue_or (thn (ha pins s σ H Q I h) λc s1 e=>?_)
 cases c with
 |false=>exact isTrue_or_nil e
 |true=>exact e
theorem zVP(ha:PT X a tA)(hb:PW X (.BoolOp .And (b::rest) pos) tB'):PW X (.BoolOp .And (a::b::rest) pos) (yAI tA tB'):=by
 intro wh pins s σ H Q I h
 refine isTrue_and (thn (ha pins s σ H _ I h) λc s1 ⟨H1,I1,q1⟩=>?_)
 cases c with
 |true=>exact hb wh pins s1 σ H1 Q I1 q1
 |false=>exact⟨H1,I1,q1⟩
theorem zYA(ha:PT X a tA)(hb:PW X (.BoolOp .Or (b::rest) pos) tB'):PW X (.BoolOp .Or (a::b::rest) pos) (tOr tA tB'):=by
 intro wh pins s σ H Q I h
 refine isTrue_or (thn (ha pins s σ H _ I h) λc s1 ⟨H1,I1,q1⟩=>?_)
 cases c with
 |true=>exact⟨H1,I1,q1⟩
 |false=>exact hb wh pins s1 σ H1 Q I1 q1
theorem zVQ(ha:PT X a tA):PT X (.UnaryOp .Not a pos) (yAJ tA):=by
 intro pins s σ H Q I h
 exact isTrue_not (ha pins s σ H (λc H1=>Q (!c) H1) I h)
def zYB(ta tb:TE):TE:=λσ H Q=>ta σ H λx H1=>∃c,x=.bl c/\if c=true then tb σ H1 Q else Q (.bl false) H1
def zYC(ta:TE):TE:=λσ H Q=>ta σ H λx H1=>∃c,x=.bl c/\Q (.bl (!c)) H1
theorem zVR {op} {t:TE} (h:PE X a t):PE X (.BoolOp op [a] pos) t:=λpins s σ H Q I hw=>BoolOp_one (h pins s σ H Q I hw)
theorem zVS(ha:PE X a ta)(hb:PE X (.BoolOp .And (b::rest) pos) tb):PE X (.BoolOp .And (a::b::rest) pos) (zYB ta tb):=by
 intro pins s σ H Q I h
 refine BoolOp_and (thn (ha pins s σ H _ I h) λv s1 ⟨x,H1,I1,r1,q1⟩=>?_)
 obtain⟨c,rfl,q1⟩:=q1
 cases r1
 refine wpAny_truthy_bool ?_
 cases c with
 |true=>exact hb pins s1 σ H1 Q I1 q1
 |false=>exact⟨.bl false,H1,I1,rfl,q1⟩
theorem zVT(ha:PE X a ta):PE X (.UnaryOp .Not a pos) (zYC ta):=by
 intro pins s σ H Q I h
 refine UnaryOp_ (thn (ha pins s σ H _ I h) λv s1 ⟨x,H1,I1,r1,q1⟩=>?_)
 obtain⟨c,rfl,q1⟩:=q1
 cases r1
 exact not_of (wpAny_truthy_bool ⟨.bl (!c),H1,I1,rfl,q1⟩)
def tIf(t:TT)(ta tb:TE):TE:=λσ H Q=>t σ H λc H1=>if c=true then ta σ H1 Q else tb σ H1 Q
theorem zPX{c:Expr}(hc:PT X c tA)(ha:PE X a ta)(hb:PE X b tb):PE X (.IfExp c a b pos) (tIf tA ta tb):=by
 intro pins s σ H Q I h
 refine wpAny_IfExp (thn (hc pins s σ H _ I h) λd s1 ⟨H1,I1,q1⟩=>?_)
 cases d with
 |true=>exact ha pins s1 σ H1 Q I1 q1
 |false=>exact hb pins s1 σ H1 Q I1 q1
end
def SqL(K:PySem.W.Frag)(H:Hp)(a:Addr)(xs:List V):Prop :=
 Rd H a (.lst xs) \/
  ∃(o:Obj) (its:Array Value) (n:Nat),K.lookup a=some o/\o.cls=.type "list"/\o.dict=none/\o.data=.seq its n/\its.size<=sizeLine/\Vals xs its.toList
def SqT(K:PySem.W.Frag)(H:Hp)(a:Addr)(xs:List V):Prop :=
 Rd H a (.tup xs) \/
  ∃(o:Obj) (its:Array Value) (n:Nat),K.lookup a=some o/\o.cls=.type "tuple"/\o.data=.seq its n/\its.size<=sizeLine/\Vals xs its.toList
noncomputable def yAK:Value->Option V
 |.none=>some .non
 |.bool b=>some (.bl b)
 |.int i _=>some (.int i)
 |.str x _=>some (.str x)
 |.bytes b _=>some (.byt b)
 |.float b _=>some (.flt b)
 |.ref a=>some (.ref a)
 |.type n=>some (.ty n)
 |_=>none
theorem RelV.abs{x:V}{u:Value}(r:RelV x u):yAK u=some x:=by
 cases x with
 |non=>cases r;rfl
 |bl _=>cases r;rfl
 |int _=>obtain⟨t,rfl⟩:=r;rfl
 |str _=>obtain⟨t,rfl⟩:=r;rfl
 |byt _=>obtain⟨t,rfl⟩:=r;rfl
 |flt _=>obtain⟨t,rfl⟩:=r;rfl
 |ref _=>cases r;rfl
 |ty _=>cases r;rfl
theorem RelV.inj{x y:V}{u:Value}(r:RelV x u)(q:RelV y u):x=y:=Option.some.inj (r.abs.symm.trans q.abs)
theorem Vals.inj:∀{xs ys:List V} {us:List Value},Vals xs us->Vals ys us->xs=ys
 |_,_,_,.nil,.nil=>rfl
 |_,_,_,.cons r t,.cons r' t'=>by rw[r.inj r',Vals.inj t t']
section
variable{X:Cx}{pins:List (Addr×Obj)}{σ:St}{H:Hp}{s:Shared}{a:Addr}{xs ys:List V}
theorem SqL.of{K:PySem.W.Frag}(h:H a=some (.lst xs)):SqL K H a xs:=.inl (.inl h)
theorem SqT.of{K:PySem.W.Frag}(h:H a=some (.tup xs)):SqT K H a xs:=.inl (.inl h)
theorem Inv.list(I:Inv X pins σ H s)(h:SqL X.K H a xs):∃its:List Value,Vals xs its/\PlainL s.heap a its.toArray/\xs.length<=sizeLine:=by
 rcases h with h|⟨o,its,n,hk,hc,hd,hs,hz,r⟩
 ·obtain⟨z,its,n,r,e⟩:=h.ok I.hok
  exact⟨its,r,⟨_,n,e,rfl,rfl,rfl⟩,z⟩
 ·refine⟨its.toList,r,⟨o,n,I.kIn a o hk,hc,hd,by simpa using hs⟩,?_⟩
  have e:=r.length
  simp only[Array.length_toList] at e
  lia
theorem Inv.tuple(I:Inv X pins σ H s)(h:SqT X.K H a xs):∃its:List Value,Vals xs its/\IsTup s.heap a its.toArray/\xs.length<=sizeLine:=by
 rcases h with h|⟨o,its,n,hk,hc,hs,hz,r⟩
 ·obtain⟨z,its,r,p⟩:=h.ok I.hok
  exact⟨its,r,p.isTup,z⟩
 ·refine⟨its.toList,r,⟨o,I.kIn a o hk,hc,n,by simpa using hs⟩,?_⟩
  have e:=r.length
  simp only[Array.length_toList] at e
  lia
theorem Inv.list_inj(I:Inv X pins σ H s)(h:SqL X.K H a xs)(h':SqL X.K H a ys):xs=ys:=by
 obtain⟨its,r,⟨o,n,e,_,_,d⟩,_⟩:=I.list h
 obtain⟨its',r',⟨o',n',e',_,_,d'⟩,_⟩:=I.list h'
 rw[e] at e';cases e'
 rw[d] at d'
 injection d' with d1 _
 have:its=its':=by simpa using congrArg Array.toList d1
 subst this
 exact r.inj r'
theorem Inv.tuple_inj(I:Inv X pins σ H s)(h:SqT X.K H a xs)(h':SqT X.K H a ys):xs=ys:=by
 obtain⟨its,r,⟨o,e,_,n,d⟩,_⟩:=I.tuple h
 obtain⟨its',r',⟨o',e',_,n',d'⟩,_⟩:=I.tuple h'
 rw[e] at e';cases e'
 rw[d] at d'
 injection d' with d1 _
 have:its=its':=by simpa using congrArg Array.toList d1
 subst this
 exact r.inj r'
end
noncomputable abbrev Cx.wish(X:Cx)(E:Value->Shared->Prop):Cx:={ X with xe:=E }
noncomputable abbrev Cx.nox(X:Cx):Cx:=X.wish λ_ _=>False
theorem Cx.Ok.wish{X:Cx}(ok:X.Ok)(E:Value->Shared->Prop):(X.wish E).Ok :=
 ⟨ok.tab,ok.mod,ok.kind,ok.glob,ok.blt,ok.above,ok.inj,ok.has,ok.cab,ok.hd,ok.frames,ok.stk,ok.exf,ok.bs,ok.bsz,ok.noex,ok.exfs,ok.funs,ok.frf⟩
theorem Cx.Ok.unwish{X:Cx}{E:Value->Shared->Prop}(ok:(X.wish E).Ok):X.Ok :=
 ⟨ok.tab,ok.mod,ok.kind,ok.glob,ok.blt,ok.above,ok.inj,ok.has,ok.cab,ok.hd,ok.frames,ok.stk,ok.exf,ok.bs,ok.bsz,ok.noex,ok.exfs,ok.funs,ok.frf⟩
section
variable{X:Cx}{pins:List (Addr×Obj)}{σ:St}{H:Hp}{s:Shared}{E:Value->Shared->Prop}
theorem Inv.wish(I:Inv X pins σ H s)(E:Value->Shared->Prop):Inv (X.wish E) pins σ H s:=⟨I.ok.wish E,I.os,I.bare,I.base,I.loc,I.cell,I.free,I.freeC,I.pin,I.hok,I.len⟩
theorem Inv.unwish(I:Inv (X.wish E) pins σ H s):Inv X pins σ H s:=⟨I.ok.unwish,I.os,I.bare,I.base,I.loc,I.cell,I.free,I.freeC,I.pin,I.hok,I.len⟩
theorem SP.unwish{D:Ends}{f:Flow}{s':Shared}(h:SP (X.wish E) pins D f s'):SP X pins D f s':=by
 cases f with
 |next=>obtain⟨σ',H',I,q⟩:=h;exact⟨σ',H',I.unwish,q⟩
 |brk=>obtain⟨σ',H',I,q⟩:=h;exact⟨σ',H',I.unwish,q⟩
 |cont=>obtain⟨σ',H',I,q⟩:=h;exact⟨σ',H',I.unwish,q⟩
 |ret u=>obtain⟨v,σ',H',I,r,q⟩:=h;exact⟨v,σ',H',I.unwish,r,q⟩
theorem PSs.nox{st:List Stmt}{t:TS}(h:PSs X.nox st t):PSs X st t:=λpins s σ H D I hw =>
 wpAny_mono (h pins s σ H D (I.wish _) hw) (λ_ _ q=>q.unwish) λ_ _ z=>False.elim z
end
section
variable{X:Cx}{st:Stmt}{rest:List Stmt}{t u:TS}{e:Expr}{te:TE}{pos:Pos}
def zYD:TS:=λD σ H=>D.nx σ H
def zZO(t u:TS):TS:=λD σ H=>t { D with nx:=u D } σ H
theorem pss_nil:PSs X [] zYD:=λ_ _ σ H _ I h=>wpAny_execs_nil ⟨σ,H,I,h⟩
theorem zPY(h1:PS X st t)(h2:PSs X rest u):PSs X (st::rest) (zZO t u):=by
 intro pins s σ H D I h
 refine wpAny_execs_cons (thn (h1 pins s σ H { D with nx:=u D } I h) λf s1 q=>?_)
 cases f with
 |next =>
  obtain⟨σ',H',I',q⟩:=q
  exact h2 pins s1 σ' H' D I' q
 |ret v=>exact q
 |brk=>exact q
 |cont=>exact q
theorem zSX(h1:PS X st t):PSs X [st] t:=by
 intro pins s σ H D I h
 refine wpAny_execs_cons (thn (h1 pins s σ H D I h) λf s1 q=>?_)
 cases f with
 |next=>exact wpAny_execs_nil q
 |ret v=>exact q
 |brk=>exact q
 |cont=>exact q
theorem Inv.quiet{pins:List (Addr×Obj)}{σ:St}{H:Hp}{s:Shared}(I:Inv X pins σ H s):interactive X.env=false:=by simp[interactive,I.ok.kind]
def zYE(te:TE):TS:=λD σ H=>te σ H λ_ H1=>D.nx σ H1
theorem zSY(he:PE X e te)(hs:swapsWith e none pos.line X.env=pure false:=by rfl):PS X (.Expr e pos) (zYE te):=by
 intro pins s σ H D I h
 exact wpAny_Expr_any (thn (he pins s σ H _ I h) λv s1 ⟨x,H1,I1,r1,q1⟩=>⟨σ,H1,I1,q1⟩) I.quiet hs
def yAL(te:TE):TS:=λD σ H=>te σ H D.rt
theorem zR0(he:PE X e te):PS X (.Return (some e) pos) (yAL te):=by
 intro pins s σ H D I h
 exact wpAny_Return_some (thn (he pins s σ H _ I h) λv s1 ⟨x,H1,I1,r1,q1⟩=>⟨x,σ,H1,I1,r1,q1⟩)
def yAM(c:TT)(t u:TS):TS:=λD σ H=>c σ H λb H1=>if b=true then t D σ H1 else u D σ H1
theorem zYF{c:Expr}{a b:List Stmt}{tc:TT}(hc:PT X c tc)(ha:PSs X a t)(hb:PSs X b u):PS X (.If c a b pos) (yAM tc t u):=by
 intro pins s σ H D I h
 refine wpAny_If (thn (hc pins s σ H _ I h) λd s1 ⟨H1,I1,q1⟩=>?_)
 cases d with
 |true=>exact ha pins s1 σ H1 D I1 q1
 |false=>exact hb pins s1 σ H1 D I1 q1
end
abbrev TG:=V->St->Hp->(St->Hp->Prop)->Prop
abbrev TGs:=List V->St->Hp->(St->Hp->Prop)->Prop
def PG(X:Cx)(target:Expr)(t:TG):Prop :=
 ∀(pins:List (Addr×Obj)) (s:Shared) (σ:St) (H:Hp) (v:V) (u:Value) (Q:St->Hp->Prop),Inv X pins σ H s->RelV v u->t v σ H Q ->
  wpAny (model X.prog X.w) X.A (assign target X.env u) (λ_ s'=>∃σ' H',Inv X pins σ' H' s'/\Q σ' H') X.xe s
def PGs(X:Cx)(ts:List Expr)(t:TGs):Prop :=
 ∀(pins:List (Addr×Obj)) (s:Shared) (σ:St) (H:Hp) (vs:List V) (us:List Value) (Q:St->Hp->Prop),Inv X pins σ H s->Vals vs us->t vs σ H Q ->
  wpAny (model X.prog X.w) X.A (assignInOrder ((assignEach ts X.env).map (·.2)) us) (λ_ s'=>∃σ' H',Inv X pins σ' H' s'/\Q σ' H') X.xe s
abbrev zYG:=V->V->V->Hp->(Hp->Prop)->Prop
def zZP(X:Cx)(t:zYG):Prop :=
 ∀(pins:List (Addr×Obj)) (s:Shared) (σ:St) (H:Hp) (o i v:V) (ov iv u:Value) (Q:Hp->Prop),Inv X pins σ H s->RelV o ov->RelV i iv->RelV v u->t o i v H Q ->
  wpAny (model X.prog X.w) X.A (setItem ov iv u) (λ_ s'=>∃H',Inv X pins σ H' s'/\Q H') X.xe s
section
variable{X:Cx}{pos:Pos}
def zM5(i:Nat):TG:=λv σ H Q=>Q (σ.set i (some v)) H
theorem zSZ{i:Nat}{x:Str}(hN:X.N.Nodup)(hi:X.N[i]?=some x)(hx:Loc X.env.scope x)(hf:X.fn x=true\/X.env.scope.names.lookup x=some .local:=by first|exact .inl rfl|exact .inr rfl|assumption):PG X (.Name x pos) (zM5 i):=by
 intro pins s σ H v u Q I r h
 exact wpAny_assign_Name (zKY I hN hi hx r (λs' I'=>⟨_,H,I',h⟩) hf)
def yAN:TGs:=λvs σ H Q=>vs=[]/\Q σ H
def zYH(t:TG)(u:TGs):TGs:=λvs σ H Q=>∃v r,vs=v::r/\t v σ H λσ' H'=>u r σ' H' Q
theorem pgs_nil:PGs X [] yAN:=by
 intro pins s σ H vs us Q I r h
 obtain⟨e,h⟩:=h
 subst e
 cases r
 exact assignInOrder_nil ⟨σ,H,I,h⟩
theorem zPZ{e:Expr}{es:List Expr}{t:TG}{u:TGs}(h1:PG X e t)(h2:PGs X es u)
  (hs:(assignEach (e::es) X.env).map (·.2)=assign e X.env::(assignEach es X.env).map (·.2):=by rfl):PGs X (e::es) (zYH t u):=by
 intro pins s σ H vs us Q I r h
 obtain⟨v,vr,e1,h⟩:=h
 subst e1
 cases r with
 |cons r rr =>
  rw[hs]
  refine assignInOrder_cons (thn (h1 pins s σ H _ _ _ I r h) λ_ s1 ⟨σ1,H1,I1,q1⟩=>?_)
  exact h2 pins s1 σ1 H1 _ _ Q I1 rr q1
def yAO(K:PySem.W.Frag)(n:Nat)(t:TGs):TG:=λv σ H Q=>∃a xs,v=.ref a/\SqT K H a xs/\xs.length=n/\t xs σ H Q
theorem zVU{es:List Expr}{k:Nat}{t:TGs}{n:Nat}(hc:X.calm=true)(h:PGs X es t)
  (hn:(assignEach es X.env).length=n:=by rfl) (hst:(assignEach es X.env).findIdx? (·.1)=none:=by rfl):PG X (.Tuple es k pos) (yAO X.K n t):=by
 intro pins s σ H v u Q I r hw
 obtain⟨a,xs,e1,hq,hl,hw⟩:=hw
 subst e1
 cases r
 obtain⟨its,rv,ht,hz⟩:=I.tuple hq
 refine assign_Tuple_tuple (I.ok.hd hc) ht (by simp[hn,<-hl,rv.length]) hst λh' hx=>?_
 have I1:Inv X pins σ H { s with heap:=h' }:=I.kept (t':=s.toks) λb o e=>hx b o (Nat.ne_of_lt (Heap.lt_size e)) e
 exact h pins _ σ H xs _ Q I1 (by simpa using rv) hw
def yAP(to ti:TE)(t:zYG):TG:=λv σ H Q=>to σ H λo H1=>ti σ H1 λi H2=>t o i v H2 λH3=>Q σ H3
theorem zVV{o i:Expr}{to ti:TE}{t:zYG}(ho:PE X o to)(hi:PE X i ti)(hs:zZP X t)
  (ha:∀v,assign (.Subscript o i pos) X.env v=(do
   let ov <-holding [v] (eval o X.env)
   let iv <-holding [v,ov] (eval i X.env)
   standAt pos
   holding [v,ov,iv] (setItem ov iv v)
   release [v,ov,iv] []):=by intro _;rfl):PG X (.Subscript o i pos) (yAP to ti t):=by
 intro pins s σ H v u Q I r h
 rw[ha]
 refine wpAny_bind (wpAny_holding (thn (ho pins s σ H _ I h) λov s1 ⟨x,H1,I1,r1,q1⟩=>?_))
 refine wpAny_bind (wpAny_holding (thn (hi pins s1 σ H1 _ I1 q1) λiv s2 ⟨y,H2,I2,r2,q2⟩=>?_))
 refine wpAny_bind (wpAny_standAt (wpAny_bind (wpAny_holding (thn (hs pins s2 σ H2 x y v ov iv u _ I2 r1 r2 r q2) λ_ s3 ⟨H3,I3,q3⟩=>?_))))
 exact wpAny_release ⟨σ,H3,I3,q3⟩
def zVW(te:TE)(g:TG):TS:=λD σ H=>te σ H λx H1=>g x σ H1 D.nx
theorem zR1{tg e:Expr}{te:TE}{g:TG}(he:PE X e te)(hg:PG X tg g)(hs:swapsWithSole [tg] e pos.line X.env=pure false:=by rfl)(hw:swappedStores [tg] e X.env=pure none:=by rfl)
  (h1:(assignEach [tg] X.env).map (·.2)=[assign tg X.env]:=by rfl):PS X (.Assign [tg] e pos) (zVW te g):=by
 intro pins s σ H D I h
 refine wpAny_Assign_stores (thn (he pins s σ H _ I h) λv s1 ⟨x,H1,I1,r1,q1⟩=>?_) hs hw
 rw[h1]
 exact thn (hg pins s1 σ H1 x v _ I1 r1 q1) λ_ s2 q=>q
theorem zR2{i:Nat}{x:Str}{e:Expr}{te:TE}{pos':Pos}(hN:X.N.Nodup)(hi:X.N[i]?=some x)(hx:Loc X.env.scope x)(he:PE X e te)(hs:swapsWith e (some (.Name x pos')) pos.line X.env=pure false:=by rfl)(hf:X.fn x=true\/X.env.scope.names.lookup x=some .local:=by first|exact .inl rfl|exact .inr rfl|assumption) :
  PS X (.Assign [.Name x pos'] e pos) (zVW te (zM5 i)):=by
 intro pins s σ H D I h
 refine wpAny_Assign_Name (thn (he pins s σ H _ I h) λv s1 ⟨y,H1,I1,r1,q1⟩=>?_) hs
 exact zKY I1 hN hi hx r1 (λs2 I2=>⟨_,H1,I2,q1⟩) hf
end
section
variable{X:Cx}{pos:Pos}
def zVX(c:TT)(tb:TS):TS:=λD σ H=>∃W:Nat->St->Hp->Prop,(∃m,W m σ H)/\∀m σ H,W m σ H ->
 c σ H λb H1=>if b=true then ∃N:St->Hp->Prop,(∀σ' H',N σ' H'->∃m',m'<m/\W m' σ' H')/\tb { D with nx:=N,ct:=N,bk:=D.nx } σ H1 else D.nx σ H1
theorem zP0{c:Expr}{body:List Stmt}{tc:TT}{tb:TS}(hp:PassesOwn (model X.prog X.w) X.A X.env X.xe)(hc:PT X c tc)(hb:PSs X body tb):PS X (.While c body [] pos) (zVX tc tb):=by
 intro pins s σ H D I h
 obtain⟨W,⟨m0,w0⟩,turn⟩:=h
 refine wpAny_While (codeAny_whileLoop (λn s'=>∃σ' H',Inv X pins σ' H' s'/\W n σ' H') ?_ m0 ⟨σ,H,I,w0⟩)
 rintro n s1 ⟨σ1,H1,I1,w1⟩
 refine wpAny_passesOwn hp (thn (hc pins s1 σ1 H1 _ I1 (turn n σ1 H1 w1)) λb s2 ⟨H2,I2,q2⟩=>?_)
 cases b with
 |true =>
  obtain⟨N,hN,q2⟩:=q2
  rw[if_pos rfl]
  refine wpAny_passesOwn hp (thn (hb pins s2 σ1 H2 _ I2 q2) λf s3 q3=>?_)
  cases f with
  |next =>
   obtain⟨σ3,H3,I3,n3⟩:=q3
   obtain⟨m',hm,w3⟩:=hN σ3 H3 n3
   exact⟨m',hm,σ3,H3,I3,w3⟩
  |cont =>
   obtain⟨σ3,H3,I3,n3⟩:=q3
   obtain⟨m',hm,w3⟩:=hN σ3 H3 n3
   exact⟨m',hm,σ3,H3,I3,w3⟩
  |brk=>exact q3
  |ret v=>exact q3
 |false =>
  rw[if_neg Bool.false_ne_true]
  exact wpAny_execs_nil ⟨σ1,H2,I2,q2⟩
end
structure It where
 go:Nat->Hp->Prop
 yld:Nat->Hp->V->Hp->Prop
 stop:Nat->Hp->Prop
def FpOk(X:Cx)(pins:List (Addr×Obj))(H:Hp)(b:Addr):Prop :=
 H b=none/\b≠X.env.locals/\b∉X.fs/\(b∈X.ex\/X.s₀.heap.objs.size<=b)/\(∀x c,X.env.cells.lookup x=some c->c≠b)/\∀p∈X.pn++pins,p.1≠b
theorem Inv.fpOk{X:Cx}{pins:List (Addr×Obj)}{σ:St}{H H':Hp}{s:Shared}{b:Addr}(I:Inv X pins σ H s)(hb:s.heap.objs.size<=b)(hn:H' b=none):FpOk X pins H' b:=by
 refine⟨hn,Nat.ne_of_gt (Nat.lt_of_lt_of_le I.lt hb),I.nofs hb,.inr (Nat.le_trans I.sz hb),λx c e z=>?_,λp hp z=>?_⟩
 ·obtain⟨v,q⟩:=I.cell x c e
  exact absurd (Nat.lt_of_lt_of_le q.lt (by rw[z];exact hb)) (Nat.lt_irrefl _)
 ·exact absurd (Nat.lt_of_lt_of_le (Heap.lt_size (I.pin p hp).1) (by rw[z];exact hb)) (Nat.lt_irrefl _)
structure Turn(P:Program)(w:World)(K:PySem.W.Frag)(tg:Expr)(J:It)(fp:List Addr)(it:Addr)(tn:Nat->Heap->Prop):Prop where
 mem:it∈fp
 obj:∀i h,tn i h->∀b∈fp,∃o,h.get? b=some o/\∀v,o.data≠.cell v
 keep:∀i h h',tn i h->(∀b∈fp,∀o,h.get? b=some o->h'.get? b=some o)->tn i h'
 item:∀(X:Cx),X.prog=P->X.w=w->X.K=K->X.calm=true->∀(i:Nat) (pins:List (Addr×Obj)) (s:Shared) (σ:St) (H:Hp) (E:Value->Shared->Prop),Inv X pins σ H s->(∀b∈fp,FpOk X pins H b)->tn i s.heap->J.go i H ->
  wpAny (model P w) X.A (pyNext (.ref it)) (λr s1=>∃u,r=some u /\
   wpAny (model P w) X.A (letOwnedTupleGo tg (.ref it) u) (λ_ s2=>∃x H',Inv X pins σ H' s2/\RelV x u/\J.yld i H x H'/\tn (i+1) s2.heap/\∀b∈fp,H' b=none) E s1) E s
 done:∀(X:Cx),X.prog=P->X.w=w->X.K=K->X.calm=true->∀(i:Nat) (pins:List (Addr×Obj)) (s:Shared) (σ:St) (H:Hp) (E:Value->Shared->Prop),Inv X pins σ H s->(∀b∈fp,FpOk X pins H b)->tn i s.heap->J.stop i H ->
  wpAny (model P w) X.A (pyNext (.ref it)) (λr s1=>r=none/\Inv X pins σ H s1) E s
 self:∀(A:Around) (i:Nat) (s:Shared) (Q:Value->Shared->Prop) (E:Value->Shared->Prop),tn i s.heap->Q (.ref it) s->wpAny (model P w) A (pyIter (.ref it)) Q E s
abbrev TI:=St->Hp->(It->Hp->Prop)->Prop
def PIE(X:Cx)(pins:List (Addr×Obj))(σ:St)(tg:Expr)(R:It->Hp->Prop)(itv:Value)(s2:Shared):Prop :=
 ∃(it:Addr) (fp:List Addr) (tn:Nat->Heap->Prop) (J:It) (H':Hp),itv=.ref it/\Inv X pins σ H' s2/\Turn X.prog X.w X.K tg J fp it tn/\tn 0 s2.heap/\(∀b∈fp,FpOk X pins H' b)/\R J H'
def PI(X:Cx)(tg iter:Expr)(wi:TI):Prop :=
 ∀(pins:List (Addr×Obj)) (s:Shared) (σ:St) (H:Hp) (R:It->Hp->Prop),Inv X pins σ H s->wi σ H R ->
  wpAny (model X.prog X.w) X.A (eval iter X.env) (λv s1=>wpAny (model X.prog X.w) X.A (pyIter v) (PIE X pins σ tg R) X.xe s1) X.xe s
theorem zM6 {M : Model} {A : Around} {E : Value → Shared → Prop} {s : Shared} {tg : Expr} {it : Addr} {u : Value} {o : Obj} {n : String} {vs : Array Value} {Q : Unit → Shared → Prop} (ho : s.heap.get? it = some o) (hc : o.cls = .type n) (hd : o.data = .fields vs)
    (hn : ["enumerate", "zip", "dict_itemiterator", "dict_reverseitemiterator", "odict_iterator", "itertools.zip_longest", "itertools.pairwise"].contains n = false) (hQ : Q () s) : wpAny M A (letOwnedTupleGo tg (.ref it) u) Q E s := by
  unfold letOwnedTupleGo
  cases tg <;> first
    | exact wpAny_pure hQ
    | (cases u <;> first
        | exact wpAny_pure hQ
        | (refine wpAny_bind (wpAny_load ho ?_)
           rw [hc, hd]
           show wpAny M A (if (["enumerate", "zip", "dict_itemiterator", "dict_reverseitemiterator", "odict_iterator", "itertools.zip_longest", "itertools.pairwise"].contains n && vs[0]? == some (rawInt _)) = true then _ else _) Q E s
           rw [if_neg (by intro h; rw [hn, Bool.false_and] at h; cases h)]
           exact wpAny_pure hQ))
noncomputable def Itl(K:PySem.W.Frag)(a:Addr):It :=
 ⟨λi H=>∃xs x,SqL K H a xs/\xs[i]?=some x,λi H x H'=>H'=H/\∀xs,SqL K H a xs->xs[i]?=some x,λi H=>∃xs,SqL K H a xs/\xs.length<=i⟩
noncomputable def Itt(K:PySem.W.Frag)(a:Addr):It :=
 ⟨λi H=>∃xs x,SqT K H a xs/\xs[i]?=some x,λi H x H'=>H'=H/\∀xs,SqT K H a xs->xs[i]?=some x,λi H=>∃xs,SqT K H a xs/\xs.length<=i⟩
noncomputable def Itr(lo:Int)(n:Nat):It:=⟨λi _=>i<n,λi H x H'=>H'=H/\x=.int (lo+i),λi _=>n<=i⟩
theorem zM7{P:Program}{w:World}{K:PySem.W.Frag}{tg:Expr}(a it:Addr):Turn P w K tg (Itl K a) [it] it (λi h=>h.IsListIter it a i) where
 mem:=by simp
 obj:=λi h st b hb=>by
  have e:b=it:=by simpa using hb
  subst e
  obtain⟨o,e,c,d⟩:=st
  exact⟨o,e,λv z=>by rw[d] at z;cases z⟩
 keep:=λi h h' st k=>st.at λo e=>k it (by simp) o e
 item:=by
  intro X hP hw hK hc i pins s σ H E I hf st hg
  subst hP hw hK
  obtain⟨xs,x,hq,hx⟩:=hg
  obtain⟨its,rv,p,hz⟩:=I.list hq
  obtain⟨u,hu,ru⟩:=rv.get hx
  obtain⟨f0,f1,f2,f3,f4,f5⟩:=hf it (by simp)
  refine wpAny_pyNext_list_item st p.isList (x:=u) (by simpa using hu) λh' st' sb=>?_
  have I1:Inv X pins σ H { s with heap:=h' }:=I.turned (t':=s.toks) (λb o hb e=>(sb.2 b hb).trans e) f0 f1 f3 f4 f5
  obtain⟨o,e,c,d⟩:=id st'
  exact⟨u,rfl,zM6 (s:={ s with heap:=h' }) e c d (by decide) ⟨x,H,I1,ru,⟨rfl,λys hy=>by rw[I.list_inj hy hq];exact hx⟩,st',λb hb=>(hf b hb).1⟩⟩
 done:=by
  intro X hP hw hK hc i pins s σ H E I hf st hg
  subst hP hw hK
  obtain⟨xs,hq,hx⟩:=hg
  obtain⟨its,rv,p,hz⟩:=I.list hq
  obtain⟨f0,f1,f2,f3,f4,f5⟩:=hf it (by simp)
  have hl:=rv.length
  exact wpAny_pyNext_list_end (I.ok.hd hc) st p.isList (by simp;lia) λh' eb=>⟨rfl,I.turned (t':=s.toks) (λb o hb e=>eb b o hb e) f0 f1 f3 f4 f5⟩
 self:=λ_ _ _ _ _ st h=>wpAny_pyIter_listiter st h
theorem zL7{P:Program}{w:World}{K:PySem.W.Frag}{tg:Expr}(a it:Addr):Turn P w K tg (Itt K a) [it] it (λi h=>h.IsTupleIter it a i) where
 mem:=by simp
 obj:=λi h st b hb=>by
  have e:b=it:=by simpa using hb
  subst e
  obtain⟨o,e,c,d⟩:=st
  exact⟨o,e,λv z=>by rw[d] at z;cases z⟩
 keep:=λi h h' st k=>st.at λo e=>k it (by simp) o e
 item:=by
  intro X hP hw hK hc i pins s σ H E I hf st hg
  subst hP hw hK
  obtain⟨xs,x,hq,hx⟩:=hg
  obtain⟨its,rv,p,hz⟩:=I.tuple hq
  obtain⟨u,hu,ru⟩:=rv.get hx
  obtain⟨f0,f1,f2,f3,f4,f5⟩:=hf it (by simp)
  refine wpAny_pyNext_tuple_item st (show s.heap.IsTuple a its.toArray from p) (x:=u) (by simpa using hu) λh' st' sb=>?_
  have I1:Inv X pins σ H { s with heap:=h' }:=I.turned (t':=s.toks) (λb o hb e=>(sb.2 b hb).trans e) f0 f1 f3 f4 f5
  obtain⟨o,e,c,d⟩:=id st'
  exact⟨u,rfl,zM6 (s:={ s with heap:=h' }) e c d (by decide) ⟨x,H,I1,ru,⟨rfl,λys hy=>by rw[I.tuple_inj hy hq];exact hx⟩,st',λb hb=>(hf b hb).1⟩⟩
 done:=by
  intro X hP hw hK hc i pins s σ H E I hf st hg
  subst hP hw hK
  obtain⟨xs,hq,hx⟩:=hg
  obtain⟨its,rv,p,hz⟩:=I.tuple hq
  obtain⟨f0,f1,f2,f3,f4,f5⟩:=hf it (by simp)
  have hl:=rv.length
  exact wpAny_pyNext_tuple_end (I.ok.hd hc) st (show s.heap.IsTuple a its.toArray from p) (by simp;lia) λh' eb=>⟨rfl,I.turned (t':=s.toks) (λb o hb e=>eb b o hb e) f0 f1 f3 f4 f5⟩
 self:=λ_ _ _ _ _ st h=>wpAny_pyIter_tupleiter st h
theorem zL8{P:Program}{w:World}{K:PySem.W.Frag}{tg:Expr}(it:Addr)(lo:Int)(n:Nat):Turn P w K tg (Itr lo n) [it] it (λi h=>IsRangeIter h it (lo+(i:Nat) * 1) ((n:Int)-(i:Nat)) 1) where
 mem:=by simp
 obj:=λi h st b hb=>by
  have e:b=it:=by simpa using hb
  subst e
  exact⟨_,st,λv z=>by
   have z':Data.fields _=Data.cell v:=z
   cases z'⟩
 keep:=λi h h' st k=>k it (by simp) _ st
 item:=by
  intro X hP hw hK hc i pins s σ H E I hf st hg
  subst hP hw hK
  obtain⟨f0,f1,f2,f3,f4,f5⟩:=hf it (by simp)
  have W:=Walks.range (prog:=X.prog) (w:=X.w) (I.ok.hd hc) it lo 1 n
  refine W.item i s _ _ hg st λv h' tk hv st' kk=>?_
  obtain⟨t,rfl⟩:=hv
  have I1:Inv X pins σ H { s with heap:=h',toks:=tk }:=I.turned (λb o hb e=>kk b o (by simpa using hb) e) f0 f1 f3 f4 f5
  refine⟨_,rfl,zM6 (s:={ s with heap:=h',toks:=tk }) (n:="range_iterator") st' rfl rfl (by decide) ⟨.int (lo+i),H,I1,⟨t,?_⟩,⟨rfl,rfl⟩,st',λb hb=>(hf b hb).1⟩⟩
  rw[Int.mul_one]
 done:=by
  intro X hP hw hK hc i pins s σ H E I hf st hg
  subst hP hw hK
  obtain⟨f0,f1,f2,f3,f4,f5⟩:=hf it (by simp)
  exact wpAny_pyNext_range_end (I.ok.hd hc) st (by have:n<=i:=hg;lia) λh' eb=>⟨rfl,I.turned (t':=s.toks) (λb o hb e=>eb b o hb e) f0 f1 f3 f4 f5⟩
 self:=λ_ _ _ _ _ st h=>wpAny_pyIter_rangeiter st h
section
variable{X:Cx}{tg:Expr}
def zYI(K:PySem.W.Frag)(tl:TE):TI:=λσ H R=>tl σ H λx H1=>∃a,x=.ref a/\(∃xs,SqL K H1 a xs)/\R (Itl K a) H1
def yAQ(K:PySem.W.Frag)(tl:TE):TI:=λσ H R=>tl σ H λx H1=>∃a,x=.ref a/\(∃xs,SqT K H1 a xs)/\R (Itt K a) H1
theorem zS0{l:Expr}{tl:TE}(hl:PE X l tl):PI X tg l (zYI X.K tl):=by
 intro pins s σ H R I h
 refine thn (hl pins s σ H _ I h) λv s1 ⟨x,H1,I1,r1,q1⟩=>?_
 obtain⟨a,e,⟨xs,hq⟩,q⟩:=q1
 subst e
 cases r1
 obtain⟨its,rv,p,hz⟩:=I1.list hq
 refine wpAny_pyIter_list p.isList ?_
 refine⟨s1.heap.objs.size,[s1.heap.objs.size],_,_,H1,rfl,I1.kept (t':=s1.toks) λb o e=>Heap.get?_push_of_some _ e,zM7 a _,⟨_,Heap.get?_push_size _ rfl,rfl,rfl⟩,λb hb=>?_,q⟩
 have e:b=s1.heap.objs.size:=by simpa using hb
 subst e
 exact I1.fpOk (Nat.le_refl _) (I1.hok.fresh (Nat.le_refl _))
theorem zVY{l:Expr}{tl:TE}(hl:PE X l tl):PI X tg l (yAQ X.K tl):=by
 intro pins s σ H R I h
 refine thn (hl pins s σ H _ I h) λv s1 ⟨x,H1,I1,r1,q1⟩=>?_
 obtain⟨a,e,⟨xs,hq⟩,q⟩:=q1
 subst e
 cases r1
 obtain⟨its,rv,p,hz⟩:=I1.tuple hq
 refine wpAny_pyIter_tuple (show s1.heap.IsTuple a its.toArray from p) ?_
 refine⟨s1.heap.objs.size,[s1.heap.objs.size],_,_,H1,rfl,I1.kept (t':=s1.toks) λb o e=>Heap.get?_push_of_some _ e,zL7 a _,⟨_,Heap.get?_push_size _ rfl,rfl,rfl⟩,λb hb=>?_,q⟩
 have e:b=s1.heap.objs.size:=by simpa using hb
 subst e
 exact I1.fpOk (Nat.le_refl _) (I1.hok.fresh (Nat.le_refl _))
theorem zKZ{pins:List (Addr×Obj)}{σ:St}{H:Hp}{s:Shared}{R:It->Hp->Prop}{E:Value->Shared->Prop}{lo hi:Int}{t u v:Tok}{tk:Nat}(I:Inv X pins σ H s)(h1:-(2 ^ 62)<=lo)(h2:lo<2 ^ 62)(h3:-(2 ^ 62)<=hi)(h4:hi<2 ^ 62)
  (q:R (Itr lo (hi-lo).toNat) H):wpAny (model X.prog X.w) X.A (pyIter (.ref s.heap.objs.size)) (PIE X pins σ tg R) E { s with heap:=s.heap.push { cls:=.type "range",data:=.fields #[.int lo t,.int hi u,.int 1 v] },toks:=tk }:=by
 refine wpAny_pyIter_range (IsRange.new ..) (small_one h1 h2 h3 h4) ?_
 have I1:Inv X pins σ H { s with heap:=s.heap.push { cls:=.type "range",data:=.fields #[.int lo t,.int hi u,.int 1 v] },toks:=tk }:=I.kept λb o e=>Heap.get?_push_of_some _ e
 refine⟨(s.heap.push { cls:=.type "range",data:=.fields #[.int lo t,.int hi u,.int 1 v] }).objs.size,[(s.heap.push { cls:=.type "range",data:=.fields #[.int lo t,.int hi u,.int 1 v] }).objs.size],_,_,H,rfl,
  I1.kept (t':=tk) λb o e=>Heap.get?_push_of_some _ e,zL8 _ lo (hi-lo).toNat,?_,λb hb=>?_,q⟩
 ·have e1:lo+((0:Nat):Int) * 1=lo:=by simp
  have e2:(((hi-lo).toNat:Nat):Int)-((0:Nat):Int)=Builtin.Range.rangeSize lo hi 1:=by rw[rangeSize_one];split<;>lia
  show IsRangeIter _ _ (lo+((0:Nat):Int) * 1) ((((hi-lo).toNat:Nat):Int)-((0:Nat):Int)) 1
  rw[e1,e2]
  exact Heap.get?_push_size _ rfl
 ·have e:b=(s.heap.push { cls:=.type "range",data:=.fields #[.int lo t,.int hi u,.int 1 v] }).objs.size:=by simpa using hb
  subst e
  exact I1.fpOk (Nat.le_refl _) (I1.hok.fresh (Nat.le_refl _))
def zYJ(ta:TA):TI:=λσ H R=>ta σ H λvs H1=>∃j:Int,vs=[.int j]/\-(2 ^ 62)<=j/\j<2 ^ 62/\R (Itr 0 j.toNat) H1
def zYK(ta:TA):TI:=λσ H R=>ta σ H λvs H1=>∃i j:Int,vs=[.int i,.int j]/\(-(2 ^ 62)<=i/\i<2 ^ 62/\-(2 ^ 62)<=j/\j<2 ^ 62)/\R (Itr i (j-i).toNat) H1
theorem zM8{a:Expr}{ta:TA}{p pos:Pos}(hg:Gl X "range")(hm:X.mg "range"=none)(ha:PA X [a] ta)(hs:starEach [a] X.env=[(false,eval a X.env)]:=by rfl):PI X tg (.Call (.Name "range" p) [a] [] pos) (zYJ ta):=by
 intro pins s σ H R I h
 refine Call_ (zGF I hg hm boot_range (PyProof.Rows.callWith_type1 (thn (ha pos pins s σ H _ I h) λus s1 ⟨vs,H1,I1,r1,q1⟩=>?_) hs rfl))
 obtain⟨j,e,q1,q2,q⟩:=q1
 subst e
 cases r1 with
 |cons r rr =>
  cases rr
  obtain⟨t,rfl⟩:=r
  exact call_range_1 (zKZ I1 (by lia) (by lia) q1 q2 (by simpa using q))
theorem zM9{a b:Expr}{ta:TA}{p pos:Pos}(hg:Gl X "range")(hm:X.mg "range"=none)(ha:PA X [a,b] ta)(hs:starEach [a,b] X.env=[(false,eval a X.env),(false,eval b X.env)]:=by rfl)(hs2:starEach [b] X.env=[(false,eval b X.env)]:=by rfl) :
  PI X tg (.Call (.Name "range" p) [a,b] [] pos) (zYK ta):=by
 intro pins s σ H R I h
 refine Call_ (zGF I hg hm boot_range (PyProof.Rows.callWith_type1 (thn (ha pos pins s σ H _ I h) λus s1 ⟨vs,H1,I1,r1,q1⟩=>?_) (by rw[hs,hs2]) (by rw[hs2];rfl)))
 obtain⟨i,j,e,⟨q1,q2,q3,q4⟩,q⟩:=q1
 subst e
 cases r1 with
 |cons r rr =>
  cases rr with
  |cons r' rr =>
   cases rr
   obtain⟨t,rfl⟩:=r
   obtain⟨t',rfl⟩:=r'
   exact call_range_2 (zKZ I1 q1 q2 q3 q4 q)
def yAR(wi:TI)(g:TG)(tb:TS):TS:=λD σ H=>wi σ H λJ H1=>∃W:Nat->Nat->St->Hp->Prop,(∃m,W 0 m σ H1)/\∀i m σ H,W i m σ H ->
 (J.stop i H/\D.nx σ H)\/(J.go i H/\∃N:St->Hp->Prop,(∀σ' H',N σ' H'->∃m',m'<m/\W (i+1) m' σ' H')/\∀x H',J.yld i H x H'->g x σ H' λσ2 H2=>tb { D with nx:=N,ct:=N,bk:=D.nx } σ2 H2)
noncomputable def zID(fp:List Addr)(h:Heap):List (Addr×Obj):=fp.filterMap λb=>(h.get? b).map λo=>(b,o)
theorem zDY{fp:List Addr}{h:Heap}{b:Addr}{o:Obj}(hb:b∈fp)(e:h.get? b=some o):(b,o)∈zID fp h:=List.mem_filterMap.mpr ⟨b,hb,by rw[e];rfl⟩
theorem zNA{fp:List Addr}{h:Heap}{p:Addr×Obj}(hp:p∈zID fp h):p.1∈fp/\h.get? p.1=some p.2:=by
 obtain⟨b,hb,e⟩:=List.mem_filterMap.mp hp
 cases q:h.get? b with
 |none=>rw[q] at e;cases e
 |some o =>
  rw[q] at e
  have e':(b,o)=p:=Option.some.inj e
  subst e'
  exact⟨hb,q⟩
theorem Inv.pinned{pins:List (Addr×Obj)}{σ:St}{H:Hp}{s:Shared}{fp:List Addr}(I:Inv X pins σ H s)(hf:∀b∈fp,FpOk X pins H b)(ho:∀b∈fp,∃o,s.heap.get? b=some o/\∀v,o.data≠.cell v):Inv X (pins++zID fp s.heap) σ H s :=
 I.pins_of λp hp=>(List.mem_append.mp hp).elim (λz=>I.pin p (List.mem_append_right _ z)) λz=>by
  obtain⟨hb,e⟩:=zNA z
  obtain⟨f0,f1,f2,_⟩:=hf p.1 hb
  obtain⟨o,e',d⟩:=ho p.1 hb
  rw[e] at e';cases e'
  exact⟨e,f0,f1,f2,d⟩
theorem Inv.unpinned{pins pl:List (Addr×Obj)}{σ:St}{H:Hp}{s:Shared}(I:Inv X (pins++pl) σ H s):Inv X pins σ H s:=I.pins_of λp hp=>I.pin p (List.mem_append_right _ (List.mem_append_left _ hp))
theorem zVZ{iter:Expr}{body:List Stmt}{wi:TI}{g:TG}{tb:TS}{pos:Pos}(hp:PassesOwn (model X.prog X.w) X.A X.env X.xe)(hc:X.calm=true)(hi:PI X tg iter wi)(hg:PG X tg g)(hb:PSs X body tb)
  (hs:∀x,foldedSetIterable iter X.env x=pure x:=by intro _;rfl):PS X (.For tg iter body [] pos) (yAR wi g tb):=by
 intro pins s σ H D I h
 refine wpAny_For (thn (hi pins s σ H _ I h) λv s1 h1=>thn h1 λitv s2 h2=>?_) hs
 obtain⟨it,fp,tn,J,H2,e,I2,T,st2,f2,W,⟨m0,w0⟩,turn⟩:=h2
 subst e
 -- what stays true of the iterator's objects through the loop
 have stat:∀{H':Hp},(∀b∈fp,H' b=none)->∀b∈fp,FpOk X pins H' b:=λhn b hb=>⟨hn b hb,(f2 b hb).2⟩
 refine codeAny_forLoop_any (λn s'=>∃i σ' H',Inv X pins σ' H' s'/\tn i s'.heap/\(∀b∈fp,H' b=none)/\W i n σ' H') ?_ m0 ⟨0,σ,H2,I2,st2,λb hb=>(f2 b hb).1,w0⟩
 rintro n s3 ⟨i,σ3,H3,I3,st3,fr3,w3⟩
 rcases turn i n σ3 H3 w3 with⟨stop,qn⟩|⟨go,N,hN,step⟩
 ·refine wpAny_passesOwn hp (thn (T.done X rfl rfl rfl hc i pins s3 σ3 H3 X.xe I3 (stat fr3) st3 stop) λr s4 ⟨hr,I4⟩=>?_)
  subst hr
  exact wpAny_execs_nil ⟨σ3,H3,I4,qn⟩
 ·refine wpAny_passesOwn hp (thn (T.item X rfl rfl rfl hc i pins s3 σ3 H3 X.xe I3 (stat fr3) st3 go) λr s4 ⟨u,hr,h4⟩=>?_)
  subst hr
  refine wpAny_passesOwn hp (thn h4 λ_ s5 ⟨x,H5,I5,r5,y5,st5,fr5⟩=>?_)
  have I5':=I5.pinned (stat fr5) (T.obj _ _ st5)
  refine wpAny_passesOwn hp (thn (hg _ s5 σ3 H5 x u _ I5' r5 (step x H5 y5)) λ_ s6 ⟨σ6,H6,I6,q6⟩=>?_)
  refine wpAny_passesOwn hp (thn (hb _ s6 σ6 H6 _ I6 q6) λf s7 q7=>?_)
  have again:∀{σ7:St} {H7:Hp},Inv X (pins++zID fp s5.heap) σ7 H7 s7->N σ7 H7->∃m,m<n/\∃i σ' H',Inv X pins σ' H' s7/\tn i s7.heap/\(∀b∈fp,H' b=none)/\W i m σ' H':=λ{σ7 H7} I7 n7=>by
   obtain⟨m',hm,w7⟩:=hN σ7 H7 n7
   refine⟨m',hm,i+1,σ7,H7,I7.unpinned,T.keep _ _ _ st5 λb hb o e=>(I7.pin (b,o) (List.mem_append_right _ (List.mem_append_right _ (zDY hb e)))).1,λb hb=>?_,w7⟩
   obtain⟨o,e,d⟩:=T.obj _ _ st5 b hb
   exact(I7.pin (b,o) (List.mem_append_right _ (List.mem_append_right _ (zDY hb e)))).2.1
  cases f with
  |next=>obtain⟨σ7,H7,I7,n7⟩:=q7;exact again I7 n7
  |cont=>obtain⟨σ7,H7,I7,n7⟩:=q7;exact again I7 n7
  |brk=>obtain⟨σ7,H7,I7,q7⟩:=q7;exact⟨σ7,H7,I7.unpinned,q7⟩
  |ret v=>obtain⟨x7,σ7,H7,I7,r7,q7⟩:=q7;exact⟨x7,σ7,H7,I7.unpinned,r7,q7⟩
end
abbrev R2:=V->V->Hp->VK->Prop
def OpR(X:Cx)(f:Value->Value->Sem Value)(r:R2):Prop :=
 ∀(pins:List (Addr×Obj)) (s:Shared) (σ:St) (H:Hp) (x y:V) (v u:Value) (Q:VK),Inv X pins σ H s->RelV x v->RelV y u->r x y H Q ->
  wpAny (model X.prog X.w) X.A (f v u) (EP X pins σ Q) X.xe s
def UnR(X:Cx)(f:Value->Sem Value)(r:V->Hp->VK->Prop):Prop :=
 ∀(pins:List (Addr×Obj)) (s:Shared) (σ:St) (H:Hp) (x:V) (v:Value) (Q:VK),Inv X pins σ H s->RelV x v->r x H Q ->
  wpAny (model X.prog X.w) X.A (f v) (EP X pins σ Q) X.xe s
def CallR(X:Cx)(f:Value)(r:List V->Hp->VK->Prop):Prop :=
 ∀(pins:List (Addr×Obj)) (s:Shared) (σ:St) (H:Hp) (xs:List V) (us:List Value) (Q:VK),Inv X pins σ H s->Vals xs us->r xs H Q ->
  wpAny (model X.prog X.w) X.A (call f us) (EP X pins σ Q) X.xe s
def yAS(X:Cx)(r:V->Hp->(Bool->Hp->Prop)->Prop):Prop :=
 ∀(pins:List (Addr×Obj)) (s:Shared) (σ:St) (H:Hp) (x:V) (v:Value) (Q:Bool->Hp->Prop),Inv X pins σ H s->RelV x v->r x H Q ->
  wpAny (model X.prog X.w) X.A (truthy v) (TP X pins σ Q) X.xe s
def tOp(r:R2)(ta tb:TE):TE:=λσ H Q=>ta σ H λx H1=>tb σ H1 λy H2=>r x y H2 Q
def tUn(r:V->Hp->VK->Prop)(ta:TE):TE:=λσ H Q=>ta σ H λx H1=>r x H1 Q
def rI(C:Int->Int->Prop)(g:Int->Int->V):R2:=λx y H Q=>∃i j,x=.int i/\y=.int j/\C i j/\Q (g i j) H
def rI0(g:Int->Int->V):R2:=λx y H Q=>∃i j,x=.int i/\y=.int j/\Q (g i j) H
def rU(g:Int->V):V->Hp->VK->Prop:=λx H Q=>∃i,x=.int i/\Q (g i) H
section
variable{X:Cx}{a b c:Expr}{ta tb tc:TE}{pos:Pos}
theorem zYL(ha:PE X a ta)(hb:PE X b tb){pins:List (Addr×Obj)}{s:Shared}{σ:St}{H:Hp}{R:V->V->Hp->Prop}(I:Inv X pins σ H s)
  (h:ta σ H λx H1=>tb σ H1 λy H2=>R x y H2) {Q:Value->Shared->Prop} {f:Value->Value->Sem Value}
  (hf:∀v u s2 x y H2,Inv X pins σ H2 s2->RelV x v->RelV y u->R x y H2->wpAny (model X.prog X.w) X.A (f v u) Q X.xe s2) :
  wpAny (model X.prog X.w) X.A (eval a X.env) (λv s₁=>wpAny (model X.prog X.w) X.A (eval b X.env) (λu s₂=>wpAny (model X.prog X.w) X.A (f v u) Q X.xe s₂) X.xe s₁) X.xe s:=by
 refine thn (ha pins s σ H _ I h) λv s1 ⟨x,H1,I1,r1,q1⟩=>?_
 refine thn (hb pins s1 σ H1 _ I1 q1) λu s2 ⟨y,H2,I2,r2,q2⟩=>?_
 exact hf v u s2 x y H2 I2 r1 r2 q2
theorem zYM{op:Operator}{r:R2}(ho:OpR X (binaryOp op) r)(ha:PE X a ta)(hb:PE X b tb):PE X (.BinOp a op b pos) (tOp r ta tb):=by
 intro pins s σ H Q I h
 exact wpAny_BinOp (zYL ha hb I h λv u s2 x y H2 I2 rx ry q=>ho pins s2 σ H2 x y v u Q I2 rx ry q)
theorem zYN{op:UnaryOp}{r:V->Hp->VK->Prop}(ho:UnR X (unaryOp op) r)(ha:PE X a ta):PE X (.UnaryOp op a pos) (tUn r ta):=by
 intro pins s σ H Q I h
 exact UnaryOp_ (thn (ha pins s σ H _ I h) λv s1 ⟨x,H1,I1,r1,q1⟩=>ho pins s1 σ H1 x v Q I1 r1 q1)
theorem opI{f:Value->Value->Sem Value}{C:Int->Int->Prop}{g:Int->Int->Int}
  (rule:∀(i j:Int) (t u:Tok) (s:Shared) (Q:Value->Shared->Prop) (E:Value->Shared->Prop),C i j->Q (.int (g i j) s.toks) { s with toks:=s.toks+1 }->wpAny (model X.prog X.w) X.A (f (.int i t) (.int j u)) Q E s) :
  OpR X f (rI C λi j=>.int (g i j)):=by
 intro pins s σ H x y v u Q I rx ry h
 obtain⟨i,j,rfl,rfl,hc,q⟩:=h
 obtain⟨t,rfl⟩:=rx
 obtain⟨t',rfl⟩:=ry
 exact rule i j t t' s _ _ hc ⟨.int (g i j),H,I.tok _,⟨_,rfl⟩,q⟩
theorem zZQ{f:Value->Value->Sem Value}{g:Int->Int->Int}
  (rule:∀(i j:Int) (t u:Tok) (s:Shared) (Q:Value->Shared->Prop) (E:Value->Shared->Prop),Q (.int (g i j) s.toks) { s with toks:=s.toks+1 }->wpAny (model X.prog X.w) X.A (f (.int i t) (.int j u)) Q E s) :
  OpR X f (rI0 λi j=>.int (g i j)):=by
 intro pins s σ H x y v u Q I rx ry h
 obtain⟨i,j,rfl,rfl,q⟩:=h
 obtain⟨t,rfl⟩:=rx
 obtain⟨t',rfl⟩:=ry
 exact rule i j t t' s _ _ ⟨.int (g i j),H,I.tok _,⟨_,rfl⟩,q⟩
theorem zX0{f:Value->Value->Sem Value}{g:Int->Int->Bool}
  (rule:∀(i j:Int) (t u:Tok) (s:Shared) (Q:Value->Shared->Prop) (E:Value->Shared->Prop),Q (.bool (g i j)) s->wpAny (model X.prog X.w) X.A (f (.int i t) (.int j u)) Q E s) :
  OpR X f (rI0 λi j=>.bl (g i j)):=by
 intro pins s σ H x y v u Q I rx ry h
 obtain⟨i,j,rfl,rfl,q⟩:=h
 obtain⟨t,rfl⟩:=rx
 obtain⟨t',rfl⟩:=ry
 exact rule i j t t' s _ _ ⟨.bl (g i j),H,I,rfl,q⟩
def zZR(i j:Int):Prop:=0<=j/\j<=1000000/\i.natAbs<2 ^ 64
def CMul(i j:Int):Prop:=(-(2 ^ 64)<i/\i<2 ^ 64)\/(-(2 ^ 64)<j/\j<2 ^ 64)
theorem CMul.ok{i j:Int}(h:CMul i j):IntMulOk i j:=by
 rcases h with⟨h1,h2⟩|⟨h1,h2⟩
 ·exact .of_left (intBits_le_64 h1 h2)
 ·exact .of_right (intBits_le_64 h1 h2)
theorem op_add:OpR X (binaryOp .Add) (rI0 λi j=>.int (i+j)):=zZQ λ_ _ _ _ _ _ _ q=>add_int q
theorem zV0:OpR X (binaryOp .Sub) (rI0 λi j=>.int (i-j)):=zZQ λ_ _ _ _ _ _ _ q=>sub_int q
theorem zV1:OpR X (binaryOp .Mult) (rI CMul λi j=>.int (i * j)):=opI λ_ _ _ _ _ _ _ hc q=>mul_int q hc.ok
theorem zV2:OpR X (binaryOp .Mod) (rI (λ_ j=>0<j) λi j=>.int (i % j)):=opI λi j _ _ _ _ _ hc q=>by
 have h1:(0:Int)<j:=hc
 exact mod_int' (by lia) (by rw[Int.fmod_eq_emod_of_nonneg i (by lia)];exact q)
theorem zV3:OpR X (binaryOp .Pow) (rI zZR λi j=>.int (i ^ j.toNat)):=opI λ_ _ _ _ _ _ _ hc q=>pow_int_small hc.1 hc.2.1 hc.2.2 q
theorem unI{f:Value->Sem Value}{g:Int->Int}
  (rule:∀(i:Int) (t:Tok) (s:Shared) (Q:Value->Shared->Prop) (E:Value->Shared->Prop),Q (.int (g i) s.toks) { s with toks:=s.toks+1 }->wpAny (model X.prog X.w) X.A (f (.int i t)) Q E s) :
  UnR X f (rU λi=>.int (g i)):=by
 intro pins s σ H x v Q I rx h
 obtain⟨i,rfl,q⟩:=h
 obtain⟨t,rfl⟩:=rx
 exact rule i t s _ _ ⟨.int (g i),H,I.tok _,⟨_,rfl⟩,q⟩
theorem zV4:UnR X (unaryOp .USub) (rU λi=>.int (-i)):=unI λ_ _ _ _ _ q=>neg_int q
end
section
variable{X:Cx}{a b c:Expr}{ta tb tc:TE}{pos:Pos}
theorem op_lt:OpR X (compareOp .Lt) (rI0 λi j=>.bl (decide (i<j))):=zX0 λ_ _ _ _ _ _ _ q=>lt_int q
theorem zNB:OpR X (compareOp .LtE) (rI0 λi j=>.bl (decide (i<=j))):=zX0 λ_ _ _ _ _ _ _ q=>le_int q
theorem zYO:OpR X (compareOp .Gt) (rI0 λi j=>.bl (decide (j<i))):=zX0 λ_ _ _ _ _ _ _ q=>gt_int q
theorem zYP:OpR X (compareOp .GtE) (rI0 λi j=>.bl (decide (j<=i))):=zX0 λ_ _ _ _ _ _ _ q=>ge_int q
theorem OpR.or{f:Value->Value->Sem Value}{r r':R2}(h:OpR X f r)(h':OpR X f r'):OpR X f (λx y H Q=>r x y H Q\/r' x y H Q):=by
 intro pins s σ H x y v u Q I rx ry q
 rcases q with q|q
 ·exact h pins s σ H x y v u Q I rx ry q
 ·exact h' pins s σ H x y v u Q I rx ry q
theorem zZS(b:Expr){op:CmpOp}(h:op≠.In:=by decide)(h2:op≠.NotIn:=by decide):behindInMarks op b=false:=by
 have e1:(op==CmpOp.In)=false:=by cases op<;>first|rfl|exact absurd rfl h
 have e2:(op==CmpOp.NotIn)=false:=by cases op<;>first|rfl|exact absurd rfl h2
 cases b<;>simp[behindInMarks,e1,e2]
theorem zS1{op:CmpOp}{r:R2}(ho:OpR X (compareOp op) r)(ha:PE X a ta)(hb:PE X b tb)(hm:behindInMarks op b=false):PE X (.Compare a [op] [b] pos) (tOp r ta tb):=by
 intro pins s σ H Q I h
 exact wpAny_Compare1 (zYL ha hb I h λv u s2 x y H2 I2 rx ry q=>ho pins s2 σ H2 x y v u Q I2 rx ry q) hm
def zV5(t:TE):TT:=λσ H Q=>t σ H λx H'=>∃k,x=.bl k/\Q k H'
theorem zS2{op:CmpOp}{r:R2}(ho:OpR X (compareOp op) r)(ha:PE X a ta)(hb:PE X b tb)(hm:behindInMarks op b=false):PT X (.Compare a [op] [b] pos) (zV5 (tOp r ta tb)):=by
 intro pins s σ H Q I h
 refine wpAny_isTrue_Compare1 (thn (ha pins s σ H _ I h) λv s1 ⟨x,H1,I1,r1,q1⟩=>thn (hb pins s1 σ H1 _ I1 q1) λu s2 ⟨y,H2,I2,r2,q2⟩ =>
  thn (ho pins s2 σ H2 x y v u _ I2 r1 r2 q2) λc s3 ⟨z,H3,I3,r3,k,e,q3⟩=>?_) hm
 subst e
 cases r3
 exact wpAny_truthy_bool ⟨H3,I3,q3⟩
def zNC(r r':R2)(ta tb tc:TE):TE:=λσ H Q=>ta σ H λx H1=>tb σ H1 λy H2=>r x y H2 λz H3=>∃k,z=.bl k /\
 (if k=true then tc σ H3 λw' H4=>r' y w' H4 Q else Q (.bl false) H3)
theorem zP1{op op':CmpOp}{r r':R2}(ho:OpR X (compareOp op) r)(ho':OpR X (compareOp op') r')(ha:PE X a ta)(hb:PE X b tb)(hc:PE X c tc)
  (hm:lastMarks [op,op'] [b,c]=false:=by with_unfolding_all rfl):PE X (.Compare a [op,op'] [b,c] pos) (zNC r r' ta tb tc):=by
 intro pins s σ H Q I h
 refine Compare_chain (thn (ha pins s σ H _ I h) λv s1 ⟨x,H1,I1,r1,q1⟩=>chain_link (thn (hb pins s1 σ H1 _ I1 q1) λu s2 ⟨y,H2,I2,r2,q2⟩ =>
  thn (ho pins s2 σ H2 x y v u _ I2 r1 r2 q2) λd s3 ⟨z,H3,I3,r3,k,e,q3⟩=>?_)) hm
 subst e
 cases r3
 refine wpAny_truthy_bool ?_
 cases k with
 |false=>exact ite_ff ⟨.bl false,H3,I3,rfl,q3⟩
 |true=>exact ite_tt (chain_last (thn (hc pins s3 σ H3 _ I3 q3) λw' s4 ⟨z',H4,I4,r4,q4⟩=>ho' pins s4 σ H4 y z' u w' Q I4 r2 r4 q4))
theorem zP2{op op':CmpOp}{r r':R2}(ho:OpR X (compareOp op) r)(ho':OpR X (compareOp op') r')(ha:PE X a ta)(hb:PE X b tb)(hc:PE X c tc)
  (hm:lastMarks [op,op'] [b,c]=false:=by with_unfolding_all rfl):PT X (.Compare a [op,op'] [b,c] pos) (zV5 (zNC r r' ta tb tc)):=by
 intro pins s σ H Q I h
 refine isTrue_chain (thn (ha pins s σ H _ I h) λv s1 ⟨x,H1,I1,r1,q1⟩=>test_link (thn (hb pins s1 σ H1 _ I1 q1) λu s2 ⟨y,H2,I2,r2,q2⟩ =>
  thn (ho pins s2 σ H2 x y v u _ I2 r1 r2 q2) λd s3 ⟨z,H3,I3,r3,k,e,q3⟩=>?_)) hm
 subst e
 cases r3
 refine wpAny_truthy_bool ?_
 cases k with
 |false =>
  obtain⟨k',e',q'⟩:=q3
  cases e'
  exact ite_ff ⟨H3,I3,q'⟩
 |true =>
  refine ite_tt (test_last (thn (hc pins s3 σ H3 _ I3 q3) λw' s4 ⟨z',H4,I4,r4,q4⟩=>thn (ho' pins s4 σ H4 y z' u w' _ I4 r2 r4 q4) λd' s5 ⟨z2,H5,I5,r5,k2,e2,q5⟩=>?_))
  subst e2
  cases r5
  exact wpAny_truthy_bool ⟨H5,I5,q5⟩
def zZT(K:PySem.W.Frag)(x:V)(H:Hp)(k:Bool):Prop :=
 match x with
 |.non=>k=false
 |.bl b=>k=b
 |.int i=>k=(i != 0)
 |.str y=>y.length<=sizeLine/\k=((y.length:Int) != 0)
 |.byt y=>y.size<=sizeLine/\k=((y.size:Int) != 0)
 |.ref p=>(∃xs,SqL K H p xs/\k=!xs.isEmpty)\/(∃xs,SqT K H p xs/\k=!xs.isEmpty)\/∃kvs,H p=some (.dK kvs)/\k=!kvs.isEmpty
 |_=>False
theorem zL9{κ:Type}{kvs:List (κ×V)}{vs:List (κ×Value)}(r:KV kvs vs):(!vs.isEmpty)=!kvs.isEmpty:=by
 cases r<;>rfl
theorem zGG{xs:List V}{its:List Value}(r:Vals xs its):(!its.toArray.isEmpty)=!xs.isEmpty:=by
 cases r<;>simp
theorem zE2:(sizeLine:Nat)<2 ^ 63:=by rw[sizeLine_eq];decide
theorem zV6:yAS X (λx H Q=>∃k,zZT X.K x H k/\Q k H):=by
 intro pins s σ H x v Q I rx h
 obtain⟨k,e,q⟩:=h
 have hl:=zE2
 have hs:sizeLine=16777216:=sizeLine_eq
 cases x with
 |non =>
  cases rx
  have e':k=false:=e
  subst e'
  exact truthy_none ⟨H,I,q⟩
 |bl b =>
  cases rx
  have e':k=b:=e
  subst e'
  exact wpAny_truthy_bool ⟨H,I,q⟩
 |int i =>
  obtain⟨t,rfl⟩:=rx
  have e':k=(i != 0):=e
  subst e'
  exact PySem.P.truthy_int ⟨H,I,q⟩
 |str y =>
  obtain⟨t,rfl⟩:=rx
  obtain⟨hy,e'⟩:y.length<=sizeLine/\k=((y.length:Int) != 0):=e
  subst e'
  exact PySem.P.truthy_str (by lia) ⟨H,I.tok _,q⟩
 |byt y =>
  obtain⟨t,rfl⟩:=rx
  obtain⟨hy,e'⟩:y.size<=sizeLine/\k=((y.size:Int) != 0):=e
  subst e'
  exact PySem.W.truthy_bytes (by lia) ⟨H,I.tok _,q⟩
 |ref p =>
  cases rx
  have e':(∃xs,SqL X.K H p xs/\k=!xs.isEmpty)\/(∃xs,SqT X.K H p xs/\k=!xs.isEmpty)\/∃kvs,H p=some (.dK kvs)/\k=!kvs.isEmpty:=e
  rcases e' with⟨xs,hx,e'⟩|⟨xs,hx,e'⟩|⟨kvs,hx,e'⟩
  ·subst e'
   obtain⟨its,r,pl,hz⟩:=I.list hx
   have hlen:=r.length
   exact wpAny_truthy_list pl.isList (by simp only[List.size_toArray];lia) ⟨H,I.tok _,by rw[zGG r];exact q⟩
  ·subst e'
   obtain⟨its,r,pl,hz⟩:=I.tuple hx
   have hlen:=r.length
   exact truthy_tuple pl (by simp only[List.size_toArray];lia) ⟨H,I.tok _,by rw[zGG r];exact q⟩
  ·subst e'
   obtain⟨hz,hS,vs,r,m⟩:kvs.length<=sizeLine/\(p==sysModules)=false/\∃vs,KV kvs vs/\s.heap.DictOf (zBN X.prog X.w) p vs:=I.hok p _ hx
   have hlen:kvs.length=vs.length:=Paired.length r
   exact wpAny_truthy_dict hS m (by lia) ⟨H,I.tok _,by rw[zL9 r];exact q⟩
 |_=>exact(show False from e).elim
theorem zP3(ha:PE X a ta)(he:∀whole,isTrue a X.env whole=(do let v <-whole;standAt a.pos;holding [v] (truthy v))) :
  PT X a (λσ H Q=>ta σ H λx H'=>∃k,zZT X.K x H' k/\Q k H'):=by
 intro pins s σ H Q I h
 exact isTrue_plain (thn (ha pins s σ H _ I h) λv s1 ⟨x,H1,I1,r1,q1⟩=>zV6 pins s1 σ H1 x v Q I1 r1 q1) (he _)
theorem zMA:OpR X (binaryOp .Add) (λx y H Q=>∃i j,x=.str i/\y=.str j/\i.length+j.length<=sizeLine/\Q (.str (i++j)) H):=by
 intro pins s σ H x y v u Q I rx ry h
 obtain⟨i,j,rfl,rfl,hz,q⟩:=h
 obtain⟨t,rfl⟩:=rx
 obtain⟨t',rfl⟩:=ry
 exact add_str (λt' tk=>⟨.str (i++j),H,I.tok _,⟨_,rfl⟩,q⟩) hz
theorem zD8{x:V}{us:List Value}(r:Vals [x] us):∃u,us=[u]/\RelV x u:=by
 cases r with
 |cons r1 r2=>cases r2;exact⟨_,rfl,r1⟩
theorem zV7{x y:V}{us:List Value}(r:Vals [x,y] us):∃u w',us=[u,w']/\RelV x u/\RelV y w':=by
 cases r with
 |cons r1 r2 =>
  cases r2 with
  |cons r3 r4=>cases r4;exact⟨_,_,rfl,r1,r3⟩
theorem zND(hc:X.calm=true):CallR X (.builtin "max") (λxs H Q=>∃i j,xs=[.int i,.int j]/\Q (.int (if j>i then j else i)) H):=by
 intro pins s σ H xs us Q I r h
 obtain⟨i,j,rfl,q⟩:=h
 obtain⟨u,w',rfl,⟨t,rfl⟩,⟨t',rfl⟩⟩:=zV7 r
 refine max_two_ints (I.ok.hd hc) λh' tk k=>⟨_,H,I.kept k,?_,q⟩
 by_cases hj:j>i
 ·rw[if_pos hj,if_pos hj];exact⟨_,rfl⟩
 ·rw[if_neg hj,if_neg hj];exact⟨_,rfl⟩
theorem zNE(hc:X.calm=true):CallR X (.builtin "min") (λxs H Q=>∃i j,xs=[.int i,.int j]/\Q (.int (if j<i then j else i)) H):=by
 intro pins s σ H xs us Q I r h
 obtain⟨i,j,rfl,q⟩:=h
 obtain⟨u,w',rfl,⟨t,rfl⟩,⟨t',rfl⟩⟩:=zV7 r
 refine min_two_ints (I.ok.hd hc) λh' tk k=>⟨_,H,I.kept k,?_,q⟩
 by_cases hj:j<i
 ·rw[if_pos hj,if_pos hj];exact⟨_,rfl⟩
 ·rw[if_neg hj,if_neg hj];exact⟨_,rfl⟩
end
structure ObjM(h:Heap)(x dx C:Addr)(mA:Str->Option Value):Prop where
 obj:h.get? x=some (PySem.W.instObj C dx)
 ns:h.Ns1 dx mA
 ne:dx≠x
theorem zNF{h:Heap}{dx:Addr}{mA:Str->Option Value}(n:h.Ns1 dx mA):∃od,h.get? dx=some od/\∀name,PySem.W.lookIn name od=some (mA name):=by
 obtain⟨o,es,ep,ho,hd,hk,_,hm⟩:=n
 refine⟨o,ho,λname=>?_⟩
 have e:=hm name
 unfold nsFind findBy at e
 rw[<-Array.find?_toList] at e
 unfold PySem.W.lookIn
 rw[hd]
 dsimp only
 split
 ·rename_i y q
  rw[q] at e
  exact congrArg some e
 ·rename_i q
  rw[q] at e
  have a:es.toList.any (·.refKey)=false:=by
   rw[List.any_eq_false]
   intro y hy
   obtain⟨z,t,hkey⟩:=hk y (Array.mem_toList_iff.mp hy)
   simp[DictEntry.refKey,hkey]
  have a':¬es.toList.any (·.refKey)=true:=by rw[a];exact Bool.false_ne_true
  rw[if_neg a']
  exact congrArg some e
theorem ObjM.look{h:Heap}{x dx C:Addr}{mA:Str->Option Value}(I:ObjM h x dx C mA):∃od,PySem.W.InstAt h x (PySem.W.instObj C dx) C (some od)/\∀name,PySem.W.lookIn name od=some (mA name) :=
 let ⟨od,ho,hl⟩:=zNF I.ns
 ⟨od,⟨I.obj,rfl,rfl,ho⟩,hl⟩
section
variable{prog:Program}{w:World}{A:Around}{E:Value->Shared->Prop}{s:Shared}{K:PySem.W.Frag}{x dx C f:Addr}{mA:Str->Option Value}{name:Str}{v:Value}
end
theorem RelO.some_of{v:V}{o:Option Value}(r:RelO (some v) o):∃u,o=some u/\RelV v u:=by
 cases o with
 |none=>exact(show False from r).elim
 |some u=>exact⟨u,rfl,r⟩
section
variable{P:Program}{w:World}{H H':Hp}{h h':Heap}{a C dx:Addr}{fs fs':List (Str×V)}
theorem zS3(hok:HOk P w H h)(e:H a=some (.ins C dx fs)):∃mA,ObjM h a dx C mA/\(∀f,RelO (fs.lookup f) (mA f))/\PySem.Within mA (fs.map (·.1))/\fs.length<=1000/\H dx=some (.own a):=by
 obtain⟨d,z,ne,ob,mA,n,r,q⟩:=(show ObjOk P w H h a (.ins C dx fs) from hok a _ e)
 exact⟨mA,⟨ob,n,ne⟩,r,q,z,d⟩
end
structure Cls(K:PySem.W.Frag)(C:Addr):Prop where
 pg:PySem.W.plainGet K C Str.empty=true
 hd:PySem.W.hasDictIn K C=true
 po:PySem.W.plainOver K C=true
 sa:PySem.W.findIn K (.ref C) "__setattr__"=some (some (.builtin "object.__setattr__"))
theorem Cls.get{K:PySem.W.Frag}{C:Addr}(c:Cls K C)(f:Str):PySem.W.plainGet K C f=true:=c.pg
section
variable{X:Cx}{pins:List (Addr×Obj)}{σ:St}{H:Hp}{s:Shared}{a C dx:Addr}{fs:List (Str×V)}{f:Str}{v:V}{A:Around}{E:Value->Shared->Prop}
end
section
variable{X:Cx}{o e value:Expr}{f:Str}{pos pos' tpos:Pos}{ta tv:TE}
end
section
variable{X:Cx}{pins:List (Addr×Obj)}{σ:St}{H:Hp}{s:Shared}{A:Around}{E:Value->Shared->Prop}{Q:Value->Shared->Prop}{c:Value}{b:Bool}
inductive TyOf(K:PySem.W.Frag)(H:Hp):V->Value->Prop where
 |non:TyOf K H .non (.type "NoneType")
 |bl (x:Bool):TyOf K H (.bl x) (.type "bool")
 |int (i:Int):TyOf K H (.int i) (.type "int")
 |str (x:Str):TyOf K H (.str x) (.type "str")
 |flt (x:UInt64):TyOf K H (.flt x) (.type "float")
 |lst {a:Addr} {xs:List V} (e:H a=some (.lst xs)):TyOf K H (.ref a) (.type "list")
 |frz {a:Addr} {o:Obj} {xs:List V} (e:H a=some (.frz o (.lst xs))):TyOf K H (.ref a) (.type "list")
 |tup {a:Addr} {xs:List V} (e:H a=some (.tup xs)):TyOf K H (.ref a) (.type "tuple")
 |dK {a:Addr} {kvs:List (Key×V)} (e:H a=some (.dK kvs)):TyOf K H (.ref a) (.type "dict")
 |dT {a:Addr} {kvs:List (List Key×V)} (e:H a=some (.dT kvs)):TyOf K H (.ref a) (.type "dict")
 |ins {a C dx:Addr} {fs:List (Str×V)} (e:H a=some (.ins C dx fs)) (cl:Cls K C) (ha:PySem.W.findIn K (.ref C) "__class__"=some (some (.builtin "object.__class__")))
   (hn:PySem.W.specialIn K (.builtin "object.__class__") "__get__"=some (some (.builtin "getset_descriptor.__get__"))) (htk:PySem.W.takesIn K (.builtin "object.__class__")=some true)
   (hm:PySem.W.mroIn K C (.type "object")=some true):TyOf K H (.ref a) (.ref C)
theorem zEJ{x:V}{u t:Value}(I:Inv X pins σ H s)(rx:RelV x u)(ty:TyOf X.K H x t)(e:PySem.W.kitOne X.K t c=some b)(h:∀tk,Q (.bool b) { s with toks:=tk }) :
  wpAny (model X.prog X.w) A (call (.builtin "isinstance") [u,c]) Q E s:=by
 cases ty with
 |non=>cases(show u=Value.none from rx);exact PySem.W.kia_one PySem.W.kitx_none I.kIn True.intro e (λz=>nomatch z) h
 |bl y=>cases(show u=Value.bool y from rx);exact PySem.W.kia_one PySem.W.kitx_bool I.kIn True.intro e (λz=>nomatch z) h
 |int i=>obtain⟨t,q⟩:=(show ∃t,u=Value.int i t from rx);cases q;exact PySem.W.kia_one PySem.W.kitx_int I.kIn True.intro e (λz=>nomatch z) h
 |str y=>obtain⟨t,q⟩:=(show ∃t,u=Value.str y t from rx);cases q;exact PySem.W.kia_one PySem.W.kitx_str I.kIn True.intro e (λz=>nomatch z) h
 |flt y=>obtain⟨t,q⟩:=(show ∃t,u=Value.float y t from rx);cases q;exact PySem.W.kia_one PySem.W.kitx_float I.kIn True.intro e (λz=>nomatch z) h
 |@lst a xs ea =>
  cases(show u=Value.ref a from rx)
  obtain⟨_,_,n,_,h1⟩:=(show ObjOk X.prog X.w H s.heap a (.lst xs) from I.hok a _ ea)
  exact PySem.W.kia_one PySem.W.kitx_list I.kIn ⟨_,h1,rfl⟩ e (λz=>nomatch z) h
 |@frz a ob xs ea =>
  cases(show u=Value.ref a from rx)
  obtain⟨_,_,_,n,_,h1⟩:=(show ObjOk X.prog X.w H s.heap a (.frz ob (.lst xs)) from I.hok a _ ea)
  exact PySem.W.kia_one PySem.W.kitx_list I.kIn ⟨_,h1,rfl⟩ e (λz=>nomatch z) h
 |@tup a xs ea =>
  cases(show u=Value.ref a from rx)
  obtain⟨_,_,_,p⟩:=(show ObjOk X.prog X.w H s.heap a (.tup xs) from I.hok a _ ea)
  obtain⟨o,h1,h2,_⟩:=p
  exact PySem.W.kia_one PySem.W.kitx_tuple I.kIn ⟨o,h1,h2⟩ e (λz=>nomatch z) h
 |@dK a kvs ea =>
  cases(show u=Value.ref a from rx)
  obtain⟨_,_,vs,_,p⟩:=(show ObjOk X.prog X.w H s.heap a (.dK kvs) from I.hok a _ ea)
  obtain⟨o,es,ep,h1,h2,_⟩:=p
  exact PySem.W.kia_one PySem.W.kitx_dict I.kIn ⟨o,h1,h2.1⟩ e (λz=>nomatch z) h
 |@dT a kvs ea =>
  cases(show u=Value.ref a from rx)
  obtain⟨_,_,xs,_,o,es,ep,h1,h2,_⟩:=(show ObjOk X.prog X.w H s.heap a (.dT kvs) from I.hok a _ ea)
  exact PySem.W.kia_one PySem.W.kitx_dict I.kIn ⟨o,h1,h2.1⟩ e (λz=>nomatch z) h
 |@ins a C dx fs ea cl ha hn htk hm =>
  cases(show u=Value.ref a from rx)
  obtain⟨mA,O,_⟩:=zS3 I.hok ea
  obtain⟨od,J,_⟩:=O.look
  exact PySem.W.kia_one (PySem.W.kitx_own (cl.get _) cl.hd ha hn htk hm) I.kIn J e (λz=>nomatch z) h
end
structure Room(k:Nat)(A:Around):Prop where
 hd:A.handled=none
 dp:A.depth+3 * k+5<recursionLimit
 un:A.units+16 * k+200<cLine
 gd:A.guards=some []
theorem Room.mono{j k:Nat}{A:Around}(r:Room k A)(h:j<=k):Room j A:=⟨r.hd,by have:=r.dp;lia,by have:=r.un;lia,r.gd⟩
theorem Room.deeper{k:Nat}{A:Around}(r:Room (k+1) A)(env:Env):Room k (A.deeper env) :=
 ⟨r.hd,by have:=r.dp;show A.depth+1+3 * k+5<_;lia,by have:=r.un;show A.units+3+16 * k+200<_;lia,r.gd⟩
theorem Room.depth{k:Nat}{A:Around}(r:Room k A):A.depth<recursionLimit:=by have:=r.dp;lia
theorem Room.units{k:Nat}{A:Around}(r:Room k A):A.units+64<cLine:=by have:=r.un;lia
def yAT:TA:=λ_ H Q=>Q [] H
def zS4(ta:TE)(tr:TA):TA:=λσ H Q=>ta σ H λx H1=>tr σ H1 λxs H2=>Q (x::xs) H2
section
variable{X:Cx}{e:Expr}{es:List Expr}{te:TE}{t:TA}{pos:Pos}
theorem pa_nil:PA X [] yAT:=λ_ _ _ _ H Q I h=>Calls.spliced_nil ⟨[],H,I,.nil,h⟩
theorem zCS(ha:PE X e te)(hr:PA X es t)(hs:starEach (e::es) X.env=(false,eval e X.env)::starEach es X.env:=by rfl):PA X (e::es) (zS4 te t):=by
 intro pos pins s σ H Q I h
 rw[hs]
 show wpAny _ _ (spliced ((false,eval e X.env)::backTo pos (starEach es X.env))) _ _ s
 refine Calls.spliced_cons (thn (ha pins s σ H _ I h) λu s1 ⟨x,H1,I1,r1,q1⟩=>?_)
 exact thn (hr pos pins s1 σ H1 _ I1 q1) λus s2 ⟨xs,H2,I2,r2,q2⟩=>⟨x::xs,H2,I2,.cons r1 r2,q2⟩
def yAU(t:TA):TE:=λσ H Q=>t σ H λxs H1=>xs.length<=sizeLine/\∀p,H1 p=none->Q (.ref p) (upd H1 p (.tup xs))
def yAV(t:TA):TE:=λσ H Q=>t σ H λxs H1=>xs.length<=sizeLine/\∀p,H1 p=none->Q (.ref p) (upd H1 p (.lst xs))
theorem zV8 {x1} (h:PA X es t):PE X (.Tuple es x1 pos) (yAU t):=by
 intro pins s σ H Q I hq
 refine wpAny_Tuple_spliced (thn (h pos pins s σ H _ I hq) λus s1 ⟨xs,H1,I1,r,z,q⟩=>⟨by rw[<-r.length];exact z,?_⟩)
 have hf:H1 s1.heap.objs.size=none:=I1.hok.fresh (Nat.le_refl _)
 refine⟨.ref s1.heap.objs.size,upd H1 s1.heap.objs.size (.tup xs),I1.laid (t':=s1.toks) (λb u e=>Heap.get?_push_of_some _ e) (Nat.le_refl _) ?_,rfl,q _ hf⟩
 exact⟨z,us,r,⟨_,Heap.get?_push_size _ rfl,rfl,rfl,_,rfl⟩⟩
theorem zV9(h:PA X es t):PE X (.List es pos) (yAV t):=by
 intro pins s σ H Q I hq
 refine wpAny_List_spliced (thn (h pos pins s σ H _ I hq) λus s1 ⟨xs,H1,I1,r,z,q⟩=>⟨by rw[<-r.length];exact z,?_⟩)
 have hf:H1 s1.heap.objs.size=none:=I1.hok.fresh (Nat.le_refl _)
 refine⟨.ref s1.heap.objs.size,upd H1 s1.heap.objs.size (.lst xs),I1.laid (t':=s1.toks) (λb u e=>Heap.get?_push_of_some _ e) (Nat.le_refl _) ?_,rfl,q _ hf⟩
 exact⟨z,us,0,r,Heap.get?_push_size _ rfl⟩
end
abbrev Sp:=List V->Hp->VK->XK->Prop
abbrev CXT:=List Env->Hp->Shared->XK->Value->Shared->Prop
structure Env0(P:Program)(w:World)(K:PySem.W.Frag)(mg:Str->Option Value)(base:Heap)(A:Around)(outer:List Env)(s:Shared)(H:Hp):Prop where
 tab:∀T q,TB K T q->∃ps,H T=some (.tbl q ps)
 frames:A.frames=some outer
 mod:Mod K mg base
 bs:∀b o,base.get? b=some o->s.heap.get? b=some o/\H b=none
 bsz:base.objs.size<=s.heap.objs.size
 funs:s.heap.FunFrames base outer
 frf:∀b∈frs outer,H b=none
 hok:HOk P w H s.heap
 bare:AllBare s.gens
def CE(outer:List Env)(P:Program)(w:World)(H:Hp)(s:Shared)(Q:VK)(u:Value)(s':Shared):Prop :=
 ∃v H',s'.os=s.os/\AllBare s'.gens/\Un (frs outer) [] H H' s.heap s'.heap/\HOk P w H' s'.heap/\RelV v u/\Q v H'
def CR(CX:CXT)(outer:List Env)(P:Program)(w:World)(H:Hp)(s:Shared)(Q:VK)(E:XK)(r:Result)(s':Shared):Prop :=
 match r with
 |.ok (.ret u)=>CE outer P w H s Q u s'
 |.ok _=>False
 |.error e=>CX outer H s E e s'
structure FnOk(P:Program)(w:World)(K:PySem.W.Frag)(mg:Str->Option Value)(base:Heap)(CX:CXT)(k:Nat)(f:Addr)(fd:FuncData)(ps:List Str)(sp:Sp):Prop where
 len:∀vs H Q E,sp vs H Q E->vs.length=ps.length
 run:∀(A:Around) (outer:List Env) (s:Shared) (H:Hp) (args:Args) (us:List Value) (vs:List V) (Q:VK) (E:XK),Room k A->Env0 P w K mg base A outer s H->BindsTo s fd args (ps.zip us)->Vals vs us->sp vs H Q E ->
  codeAny (model P w) A (.call (.ref f) args) (CR CX outer P w H s Q E) s
section
variable{X:Cx}{pins:List (Addr×Obj)}{σ:St}{H:Hp}{s s':Shared}
theorem Inv.env0(I:Inv X pins σ H s):Env0 X.prog X.w X.K X.mg X.base X.A X.stack s H :=
 ⟨I.tab,I.ok.frames,I.ok.mod,I.bs,Nat.le_trans I.ok.bsz I.sz,I.stack,I.stkFree,I.hok,I.bare⟩
theorem Inv.after{Q:VK}{u:Value}(I:Inv X pins σ H s)(h:CE X.stack X.prog X.w H s Q u s'):EP X pins σ Q u s':=by
 obtain⟨v,H',os,bare,un,hok,r,q⟩:=h
 obtain⟨hh,g,d,t,os'⟩:=s'
 obtain rfl:os'=s.os:=os
 exact⟨v,H',I.call (h':=hh) (g':=g) (d':=d) (t':=t) (ch:=[]) un hok bare (λb z=>absurd z (by simp)),r,q⟩
end
def zP4(sp:Sp)(dvs:List V)(E:XK)(t:TA):TE:=λσ H Q=>t σ H λvs H1=>sp (vs++dvs) H1 Q E
def Binds(K:PySem.W.Frag)(fd:FuncData)(ps:List Str)(ds:List Value):Prop :=
 ∀(s:Shared) (us:List Value),K.In s.heap->(us++ds).length=ps.length->BindsTo s fd ⟨us,[]⟩ (ps.zip (us++ds))
theorem Binds.all{K:PySem.W.Frag}{fd:FuncData}{ps:List Str}(h:∀us:List Value,us.length=ps.length->bindArgs fd ⟨us,[]⟩=pure (ps.zip us)):Binds K fd ps []:=λs us _ hl=>by
 rw[List.append_nil] at hl ⊢
 exact .of_eq (h us hl)
def zNG(CX:CXT)(X:Cx)(E:XK):Prop:=∀(pins:List (Addr×Obj)) (σ:St) (H:Hp) (s:Shared) (e:Value) (s':Shared),Inv X pins σ H s->CX X.stack H s E e s'->X.xe e s'
section
variable{X:Cx}{CX:CXT}{k:Nat}{f C:Addr}{fd:FuncData}{ps:List Str}{sp:Sp}{dvs:List V}{ds:List Value}{E:XK}{x m:Str}{p pos apos:Pos}{e o:Expr}{es:List Expr}{ta:TE}{t:TA}
theorem zWA{pins:List (Addr×Obj)}{σ:St}{H:Hp}{s:Shared}{Q:VK}{us:List Value}{vs:List V}(F:FnOk X.prog X.w X.K X.mg X.base CX k f fd ps sp)(hr:Room k X.A)(hb:Binds X.K fd ps ds)(hd:Vals dvs ds)(hx:zNG CX X E)
  (I:Inv X pins σ H s) (r:Vals vs us) (h:sp (vs++dvs) H Q E):wpAny (model X.prog X.w) X.A (call (.ref f) us) (EP X pins σ Q) X.xe s:=by
 have r2:Vals (vs++dvs) (us++ds):=r.append hd
 have hl:(us++ds).length=ps.length:=by rw[<-r2.length];exact F.len _ _ _ _ h
 refine wpAny_call (codeAny_mono (F.run X.A X.stack s H ⟨us,[]⟩ (us++ds) (vs++dvs) Q E hr I.env0 (hb s us I.kIn hl) r2 h) λr s' hq=>?_)
 cases r with
 |error e=>exact hx pins σ H s e s' I hq
 |ok fl =>
  cases fl with
  |ret u=>exact I.after hq
  |next=>exact False.elim hq
  |brk=>exact False.elim hq
  |cont=>exact False.elim hq
theorem zJX(F:FnOk X.prog X.w X.K X.mg X.base CX k f fd ps sp)(hr:Room k X.A)(hg:Gl X x)(hm:X.mg x=some (.ref f))(hk:PySem.W.keepIn X.K (.ref f)=true)(hb:Binds X.K fd ps ds)(hd:Vals dvs ds)(hx:zNG CX X E)
  (ha:PA X (e::es) t) (hdb:(x==("__debug__":Str))=false:=by decide) (he:starEach (e::es) X.env=(false,eval e X.env)::starEach es X.env:=by rfl) (hpl:(backTo pos (starEach es X.env)).any (·.1)=false:=by rfl) :
  PE X (.Call (.Name x p) (e::es) [] pos) (zP4 sp dvs E t):=by
 intro pins s σ H Q I h
 refine wpAny_Call_Name_kw (zM4 I hg hm ?_ hdb)
 refine PySem.W.callWith_K (h₀:=X.base) I.ok.mod.kin hk (thn (ha pos pins s σ H _ I h) λus s1 ⟨vs,H1,I1,r,q⟩=>⟨I1.kIn,?_⟩) he hpl
 exact zWA F hr hb hd hx I1 r q
end
section
variable{X:Cx}{CX:CXT}{k:Nat}{f C:Addr}{fd:FuncData}{ps ks:List Str}{sp:Sp}{E:XK}{x m:Str}{p pos apos kpos:Pos}{e o:Expr}{es:List Expr}{kws:List Keyword}{te ta:TE}{t tk:TA}{nm:Option Str}
variable{g:List Value->List Value->List Value}{gV:List V->List V->List V}
end
structure FnScope(N P:List Str)(sc:Scope):Prop where
 kind:sc.kind=.function
 co:sc.isCoroutine=false
 gen:sc.isGenerator=false
 nd:N.Nodup
 pre:N.take P.length=P
 par:∀x∈P,sc.names.lookup x=some .local\/sc.names.lookup x=some .cell
 nofree:∀y∈sc.names,y.2≠.free
theorem zIE{kindOf:Str->Option NameKind}{x:Str}:∀{binds:List (Str×Value)} {m:Str->Option Value},(∀v,(x,v)∉binds)->bindL kindOf binds m x=m x
 |[],_,_=>rfl
 |(n,v)::r,m,h=>by
  unfold bindL
  rw[zIE λw hw=>h w (List.mem_cons_of_mem _ hw)]
  split
  ·have:x≠n:=by rintro rfl;exact h v List.mem_cons_self
   simp[this]
  ·rfl
theorem zIF{kindOf:Str->Option NameKind}{x:Str}:∀{binds:List (Str×Value)} {m:Str->Option Value},(∀v,(x,v)∉binds)->bindC kindOf binds m x=m x
 |[],_,_=>rfl
 |(n,v)::r,m,h=>by
  unfold bindC
  rw[zIF λw hw=>h w (List.mem_cons_of_mem _ hw)]
  split
  ·rfl
  ·have:x≠n:=by rintro rfl;exact h v List.mem_cons_self
   simp[this]
theorem zIG{kindOf:Str->Option NameKind}{x:Str}{v:Value}:∀{P:List Str} {vs:List Value} {i:Nat} {m:Str->Option Value},P.Nodup->P[i]?=some x->vs[i]?=some v->kindOf x=some .local ->
  bindL kindOf (P.zip vs) m x=some v
 |[],_,_,_,_,h,_,_=>by simp at h
 |_::_,[],_,_,_,_,h,_=>by simp at h
 |p::P,w::vs,0,m,nd,h1,h2,hk=>by
  simp at h1 h2;subst h1;subst h2
  show bindL kindOf ((p,w)::P.zip vs) m p=_
  unfold bindL
  rw[zIE λv hv=>(List.nodup_cons.mp nd).1 (List.of_mem_zip hv).1,if_pos hk]
  simp
 |p::P,w::vs,i+1,m,nd,h1,h2,hk=>by
  show bindL kindOf ((p,w)::P.zip vs) m x=_
  unfold bindL
  exact zIG (i:=i) (List.nodup_cons.mp nd).2 (by simpa using h1) (by simpa using h2) hk
theorem zIH{kindOf:Str->Option NameKind}{x:Str}{v:Value}:∀{P:List Str} {vs:List Value} {i:Nat} {m:Str->Option Value},P.Nodup->P[i]?=some x->vs[i]?=some v->kindOf x≠some .local ->
  bindC kindOf (P.zip vs) m x=some v
 |[],_,_,_,_,h,_,_=>by simp at h
 |_::_,[],_,_,_,_,h,_=>by simp at h
 |p::P,w::vs,0,m,nd,h1,h2,hk=>by
  simp at h1 h2;subst h1;subst h2
  show bindC kindOf ((p,w)::P.zip vs) m p=_
  unfold bindC
  rw[zIF λv hv=>(List.nodup_cons.mp nd).1 (List.of_mem_zip hv).1,if_neg hk]
  simp
 |p::P,w::vs,i+1,m,nd,h1,h2,hk=>by
  show bindC kindOf ((p,w)::P.zip vs) m x=_
  unfold bindC
  exact zIH (i:=i) (List.nodup_cons.mp nd).2 (by simpa using h1) (by simpa using h2) hk
noncomputable def zDG(N:List Str)(vs:List V):St:=vs.map some++List.replicate (N.length-vs.length) none
noncomputable def zR3(CX:CXT)(P:Program)(w:World)(K:PySem.W.Frag)(mg:Str->Option Value)(base:Heap)(N:List Str)(qual:Str)(scope:Scope)(f:Addr)(cd:Value)(A:Around)(outer:List Env)(s:Shared)(H:Hp)(E:XK):Cx where
 prog:=P
 w:=w
 K:=K
 mg:=mg
 base:=base
 A:=A.deeper (envOfC qual scope s.heap.objs.size f cd)
 N:=N
 s₀:=s
 H₀:=H
 env:=envOfC qual scope s.heap.objs.size f cd
 outer:=outer
 stack:=envOfC qual scope s.heap.objs.size f cd::outer
 ex:=[]
 calm:=true
 fn:=λ_=>true
 pn:=[]
 xe:=λe s'=>wpAny (model P w) (A.deeper (envOfC qual scope s.heap.objs.size f cd)) (leaving (envOfC qual scope s.heap.objs.size f cd) e) (λ_ s''=>CX outer H s E e s'') (λe' s''=>CX outer H s E e' s'') s'
theorem zK0{sc:Scope}{n:Nat}{x:Str}(h:sc.names.lookup x=some .cell):∃c,(cellsFrom n sc.names []).lookup x=some c:=by
 have q:=PySem.W.cellsFrom_some sc.names n [] (.inl h)
 exact Option.isSome_iff_exists.mp q
theorem zNH{CX:CXT}{P:Program}{w:World}{K:PySem.W.Frag}{mg:Str->Option Value}{base:Heap}{N ps:List Str}{qual:Str}{scope:Scope}{f:Addr}{cd:Value}{A:Around}{outer:List Env}{s s1:Shared}{H:Hp}{E:XK}{us:List Value}{vs:List V}
  (S:FnScope N ps scope) (hd:A.handled=none) (e0:Env0 P w K mg base A outer s H) (hl:vs.length=ps.length) (r:Vals vs us)
  (x:InCallC s s.heap.objs.size (bindL (envOfC qual scope s.heap.objs.size f cd).kindOf (ps.zip us) λ_=>none) (cellsFrom (s.heap.objs.size+1) scope.names []) (bindC (envOfC qual scope s.heap.objs.size f cd).kindOf (ps.zip us) λ_=>none) s1) :
  Inv (zR3 CX P w K mg base N qual scope f cd A outer s H E) [] (zDG N vs) H s1:=by
 have hpl:ps.length<=N.length:=by have:=congrArg List.length S.pre;rw[List.length_take] at this;lia
 obtain⟨h1,tk,rfl,hk⟩:=x.done
 have noA:∀b:Addr,b∉(zR3 CX P w K mg base N qual scope f cd A outer s H E).ex:=λb z=>absurd (show b∈([]:List Addr) from z) (by simp)
 refine⟨⟨e0.tab,e0.mod,S.kind,rfl,rfl,Nat.le_refl _,λy z c h1 h2=>?_,λy hy=>?_,λy c _ h=>?_,λ_=>hd,Around.frames_deeper e0.frames,.inr ⟨rfl,rfl⟩,λb z=>absurd z (noA b),e0.bs,e0.bsz,λb _ _=>noA b,λb z=>absurd z (noA b),e0.funs,e0.frf⟩,
  rfl,e0.bare,Un.kept hk,⟨_,x.toInCall.ns,λi y v h1 h2 h3=>?_⟩,λy c h=>⟨_,x.cell y c h⟩,e0.hok.fresh (Nat.le_refl _),λy c h=>?_,λp hp=>absurd (show p∈([]:List (Addr×Obj)) from hp) (by simp),e0.hok.kept hk,?_⟩
 ·exact name_of_addr x.apart (PySem.mem_of_lookup h1) (PySem.mem_of_lookup h2)
 ·have hy:scope.names.lookup y=some .cell\/scope.names.lookup y=some .free:=hy
  rcases hy with hy|hy
  ·exact zK0 hy
  ·exact absurd rfl (S.nofree _ (PySem.mem_of_lookup hy))
 ·exact Nat.le_of_lt (x.above y c (PySem.mem_of_lookup h))
 ·have hi:i<vs.length:=by
   unfold zDG at h2
   by_cases hi:i<vs.length
   ·exact hi
   ·rw[List.getElem?_append_right (by simpa using hi)] at h2
    rw[List.getElem?_replicate] at h2
    split at h2<;>cases h2
  have ha:vs[i]?=some v:=by
   unfold zDG at h2
   rw[List.getElem?_append_left (by simpa using hi),List.getElem?_map] at h2
   cases e:vs[i]? with
   |none=>rw[e] at h2;cases h2
   |some a=>rw[e] at h2;cases h2;rfl
  obtain⟨u,hu,rv⟩:=r.get ha
  have hp:ps[i]?=some y:=by
   rw[<-S.pre,List.getElem?_take_of_lt (by lia)];exact h1
  have ndP:ps.Nodup:=by rw[<-S.pre];exact S.nd.sublist (List.take_sublist _ _)
  refine⟨u,rv,?_⟩
  rcases S.par y (List.mem_of_getElem? hp) with k|k
  ·exact .inl ⟨k,zIG ndP hp hu k⟩
  ·obtain⟨c,e⟩:=zK0 (n:=s.heap.objs.size+1) k
   refine .inr ⟨.inl k,c,e,?_⟩
   have q:=x.cell y c e
   rw[zIH ndP hp hu (by show scope.names.lookup y≠_;rw[k];decide)] at q
   exact q
 ·exact e0.hok.fresh (Nat.le_of_lt (x.above y c (PySem.mem_of_lookup h)))
 ·unfold zDG
  show _=N.length
  rw[List.length_append,List.length_map,List.length_replicate]
  lia
theorem zYQ{CX:CXT}{P:Program}{w:World}{K:PySem.W.Frag}{mg:Str->Option Value}{base:Heap}{k:Nat}{f:Addr}{name qual:Str}{params:Arguments}{body:List Stmt}{scope:Scope}{dV kV doc pm cdv ct oc:Value}{an od:Option Addr}
  {osl:Array (Option Value)} {N ps:List Str} {sp:Sp} (lk:K.lookup f=some ⟨oc,od,.func (PySem.W.fnOf name qual params body scope dV kV doc pm an cdv ct),osl⟩) (hcd:PySem.W.codeIn K cdv qual=true) (S:FnScope N ps scope)
  (len:∀vs H Q E,sp vs H Q E->vs.length=ps.length)
  (hbody:∀(A:Around) (outer:List Env) (s:Shared) (H:Hp) (vs:List V) (Q:VK) (E:XK),Room k (A.deeper (envOfC qual scope s.heap.objs.size f cdv))->sp vs H Q E ->
   ∃t,PSs (zR3 CX P w K mg base N qual scope f cdv A outer s H E) body t/\t { nx:=λ_ H'=>Q .non H',rt:=Q } (zDG N vs) H) :
  FnOk P w K mg base CX (k+1) f (PySem.W.fnOf name qual params body scope dV kV doc pm an cdv ct) ps sp:=by
 refine⟨len,λA outer s H args us vs Q E hr e0 hb r hsp=>?_⟩
 have hl:=len _ _ _ _ hsp
 have KX:K.In s.heap:=e0.mod.kin.keeps λb o e=>(e0.bs b o e).1
 have lim:s.heap.NoLimit:=e0.mod.nolimit.keeps λb o e=>(e0.bs b o e).1
 have hkind:∀y∈ps.zip us,scope.names.lookup y.1=some .local\/(scope.names.lookup y.1=some .cell/\((cellsFrom (s.heap.objs.size+1) scope.names []).lookup y.1).isSome=true):=λ⟨n,v⟩ hy=>by
  rcases S.par n (List.of_mem_zip hy).1 with q|q
  ·exact .inl q
  ·exact .inr ⟨q,PySem.W.cellsFrom_some _ _ _ (.inl q)⟩
 refine codeAny_call_function hr.depth (KX _ _ lk) rfl S.co S.gen rfl (PySem.W.codeRec_of KX hcd) (hb _ _ _ _ ?_)
 refine wpAny_newFunctionEnv_cells S.kind hkind λenv he s1 x=>?_
 subst he
 refine⟨lim.keeps x.toInCall.keep,codeAny_func ?_⟩
 obtain⟨t,ht,hq⟩:=hbody A outer s H vs Q E (hr.deeper _) hsp
 have I:Inv (zR3 CX P w K mg base N qual scope f cdv A outer s H E) [] (zDG N vs) H s1:=zNH S hr.hd e0 hl r x
 refine wpAny_mono (ht [] s1 (zDG N vs) H _ I hq) (λfl s' hs=>?_) λe s' hs=>hs
 have fin:∀{σ':St} {H':Hp} {v:V} {u:Value},Inv (zR3 CX P w K mg base N qual scope f cdv A outer s H E) [] σ' H' s'->RelV v u->Q v H'->CE outer P w H s Q u s' :=
  λ{σ' H' v u} J rv q=>⟨v,H',J.os,J.bare,J.base,J.hok,rv,q⟩
 cases fl with
 |ret u =>
  obtain⟨v,σ',H',J,rv,q⟩:=hs
  exact fin J rv q
 |next =>
  obtain⟨σ',H',J,q⟩:=hs
  exact fin (v:=V.non) (u:=Value.none) J rfl q
 |brk =>
  obtain⟨_,_,_,q⟩:=hs
  exact False.elim q
 |cont =>
  obtain⟨_,_,_,q⟩:=hs
  exact False.elim q
section
variable{X:Cx}{x:Str}{p pos:Pos}{e:Expr}{es:List Expr}{t:TA}{id T:String}{r:List V->Hp->VK->Prop}
def tCB(r:List V->Hp->VK->Prop)(t:TA):TE:=λσ H Q=>t σ H λvs H1=>r vs H1 Q
theorem zG0(hc:CallR X (.builtin id) r)(hg:Gl X x)(hm:X.mg x=none)(hv:bootBuiltins x=some (.builtin id))(ha:PA X (e::es) t)(hn:x≠"__name__":=by decide)(hdb:(x==("__debug__":Str))=false:=by decide)
  (he:starEach (e::es) X.env=(false,eval e X.env)::starEach es X.env:=by rfl) (hpl:(backTo pos (starEach es X.env)).any (·.1)=false:=by rfl):PE X (.Call (.Name x p) (e::es) [] pos) (tCB r t):=by
 intro pins s σ H Q I h
 refine wpAny_Call_Name_kw (zGF I hg hm hv ?_ hn hdb)
 exact PyProof.Rows.callWith_builtin1 (thn (ha pos pins s σ H _ I h) λus s1 ⟨vs,H1,I1,r1,q1⟩=>hc pins s1 σ H1 vs us Q I1 r1 q1) he hpl
theorem zEK(hc:CallR X (.type T) r)(hg:Gl X x)(hm:X.mg x=none)(hv:bootBuiltins x=some (.type T))(ha:PA X (e::es) t)(hn:x≠"__name__":=by decide)(hdb:(x==("__debug__":Str))=false:=by decide)
  (he:starEach (e::es) X.env=(false,eval e X.env)::starEach es X.env:=by rfl) (hpl:(backTo pos (starEach es X.env)).any (·.1)=false:=by rfl):PE X (.Call (.Name x p) (e::es) [] pos) (tCB r t):=by
 intro pins s σ H Q I h
 refine wpAny_Call_Name_kw (zGF I hg hm hv ?_ hn hdb)
 exact PyProof.Rows.callWith_type1 (thn (ha pos pins s σ H _ I h) λus s1 ⟨vs,H1,I1,r1,q1⟩=>hc pins s1 σ H1 vs us Q I1 r1 q1) he hpl
end
end L2
namespace HT
open PySem PyProof.Rows
noncomputable def lexLt:List Int->List Int->Bool
 |[],[]=>false
 |[],_::_=>true
 |_::_,[]=>false
 |x::xs,y::ys=>if x=y then lexLt xs ys else decide (x<y)
theorem lexLt_cons(x y:Int)(xs ys:List Int):lexLt (x::xs) (y::ys)=if x=y then lexLt xs ys else decide (x<y):=rfl
theorem zG1:lexLt [] []=false:=rfl
theorem zF5(y:Int)(ys:List Int):lexLt [] (y::ys)=true:=rfl
theorem zF6(x:Int)(xs:List Int):lexLt (x::xs) []=false:=rfl
theorem zK1(A:Around)(s:Shared)(a:Int)(t:Tok)(c:Int)(u:Tok):∃e,SeqAt.EqAt A s (.int a t) (.int c u) e/\(e=true↔a=c) :=
 ⟨(a==c),SeqAt.EqAt.int_int a t c u,by simp⟩
theorem zP5(A:Around)(s:Shared)(a:Int)(t:Tok)(c:Int)(u:Tok)(prog:Program)(w:World)(E:Value->Shared->Prop)(Q:Value->Shared->Prop)(h:Q (.bool (decide (a<c))) s) :
  wpAny (model prog w) A (richCompare .Lt (.int a t) (.int c u)) Q E s :=
 (PyProof.Rows.lt_int h:wpAny (model prog w) A (compareOp .Lt (.int a t) (.int c u)) Q E s)
section
open PySem.SeqAt
open PySem.AutoSeq1 (wpAny_loadPart')
open PySem.MeetsSeq PySem.MeetsSeq2 PySem.MeetsSeq3
theorem zG2(l b:Addr)(items items2:Array Value)(n n2:Nat)(dd dd2:Option Addr)(sl sl2:Array (Option Value))(ns ms:List Int)(hi:IntsAre items.toList ns)(hj:IntsAre items2.toList ms) :
  Meets (Builtin.«tuple.__lt__» ⟨[.ref l,.ref b],[]⟩)
   (λ_ R s=>s.heap.get? l=some { cls:=.type "tuple",dict:=dd,data:=.seq items n,slots:=sl }/\s.heap.get? b=some { cls:=.type "tuple",dict:=dd2,data:=.seq items2 n2,slots:=sl2 } /\
    R (.ok (.ret (.bool (lexLt ns ms)))) s) :=
 .of_wp λprog w A R s h=>by
  obtain⟨hp,g,d,tk,os⟩:=s;obtain⟨hl,hb,h⟩:=h
  have f2:=AutoSeq1.sub_tuple_tuple
  have z1:items.size=ns.length:=by rw[<-hi.length];simp
  have z2:items2.size=ms.length:=by rw[<-hj.length];simp
  wp_walk using wpAny_loadPart' hl,wpAny_loadPart' hb,wpAny_forIn_list _ (λrest b s'=>b.1=none/\s'=⟨hp,g,d,tk,os⟩/\∃(vs ws:List Value) (ns' ms':List Int),rest=vs.zip ws /\
   IntsAre vs ns'/\IntsAre ws ms'/\ns'.length+items2.size=ms'.length+items.size/\R (.ok (.ret (.bool (lexLt ns' ms')))) ⟨hp,g,d,tk,os⟩) _
  case turn =>
   rintro⟨y,x⟩ rest b s' ⟨hb',rfl,vs,ws,ns',ms',hz,hvi,hwi,hlen,hR⟩
   cases hvi with
   |nil=>rw[List.zip_nil_left] at hz;cases hz
   |cons a t hvi' =>
    cases hwi with
    |nil=>rw[List.zip_nil_right] at hz;cases hz
    |cons c u hwi' =>
     rw[List.zip_cons_cons] at hz
     injection hz with hyx hrest
     injection hyx with hy hx
     subst hy hx
     rw[lexLt_cons] at hR
     simp only[List.length_cons] at hlen
     obtain⟨e,he,hiff⟩:=zK1 A.in1 ⟨hp,g,d,tk,os⟩ a t c u
     refine wpAny_bind (he prog w _ _ ?_)
     cases e with
     |true =>
      rw[if_pos (hiff.mp rfl)] at hR
      wp_walk
      exact⟨rfl,rfl,_,_,_,_,hrest,hvi',hwi',by lia,hR⟩
     |false =>
      rw[if_neg (λq=>absurd (hiff.mpr q) Bool.false_ne_true)] at hR
      have hri:=zP5 A.in1 ⟨hp,g,d,tk,os⟩ a t c u prog w
      wp_walk using hri
      exact⟨_,rfl,by simpa using hR⟩
  case fin =>
   rintro⟨b1,b2⟩ s' ⟨hb',rfl,vs,ws,ns',ms',hz,hvi,hwi,hlen,hR⟩
   simp only at hb'
   subst hb'
   have hv:lexLt ns' ms'=decide (items.size<items2.size):=by
    cases hvi with
    |nil =>
     cases hwi with
     |nil =>
      simp only[List.length_nil] at hlen
      rw[zG1]
      exact(decide_eq_false (by lia)).symm
     |cons c u hw =>
      simp only[List.length_nil,List.length_cons] at hlen
      rw[zF5]
      exact(decide_eq_true (by lia)).symm
    |cons a t hv =>
     cases hwi with
     |nil =>
      simp only[List.length_nil,List.length_cons] at hlen
      rw[zF6]
      exact(decide_eq_false (by lia)).symm
     |cons c u hw =>
      rw[List.zip_cons_cons] at hz
      cases hz
   rw[hv] at hR
   wp_walk
   exact⟨_,rfl,by simpa[Builtin.Tuple.tupleCompareSizes] using hR⟩
  case h =>
   exact⟨rfl,rfl,items.toList,items2.toList,ns,ms,rfl,hi,hj,by lia,h⟩
end
section
variable{prog:Program}{w:World}{A:Around}{E:Value->Shared->Prop}{s:Shared}
theorem lt_tupInts{l b:Addr}{items items2:Array Value}{ns ms:List Int}{Q:Value->Shared->Prop}(hl:IsTup s.heap l items)(hb:IsTup s.heap b items2)(hi:IntsAre items.toList ns)(hj:IntsAre items2.toList ms)
  (hu:A.units<cLine) (h:Q (.bool (lexLt ns ms)) s):wpAny (model prog w) A (compareOp .Lt (.ref l) (.ref b)) Q E s:=by
 obtain⟨⟨cls,dd,data,sl⟩,ho,hc,n,hd⟩:=id hl
 obtain⟨⟨cls2,dd2,data2,sl2⟩,ho2,hc2,n2,hd2⟩:=id hb
 simp only at hc hd hc2 hd2
 subst hc hd hc2 hd2
 exact richCompare_meets_room (op:=.Lt) ⟨_,ho,rfl⟩ ⟨_,ho2,rfl⟩ PySem.F.slot_tuple_lt PySem.F.entry_tuple_lt (PySem.F.args_tuple_lt_2 _ _) (zG2 l b items items2 n n2 dd dd2 sl sl2 ns ms hi hj)
  ⟨ho,ho2,show Value.bool (lexLt ns ms)≠Value.notImplemented/\Q (.bool (lexLt ns ms)) s from⟨(λx=>nomatch x),h⟩⟩ hu
theorem cat_tup{t b:Addr}{vs ws:List Value}{Q:Value->Shared->Prop}(ht:IsTup s.heap t vs.toArray)(hb:IsTup s.heap b ws.toArray)(hv:vs≠[])
  (h1:ws=[]->Q (.ref t) s) (h2:ws≠[]->Q (.ref s.heap.objs.size) { s with heap:=s.heap.push { cls:=.type "tuple",data:=.seq (vs++ws).toArray } })
  (hsz:vs.length+ws.length<=sizeLine):wpAny (model prog w) A (binaryOp .Add (.ref t) (.ref b)) Q E s:=by
 obtain⟨⟨cls,dd,data,sl⟩,ho,hc,n,hd⟩:=id ht
 obtain⟨⟨cls2,dd2,data2,sl2⟩,ho2,hc2,n2,hd2⟩:=id hb
 simp only at hc hd hc2 hd2
 subst hc hd hc2 hd2
 have e:vs.toArray++ws.toArray=(vs++ws).toArray:=by simp
 by_cases hw:ws=[]
 ·exact concat_meets ⟨_,ho,rfl⟩ ⟨_,ho2,rfl⟩ noFill_tuple_add seq_tuple_add PySem.F.slot_tuple_add PySem.F.entry_tuple_add (PySem.F.args_tuple_add_2 _ _)
   (tuple_addW1 t b vs.toArray ws.toArray n n2 dd dd2 sl sl2 (by simpa using hv) (by simp[hw])) ⟨ho,ho2,h1 hw⟩
 ·refine concat_meets ⟨_,ho,rfl⟩ ⟨_,ho2,rfl⟩ noFill_tuple_add seq_tuple_add PySem.F.slot_tuple_add PySem.F.entry_tuple_add (PySem.F.args_tuple_add_2 _ _)
   (tuple_addW2 t b vs.toArray ws.toArray n n2 dd dd2 sl sl2 (by simpa using hv) (by simpa using hw) (by rw[List.size_toArray,List.size_toArray];exact hsz)) ⟨ho,ho2,?_⟩
  rw[e]
  exact h2 hw
noncomputable def sIx(n d:Nat):Option Int->Nat
 |none=>d
 |some v=>if v<0 then(v+(n:Int)).toNat else min v.toNat n
theorem zWB(n d:Nat)(hd:d<=n)(o:Option Int):sIx n d o<=n:=by
 cases o with
 |none=>exact hd
 |some v =>
  show(if v<0 then(v+(n:Int)).toNat else min v.toNat n)<=n
  by_cases hv:v<0
  ·rw[if_pos hv];lia
  ·rw[if_neg hv];exact Nat.min_le_right _ _
theorem zNI(v:Int)(n d:Nat):(if v<0 then max (v+(n:Int)) 0 else min v (n:Int))=((sIx n d (some v):Nat):Int):=by
 show(if v<0 then max (v+(n:Int)) 0 else min v (n:Int))=(((if v<0 then(v+(n:Int)).toNat else min v.toNat n):Nat):Int)
 by_cases hv:v<0
 ·simp only[if_pos hv];lia
 ·simp only[if_neg hv];lia
theorem zMB(lo hi:Option Int)(n:Nat):Builtin.Slice.sliceAdjust lo hi 1 (n:Int)=(((sIx n 0 lo:Nat):Int),((sIx n n hi:Nat):Int)):=by
 have h1:¬((1:Int)<0):=by lia
 unfold Builtin.Slice.sliceAdjust
 simp only[h1,if_false]
 refine Prod.ext ?_ ?_
 ·cases lo with
  |none=>rfl
  |some v=>exact zNI v n 0
 ·cases hi with
  |none=>rfl
  |some v=>exact zNI v n n
theorem zMC(i j:Nat):Builtin.Slice.slicePlaces (i:Int) (j:Int) 1=j-i:=by
 unfold Builtin.Slice.slicePlaces
 have h1:(1:Int)>0:=by lia
 simp only[h1,if_true,Int.ediv_one]
 split<;>lia
theorem slicePart_{v:Value}{o:Option Int}{Q:Option Int->Shared->Prop}(p:IsPart v o)(h:Q o s):wpAny (model prog w) A (Builtin.Slice.slicePartIndex v) Q E s:=by
 cases p with
 |none=>exact slicePart_none h
 |int i t=>exact slicePart_int h
theorem sliceApplied_gen{sl:Addr}{vl vu:Value}{lo hi:Option Int}{n:Nat}{Q:Int×Int×Nat->Shared->Prop}(hs:s.heap.IsSliceOf sl vl vu .none)(pl:IsPart vl lo)(pu:IsPart vu hi)
  (h:Q (((sIx n 0 lo:Nat):Int),1,sIx n n hi-sIx n 0 lo) s):wpAny (model prog w) A (Builtin.Slice.sliceApplied (.ref sl) (pure (n:Int))) Q E s:=by
 obtain⟨os,hos,hcs,hds⟩:=id hs
 unfold Builtin.Slice.sliceApplied Builtin.Slice.sliceFields
 refine wpAny_bind (wpAny_bind (wpAny_field hos hds (x:=vl) rfl (wpAny_bind (wpAny_field hos hds (x:=vu) rfl (wpAny_bind (wpAny_field hos hds (x:=.none) rfl (wpAny_pure ?_)))))))
 refine wpAny_bind (slicePart_none ?_)
 show wpAny _ _ (if((1:Int)==0)=true then _ else _) _ _ s
 rw[if_neg (by decide)]
 refine wpAny_bind (slicePart_ pl (wpAny_bind (slicePart_ pu (wpAny_bind (wpAny_pure ?_)))))
 show wpAny _ _ (match Builtin.Slice.sliceAdjust lo hi 1 (n:Int) with|(lo,hi)=>pure (lo,(1:Int),Builtin.Slice.slicePlaces lo hi 1)) _ _ s
 rw[zMB lo hi n]
 show wpAny _ _ (pure (((sIx n 0 lo:Nat):Int),(1:Int),Builtin.Slice.slicePlaces ((sIx n 0 lo:Nat):Int) ((sIx n n hi:Nat):Int) 1)) _ _ s
 rw[zMC]
 exact wpAny_pure h
theorem zP6(xs:Array Value)(i k:Nat):((List.range k).filterMap λ(m:Nat)=>xs[((i:Int)+(m:Int) * 1).toNat]?).toArray=((xs.toList.drop i).take k).toArray:=by
 have e:(λ(m:Nat)=>xs[((i:Int)+(m:Int) * 1).toNat]?)=λm=>xs[i+m]?:=by
  funext m
  have:((i:Int)+(m:Int) * 1).toNat=i+m:=by lia
  rw[this]
 rw[e]
 have:=pick_run xs i k
 rw[List.filterMap_map] at this
 have e2:((λx=>xs[x]?)∘λx=>i+x)=λm=>xs[i+m]?:=rfl
 rw[e2] at this
 rw[this]
theorem getItem_tuple_cut{t sl:Addr}{items:Array Value}{vl vu:Value}{lo hi:Option Int}{Q:Value->Shared->Prop}(ht:IsTup s.heap t items)(hs:s.heap.IsSliceOf sl vl vu .none)(pl:IsPart vl lo)(pu:IsPart vu hi)
  (hw:¬(sIx items.size 0 lo=0/\sIx items.size items.size hi=items.size))
  (h:Q (.ref s.heap.objs.size) { s with heap:=s.heap.push { cls:=.type "tuple",data:=.seq ((items.toList.drop (sIx items.size 0 lo)).take (sIx items.size items.size hi-sIx items.size 0 lo)).toArray } })
  (hsz:items.size<=sizeLine):wpAny (model prog w) A (getItem (.ref t) (.ref sl)) Q E s:=by
 have htake:sizeOk (.seq ((items.toList.drop (sIx items.size 0 lo)).take (sIx items.size items.size hi-sIx items.size 0 lo)).toArray):=by
  show((items.toList.drop (sIx items.size 0 lo)).take (sIx items.size items.size hi-sIx items.size 0 lo)).toArray.size<=sizeLine
  rw[List.size_toArray,List.length_take,List.length_drop,Array.length_toList]
  lia
 have hj:sIx items.size items.size hi<=items.size:=zWB _ _ (Nat.le_refl _) hi
 obtain⟨os,hos,hcs,hds⟩:=id hs
 have hTs:s.TypeIs (.ref sl) "slice":=⟨os,hos,hcs⟩
 unfold getItem
 try with_reducible refine wpAny_holding ?_
 first|refine wpAny_bind (wpAny_pure ?_)|skip
 refine wpAny_bind (wpAny_sequenceKey ht.typeIs (by decide) ?_)
 refine wpAny_bind (wpAny_callSpecial?_slot (name:=Str.ofString "__getitem__") ht.typeIs PyProof.Rows.slot_tuple_getitem
  (wpAny_call_entry PyProof.Rows.slot_tuple_getitem ht.typeIs entry_tuple_getitem ?_ (args_tuple_getitem _ _)))
 show wpAny _ _ (Builtin.Tuple.tupleItemsOf (.ref t) >>= _) _ _ s
 refine wpAny_bind (tupleItemsOf_ ht ?_)
 refine wpAny_bind (wpAny_typeOf hTs ?_)
 rw[if_pos (by decide)]
 refine wpAny_bind (sliceApplied_gen hs pl pu ?_)
 have hno:¬((((sIx items.size 0 lo:Nat):Int)==0&&(1:Int)==1&&(sIx items.size items.size hi-sIx items.size 0 lo)==items.size)=true):=by
  intro q
  rw[Bool.and_eq_true,Bool.and_eq_true] at q
  have q1:((sIx items.size 0 lo:Nat):Int)=0:=eq_of_beq q.1.1
  have q2:sIx items.size items.size hi-sIx items.size 0 lo=items.size:=eq_of_beq q.2
  exact hw ⟨by lia,by lia⟩
 show wpAny _ _ (if(((sIx items.size 0 lo:Nat):Int)==0&&(1:Int)==1&&(sIx items.size items.size hi-sIx items.size 0 lo)==items.size)=true then _ else _) _ _ s
 rw[if_neg hno,zP6]
 first
  |exact wpAny_bind (m:=Builtin.Tuple.tupleExact _) (wpAny_newObj_type (wpAny_pure ⟨_,rfl,wpAny_pure h⟩) htake)
  |exact wpAny_bind (m:=Builtin.Tuple.tupleExact _) (wpAny_newObj_type (wpAny_bind (wpAny_pure (wpAny_pure ⟨_,rfl,wpAny_pure h⟩))) htake)
  |exact wpAny_bind (wpAny_bind (m:=Builtin.Tuple.tupleExact _) (wpAny_newObj_type (wpAny_pure (wpAny_pure ⟨_,rfl,wpAny_pure h⟩)) htake))
  |exact wpAny_bind (wpAny_bind (m:=Builtin.Tuple.tupleExact _) (wpAny_newObj_type (wpAny_pure ⟨_,rfl,wpAny_pure h⟩) htake))
end
end HT
namespace L2
open PySem PySem.Spec PyProof.Rows
abbrev TO:=St->Hp->(Option Int->Hp->Prop)->Prop
def PO(X:Cx)(e:Option Expr)(t:TO):Prop :=
 ∀(pins:List (Addr×Obj)) (s:Shared) (σ:St) (H:Hp) (Q:Option Int->Hp->Prop),Inv X pins σ H s->t σ H Q ->
  wpAny (model X.prog X.w) X.A (evalPart e X.env) (λu s'=>∃o H',Inv X pins σ H' s'/\IsPart u o/\Q o H') X.xe s
def zS5:TO:=λ_ H Q=>Q none H
def zYR(t:TE):TO:=λσ H Q=>t σ H λx H1=>∃i,x=.int i/\Q (some i) H1
theorem zBJ{ns:List Int}:∀{us:List Value},Vals (ns.map V.int) us->IntsAre us ns:=by
 induction ns with
 |nil=>intro us r;rw[List.map_nil] at r;cases r;exact .nil
 |cons n ns ih =>
  intro us r
  rw[List.map_cons] at r
  cases r with
  |cons r1 r2 =>
   obtain⟨t,e⟩:=r1
   subst e
   exact .cons n t (ih r2)
section
variable{X:Cx}{e:Expr}{te:TE}{lo hi:Option Expr}{tl th:TO}{pos p2:Pos}
theorem po_none:PO X none zS5:=by
 intro pins s σ H Q I h
 rw[evalPart_none]
 exact wpAny_pure ⟨none,H,I,.none,h⟩
theorem zS6(h:PE X e te):PO X (some e) (zYR te):=by
 intro pins s σ H Q I hw
 rw[evalPart_some]
 refine thn (h pins s σ H _ I hw) λu s1 ⟨x,H1,I1,r1,q1⟩=>?_
 obtain⟨i,rfl,q⟩:=q1
 obtain⟨t,rfl⟩:=r1
 exact⟨some i,H1,I1,.int i t,q⟩
def SlR(X:Cx)(r:V->Option Int->Option Int->Hp->VK->Prop):Prop :=
 ∀(pins:List (Addr×Obj)) (s:Shared) (σ:St) (H:Hp) (x:V) (v vl vu:Value) (lo hi:Option Int) (sl:Addr) (Q:VK),Inv X pins σ H s->RelV x v->s.heap.IsSliceOf sl vl vu .none->IsPart vl lo->IsPart vu hi->r x lo hi H Q ->
  ∃T id,typeLookup (.type T) "__getitem__"=pure (some (.builtin id))/\s.TypeIs v T/\wpAny (model X.prog X.w) X.A (getItem v (.ref sl)) (EP X pins σ Q) X.xe s
theorem SlR.or{r r':V->Option Int->Option Int->Hp->VK->Prop}(h:SlR X r)(h':SlR X r'):SlR X (λx lo hi H Q=>r x lo hi H Q\/r' x lo hi H Q):=by
 intro pins s σ H x v vl vu lo hi sl Q I rx hs pl pu q
 rcases q with q|q
 ·exact h pins s σ H x v vl vu lo hi sl Q I rx hs pl pu q
 ·exact h' pins s σ H x v vl vu lo hi sl Q I rx hs pl pu q
def tSl(r:V->Option Int->Option Int->Hp->VK->Prop)(te:TE)(tl th:TO):TE:=λσ H Q=>te σ H λx H1=>tl σ H1 λl H2=>th σ H2 λu H3=>r x l u H3 Q
theorem zP7{r:V->Option Int->Option Int->Hp->VK->Prop}(hr:SlR X r)(he:PE X e te)(hl:PO X lo tl)(hu:PO X hi th):PE X (.Subscript e (.Slice lo hi none p2) pos) (tSl r te tl th):=by
 intro pins s σ H Q I h
 refine Subscript_ (thn (he pins s σ H _ I h) λv s1 ⟨x,H1,I1,r1,q1⟩=>?_)
 refine wpAny_Slice (thn (hl pins s1 σ H1 _ I1 q1) λvl s2 ⟨l,H2,I2,pl,q2⟩=>thn (hu pins s2 σ H2 _ I2 q2) λvu s3 ⟨u,H3,I3,pu,q3⟩=>?_)
 rw[evalPart_none]
 refine wpAny_pure ?_
 have I4:Inv X pins σ H3 { s3 with heap:=s3.heap.push { cls:=.type "slice",data:=.fields #[vl,vu,.none] } }:=I3.kept (t':=s3.toks) λb ob q=>Heap.get?_push_of_some _ q
 obtain⟨T,id,hT,ht,hg⟩:=hr pins { s3 with heap:=s3.heap.push { cls:=.type "slice",data:=.fields #[vl,vu,.none] } } σ H3 x v vl vu l u s3.heap.objs.size Q I4 r1 (Heap.IsSliceOf.new ..) pl pu q3
 show wpAny (model X.prog X.w) X.A (subscriptTail e (.Slice lo hi none p2) v (.ref s3.heap.objs.size)) (EP X pins σ Q) X.xe { s3 with heap:=s3.heap.push { cls:=.type "slice",data:=.fields #[vl,vu,.none] } }
 exact tail_any (ops:=[.ref s3.heap.objs.size,v]) ht hT hg (by with_unfolding_all rfl)
noncomputable def zK2(xs:List V)(lo hi:Option Int):List V:=(xs.drop (HT.sIx xs.length 0 lo)).take (HT.sIx xs.length xs.length hi-HT.sIx xs.length 0 lo)
theorem zFF(xs:List V)(lo hi:Option Int):(zK2 xs lo hi).length<=xs.length:=by
 unfold zK2
 rw[List.length_take,List.length_drop]
 lia
def yAW(K:PySem.W.Frag):V->Option Int->Option Int->Hp->VK->Prop:=λx lo hi H Q=>∃a xs,x=.ref a/\SqT K H a xs /\
 ¬(HT.sIx xs.length 0 lo=0/\HT.sIx xs.length xs.length hi=xs.length)/\∀p,H p=none->Q (.ref p) (upd H p (.tup (zK2 xs lo hi)))
theorem zWC:SlR X (yAW X.K):=by
 intro pins s σ H x v vl vu lo hi sl Q I rx hs pl pu h
 obtain⟨a,xs,rfl,hx,hw,q⟩:=h
 cases rx
 obtain⟨its,r,ht,hz⟩:=I.tuple hx
 have hlen:its.toArray.size=xs.length:=by rw[List.size_toArray];exact r.length.symm
 refine⟨"tuple",_,PyProof.Rows.slot_tuple_getitem.lookup,ht.typeIs,?_⟩
 refine HT.getItem_tuple_cut ht hs pl pu (by rw[hlen];exact hw) ?_ (by rw[hlen];exact hz)
 rw[hlen]
 refine⟨.ref s.heap.objs.size,_,I.laid (t':=s.toks) (o:=.tup (zK2 xs lo hi)) (λb ob q=>Heap.get?_push_of_some _ q) (Nat.le_refl _) ?_,rfl,q _ (I.hok.fresh (Nat.le_refl _))⟩
 exact⟨Nat.le_trans (zFF xs lo hi) hz,_,(r.drop (HT.sIx xs.length 0 lo)).take (HT.sIx xs.length xs.length hi-HT.sIx xs.length 0 lo),IsTupP.new _ _⟩
def zYS(K:PySem.W.Frag):R2:=λx y H Q=>∃a b ns ms,x=.ref a/\y=.ref b/\SqT K H a (ns.map V.int)/\SqT K H b (ms.map V.int)/\Q (.bl (HT.lexLt ns ms)) H
theorem zNJ(hu:X.A.units<cLine):OpR X (compareOp .Lt) (zYS X.K):=by
 intro pins s σ H x y v u Q I rx ry h
 obtain⟨a,b,ns,ms,rfl,rfl,ha,hb,q⟩:=h
 cases rx
 cases ry
 obtain⟨its,r1,p1,_⟩:=I.tuple ha
 obtain⟨its2,r2,p2,_⟩:=I.tuple hb
 have i1:IntsAre its.toArray.toList ns:=zBJ r1
 have i2:IntsAre its2.toArray.toList ms:=zBJ r2
 exact HT.lt_tupInts p1 p2 i1 i2 hu ⟨.bl (HT.lexLt ns ms),H,I,rfl,q⟩
theorem Vals.nil_iff{xs:List V}{us:List Value}(r:Vals xs us):us=[]↔xs=[]:=by
 cases r with
 |nil=>simp
 |cons _ _=>simp
end
noncomputable def ixN(n:Nat)(i:Int):Option Nat:=if 0<=i then(if i<n then some i.toNat else none) else if -(n:Int)<=i then some (i+n).toNat else none
noncomputable def atI{α:Type}(xs:List α)(i:Int):Option α:=(ixN xs.length i).bind λj=>xs[j]?
theorem zNK{n:Nat}{i:Int}{j:Nat}(h:ixN n i=some j):seqIndex? i n=some j/\j<n/\-(n:Int)<=i/\i<n:=by
 unfold ixN at h
 by_cases h0:0<=i
 ·rw[if_pos h0] at h
  by_cases h1:i<n
  ·rw[if_pos h1] at h
   have e:i.toNat=j:=Option.some.inj h
   exact⟨by rw[seqIndex_of h0 h1,e],by lia,by lia,h1⟩
  ·rw[if_neg h1] at h;cases h
 ·rw[if_neg h0] at h
  by_cases h1:-(n:Int)<=i
  ·rw[if_pos h1] at h
   have e:(i+n).toNat=j:=Option.some.inj h
   exact⟨by rw[seqIndex_neg (by lia) h1,e],by lia,h1,by lia⟩
  ·rw[if_neg h1] at h;cases h
theorem zJY{α:Type}{xs:List α}{i:Int}{v:α}(h:atI xs i=some v):∃j,seqIndex? i xs.length=some j/\xs[j]?=some v/\j<xs.length/\-(xs.length:Int)<=i/\i<xs.length:=by
 unfold atI at h
 cases e:ixN xs.length i with
 |none=>rw[e] at h;cases h
 |some j =>
  rw[e] at h
  obtain⟨h1,h2,h3,h4⟩:=zNK e
  exact⟨j,h1,h,h2,h3,h4⟩
theorem zJZ{α:Type}{xs:List α}{j:Nat}{v:α}(h:xs[j]?=some v):atI xs (j:Int)=some v:=by
 have hj:j<xs.length:=(List.getElem?_eq_some_iff.mp h).1
 have e:ixN xs.length (j:Int)=some j:=by
  unfold ixN
  rw[if_pos (by lia),if_pos (by lia)];simp
 unfold atI;rw[e];exact h
def zNL(b:Expr):Prop:=∀o i,subscripted b false o i=operate [o,i] (getItem o i)
def IxR(X:Cx)(r:R2):Prop :=
 ∀(value slice:Expr) (pins:List (Addr×Obj)) (s:Shared) (σ:St) (H:Hp) (x y:V) (v u:Value) (Q:VK),Inv X pins σ H s->RelV x v->RelV y u->r x y H Q ->
  subscripted slice false v u=operate [v,u] (getItem v u)->wpAny (model X.prog X.w) X.A (subscriptTail value slice v u) (EP X pins σ Q) X.xe s
def MtR(X:Cx)(id:String)(r:V->List V->Hp->VK->Prop):Prop :=
 ∀(pins:List (Addr×Obj)) (s:Shared) (σ:St) (H:Hp) (x:V) (xs:List V) (v:Value) (us:List Value) (Q:VK),Inv X pins σ H s->RelV x v->Vals xs us->r x xs H Q ->
  wpAny (model X.prog X.w) X.A (call (.builtin id) (v::us)) (EP X pins σ Q) X.xe s
section
variable{X:Cx}{a b:Expr}{ta tb:TE}{pos:Pos}
theorem IxR.or{r r':R2}(h:IxR X r)(h':IxR X r'):IxR X (λx y H Q=>r x y H Q\/r' x y H Q):=by
 intro value slice pins s σ H x y v u Q I rx ry q hs
 rcases q with q|q
 ·exact h value slice pins s σ H x y v u Q I rx ry q hs
 ·exact h' value slice pins s σ H x y v u Q I rx ry q hs
theorem zYT{r:R2}(hr:IxR X r)(ha:PE X a ta)(hb:PE X b tb)(hs:zNL b):PE X (.Subscript a b pos) (tOp r ta tb):=by
 intro pins s σ H Q I h
 exact Subscript_ (zYL ha hb I h λv u s2 x y H2 I2 rx ry q=>hr a b pins s2 σ H2 x y v u Q I2 rx ry q (hs _ _))
def zZU(K:PySem.W.Frag):R2:=λx y H Q=>∃p xs i v,x=.ref p/\y=.int i/\SqL K H p xs/\atI xs i=some v/\Q v H
def zZV(K:PySem.W.Frag):R2:=λx y H Q=>∃p xs i v,x=.ref p/\y=.int i/\SqT K H p xs/\atI xs i=some v/\Q v H
def zZW:R2:=λx y H Q=>∃z i c,x=.str z/\y=.int i/\z.length<=sizeLine/\atI z.cps.toList i=some c/\Q (.str ⟨#[c]⟩) H
theorem ix_list:IxR X (zZU X.K):=by
 intro value slice pins s σ H x y v u Q I rx ry h hs
 obtain⟨p,xs,i,z,rfl,rfl,hq,he,q⟩:=h
 cases rx
 obtain⟨t,rfl⟩:=ry
 obtain⟨its,r,pl,hz⟩:=I.list hq
 obtain⟨j,h1,h2,h3,h4,h5⟩:=zJY he
 obtain⟨w,ew,rw'⟩:=r.get h2
 have hl:=r.length
 have hn:=zE2
 have fin:EP X pins σ Q w s:=⟨z,H,I,rw',q⟩
 by_cases h0:0<=i
 ·have hj:i.toNat=j:=by
   rw[seqIndex_of h0 h5] at h1
   exact Option.some.inj h1
  exact item_listR pl.isList h0 (by lia) (by rw[hj];simpa using ew) fin hs
 ·have hj:(i+(its.toArray.size:Int)).toNat=j:=by
   rw[seqIndex_neg (by lia) h4] at h1
   rw[List.size_toArray,<-hl]
   exact Option.some.inj h1
  exact subscriptTail_builtinR (x:=w) pl.isList.typeIs slot_list_getitem.lookup
   (wpAny_getItem_list_neg (Q:=λr s'=>r=w/\EP X pins σ Q r s') pl.isList (by lia) (by rw[List.size_toArray]<;>lia) (by lia) (by rw[hj];simpa using ew) ⟨rfl,fin⟩) hs
theorem ix_tup:IxR X (zZV X.K):=by
 intro value slice pins s σ H x y v u Q I rx ry h hs
 obtain⟨p,xs,i,z,rfl,rfl,hq,he,q⟩:=h
 cases rx
 obtain⟨t,rfl⟩:=ry
 obtain⟨its,r,pl,hz⟩:=I.tuple hq
 obtain⟨j,h1,h2,h3,h4,h5⟩:=zJY he
 obtain⟨w,ew,rw'⟩:=r.get h2
 have hl:=r.length
 have hn:=zE2
 have fin:EP X pins σ Q w s:=⟨z,H,I,rw',q⟩
 exact subscriptTail_builtinR (x:=w) pl.typeIs slot_tuple_getitem.lookup
  (getItem_tuple (j:=j) (Q:=λr s'=>r=w/\EP X pins σ Q r s') pl (by lia) (by lia) (by rw[List.size_toArray,<-hl];exact h1) (by simpa using ew) ⟨rfl,fin⟩) hs
theorem zWD:IxR X zZW:=by
 intro value slice pins s σ H x y v u Q I rx ry h hs
 obtain⟨z,i,c,rfl,rfl,hz,he,q⟩:=h
 obtain⟨t,rfl⟩:=rx
 obtain⟨t',rfl⟩:=ry
 obtain⟨j,h1,h2,h3,h4,h5⟩:=zJY he
 have hl:z.cps.toList.length=z.length:=by simp[Str.length]
 rw[hl] at h1 h4 h5
 have hn:=zE2
 exact tail_any (typeIs_str s z t) slot_str_getitem.lookup (getItem_str (c:=c) (by
  have e1:decide (i < -(2 ^ 63:Int))=false:=decide_eq_false (by lia)
  have e2:decide (i>=2 ^ 63)=false:=decide_eq_false (by lia)
  rw[e1,e2,Bool.or_false]) (by rw[h1];simpa using h2) ⟨.str ⟨#[c]⟩,H,I.tok _,⟨_,rfl⟩,q⟩) hs
def rIx(K:PySem.W.Frag):R2:=λx y H Q=>zZU K x y H Q\/zZV K x y H Q\/zZW x y H Q
theorem ix_seq:IxR X (rIx X.K):=ix_list.or (ix_tup.or zWD)
theorem zMD(its:List Value)(n j:Nat)(u:Value):Obj.mapSeq (·.setIfInBounds j u) { cls:=.type "list",data:=.seq its.toArray n }={ cls:=.type "list",data:=.seq (its.set j u).toArray n }:=by
 simp[Obj.mapSeq]
theorem Inv.lst{pins:List (Addr×Obj)}{σ:St}{H:Hp}{s:Shared}{p:Addr}{xs:List V}(I:Inv X pins σ H s)(h:H p=some (.lst xs)) :
  ∃(its:List Value) (n:Nat),Vals xs its/\s.heap.get? p=some { cls:=.type "list",data:=.seq its.toArray n }/\xs.length<=sizeLine:=by
 obtain⟨z,its,n,r,e⟩:=I.hok p _ h
 exact⟨its,n,r,e,z⟩
theorem Inv.lstUpd{pins:List (Addr×Obj)}{σ:St}{H:Hp}{s:Shared}{p:Addr}{xs ys:List V}{its its':List Value}{n n':Nat}{f:Obj->Obj}(I:Inv X pins σ H s)(h:H p=some (.lst xs))
  (ho:s.heap.get? p=some { cls:=.type "list",data:=.seq its.toArray n }) (hf:f { cls:=.type "list",data:=.seq its.toArray n }={ cls:=.type "list",data:=.seq its'.toArray n' }) (r:Vals ys its') (hz:ys.length<=sizeLine) (t:Nat) :
  Inv X pins σ (upd H p (.lst ys)) { s with heap:=s.heap.update p f,toks:=t }:=by
 have e:(s.heap.update p f).get? p=some { cls:=.type "list",data:=.seq its'.toArray n' }:=by
  rw[Heap.get?_update_self f ho (by rw[hf]<;>rfl),hf]
 refine I.write (x:=p) (e:=p) (by rw[h];trivial) (.inl rfl) (λb u hb q=>(Heap.get?_update_other _ _ (Ne.symm hb)).trans q) ⟨_,e⟩ ?_
 exact⟨hz,its',n',r,e⟩
def zYU:V->V->V->Hp->(Hp->Prop)->Prop:=λo i v H Q=>∃p xs k j,o=.ref p/\i=.int k/\H p=some (.lst xs)/\ixN xs.length k=some j/\Q (upd H p (.lst (xs.set j v)))
theorem zP8:zZP X zYU:=by
 intro pins s σ H o i v ov iv u Q I ro ri rv h
 obtain⟨p,xs,k,j,rfl,rfl,hp,hj,q⟩:=h
 cases ro
 obtain⟨t,rfl⟩:=ri
 obtain⟨its,n,r,ho,hz⟩:=I.lst hp
 obtain⟨h1,h2,h3,h4⟩:=zNK hj
 have hl:=r.length
 have hn:=zE2
 have I':Inv X pins σ (upd H p (.lst (xs.set j v))) { s with heap:=s.heap.update p (Obj.mapSeq (·.setIfInBounds j u)) } :=
  I.lstUpd hp ho (zMD its n j u) (r.set rv j) (by rw[List.length_set];exact hz) s.toks
 by_cases h0:0<=k
 ·have hk:k.toNat=j:=by
   rw[seqIndex_of h0 h4] at h1
   exact Option.some.inj h1
  exact PySem.W.ki_setAt ho h0 (by lia) (by rw[List.size_toArray,<-hl];exact h4) (by rw[hk];exact⟨_,I',q⟩)
 ·have hk:(k+(its.toArray.size:Int)).toNat=j:=by
   rw[seqIndex_neg (by lia) h3] at h1
   rw[List.size_toArray,<-hl]
   exact Option.some.inj h1
  exact PySem.W.ki_setBack ho (by lia) (by rw[List.size_toArray,<-hl];exact h3) (by lia) (by rw[hk];exact⟨_,I',q⟩)
theorem zII(lo hi:Option Int)(n:Nat):(sliceBounds lo hi none n).1=((HT.sIx n 0 lo:Nat):Int)/\(sliceBounds lo hi none n).2.1=((HT.sIx n n hi:Nat):Int)/\(sliceBounds lo hi none n).2.2=1:=by
 refine⟨?_,?_,rfl⟩
 ·cases lo with
  |none=>simp[sliceBounds,HT.sIx]
  |some i =>
   simp only[sliceBounds,HT.sIx,Option.getD_none,show(1:Int)>0 by decide,if_true]
   by_cases h:i<0
   ·simp only[h,if_true]<;>lia
   ·simp only[h,if_false]<;>lia
 ·cases hi with
  |none=>simp[sliceBounds,HT.sIx]
  |some i =>
   simp only[sliceBounds,HT.sIx,Option.getD_none,show(1:Int)>0 by decide,if_true]
   by_cases h:i<0
   ·simp only[h,if_true]<;>lia
   ·simp only[h,if_false]<;>lia
theorem zG3(its:List Value)(lo hi:Option Int):slicePick its.toArray lo hi none=((its.drop (HT.sIx its.length 0 lo)).take (HT.sIx its.length its.length hi-HT.sIx its.length 0 lo)).toArray:=by
 obtain⟨h1,h2,h3⟩:=zII lo hi its.toArray.size
 unfold slicePick
 rw[h1,h2,h3]
 simp only[sliceRange_one,pick_run,List.size_toArray]<;>rfl
def yAX(K:PySem.W.Frag):V->Option Int->Option Int->Hp->VK->Prop:=λx lo hi H Q=>∃a xs,x=.ref a/\SqL K H a xs/\∀p,H p=none->Q (.ref p) (upd H p (.lst (zK2 xs lo hi)))
theorem zS7:SlR X (yAX X.K):=by
 intro pins s σ H x v vl vu lo hi sl Q I rx hs pl pu h
 obtain⟨a,xs,rfl,hx,q⟩:=h
 cases rx
 obtain⟨its,r,ht,hz⟩:=I.list hx
 have hlen:=r.length
 refine⟨"list",_,slot_list_getitem.lookup,ht.isList.typeIs,?_⟩
 refine wpAny_getItem_list_slice ht.isList hs pl pu .none (by simp) ?_ (by rw[List.size_toArray]<;>lia)
 rw[zG3,<-hlen]
 refine⟨.ref s.heap.objs.size,_,I.laid (t':=s.toks) (o:=.lst (zK2 xs lo hi)) (λb ob q=>Heap.get?_push_of_some _ q) (Nat.le_refl _) ?_,rfl,q _ (I.hok.fresh (Nat.le_refl _))⟩
 exact⟨Nat.le_trans (zFF xs lo hi) hz,_,0,(r.drop (HT.sIx xs.length 0 lo)).take (HT.sIx xs.length xs.length hi-HT.sIx xs.length 0 lo),Heap.get?_push_size _ rfl⟩
theorem call_len_seq:CallR X (.builtin "len") (λxs H Q=>∃p ys,xs=[.ref p]/\(SqL X.K H p ys\/SqT X.K H p ys)/\Q (.int ys.length) H):=by
 intro pins s σ H xs us Q I r h
 obtain⟨p,ys,rfl,hq,q⟩:=h
 obtain⟨u,rfl,rx⟩:=zD8 r
 cases rx
 have hn:=zE2
 rcases hq with hq|hq
 ·obtain⟨its,r',pl,hz⟩:=I.list hq
  have hlen:=r'.length
  exact Calls.call_len_list pl.isList (by simp only[List.size_toArray]<;>lia) ⟨.int ys.length,H,I.tok _,⟨s.toks+1,by rw[List.size_toArray,hlen]⟩,q⟩
 ·obtain⟨its,r',pl,hz⟩:=I.tuple hq
  have hlen:=r'.length
  exact len_tuple pl (by simp only[List.size_toArray]<;>lia) ⟨.int ys.length,H,I.tok _,⟨s.toks+1,by rw[List.size_toArray,hlen]⟩,q⟩
theorem call_len_str:CallR X (.builtin "len") (λxs H Q=>∃z,xs=[.str z]/\z.length<=sizeLine/\Q (.int z.length) H):=by
 intro pins s σ H xs us Q I r h
 obtain⟨z,rfl,hz,q⟩:=h
 obtain⟨u,rfl,t,rfl⟩:=zD8 r
 have hn:=zE2
 exact len_str (by lia) ⟨.int z.length,H,I.tok _,⟨_,rfl⟩,q⟩
theorem CallR.or{f:Value}{r r':List V->Hp->VK->Prop}(h:CallR X f r)(h':CallR X f r'):CallR X f (λxs H Q=>r xs H Q\/r' xs H Q):=by
 intro pins s σ H xs us Q I rs q
 rcases q with q|q
 ·exact h pins s σ H xs us Q I rs q
 ·exact h' pins s σ H xs us Q I rs q
theorem call_list_of:CallR X (.type "list") (λxs H Q=>∃p ys,xs=[.ref p]/\(SqL X.K H p ys\/SqT X.K H p ys)/\∀l,H l=none->Q (.ref l) (upd H l (.lst ys))):=by
 intro pins s σ H xs us Q I r h
 obtain⟨p,ys,rfl,hq,q⟩:=h
 obtain⟨u,rfl,rx⟩:=zD8 r
 cases rx
 have fin:∀(its:List Value),Vals ys its->ys.length<=sizeLine->∀(h':Heap) (c':Nat),(∀b o',s.heap.get? b=some o'->h'.get? b=some o') ->
   h'.get? s.heap.objs.size=some { cls:=.type "list",dict:=none,data:=.seq its.toArray c',slots:=#[] }->EP X pins σ Q (.ref s.heap.objs.size) { s with heap:=h' }:=λits r' hz h' c' kp e =>
  ⟨.ref s.heap.objs.size,_,I.laid (t':=s.toks) kp (Nat.le_refl _) (show ObjOk X.prog X.w _ h' _ (.lst ys) from⟨hz,its,c',r',e⟩),rfl,q _ (I.hok.fresh (Nat.le_refl _))⟩
 rcases hq with hq|hq
 ·obtain⟨its,r',pl,hz⟩:=I.list hq
  have hlen:=r'.length
  obtain⟨o,ho,hc,n,hd⟩:=pl.isList
  exact call_list_seq p (.inl rfl) ho hc hd (λh' c' kp e=>fin its r' hz h' c' kp e) (by simp only[List.size_toArray]<;>lia)
 ·obtain⟨its,r',pl,hz⟩:=I.tuple hq
  have hlen:=r'.length
  obtain⟨o,ho,hc,n,hd⟩:=pl
  exact call_list_seq p (.inr rfl) ho hc hd (λh' c' kp e=>fin its r' hz h' c' kp e) (by simp only[List.size_toArray]<;>lia)
theorem zG4:CallR X (.type "tuple") (λxs H Q=>∃p ys,xs=[.ref p]/\((SqL X.K H p ys/\∀l,H l=none->Q (.ref l) (upd H l (.tup ys)))\/(SqT X.K H p ys/\Q (.ref p) H))):=by
 intro pins s σ H xs us Q I r h
 obtain⟨p,ys,rfl,h⟩:=h
 obtain⟨u,rfl,rx⟩:=zD8 r
 cases rx
 rcases h with⟨hq,q⟩|⟨hq,q⟩
 ·obtain⟨its,r',pl,hz⟩:=I.list hq
  have hlen:=r'.length
  refine call_tuple_list pl.isList (λh' kp=>?_) (by simp only[List.size_toArray]<;>lia)
  have I1:Inv X pins σ H { s with heap:=h' }:=I.kept (t':=s.toks) kp
  have I2:Inv X pins σ (upd H h'.objs.size (.tup ys)) { s with heap:=h'.push { cls:=.type "tuple",data:=.seq its.toArray } } :=
   I1.laid (t':=s.toks) (λb o e=>Heap.get?_push_of_some _ e) (Nat.le_refl _) (show ObjOk X.prog X.w _ _ _ (.tup ys) from⟨hz,its,r',IsTupP.new _ _⟩)
  exact⟨.ref h'.objs.size,_,I2,rfl,q _ (I1.hok.fresh (Nat.le_refl _))⟩
 ·obtain⟨its,r',pl,hz⟩:=I.tuple hq
  exact call_tuple_same pl ⟨.ref p,H,I,rfl,q⟩
def tyV(K:PySem.W.Frag)(T:String)(x:V)(H:Hp):Prop:=match x with
 |.str _=>T="str"
 |.int _=>T="int"
 |.ref p=>(T="list"/\∃xs,SqL K H p xs)\/(T="tuple"/\∃o,K.lookup p=some o/\o.cls=.type "tuple"/\o.dict=none) \/
   (T="dict"/\((∃kvs,H p=some (.dK kvs))\/∃kvs,H p=some (.dT kvs)))\/(T="set"/\∃S n,H p=some (.set S n))
 |_=>False
theorem zWE{pins:List (Addr×Obj)}{σ:St}{H:Hp}{s:Shared}{T:String}{x:V}{v:Value}(I:Inv X pins σ H s)(r:RelV x v)(ty:tyV X.K T x H) :
  s.TypeIs v T/\∀a,v=.ref a->∃ob,s.heap.get? a=some ob/\ob.dict=none:=by
 cases x with
 |str z =>
  obtain⟨t,rfl⟩:=r
  cases(show T="str" from ty)
  exact⟨typeIs_str s z t,λ_ e=>nomatch e⟩
 |int i =>
  obtain⟨t,rfl⟩:=r
  cases(show T="int" from ty)
  exact⟨typeIs_int s i t,λ_ e=>nomatch e⟩
 |ref p =>
  cases r
  rcases ty with⟨rfl,xs,hq⟩|⟨rfl,o,hk,hc,hd⟩|⟨rfl,hk⟩|⟨rfl,S,n,hk⟩
  ·obtain⟨its,_,pl,_⟩:=I.list hq
   refine⟨pl.isList.typeIs,λa e=>?_⟩
   cases e
   obtain⟨o,n,e,c,hd,_⟩:=pl
   exact⟨o,e,hd⟩
  ·refine⟨⟨o,I.kIn p o hk,hc⟩,λa e=>?_⟩
   cases e
   exact⟨o,I.kIn _ o hk,hd⟩
  ·have z:∃o,s.heap.get? p=some o/\o.ExactDict:=by
    rcases hk with⟨kvs,hk⟩|⟨kvs,hk⟩
    ·obtain⟨_,_,_,_,o,_,_,e,ex,_⟩:=I.hok p _ hk
     exact⟨o,e,ex⟩
    ·obtain⟨_,_,_,_,o,_,_,e,ex,_⟩:=I.hok p _ hk
     exact⟨o,e,ex⟩
   obtain⟨o,e,ex⟩:=z
   refine⟨⟨o,e,ex.1⟩,λa e2=>?_⟩
   cases e2
   exact⟨o,e,ex.2.1⟩
  ·obtain⟨o,_,_,_,e,ex,_⟩:=I.hok p _ hk
   refine⟨⟨o,e,ex.1⟩,λa e2=>?_⟩
   cases e2
   exact⟨o,e,ex.2.1⟩
 |_=>exact False.elim ty
def tBM(K:PySem.W.Frag)(T:String)(r:V->List V->Hp->VK->Prop)(to:TE)(t:TA):TE:=λσ H Q=>to σ H λx H1=>tyV K T x H1/\t σ H1 λxs H2=>r x xs H2 Q
variable{o e:Expr}{es:List Expr}{to:TE}{t:TA}{name:Str}{apos cpos:Pos}{T id:String}{r:V->List V->Hp->VK->Prop}
theorem zWF(pa:PlainAttrs T)(slot:Slot T name id)(hty:typeOf (.builtin id)=pure (.type "method_descriptor"))(hm:MtR X id r)(ho:PE X o to)(ha:PA X (e::es) t)
  (hbase:attributeBase o name X.env (eval o X.env)=eval o X.env:=by rfl)
  (hfew:((backTo cpos (starEach (e::es) X.env)).all (λx=>!x.1)&&(backToKw cpos (keywordEach [] X.env)).all (λx=>x.1.isSome)
   && decide ((e::es).length+([]:List Keyword).length+(if([]:List Keyword).isEmpty then 0 else 1)<30))=true:=by rfl)
  (hline:(apos.endLine==cpos.line)=true:=by rfl) (hs:starEach (e::es) X.env=(false,eval e X.env)::starEach es X.env:=by rfl) (hplain:(backTo cpos (starEach es X.env)).any (·.1)=false:=by rfl) :
  PE X (.Call (.Attribute o name apos) (e::es) [] cpos) (tBM X.K T r to t):=by
 intro pins s σ H Q I h
 refine wpAny_Call_method_late hbase hfew hline rfl (thn (ho pins s σ H _ I h) λv s1 ⟨x,H1,I1,r1,ty,q1⟩=>?_)
 obtain⟨h1,h2⟩:=zWE I1 r1 ty
 refine⟨T,id,pa,slot,hty,h1,h2,?_⟩
 have hA:=ha cpos pins s1 σ H1 _ I1 q1
 rw[hs] at hA ⊢
 refine Calls.callWith_builtin (by show(false||(backTo cpos (starEach es X.env)).any (·.1))=false;rw[hplain]<;>rfl) (Calls.evalArgs_plain ?_)
 exact thn hA λus s2 ⟨vs,H2,I2,r2,q2⟩=>hm pins s2 σ H2 x vs v us Q I2 r1 r2 q2
/- xs.append(e),list.index on a module's tuple .. are MtR facts of 06m -/
end
def MtM(X:Cx)(id:String)(r:V->List V->Hp->VK->Prop):Prop :=
 ∀(pins:List (Addr×Obj)) (s:Shared) (σ:St) (H:Hp) (x:V) (xs:List V) (v:Value) (us:List Value) (Q:VK),Inv X pins σ H s->RelV x v->Vals xs us->r x xs H Q ->
  wpAny (model X.prog X.w) X.A (call (.builtin id) (v::us)) (EP X pins σ Q) X.xe s
theorem Vals.one:∀{x:V} {us:List Value},Vals [x] us->∃u,us=[u]/\RelV x u
 |_,_,.cons r .nil=>⟨_,rfl,r⟩
theorem Vals.eraseIdx:∀{xs:List V} {us:List Value} (i:Nat),Vals xs us->Vals (xs.eraseIdx i) (us.eraseIdx i)
 |_,_,_,.nil=>.nil
 |_,_,0,.cons _ t=>t
 |_,_,i+1,.cons r t=>.cons r (Vals.eraseIdx i t)
theorem Vals.reverse{xs:List V}{us:List Value}(h:Vals xs us):Vals xs.reverse us.reverse:=by
 induction h with
 |nil=>exact .nil
 |cons r t ih=>rw[List.reverse_cons,List.reverse_cons];exact Vals.append ih (.cons r .nil)
theorem zIJ{α:Type}:∀(l:List α) (i:Nat),(l.eraseIdx i).length<=l.length
 |[],_=>Nat.le_refl _
 |_::_,0=>Nat.le_succ _
 |_::r,i+1=>Nat.succ_le_succ (zIJ r i)
section
variable{X:Cx}{pins:List (Addr×Obj)}{σ:St}{H:Hp}{s:Shared}{l b:Addr}{xs ys zs:List V}
theorem Inv.lset{its its':List Value}{n:Nat}{f:Array Value->Array Value}{t':Nat}(I:Inv X pins σ H s)(hH:H l=some (.lst xs))
  (e:s.heap.get? l=some { cls:=.type "list",data:=.seq its.toArray n }) (hf:f its.toArray=its'.toArray) (hv:Vals ys its') (hz:ys.length<=sizeLine) :
  Inv X pins σ (upd H l (.lst ys)) { s with heap:=s.heap.update l (Obj.mapSeq f),toks:=t' }:=by
 have q:=PySem.IsL.update e f
 rw[hf] at q
 refine I.write (x:=l) (e:=l) (by rw[hH];exact trivial) (.inl rfl) (λb' u hb hu=>(Heap.get?_update_other s.heap (Obj.mapSeq f) (Ne.symm hb)).trans hu) ⟨_,q⟩ ?_
 exact⟨hz,its',_,hv,q⟩
theorem Inv.lnew{its:List Value}{t':Nat}(I:Inv X pins σ H s)(hv:Vals ys its)(hz:ys.length<=sizeLine) :
  Inv X pins σ (upd H s.heap.objs.size (.lst ys)) { s with heap:=s.heap.push { cls:=.type "list",data:=.seq its.toArray },toks:=t' } :=
 I.laid (λ_ _ q=>Heap.get?_push_of_some _ q) (Nat.le_refl _) ⟨hz,its,0,hv,Heap.get?_push_size _ rfl⟩
theorem Inv.fresh(I:Inv X pins σ H s):H s.heap.objs.size=none:=I.hok.fresh (Nat.le_refl _)
theorem Inv.lstM(I:Inv X pins σ H s)(hH:H l=some (.lst xs)):xs.length<=sizeLine/\∃(its:List Value) (n:Nat),Vals xs its/\xs.length=its.length/\s.heap.get? l=some { cls:=.type "list",data:=.seq its.toArray n }:=by
 obtain⟨z,its,n,r,e⟩:=I.hok l _ hH
 exact⟨z,its,n,r,r.length,e⟩
end
section
variable{X:Cx}
def zNM:V->List V->Hp->VK->Prop:=λx vs H Q=>∃l xs y,x=.ref l/\vs=[y]/\H l=some (.lst xs)/\xs.length<sizeLine/\Q .non (upd H l (.lst (xs++[y])))
theorem zIK:MtM X "list.append" zNM:=by
 intro pins s σ H x vs v us Q I rx rv h
 obtain⟨l,xs,y,rfl,rfl,hH,hz,q⟩:=h
 cases rx
 obtain⟨u,rfl,ru⟩:=rv.one
 obtain⟨z,its,n,r,hl,e⟩:=I.lstM hH
 refine call_meets F.slot_list_append ⟨_,e,rfl⟩ F.entry_list_append (F.args_list_append_2 _ _) (PySem.list_append l its.toArray n u (by rw[List.size_toArray];lia)) ⟨e,?_⟩
 refine⟨.non,_,I.lset (its':=its++[u]) hH e (by simp) (r.append (.cons ru .nil)) ?_,rfl,q⟩
 rw[List.length_append,List.length_singleton]
 lia
def zR4:V->List V->Hp->VK->Prop:=λx vs H Q=>∃l xs i k y,x=.ref l/\vs=[.int i]/\H l=some (.lst xs)/\-(2 ^ 63)<=i/\i<2 ^ 63/\seqIndex? i xs.length=some k/\xs[k]?=some y/\Q y (upd H l (.lst (xs.eraseIdx k)))
theorem zP9:MtM X "list.pop" zR4:=by
 intro pins s σ H x vs v us Q I rx rv h
 obtain⟨l,xs,i,k,y,rfl,rfl,hH,h1,h2,hk,hy,q⟩:=h
 cases rx
 obtain⟨u,rfl,ru⟩:=rv.one
 obtain⟨t,rfl⟩:=ru
 obtain⟨z,its,n,r,hl,e⟩:=I.lstM hH
 obtain⟨w,hw,rw'⟩:=r.get hy
 refine call_meets F.slot_list_pop ⟨_,e,rfl⟩ F.entry_list_pop (F.args_list_pop_2 _ _)
  (MeetsSeq.list_pop_at l its.toArray n i t k w (fitsIndex_both h1 h2) (by rw[List.size_toArray,<-hl];exact hk) (by rw[<-Array.getElem?_toList];exact hw) (by rw[List.size_toArray];lia)) ⟨e,?_⟩
 refine⟨y,_,I.lset (its':=its.eraseIdx k) hH e ?_ (r.eraseIdx k) ?_,rw',q⟩
 ·show its.toArray.eraseIdxIfInBounds k=(its.eraseIdx k).toArray
  rw[List.eraseIdxIfInBounds_toArray]
 ·have:=zIJ xs k
  lia
end
section
variable{prog:Program}{w:World}{A:Around}{E:Value->Shared->Prop}{s:Shared}
end
section
variable{X:Cx}
end
section
variable{κ:Type}[DecidableEq κ]
noncomputable def zF3(kvs:List (κ×V))(k:κ):Option V:=(kvs.find? λkv=>decide (kv.1=k)).map (·.2)
noncomputable def zJQ(kvs:List (κ×V))(k:κ)(v:V):List (κ×V) :=
 if(kvs.any λkv=>decide (kv.1=k))=true then kvs.map (λkv=>if kv.1=k then(kv.1,v) else kv) else kvs++[(k,v)]
theorem zG5{p:κ×V}{r:List (κ×V)}{k:κ}(e:p.1=k):zF3 (p::r) k=some p.2:=by simp[zF3,List.find?_cons,e]
theorem zG6{p:κ×V}{r:List (κ×V)}{k:κ}(e:¬p.1=k):zF3 (p::r) k=zF3 r k:=by simp[zF3,List.find?_cons,e]
theorem zK3(k:κ):∀kvs:List (κ×V),(kvs.any λkv=>decide (kv.1=k))=(zF3 kvs k).isSome
 |[]=>rfl
 |p::r=>by
  rw[List.any_cons]
  by_cases e:p.1=k
  ·simp only[zG5 e,decide_eq_true e,Bool.true_or,Option.isSome_some]
  ·rw[zG6 e,decide_eq_false e,Bool.false_or];exact zK3 k r
theorem zFG(kvs:List (κ×V))(k:κ)(v:V):(zJQ kvs k v).length<=kvs.length+1:=by
 unfold zJQ
 split
 ·rw[List.length_map];lia
 ·rw[List.length_append,List.length_cons,List.length_nil];lia
theorem RelO.isSome_eq{o:Option V}{u:Option Value}(r:RelO o u):o.isSome=u.isSome:=by
 cases o with
 |none=>cases u with
  |none=>rfl
  |some _=>exact(show False from r).elim
 |some _=>cases u with
  |none=>exact(show False from r).elim
  |some _=>rfl
theorem KV.val{kvs:List (κ×V)}{vs:List (κ×Value)}(r:KV kvs vs)(k:κ):RelO (zF3 kvs k) (valueAt vs k):=by
 unfold KV at r
 induction r with
 |nil=>exact True.intro
 |@cons p q ps qs h t ih =>
  obtain⟨h1,h2⟩:=h
  by_cases e:p.1=k
  ·have e':q.1=k:=h1.symm.trans e
   have b:valueAt (q::qs) k=some q.2:=by simp[valueAt,List.find?_cons,e']
   rw[zG5 e,b];exact h2
  ·have e':¬q.1=k:=λz=>e (h1.trans z)
   have b:valueAt (q::qs) k=valueAt qs k:=by simp[valueAt,List.find?_cons,e']
   rw[zG6 e,b];exact ih
theorem KV.any{kvs:List (κ×V)}{vs:List (κ×Value)}(r:KV kvs vs)(k:κ):(kvs.any λkv=>decide (kv.1=k))=vs.any λkv=>decide (kv.1=k):=by
 unfold KV at r
 induction r with
 |nil=>rfl
 |cons h t ih=>rw[List.any_cons,List.any_cons,ih,h.1]
theorem KV.repl{kvs:List (κ×V)}{vs:List (κ×Value)}(r:KV kvs vs)(k:κ){y:V}{u:Value}(ry:RelV y u) :
  KV (kvs.map λkv=>if kv.1=k then(kv.1,y) else kv) (vs.map λkv=>if kv.1=k then(kv.1,u) else kv):=by
 unfold KV at r ⊢
 induction r with
 |nil=>exact .nil
 |@cons p q ps qs h t ih =>
  rw[List.map_cons,List.map_cons]
  refine .cons ?_ ih
  obtain⟨h1,h2⟩:=h
  by_cases e:p.1=k
  ·rw[if_pos e,if_pos (h1.symm.trans e)];exact⟨h1,ry⟩
  ·rw[if_neg e,if_neg (λz=>e (h1.trans z))];exact⟨h1,h2⟩
theorem KV.put{kvs:List (κ×V)}{vs:List (κ×Value)}(r:KV kvs vs)(k:κ){y:V}{u:Value}(ry:RelV y u):KV (zJQ kvs k y) (stored vs k u):=by
 unfold zJQ stored
 rw[r.any k]
 by_cases e:(vs.any λkv=>decide (kv.1=k))=true
 ·rw[if_pos e,if_pos e];exact r.repl k ry
 ·rw[if_neg e,if_neg e];exact Paired.snoc r ⟨rfl,ry⟩
theorem KV.keys{kvs:List (κ×V)}{vs:List (κ×Value)}(r:KV kvs vs):kvs.map (·.1)=vs.map (·.1):=by
 unfold KV at r
 induction r with
 |nil=>rfl
 |cons h t ih=>rw[List.map_cons,List.map_cons,ih,h.1]
theorem KV.length{kvs:List (κ×V)}{vs:List (κ×Value)}(r:KV kvs vs):kvs.length=vs.length:=Paired.length r
end
theorem zS8{P:Program}{w:World}{k:Key}{u:Value}(r:RelV (kV k) u):(zBN P w).is k u=true:=by
 cases k with
 |inl i=>obtain⟨t,e⟩:=(show ∃t,u=Value.int i t from r);subst e;exact zJV P w i t
 |inr x=>obtain⟨t,e⟩:=(show ∃t,u=Value.str x t from r);subst e;exact zJW P w x t
theorem zIL{P:Program}{w:World}:∀{ks:List Key} {us:List Value},Vals (ks.map kV) us->ItemsAre (zBN P w) ks us
 |[],_,r=>by rw[List.map_nil] at r;cases r;exact .nil
 |k::ks,_,r=>by
  rw[List.map_cons] at r
  cases r with
  |cons h t=>exact .cons (zS8 h) (zIL t)
abbrev KT(H:Hp):List (List Key×V)->List (List Key×Addr×Value)->Prop:=Paired λp q=>p.1=q.1/\H q.2.1=some (.tup (p.1.map kV))/\RelV p.2 q.2.2
theorem KT.val{H:Hp}{kvs:List (List Key×V)}{xs:List (List Key×Addr×Value)}(r:KT H kvs xs)(k:List Key):RelO (zF3 kvs k) ((atKey xs k).map (·.2)):=by
 induction r with
 |nil=>exact True.intro
 |@cons p q ps qs h t ih =>
  obtain⟨h1,_,h2⟩:=h
  by_cases e:p.1=k
  ·have e':q.1=k:=h1.symm.trans e
   have b:atKey (q::qs) k=some q.2:=by simp[atKey,List.find?_cons,e']
   rw[zG5 e,b];exact h2
  ·have e':¬q.1=k:=λz=>e (h1.trans z)
   have b:atKey (q::qs) k=atKey qs k:=by simp[atKey,List.find?_cons,e']
   rw[zG6 e,b];exact ih
theorem KT.repl{H:Hp}{kvs:List (List Key×V)}{xs:List (List Key×Addr×Value)}(r:KT H kvs xs)(k:List Key){y:V}{u:Value}(ry:RelV y u) :
  KT H (kvs.map λkv=>if kv.1=k then(kv.1,y) else kv) (xs.map (putAt k u)):=by
 induction r with
 |nil=>exact .nil
 |@cons p q ps qs h t ih =>
  rw[List.map_cons,List.map_cons]
  refine .cons ?_ ih
  obtain⟨h1,h2,h3⟩:=h
  unfold putAt
  by_cases e:p.1=k
  ·rw[if_pos e,if_pos (h1.symm.trans e)];exact⟨h1,h2,ry⟩
  ·rw[if_neg e,if_neg (λz=>e (h1.trans z))];exact⟨h1,h2,h3⟩
theorem KT.put{H:Hp}{kvs:List (List Key×V)}{xs:List (List Key×Addr×Value)}(r:KT H kvs xs)(k:List Key){b:Addr}{y:V}{u:Value}(hb:H b=some (.tup (k.map kV)))(ry:RelV y u) :
  KT H (zJQ kvs k y) (storedH xs k b u):=by
 have e:(kvs.any λkv=>decide (kv.1=k))=(atKey xs k).isSome:=by
  rw[zK3,(r.val k).isSome_eq,Option.isSome_map]
 unfold zJQ storedH
 rw[e]
 by_cases q:(atKey xs k).isSome=true
 ·rw[if_pos q,if_pos q];exact r.repl k ry
 ·rw[if_neg q,if_neg q];exact Paired.snoc r ⟨rfl,hb,ry⟩
theorem KT.keeps{H H':Hp}{kvs:List (List Key×V)}{xs:List (List Key×Addr×Value)}(r:KT H kvs xs)(ht:∀b ys,H b=some (.tup ys)->H' b=some (.tup ys)):KT H' kvs xs :=
 Paired.mapP r λ_ _ z=>⟨z.1,ht _ _ z.2.1,z.2.2⟩
section
variable{P:Program}{w:World}{H:Hp}{h:Heap}{a:Addr}
theorem zWG{u:HO}(ok:HOk P w H h)(e:Rd H a u):ObjOk P w H h a u:=e.ok ok
theorem zNN{kvs:List (Key×V)}(ok:HOk P w H h)(e:Rd H a (.dK kvs)):kvs.length<=sizeLine/\(a==sysModules)=false/\∃vs,KV kvs vs/\h.DictOf (zBN P w) a vs :=
 show ObjOk P w H h a (.dK kvs) from zWG ok e
theorem zYV{kvs:List (Key×V)}(ok:HOk P w H h)(e:H a=some (.dK kvs)):kvs.length<=sizeLine/\(a==sysModules)=false/\∃vs,KV kvs vs/\h.DictOf (zBN P w) a vs:=zNN ok (.inl e)
theorem zNO{ks:List Key}(ok:HOk P w H h)(e:H a=some (.tup (ks.map kV))):(tupleKind (zBN P w)).is h ks a:=by
 obtain⟨_,its,r,o,h1,h2,_,n,h3⟩:=(show ObjOk P w H h a (.tup (ks.map kV)) from ok a _ e)
 exact⟨o,its.toArray,n,h1,h2,h3,by simpa using zIL r⟩
theorem zS9{kvs:List (List Key×V)}(ok:HOk P w H h)(e:Rd H a (.dT kvs)):kvs.length<=sizeLine/\(a==sysModules)=false /\
  ∃xs,KT H kvs xs/\h.DictOfH (tupleKind (zBN P w)) a xs:=by
 obtain⟨z,y,xs,r,o,es,ep,h1,h2,h3,h4,h5⟩:=(show ObjOk P w H h a (.dT kvs) from zWG ok e)
 refine⟨z,y,xs,r,o,es,ep,h1,h2,h3,h4,λx hx=>?_,h5⟩
 have all:∀{l:List (List Key×V)} {m:List (List Key×Addr×Value)},KT H l m->∀x∈m,(tupleKind (zBN P w)).is h x.1 x.2.1:=by
  intro l m q
  induction q with
  |nil=>intro x hx;exact nomatch hx
  |@cons p q ps qs hq t ih =>
   intro x hx
   rcases List.mem_cons.mp hx with e|hx
   ·subst e
    exact zNO ok (by rw[<-hq.1];exact hq.2.1)
   ·exact ih x hx
 exact all r x hx
theorem zYW{kvs:List (List Key×V)}(ok:HOk P w H h)(e:H a=some (.dT kvs)):kvs.length<=sizeLine/\(a==sysModules)=false /\
  ∃xs,KT H kvs xs/\h.DictOfH (tupleKind (zBN P w)) a xs:=zS9 ok (.inl e)
end
def zX1(H:Hp)(a:Addr)(y:V)(r:Option V):Prop :=
 (∃kvs k,Rd H a (.dK kvs)/\y=kV k/\r=zF3 kvs k)\/∃kvs k b,Rd H a (.dT kvs)/\y=.ref b/\H b=some (.tup (k.map kV))/\r=zF3 kvs k
def DPut(H:Hp)(a:Addr)(y v:V)(H':Hp):Prop :=
 (∃kvs k,H a=some (.dK kvs)/\y=kV k/\kvs.length<sizeLine/\H'=upd H a (.dK (zJQ kvs k v))) \/
 ∃kvs k b,H a=some (.dT kvs)/\y=.ref b/\H b=some (.tup (k.map kV))/\kvs.length<sizeLine/\H'=upd H a (.dT (zJQ kvs k v))
theorem DPut.k{H:Hp}{a:Addr}{kvs:List (Key×V)}{k:Key}{v:V}(e:H a=some (.dK kvs))(hl:kvs.length<sizeLine):DPut H a (kV k) v (upd H a (.dK (zJQ kvs k v))):=.inl ⟨kvs,k,e,rfl,hl,rfl⟩
theorem DPut.t{H:Hp}{a b:Addr}{kvs:List (List Key×V)}{k:List Key}{v:V}(e:H a=some (.dT kvs))(eb:H b=some (.tup (k.map kV)))(hl:kvs.length<sizeLine) :
  DPut H a (.ref b) v (upd H a (.dT (zJQ kvs k v))):=.inr ⟨kvs,k,b,e,rfl,eb,hl,rfl⟩
section
variable{X:Cx}{pins:List (Addr×Obj)}{σ:St}{H:Hp}{s:Shared}{a:Addr}{y v:V}{u r:Value}{o:Option V}{A:Around}{E:Value->Shared->Prop}
theorem Inv.big(I:Inv X pins σ H s):sysModules<s.heap.objs.size:=by
 have h:mainGlobals<s.heap.objs.size:=(I.mod.glob.keeps I.bk).lt
 exact Nat.lt_trans (by decide) h
theorem zNP{Q:Value->Shared->Prop}(hu:A.units+1<cLine)(I:Inv X pins σ H s)(g:zX1 H a y (some v))(ry:RelV y u)(h:∀w' s',Inv X pins σ H s'->RelV v w'->Q w' s') :
  wpAny (model X.prog X.w) A (getItem (.ref a) u) Q E s:=by
 rcases g with⟨kvs,k,e,ey,l⟩|⟨kvs,k,b,e,ey,eb,l⟩
 ·subst ey
  obtain⟨z,hd,vs,rel,dd⟩:=zNN I.hok e
  obtain⟨w',hw,rw'⟩:=RelO.some_of (v:=v) (o:=valueAt vs k) (by rw[l];exact rel.val k)
  exact wpAny_getItem_of (zS8 ry) dd.mapOf hw (h w' _ (I.tok _) rw')
 ·subst ey
  cases(show u=Value.ref b from ry)
  obtain⟨z,hd,xs,rel,dd⟩:=zS9 I.hok e
  obtain⟨w',hw,rw'⟩:=RelO.some_of (v:=v) (o:=(atKey xs k).map (·.2)) (by rw[l];exact rel.val k)
  obtain⟨p,hp,hp2⟩:=Option.map_eq_some_iff.mp hw
  refine wpAny_getItem_heap (tupleKind_room_in1 hu) (zNO I.hok eb) dd hp ?_
  rw[hp2]
  exact h w' _ (I.tok _) rw'
theorem zNQ{h':Heap}{t':Nat}{ob:HO}(I:Inv X pins σ H s)(mu:Mut (H a))(hs:Heap.SameBut a s.heap h')(he:∃q,h'.get? a=some q)(new:ObjOk X.prog X.w (upd H a ob) h' a ob) :
  Inv X pins σ (upd H a ob) { s with heap:=h',toks:=t' } :=
 I.write (x:=a) (e:=a) mu (.inl rfl) (λb q hb z=>(hs.2 b hb).trans z) he new
theorem zWH{P:Program}{w:World}{H':Hp}{h':Heap}{kvs:List (Key×V)}{vs:List (Key×Value)}(z:kvs.length<=sizeLine)(hd:(a==sysModules)=false)(rel:KV kvs vs)(dd:h'.DictOf (zBN P w) a vs) :
  ObjOk P w H' h' a (.dK kvs):=⟨z,hd,vs,rel,dd⟩
theorem zNR{H':Hp}{Q:Unit->Shared->Prop}(hu:A.units+1<cLine)(I:Inv X pins σ H s)(g:DPut H a y v H')(ry:RelV y u)(rv:RelV v r)(h:∀s',Inv X pins σ H' s'->Q () s') :
  wpAny (model X.prog X.w) A (setItem (.ref a) u r) Q E s:=by
 rcases g with⟨kvs,k,e,ey,l,eH⟩|⟨kvs,k,b,e,ey,eb,l,eH⟩
 ·subst ey eH
  obtain⟨z,hd,vs,rel,dd⟩:=zYV I.hok e
  have hz:vs.length<=sizeLine:=by rw[<-rel.length];exact z
  have hl:(zJQ kvs k v).length<=sizeLine:=by have:=zFG kvs k v;lia
  refine wpAny_setItem_pairs (hsz:=hz) (zS8 ry) dd λh' dd' hs=>h _ ?_
  have he:∃q,h'.get? a=some q:=let ⟨q,_,_,hq,_⟩:=dd';⟨q,hq⟩
  exact zNQ I (by rw[e];exact True.intro) hs he (zWH hl hd (rel.put k rv) dd')
 ·subst ey eH
  cases(show u=Value.ref b from ry)
  obtain⟨z,hd,xs,rel,dd⟩:=zYW I.hok e
  have hz:xs.length<=sizeLine:=by rw[<-Paired.length rel];exact z
  have hl:(zJQ kvs k v).length<=sizeLine:=by have:=zFG kvs k v;lia
  refine wpAny_setItem_heap (hsz:=hz) (tupleKind_room_in1 hu) (zNO I.hok eb) dd λh' dd' hs=>h _ ?_
  obtain⟨q,es,ep,hq,h2,h3,h4,_,h5⟩:=dd'
  refine zNQ I (by rw[e];exact True.intro) hs ⟨q,hq⟩ ⟨hl,hd,_,(rel.put k eb rv).keeps λc ys ec=>?_,q,es,ep,hq,h2,h3,h4,h5⟩
  rw[zAL (zX8 ec e (λz=>nomatch z))]
  exact ec
end
section
variable{X:Cx}{pins:List (Addr×Obj)}{σ:St}{H:Hp}{s:Shared}{a:Addr}{kvs:List (Key×V)}{k:Key}{u:Value}{A:Around}{E:Value->Shared->Prop}
theorem zYX{Q:Value->Shared->Prop}(I:Inv X pins σ H s)(e:Rd H a (.dK kvs))(h:∀t s',Inv X pins σ H s'->Q (.int kvs.length t) s'):wpAny (model X.prog X.w) A (call (.builtin "len") [.ref a]) Q E s:=by
 obtain⟨z,hd,vs,rel,dd⟩:=zNN I.hok e
 refine call_len_dict hd dd (by rw[<-rel.length];rw[sizeLine_eq] at z;lia) ?_
 rw[<-rel.length]
 exact h _ _ (I.tok _)
end
theorem zJ0{X:Cx}{pins:List (Addr×Obj)}{σ:St}{H:Hp}{s:Shared}{a:Addr}{y:V}{o:Option V}(I:Inv X pins σ H s)(g:zX1 H a y o):s.TypeIs (.ref a) "dict":=by
 rcases g with⟨kvs,k,e,_,_⟩|⟨kvs,k,b,e,_,_,_⟩
 ·obtain⟨_,_,vs,_,dd⟩:=zNN I.hok e
  exact dd.typeIs
 ·obtain⟨_,_,xs,_,dd⟩:=zS9 I.hok e
  exact dd.typeIs
def zYY(td ty tv:TE):TS:=λD σ H=>tv σ H λv H1=>td σ H1 λx H2=>ty σ H2 λy H3=>∃a H4,x=.ref a/\DPut H3 a y v H4/\D.nx σ H4
section
variable{X:Cx}{o i e value:Expr}{pos pos' tpos:Pos}{td ty tv:TE}
theorem zNS(hu:X.A.units+1<cLine)(ho:PE X o td)(hi:PE X i ty)(hv:PE X value tv)(hs:swapsWith value (some (.Subscript o i pos')) pos.line X.env=pure false) :
  PS X (.Assign [.Subscript o i pos'] value pos) (zYY td ty tv):=by
 intro pins s σ H D I h
 refine wpAny_Assign_Subscript (thn (hv pins s σ H _ I h) λr s1 ⟨v,H1,I1,rv,q1⟩=>thn (ho pins s1 σ H1 _ I1 q1) λu s2 ⟨x,H2,I2,rx,q2⟩=>thn (hi pins s2 σ H2 _ I2 q2) λiv s3 ⟨y,H3,I3,ry,a,H4,ex,g,q3⟩=>?_) hs
 subst ex
 obtain rfl:u=Value.ref a:=rx
 exact zNR hu I3 g ry rv λs4 I4=>⟨σ,H4,I4,q3⟩
end
theorem zQA{P:Program}{w:World}{H:Hp}(h:Heap)(hb:sysModules<h.objs.size):ObjOk P w H (h.push { cls:=.type "dict",data:=.dict #[] }) h.objs.size (.dT []) :=
 ⟨Nat.zero_le _,beq_eq_false_iff_ne.mpr (Ne.symm (Nat.ne_of_lt hb)),[],.nil,_,#[],0,Heap.get?_push_size _ rfl,⟨rfl,rfl,rfl⟩,rfl,rfl,List.nodup_nil⟩
def zWI:TE:=λ_ H Q=>∀p,H p=none->Q (.ref p) (upd H p (.dT []))
section
variable{X:Cx}{pos:Pos}
theorem pe_dnewT:PE X (.Dict [] [] pos) zWI:=λpins s σ H Q I h =>
 wpAny_Dict_empty ⟨.ref s.heap.objs.size,_,I.laid (a:=s.heap.objs.size) (o:=.dT []) (t':=s.toks) (λ_ _ q=>Heap.get?_push_of_some _ q) (Nat.le_refl _) (zQA s.heap I.big),rfl,h _ (I.hok.fresh (Nat.le_refl _))⟩
end
section
variable{X:Cx}{pins:List (Addr×Obj)}{σ:St}{H:Hp}{s:Shared}{a:Addr}{y d:V}{u r:Value}{o:Option V}{A:Around}{E:Value->Shared->Prop}
end
section
variable{X:Cx}{o e f:Expr}{apos cpos:Pos}{td ty tx:TE}
end
section
variable{X:Cx}{pins:List (Addr×Obj)}{σ:St}{H:Hp}{s:Shared}{a:Addr}{kvs:List (Key×V)}{A:Around}{E:Value->Shared->Prop}
end
section
variable{X:Cx}{pins:List (Addr×Obj)}{σ:St}{H:Hp}{s:Shared}{a:Addr}{y:V}{u:Value}{A:Around}{E:Value->Shared->Prop}
end
end L2
namespace Att
open PySem PySem.W PySem.Calls PyProof.Rows
theorem zFH{P:Params}{h:Heap}:∀(ns:List Int) (vs:List Value),WellAll P h vs (ns.map WData.int)->IntsAre vs ns:=by
 intro ns
 induction ns with
 |nil =>
  intro vs w
  rw[List.map_nil] at w
  cases w
  exact .nil
 |cons n ns ih =>
  intro vs w
  rw[List.map_cons] at w
  cases w with
  |cons a b =>
   cases a
   exact .cons _ _ (ih _ b)
theorem zNT{l:OpenLaw}{n:Nat}(hn:l.most=some n){P:Params}{h:Heap}{args:List WData}{vals:List Value}
  (hpre:l.row.toRowW.claim.pre args=true) (hwl:WellAll P h vals args) :
  ∃a vs ns,vals=[Value.ref a]/\args=[WData.list (ns.map WData.int)]/\h.get? a=some { cls:=.type "list",data:=.seq vs.toArray }/\IntsAre vs ns/\ns.length<=n:=by
 have hsh:WShape.hasAll [] args [.list .int]=true:=(pre_splitW hpre).1
 have hc:l.pre.holds [] { args:=args }=true:=(pre_splitW hpre).2
 obtain⟨d,r,rfl,h1,h2⟩:=hasAllW_cons hsh
 obtain rfl:=hasAllW_nil h2
 obtain⟨xs,rfl,h3⟩:=hasW_list h1
 obtain⟨ns,rfl⟩:=items_int h3
 have hlen:ns.length<=n:=by
  unfold OpenLaw.pre at hc
  have h4:(WTm.not (.lt (.lit (.int (n:Int))) (.len (.arg 0)))).holds [] { args:=[.list (ns.map .int)] }=true:=by
   have h4:=(holds_andW hc).1
   rw[hn] at h4
   exact h4
  have h5:=condW_of h4 (w_not (w_lt w_lit (w_len_list (w_arg rfl))))
  rw[List.length_map] at h5
  refine Nat.le_of_not_lt λq=>?_
  have q':(n:Int)<((ns.length:Nat):Int):=by lia
  first
   |(rw[decide_eq_true q'] at h5;exact absurd h5 (by decide))
   |(simp at h5;lia)
 cases hwl with
 |cons w1 w2 =>
  cases w2
  cases w1 with
  |list ho hall=>exact⟨_,_,ns,rfl,rfl,ho,zFH ns _ hall,hlen⟩
theorem zNU(l:OpenLaw)(args:List WData):l.row.toRowW.claim.post args (.bool true) args=true :=
 postW_of (r:=l.row.toRowW) (X:=(true==true))
  (show WShape.has [] (.bool true) .bool=true by first|rfl|decide|simp[WShape.has,WShape.arms,WShape.armsAll])
  (show(WTm.eq .res (.lit (.bool true))).value [] { args:=args,res:=some (.bool true),after:=args }=some (.bool (true==true)) from w_eq_bool (w_res rfl) w_lit) rfl
theorem attach_call{l:OpenLaw}{n:Nat}{q:Program}{loose:List Str}{XP:(Str->Option Value)->Heap->Prop}{YP:World->Heap->Prop}{d:DefRec}
  (hn:l.most=some n) (hdf:d.params.defaults=[])
  (call:∀(w:World) (s₀ s₁:Shared) (mg mb:Str->Option Value) (fa:Addr) (o:Obj) (pm cd doc:Value) (a:Addr) (vs:List Value) (ns:List Int),
   Ground q loose [] XP w s₀ mg mb s₁.heap->YP w s₁.heap ->
   s₁.heap.get? fa=some o->o.data=.func (docDef d.name d.params d.body d.scope pm cd doc)->s₁.heap.CodeRec cd d.name->mg d.name=some (.ref fa) ->
   s₁.heap.get? a=some { cls:=.type "list",data:=.seq vs.toArray }->IntsAre vs ns->ns.length<=n->s₁.gens=#[] ->
   codeAny (model l.prog w) callerA (.call (.ref fa) ⟨[.ref a],[]⟩) (λr s'=>r=.ok (.ret (.bool true))/\OldK s₁.heap s'.heap/\s'.os=s₁.os/\AllBare s'.gens) s₁) :
  WalkO q loose XP YP l.row.toRowW d [] (λf vs=>PySem.call f vs):=by
 intro w s₀ s₁ mg mb G Y fa o pm cd doc dV kV ho hd hcd hD hmg hg args vals as hpre hlay hrd hwl hlo
 obtain rfl:dV=.none:=Dflts.none hD hdf
 obtain rfl:kV=.none:=Dflts.noKw hD
 obtain⟨a,vs,ns,rfl,rfl,hobj,hints,hlen⟩:=zNT hn hpre hwl
 refine enter_call (codeAny_mono (call w s₀ s₁ mg mb fa o pm cd doc a vs ns G Y ho (fd_plain hd) hcd hmg hobj hints hlen hg) λr s' hq=>?_)
 obtain⟨rfl,h2,h3,h4⟩:=hq
 exact⟨.inl ⟨.bool true,.bool true,[],rfl,λ_=>rfl,.bool true,zNU l _,λ_=>⟨List.Pairwise.nil,λ_ hm=>(nomatch hm)⟩⟩,h2,h3,h4⟩
section
variable{prog:Program}{w:World}{A:Around}{E:Value->Shared->Prop}{s:Shared}{K:Frag}
noncomputable def zZX(h:Heap)(L d:Addr):List (Addr×Obj):=(List.range h.objs.size).filterMap λa=>if a=L\/a=d then none else(h.get? a).map λo=>(a,o)
end
end Att
namespace L2
open PySem PySem.Spec PyProof.Rows
theorem zIM:∀{vs:List Value} {ns:List Int},IntsAre vs ns->Vals (ns.map V.int) vs
 |_,_,.nil=>.nil
 |_,_,.cons n t h=>.cons ⟨t,rfl⟩ (zIM h)
def zYZ(H:Hp):Prop:=∀b,H b=none\/(∃o xs,H b=some (.frz o (.lst xs)))\/∃q,H b=some (.tbl q #[])
structure Tabs(K:PySem.W.Frag)(q:Program):Prop where
 rcs:∀x∈zCH,∀c T,PySem.W.tabIn K x=some (c,T)->∃d,(PyProof.Rows.recsOf q).find? (λe=>e.name==x)=some d
 out:∀x∈zCH,∀c T,PySem.W.tabIn K x=some (c,T)->K.lookup T=none
 uni:∀x∈zCH,∀y∈zCH,∀c c' T,PySem.W.tabIn K x=some (c,T)->PySem.W.tabIn K y=some (c',T)->x=y
def CB(K:PySem.W.Frag)(base:Heap):Prop:=∀x∈zCH,∀c T,PySem.W.tabIn K x=some (c,T)->PySem.W.CodeHd base c T
theorem Tabs.uq{K:PySem.W.Frag}{q:Program}(t:Tabs K q){T:Addr}{u v:Str}(a:TB K T u)(b:TB K T v):u=v:=by
 obtain⟨x,c,h1,h2,rfl⟩:=a
 obtain⟨y,c',g1,g2,rfl⟩:=b
 rw[t.uni x h1 y g1 c c' T h2 g2]
open Classical in
noncomputable def zIN(K:PySem.W.Frag)(H:Hp):Hp:=λb=>if h:∃q,TB K b q then some (.tbl h.choose #[]) else H b
theorem zTA{K:PySem.W.Frag}{H:Hp}{q:Program}(t:Tabs K q){T:Addr}{u:Str}(a:TB K T u):zIN K H T=some (.tbl u #[]):=by
 have h:∃q,TB K T q:=⟨u,a⟩
 unfold zIN
 rw[dif_pos h,t.uq h.choose_spec a]
theorem zTB{K:PySem.W.Frag}{H:Hp}{b:Addr}(a:∀q,¬TB K b q):zIN K H b=H b:=by
 unfold zIN
 rw[dif_neg λ⟨q,z⟩=>a q z]
theorem zQB{P q:Program}{w:World}{K:PySem.W.Frag}{mg mb:Str->Option Value}{CX:CXT}{k:Nat}{fa a:Addr}{fd:FuncData}{x:Str}{sp:Sp}{s₁:Shared}{vs:List Value}{ns:List Int}
  (KX:K.In s₁.heap) (hns:s₁.heap.Ns mainGlobals mg) (hb:s₁.heap.Ns builtinsNs mb) (hbb:∀x:Str,x≠"__name__"->mb x=bootBuiltins x) (hlim:s₁.heap.NoLimit) (hbm:∃bm ob,mg "__builtins__"=some (.ref bm)/\bm≠builtinsNs/\s₁.heap.get? bm=some ob/\ob.cls=.type "module"/\ob.dict=some builtinsNs/\ob.data=.plain) (hg:s₁.gens=#[])
  (tK:Tabs K q) (tT:∀x∈zCH,∀c T,PySem.W.tabIn K x=some (c,T)->PySem.W.CodeHd s₁.heap c T/\s₁.heap.get? T=some (PySem.W.tabObj #[]))
  (ha:s₁.heap.get? a=some { cls:=.type "list",data:=.seq vs.toArray }) (hi:IntsAre vs ns) (hl:ns.length<=sizeLine) (hr:Room k callerA)
  (F:∀base:Heap,K.In base->base.Ns mainGlobals mg->CB K base->FnOk P w K mg base CX k fa fd [x] sp) (hbind:∀(s:Shared) (u:Value),BindsTo s fd ⟨[u],[]⟩ [(x,u)])
  (hsp:∀H:Hp,zYZ H->SqL K H a (ns.map V.int)->sp [.ref a] H (λv _=>v=.bl true) λ_ _ _=>False)
  (hCX:∀H e s',CX [] H s₁ (λ_ _ _=>False) e s'->False) :
  codeAny (model P w) callerA (.call (.ref fa) ⟨[.ref a],[]⟩) (λr s'=>r=.ok (.ret (.bool true))/\OldK s₁.heap s'.heap/\s'.os=s₁.os/\AllBare s'.gens) s₁:=by
 have rv:=zIM hi
 have lenV:=hi.length
 have tabO:∀{T u},TB K T u->s₁.heap.get? T=some (PySem.W.tabObj #[])/\PySem.isCodeTable s₁.heap T/\K.lookup T=none:=λ{T u} h=>by
  obtain⟨x,c,h1,h2,_⟩:=h
  obtain⟨z1,z2⟩:=tT x h1 c T h2
  exact⟨z2,(z1.tab z2).isCodeTable,tK.out x h1 c T h2⟩
 have tne:∀{u},¬TB K a u:=λ{u} h=>by
  have e:=(tabO h).1
  rw[ha] at e
  cases e
 -- from an abstract heap in which nothing but the script and the tables is tracked
 have core:∀H0:Hp,(∀b,H0 b=none\/∃o xs,H0 b=some (.frz o (.lst xs)))->SqL K H0 a (ns.map V.int)->HOk P w H0 s₁.heap->(∀b,H0 b≠none->b=a)->(H0 a≠none->K.lookup a=none) ->
   codeAny (model P w) callerA (.call (.ref fa) ⟨[.ref a],[]⟩) (λr s'=>r=.ok (.ret (.bool true))/\OldK s₁.heap s'.heap/\s'.os=s₁.os/\AllBare s'.gens) s₁:=by
  intro H0 hO0 hS0 hok0 hA0 hK0
  have hT:∀{T u},TB K T u->zIN K H0 T=some (.tbl u #[]):=λh=>zTA tK h
  have hN:∀b,(∀u,¬TB K b u)->zIN K H0 b=H0 b:=λb h=>zTB h
  have gr:∀b u,H0 b=some u->zIN K H0 b=some u:=λb u e=>by
   have:b=a:=hA0 b (by rw[e];simp)
   rw[hN b λu=>by rw[this];exact tne,e]
  generalize hH:zIN K H0=H at hT hN gr
  have hO:zYZ H:=λb=>by
   by_cases h:∃u,TB K b u
   ·obtain⟨u,h⟩:=h;exact .inr (.inr ⟨u,hT h⟩)
   ·rw[hN b λu z=>h ⟨u,z⟩]
    exact(hO0 b).imp_right .inl
  have hS:SqL K H a (ns.map V.int):=hS0.imp (λz=>z.imp (gr _ _) λ⟨o,z⟩=>⟨o,gr _ _ z⟩) id
  have hok:HOk P w H s₁.heap:=λb u e=>by
   by_cases h:∃u,TB K b u
   ·obtain⟨v,h⟩:=h
    rw[hT h] at e
    cases e
    exact⟨(tabO h).1,trivial,λpos cv z=>by cases z⟩
   ·rw[hN b λu z=>h ⟨u,z⟩] at e
    refine(hok0 b u e).stay (λc v _ q=>q) (λc q=>gr _ _ q) (λc xs q=>gr _ _ q) λc o x q=>gr _ _ q
  have hA:∀b,H b≠none->b=a\/∃u,TB K b u:=λb z=>by
   by_cases h:∃u,TB K b u
   ·exact .inr h
   ·rw[hN b λu z=>h ⟨u,z⟩] at z
    exact .inl (hA0 b z)
  have hK:H a≠none->K.lookup a=none:=λz=>hK0 (by rw[<-hN a λu=>tne];exact z)
  have base_of:∀{b:Addr} {o:Obj},s₁.heap.get? b=some o->H b=none->(zPS s₁.heap H).get? b=some o:=λe n=>zPW e n
  have noA:∀{b:Addr} {o:Obj} {es:Array DictEntry} {ep:Nat},s₁.heap.get? b=some o->o.data=.dict es ep->H b=none:=λ{b o es ep} e d=>by
   cases q:H b with
   |none=>rfl
   |some u =>
    rcases hA b (by rw[q];simp) with e'|⟨v,h⟩
    ·subst e'
     rw[ha] at e;cases e
     have d':Data.seq vs.toArray _=Data.dict es ep:=d
     cases d'
    ·rw[(tabO h).1] at e;cases e
     have d':Data.fields #[]=Data.dict es ep:=d
     cases d'
  have nsK:∀{b:Addr} {m:Str->Option Value},s₁.heap.Ns b m->(zPS s₁.heap H).Ns b m:=λ{b m} ⟨o,es,ep,e,d,r⟩=>⟨o,es,ep,base_of e (noA e d),d,r⟩
  have hKb:K.In (zPS s₁.heap H):=λb o e=>base_of (KX b o e) (by
   cases q:H b with
   |none=>rfl
   |some u =>
    rcases hA b (by rw[q];simp) with e'|⟨v,h⟩
    ·subst e'
     rw[hK (by rw[q];simp)] at e;cases e
    ·rw[(tabO h).2.2] at e;cases e)
  have hM:Mod K mg (zPS s₁.heap H):=⟨hKb,nsK hns,⟨mb,nsK hb,hbb⟩,let ⟨mc,h1,h2⟩:=hlim;⟨mc,nsK h1,h2⟩,by
   obtain⟨bm,ob,b1,b2,b3,b4,b5,b6⟩:=hbm
   refine⟨bm,ob,b1,b2,base_of b3 ?_,b4,b5,b6⟩
   cases q:H bm with
   |none=>rfl
   |some u =>
    rcases hA bm (by rw[q];simp) with e'|⟨v,h⟩
    ·subst e';rw[ha] at b3;cases b3;injection b4 with z;exact absurd z (by decide)
    ·rw[(tabO h).1] at b3;cases b3;cases b4⟩
  have e0:Env0 P w K mg (zPS s₁.heap H) callerA [] s₁ H:=⟨λT u h=>⟨_,hT h⟩,rfl,hM,λb o e=>zSS e,Nat.le_of_eq (zM3 _ _),trivial,λb hb=>absurd (show b∈([]:List Addr) from hb) (by simp),hok,.of_eq hg⟩
  have hCB:CB K (zPS s₁.heap H):=λx hx c T e=>by
   obtain⟨⟨o,vs',file,tf,flags,tg,inF,text,tt,e1,e2,r⟩,_⟩:=tT x hx c T e
   refine⟨o,vs',file,tf,flags,tg,inF,text,tt,base_of e1 ?_,e2,r⟩
   cases q:H c with
   |none=>rfl
   |some u =>
    rcases hA c (by rw[q];simp) with e'|⟨v,h⟩
    ·subst e';rw[ha] at e1;cases e1;injection e2 with z;exact absurd z (by decide)
    ·rw[(tabO h).1] at e1;cases e1;cases e2
  refine codeAny_mono ((F _ hKb (nsK hns) hCB).run callerA [] s₁ H ⟨[.ref a],[]⟩ [.ref a] [.ref a] _ _ hr e0 (hbind s₁ (.ref a)) (.cons rfl .nil) (hsp H hO hS)) λr s' h=>?_
  cases r with
  |error e=>exact(hCX H e s' h).elim
  |ok fl =>
   cases fl with
   |next=>exact False.elim h
   |brk=>exact False.elim h
   |cont=>exact False.elim h
   |ret u =>
    obtain⟨v,H',os,bare,un,hok',r',q⟩:=h
    have q':v=.bl true:=q
    subst q'
    obtain rfl:u=Value.bool true:=r'
    have old:∀b o,s₁.heap.get? b=some o->s'.heap.get? b=some o\/(PySem.isCodeTable s₁.heap b/\o=PySem.W.tabObj #[]/\∃ps,s'.heap.get? b=some (PySem.W.tabObj ps)):=λb o e=>by
     cases q:H b with
     |none=>exact .inl (un.keep b o e q (by intro z;exact absurd (show b∈([]:List Addr) from z) (by simp)) (by simp))
     |some u =>
      rcases hO b with z|⟨ob,xs,z⟩|⟨v,z⟩
      ·rw[q] at z;cases z
      ·have z2:=un.frzs b ob _ z
       obtain⟨e1,_⟩:=hok b _ z
       obtain⟨e2,_⟩:=hok' b _ z2
       rw[e] at e1;cases e1
       exact .inl e2
      ·obtain⟨m,z2⟩:=un.tbls b v _ z
       obtain⟨e2,_⟩:=hok' b _ z2
       by_cases h:∃u,TB K b u
       ·obtain⟨w',h⟩:=h
        rw[(tabO h).1] at e;cases e
        exact .inr ⟨(tabO h).2.1,rfl,_,e2⟩
       ·rw[hN b λu z=>h ⟨u,z⟩] at z
        rcases hO0 b with y|⟨ob,xs,y⟩
        ·rw[z] at y;cases y
        ·rw[z] at y;cases y
    refine⟨rfl,⟨λb o e=>?_,λb o e=>?_⟩,os,bare⟩
    ·rcases old b o e with z|⟨ht,rfl,ps,hP⟩
     ·exact .inl z
     ·exact .inr (.inl ⟨ht,rfl,#[],ps,rfl,by rw[Array.empty_append];exact hP⟩)
    ·rcases old b o e with z|⟨_,_,ps,hP⟩
     ·exact⟨o,z⟩
     ·exact⟨_,hP⟩
 cases hk:K.lookup a with
 |some o =>
  -- the script is one of the module's own objects
  have e:=KX a o hk
  rw[ha] at e
  cases e
  refine core (λ_=>none) (λ_=>.inl rfl) (.inr ⟨_,vs.toArray,_,hk,rfl,rfl,rfl,by rw[List.size_toArray,lenV];exact hl,by simpa using rv⟩) (λb u z=>by have z':(none:Option HO)=some u:=z;cases z') (λb z=>absurd rfl z) λz=>absurd rfl z
 |none =>
  refine core (λb=>if b=a then some (.frz { cls:=.type "list",data:=.seq vs.toArray } (.lst (ns.map V.int))) else none) (λb=>?_) (.inl (.inr ⟨{ cls:=.type "list",data:=.seq vs.toArray },if_pos rfl⟩)) (λb u z=>?_) (λb z=>?_) λ_=>hk
  ·by_cases hb:b=a
   ·exact .inr ⟨_,_,if_pos hb⟩
   ·exact .inl (if_neg hb)
  ·by_cases hb:b=a
   ·have z':=(if_pos hb).symm.trans z
    cases z'
    subst hb
    exact⟨ha,by rw[List.length_map];exact hl,vs,_,rv,ha⟩
   ·have z':=(if_neg hb).symm.trans z
    cases z'
  ·by_cases hb:b=a
   ·exact hb
   ·exact absurd (if_neg hb) z
theorem walk_of{l:PySem.W.OpenLaw}{n k:Nat}{q:Program}{loose:List Str}{XP:(Str->Option Value)->Heap->Prop}{YP:World->Heap->Prop}{d:DefRec}{K:Params->PySem.W.Frag}{CX:World->CXT}{sp:World->Sp}{x:Str}
  (hn:l.most=some n) (hn2:n<=sizeLine) (hdf:d.params.defaults=[]) (hr:Room k callerA)
  (hY:∀(w:World) (h:Heap),YP w h->(K w.params).In h) (tK:∀w:World,Tabs (K w.params) q)
  (F:∀(w:World) (mg:Str->Option Value) (fa:Addr) (h:Heap),(K w.params).In h->h.Ns mainGlobals mg->mg d.name=some (.ref fa) ->
   ∃fd:FuncData,(∀(s:Shared) (u:Value),BindsTo s fd ⟨[u],[]⟩ [(x,u)]) /\
    ∀base:Heap,(K w.params).In base->base.Ns mainGlobals mg->CB (K w.params) base->FnOk l.prog w (K w.params) mg base (CX w) k fa fd [x] (sp w))
  (hsp:∀(w:World) (H:Hp) (a:Addr) (ns:List Int),ns.length<=n->zYZ H->SqL (K w.params) H a (ns.map V.int)->sp w [.ref a] H (λv _=>v=.bl true) λ_ _ _=>False)
  (hCX:∀(w:World) (H:Hp) (s:Shared) (e:Value) (s':Shared),CX w [] H s (λ_ _ _=>False) e s'->False) :
  PySem.W.WalkO q loose XP YP l.row.toRowW d [] (λf vs=>PySem.call f vs):=by
 refine Att.attach_call hn hdf λw s₀ s₁ mg mb fa o pm cd doc a vs ns G Y ho hd hcd hmg hobj hints hlen hg=>?_
 have KX:=hY w _ Y
 obtain⟨fd,hb,hF⟩:=F w mg fa _ KX G.T.g hmg
 exact zQB KX G.T.g G.T.b G.T.builtins G.T.nolimit G.T.bmain hg (tK w) (λx hx c T e=>let ⟨d,hd⟩:=(tK w).rcs x hx c T e;PySem.W.tab_of G.T KX hd e) hobj hints (Nat.le_trans hlen hn2) hr hF hb (λH hO hS=>hsp w H a ns hlen hO hS) λH e s'=>hCX w H s₁ e s'
noncomputable def zA4(s:Stmt):Arguments:=match s with
 |.FunctionDef _ a _ _ _ _ _ _ _ _=>a
 |_=>{ posonlyargs:=[],args:=[],vararg:=none,kwonlyargs:=[],kw_defaults:=[],kwarg:=none,defaults:=[] }
noncomputable def zA0(s:Stmt):List Stmt:=match s with
 |.FunctionDef _ _ b _ _ _ _ _ _ _=>b
 |_=>[]
noncomputable def zAM(s:Stmt):Scope:=match s with
 |.FunctionDef _ _ _ _ _ _ sc _ _ _=>sc
 |_=>{ kind:=.function,names:=[],isGenerator:=false,isCoroutine:=false }
abbrev CX0:CXT:=λ_ _ _ _ _ _=>False
abbrev E0:XK:=λ_ _ _=>False
theorem zTC{X:Cx}:zNG CX0 X E0:=λ_ _ _ _ _ _ _ h=>h.elim
structure Fun(K:PySem.W.Frag)(x qual:Str)(st:Stmt)(f:Addr)(fd:FuncData):Prop where
 ex:∃(oc:Value) (od:Option Addr) (kV doc pm:Value) (an:Option Addr) (cdv ct:Value) (osl:Array (Option Value)),
  fd=PySem.W.fnOf x qual (zA4 st) (zA0 st) (zAM st) .none kV doc pm an cdv ct/\K.lookup f=some ⟨oc,od,.func fd,osl⟩/\PySem.W.codeIn K cdv qual=true
 kp:PySem.W.keepIn K (.ref f)=true
section
variable{P:Program}{w:World}{K:PySem.W.Frag}{mg:Str->Option Value}{base:Heap}
theorem Fun.binds{x qual:Str}{st:Stmt}{f:Addr}{fd:FuncData}{ps:List Str}(F:Fun K x qual st f fd)
  (h:∀(kV doc pm:Value) (an:Option Addr) (cdv ct:Value) (us:List Value),us.length=ps.length->bindArgs (PySem.W.fnOf x qual (zA4 st) (zA0 st) (zAM st) .none kV doc pm an cdv ct) ⟨us,[]⟩=pure (ps.zip us)):Binds K fd ps []:=by
 obtain⟨oc,od,kV,doc,pm,an,cdv,ct,osl,rfl,lk,hcd⟩:=F.ex
 exact .all (h kV doc pm an cdv ct)
theorem zCI{x qual:Str}{st:Stmt}{f:Addr}{oc:Value}{od an:Option Addr}{osl:Array (Option Value)}{kV doc pm cdv ct:Value}(l:K.lookup f=some ⟨oc,od,.func (PySem.W.fnOf x qual (zA4 st) (zA0 st) (zAM st) .none kV doc pm an cdv ct),osl⟩)
  (c:PySem.W.codeIn K cdv qual=true) (k:PySem.W.keepIn K (.ref f)=true):Fun K x qual st f (PySem.W.fnOf x qual (zA4 st) (zA0 st) (zAM st) .none kV doc pm an cdv ct):=⟨⟨oc,od,kV,doc,pm,an,cdv,ct,osl,rfl,l,c⟩,k⟩
end
section
variable{X:Cx}
theorem pv(i:Nat){x:Str}{pos:Pos}(hN:X.N[i]?=some x:=by rfl)(hv:Vis X.env.scope x:=by first|exact Or.inl rfl|exact Or.inr (Or.inl rfl)|exact Or.inr (Or.inr rfl))(hd:(x==("__debug__":Str))=false:=by decide)
  (hcd:(x==("__classdict__":Str))=false:=by decide):PE X (.Name x pos) (zX9 i):=zGE hN hv hd hcd
end
theorem zZY{A B:Prop}(h:B):if false=true then A else B:=by
 rw[if_neg Bool.false_ne_true]
 exact h
theorem zZZ{A B:Prop}(h:A):if true=true then A else B:=by
 rw[if_pos rfl]
 exact h
end L2
namespace TS
open PySem PyProof.Rows
section
variable{prog:Program}{w:World}{A:Around}{E:Value->Shared->Prop}{s:Shared}{a₀:Array Keyed}{kd:SortKind}
structure SB(a₀:Array Keyed)(kd:SortKind)(st:SortSt):Prop where
 perm:(arrOf st).Perm a₀
 kind:kindOf st=kd
 failed:failedOf st=none
theorem SB.size{st:SortSt}(h:SB a₀ kd st):(arrOf st).size=a₀.size:=h.perm.size_eq
theorem SB.setArr{st:SortSt}(h:SB a₀ kd st){xs:Array Keyed}(hp:xs.Perm (arrOf st)):SB a₀ kd (setArr st xs):=⟨hp.trans h.perm,h.kind,h.failed⟩
theorem SB.mem{st:SortSt}(h:SB a₀ kd st){i:Nat}(hi:i<(arrOf st).size):(arrOf st)[i]∈a₀:=h.perm.mem_iff.mp (Array.getElem_mem hi)
theorem zDZ{st:SortSt}{arr:Array Keyed}{i:Nat}{Q:Keyed->SortSt->Prop}(hi:i<arr.size)(h:Q arr[i] st):wpS (model prog w) A E s (elem' arr i) Q st:=by
 rw[elem'_eq,getElem?_pos arr i hi]
 exact wpS_pure h
theorem zAQ{α:Type}{c:Prop}[Decidable c]{x y:StateT SortSt Sem α}{Q:α->SortSt->Prop}{st:SortSt}(h1:c->wpS (model prog w) A E s x Q st)(h2:¬c->wpS (model prog w) A E s y Q st) :
  wpS (model prog w) A E s (if c then x else y) Q st:=by
 by_cases h:c
 ·rw[if_pos h];exact h1 h
 ·rw[if_neg h];exact h2 h
end
section
variable{prog:Program}{w:World}{A:Around}{E:Value->Shared->Prop}{s:Shared}{a₀:Array Keyed}{kd:SortKind}
theorem zG7{st:SortSt}{i j:Nat}{Q:PUnit->SortSt->Prop}(h:Q ⟨⟩ (setArr st (mirror (arrOf st) i j ((j-i) / 2)))):wpS (model prog w) A E s (reverseSlice' i j) Q st:=by
 rw[reverseSlice'_eq]
 exact wpS_modify h
def Kp(a₀:Array Keyed)(kd:SortKind)(st st':SortSt):Prop:=SB a₀ kd st'/\pendingOf st'=pendingOf st
theorem Kp.rev{st st':SortSt}{i j d:Nat}(h:Kp a₀ kd st st'):Kp a₀ kd st (setArr st' (mirror (arrOf st') i j d)):=⟨h.1.setArr (mirror_perm _ _ _ _),h.2⟩
end
noncomputable def zFI:Bool->Keyed->Array Keyed->Nat->Nat->Nat->StateT SortSt Sem (Option Nat):=sortPriv% PySem.Builtin.gallop
section
variable{prog:Program}{w:World}{A:Around}{E:Value->Shared->Prop}{s:Shared}{a₀:Array Keyed}{kd:SortKind}
end
noncomputable def zDH:Nat->StateT SortSt Sem Unit:=sortPriv% PySem.Builtin.setMinGallop
noncomputable abbrev zIO(st:SortSt)(g:Nat):SortSt:=SortSt.mk' (kindOf st) (arrOf st) (pendingOf st) g (failedOf st)
theorem zE7(g:Nat):zDH g=modify λs=>zIO s g:=rfl
noncomputable def zQC:Array Keyed->Array Keyed->StateT SortSt Sem (Array Keyed):=sortPriv% PySem.Builtin.mergeLo
noncomputable def zQD:Array Keyed->Array Keyed->StateT SortSt Sem (Array Keyed):=sortPriv% PySem.Builtin.mergeHi
structure Mid(a b out:Array Keyed)(ia ib:Nat):Prop where
 perm:(out.toList++a.toList.drop ia++b.toList.drop ib).Perm (a.toList++b.toList)
 la:ia<=a.size
 lb:ib<=b.size
 sz:out.size=ia+ib
theorem Mid.pushB{a b out:Array Keyed}{ia ib:Nat}(m:Mid a b out ia ib)(h:ib<b.size):Mid a b (out.push b[ib]) ia (ib+1):=by
 refine⟨?_,m.la,h,by rw[Array.size_push,m.sz];lia⟩
 have e:b.toList.drop ib=b[ib]::b.toList.drop (ib+1):=by
  rw[List.drop_eq_getElem_cons (by simpa using h)];simp
 have p:=m.perm
 rw[e] at p
 refine List.Perm.trans ?_ p
 rw[Array.toList_push]
 simp only[List.append_assoc,List.singleton_append]
 exact List.Perm.append_left _ (List.perm_middle.symm)
theorem Mid.pushA{a b out:Array Keyed}{ia ib:Nat}(m:Mid a b out ia ib)(h:ia<a.size):Mid a b (out.push a[ia]) (ia+1) ib:=by
 refine⟨?_,h,m.lb,by rw[Array.size_push,m.sz];lia⟩
 have e:a.toList.drop ia=a[ia]::a.toList.drop (ia+1):=by
  rw[List.drop_eq_getElem_cons (by simpa using h)];simp
 have p:=m.perm
 rw[e] at p
 refine List.Perm.trans ?_ p
 rw[Array.toList_push]
 simp only[List.append_assoc,List.singleton_append,List.cons_append]
 exact List.Perm.refl _
theorem zNV(a:Array Keyed)(i:Nat):(a.extract i a.size).toList=a.toList.drop i:=by
 rw[Array.toList_extract]
 exact List.take_of_length_le (by simp)
theorem Mid.done{a b out:Array Keyed}{ia ib:Nat}(m:Mid a b out ia ib):(out++a.extract ia a.size++b.extract ib b.size).Perm (a++b):=by
 rw[Array.perm_iff_toList_perm]
 simp only[Array.toList_append,zNV]
 exact m.perm
theorem Mid.lastA{a b out:Array Keyed}{ia ib:Nat}(m:Mid a b out ia ib):(out++b.extract ib b.size++a.extract ia a.size).Perm (a++b):=by
 rw[Array.perm_iff_toList_perm]
 simp only[Array.toList_append,zNV]
 refine List.Perm.trans ?_ m.perm
 simp only[List.append_assoc]
 exact List.Perm.append_left _ List.perm_append_comm
section
variable{prog:Program}{w:World}{A:Around}{E:Value->Shared->Prop}{s:Shared}{a₀:Array Keyed}{kd:SortKind}
def Gal(st st':SortSt):Prop:=∃g,st'=zIO st g
theorem Gal.refl(st:SortSt):Gal st st:=⟨gallopOf st,rfl⟩
theorem Gal.set{st st':SortSt}(h:Gal st st')(g:Nat):Gal st (zIO st' g):=by
 obtain⟨g',rfl⟩:=h;exact⟨g,rfl⟩
theorem Gal.kind{st st':SortSt}(h:Gal st st')(hk:kindOf st=kd):kindOf st'=kd:=by
 obtain⟨g',rfl⟩:=h;exact hk
theorem zTD{st:SortSt}{g:Nat}{Q:Unit->SortSt->Prop}(h:Q () (zIO st g)):wpS (model prog w) A E s (zDH g) Q st:=by
 rw[zE7];exact wpS_modify h
end
structure MidH(a b out:Array Keyed)(na nb:Nat):Prop where
 perm:(a.toList.take na++b.toList.take nb++out.toList.reverse).Perm (a.toList++b.toList)
 la:na<=a.size
 lb:nb<=b.size
 sz:out.size+na+nb=a.size+b.size
theorem zIP(a:Array Keyed)(n:Nat)(h:n-1<a.size)(h0:1<=n):a.toList.take n=a.toList.take (n-1)++[a[n-1]]:=by
 obtain⟨m,rfl⟩:∃m,n=m+1:=⟨n-1,by lia⟩
 have h':m<a.toList.length:=by simpa using h
 simp only[Nat.add_sub_cancel]
 rw[List.take_succ_eq_append_getElem h']
 simp
theorem MidH.pushA{a b out:Array Keyed}{na nb:Nat}(m:MidH a b out na nb)(h0:1<=na)(h:na-1<a.size):MidH a b (out.push a[na-1]) (na-1) nb:=by
 refine⟨?_,by lia,m.lb,by rw[Array.size_push];have:=m.sz;lia⟩
 have p:=m.perm
 rw[zIP a na h h0] at p
 refine List.Perm.trans ?_ p
 rw[Array.toList_push,List.reverse_append]
 simp only[List.append_assoc,List.singleton_append,List.reverse_cons,List.reverse_nil,List.nil_append,List.cons_append]
 exact List.Perm.append_left _ List.perm_middle
theorem MidH.pushB{a b out:Array Keyed}{na nb:Nat}(m:MidH a b out na nb)(h0:1<=nb)(h:nb-1<b.size):MidH a b (out.push b[nb-1]) na (nb-1):=by
 refine⟨?_,m.la,by lia,by rw[Array.size_push];have:=m.sz;lia⟩
 have p:=m.perm
 rw[zIP b nb h h0] at p
 rw[Array.toList_push,List.reverse_append]
 simpa only[List.append_assoc,List.singleton_append,List.reverse_cons,List.reverse_nil,List.nil_append,List.cons_append] using p
theorem zJ1(a:Array Keyed)(i n:Nat)(h:i<=n):a.toList.take i++(a.extract i n).toList=a.toList.take n:=by
 rw[Array.toList_extract]
 show a.toList.take i++(a.toList.drop i).take (n-i)=_
 conv=>rhs;rw[show n=i+(n-i) by lia]
 rw[List.take_add]
theorem zK4(a:Array Keyed)(i:Nat):(a.extract 0 i).toList=a.toList.take i:=by
 have:=zJ1 a 0 i (Nat.zero_le _)
 simpa using this
theorem MidH.done{a b out:Array Keyed}{na nb:Nat}(m:MidH a b out na nb):(a.extract 0 na++b.extract 0 nb++out.reverse).Perm (a++b):=by
 rw[Array.perm_iff_toList_perm]
 simp only[Array.toList_append,zK4,Array.toList_reverse]
 exact m.perm
theorem MidH.firstB{a b out:Array Keyed}{na nb:Nat}(m:MidH a b out na nb):(b.extract 0 nb++a.extract 0 na++out.reverse).Perm (a++b):=by
 rw[Array.perm_iff_toList_perm]
 simp only[Array.toList_append,zK4,Array.toList_reverse]
 refine List.Perm.trans ?_ m.perm
 exact List.Perm.append_right _ List.perm_append_comm
section
variable{prog:Program}{w:World}{A:Around}{E:Value->Shared->Prop}{s:Shared}{a₀:Array Keyed}{kd:SortKind}
end
theorem zNW(c:List Keyed):∀(a:Array Keyed) (sa k:Nat),sa+k+c.length<=a.size ->
  ((c.zipIdx k).foldl (λa (p:Keyed×Nat)=>a.setIfInBounds (sa+p.2) p.1) a).toList=a.toList.take (sa+k)++c++a.toList.drop (sa+k+c.length):=by
 induction c with
 |nil=>intro a sa k h;simp
 |cons x r ih =>
  intro a sa k h
  rw[List.zipIdx_cons,List.foldl_cons]
  have hl:(x::r).length=r.length+1:=rfl
  rw[ih (a.setIfInBounds (sa+k) x) sa (k+1) (by rw[Array.size_setIfInBounds];lia)]
  have hlt:sa+k<a.toList.length:=by simp;lia
  rw[Array.toList_setIfInBounds]
  rw[show sa+(k+1)=(sa+k)+1 by lia]
  rw[List.take_succ_eq_append_getElem (by simpa using hlt),List.take_set_of_le (Nat.le_refl _),List.getElem_set_self,List.drop_set_of_lt (by lia)]
  rw[show sa+k+1+r.length=sa+k+(x::r).length by rw[hl];lia]
  simp
theorem zNX{a c:Array Keyed}{sa sb nb:Nat}(h1:sa<=sb)(h2:sb+nb<=a.size)(hp:c.Perm (a.extract sa sb++a.extract sb (sb+nb))) :
  (c.toList.zipIdx.foldl (λa (p:Keyed×Nat)=>a.setIfInBounds (sa+p.2) p.1) a).Perm a:=by
 have hl:c.toList.length=(sb-sa)+nb:=by
  have:=hp.size_eq
  rw[Array.size_append,Array.size_extract,Array.size_extract] at this
  simp
  lia
 rw[Array.perm_iff_toList_perm,zNW c.toList a sa 0 (by lia)]
 have hp':=Array.perm_iff_toList_perm.mp hp
 rw[Array.toList_append] at hp'
 have e1:=zJ1 a sa sb h1
 have e2:=zJ1 a sb (sb+nb) (by lia)
 have e3:=List.take_append_drop (sb+nb) a.toList
 have q:(a.toList.take (sa+0)++c.toList++a.toList.drop (sa+0+c.toList.length)).Perm (a.toList.take sa++((a.extract sa sb).toList++(a.extract sb (sb+nb)).toList)++a.toList.drop (sb+nb)):=by
  rw[show sa+0=sa by lia,show sa+c.toList.length=sb+nb by lia]
  exact List.Perm.append_right _ (List.Perm.append_left _ hp')
 refine q.trans ?_
 rw[<-List.append_assoc,e1,e2,e3]
section
variable{prog:Program}{w:World}{A:Around}{E:Value->Shared->Prop}{s:Shared}{a₀:Array Keyed}{kd:SortKind}
theorem zTE{st st2:SortSt}{Q:PUnit->SortSt->Prop}(h:Q ⟨⟩ st2):wpS (model prog w) A E s (set st2:StateT SortSt Sem PUnit) Q st:=by
 unfold wpS;rw[StateT.run_set];exact wpAny_pure ⟨rfl,h⟩
end
abbrev Run:=Nat×Nat×Nat
section
variable{prog:Program}{w:World}{A:Around}{E:Value->Shared->Prop}{s:Shared}{a₀:Array Keyed}{kd:SortKind}
theorem zWJ{c:Prop}[Decidable c]{a b n:Nat}(h1:a<=n)(h2:b<=n):(if c then a else b)<=n:=by
 split
 ·exact h1
 ·exact h2
end
end TS
namespace L2
open PySem PySem.Spec PyProof.Rows
def PTs(X:Cx)(ifs:List Expr)(t:TT):Prop :=
 ∀(pins:List (Addr×Obj)) (s:Shared) (σ:St) (H:Hp) (Q:Bool->Hp->Prop),Inv X pins σ H s->t σ H Q ->
  wpAny (model X.prog X.w) X.A (forIn ifs true λc r=>if r=true then do let ok <-isTrue c X.env (eval c X.env);pure (ForInStep.yield ok) else pure (ForInStep.yield r)) (TP X pins σ Q) X.xe s
def yAY:TT:=λ_ H Q=>Q true H
theorem pts_nil{X:Cx}:PTs X [] yAY:=λ_ _ _ H _ I h=>wpAny_tests_nil ⟨H,I,h⟩
theorem zTF{X:Cx}{c:Expr}{t:TT}(h:PT X c t):PTs X [c] t:=λpins s σ H Q I hw=>wpAny_tests_one (h pins s σ H Q I hw)
noncomputable def zBC(X:Cx)(scope:Scope)(cl:List (Str×Addr))(nm:List Str)(C:Addr)(s:Shared)(H:Hp)(fp:List Addr):Cx where
 prog:=X.prog
 w:=X.w
 K:=X.K
 mg:=X.mg
 base:=X.base
 A:=X.A
 N:=nm
 s₀:=s
 H₀:=H
 env:=compEnvC scope cl C X.env
 outer:=X.stack
 stack:=X.stack
 ex:=fp
 fn:=λ_=>false
 calm:=X.calm
 pn:=[]
 xe:=λ_ _=>False
noncomputable def zDQ(k:Nat)(js:List Nat)(σ:St):St:=List.replicate k none++js.map λj=>(σ[j]?).getD none
structure CompNm(X:Cx)(scope:Scope)(cl:List (Str×Addr))(own caps:List Str)(js:List Nat):Prop where
 clos:closureFor scope X.env=pure cl
 kind:scope.kind=.function
 nocell:∀y∈scope.names,y.2≠.cell
 loc:∀y∈scope.names,y.2=.local->scope.names.lookup y.1=some .local
 dom:∀y∈scope.names,y.2=.free->y.1∈caps
 nm:cl.map (·.1)=caps
 cells:∀p∈cl,X.env.cells.lookup p.1=some p.2
 slot:caps.map some=js.map λj=>X.N[j]?
 vis:∀x∈caps,X.env.kindOf x=some .cell\/X.env.kindOf x=some .free
 fr:∀x∈caps,(relabel scope X.env).names.lookup x=some .cell\/(relabel scope X.env).names.lookup x=some .free
 no:∀x∈own,x∉caps
 dis:∀x∈own,scope.names.lookup x=some .local
theorem zGH{α β:Type}[BEq α][LawfulBEq α]:∀{l:List (α×β)} {x:α} {c:β},l.lookup x=some c->(x,c)∈l
 |[],_,_,h=>by simp at h
 |(a,b)::r,x,c,h=>by
  rw[List.lookup_cons] at h
  cases e:x==a with
  |true=>rw[e] at h;cases h;have:=eq_of_beq e;subst this;exact List.mem_cons_self
  |false=>rw[e] at h;exact List.mem_cons_of_mem _ (zGH h)
theorem zD4{α β:Type}[BEq α][LawfulBEq α]:∀{l:List (α×β)} {x:α},x∈l.map (·.1)->∃c,l.lookup x=some c
 |[],_,h=>by simp at h
 |(a,b)::r,x,h=>by
  rw[List.lookup_cons]
  cases e:x==a with
  |true=>exact⟨b,rfl⟩
  |false =>
   refine zD4 ?_
   rcases List.mem_cons.mp h with q|q
   ·have q:x=a:=q
    subst q;simp at e
   ·exact q
theorem zCV{env:Env}:∀{names:List (Str×NameKind)} {x:Str} {k:NameKind},(names.map λ(n,k)=>if(k==NameKind.free&&env.scope.kind==.function&&env.kindOf n==some .cell) then(n,NameKind.cell) else(n,k)).lookup x=some k ->
  (k=.cell\/k=.free)->∃k',(x,k')∈names/\(k'=.cell\/k'=.free)
 |[],_,_,h,_=>by simp at h
 |(n,k0)::r,x,k,h,hk=>by
  rw[List.map_cons,List.lookup_cons] at h
  by_cases hc:(k0==NameKind.free&&env.scope.kind==.function&&env.kindOf n==some .cell)=true
  ·simp only[hc,if_true] at h
   cases e:x==n with
   |true =>
    have:=eq_of_beq e;subst this
    have hf:k0=.free:=by
     have:=(Bool.and_eq_true_iff.mp (Bool.and_eq_true_iff.mp hc).1).1
     exact eq_of_beq this
    exact⟨k0,List.mem_cons_self,.inr hf⟩
   |false =>
    rw[e] at h
    obtain⟨k',h1,h2⟩:=zCV h hk
    exact⟨k',List.mem_cons_of_mem _ h1,h2⟩
  ·simp only[hc,if_false,Bool.false_eq_true] at h
   cases e:x==n with
   |true =>
    rw[e] at h
    have:=eq_of_beq e;subst this
    cases h
    exact⟨k0,List.mem_cons_self,hk⟩
   |false =>
    rw[e] at h
    obtain⟨k',h1,h2⟩:=zCV h hk
    exact⟨k',List.mem_cons_of_mem _ h1,h2⟩
section
variable{X:Cx}{scope:Scope}{cl:List (Str×Addr)}{own caps:List Str}{js:List Nat}
theorem CompNm.cl_of(n:CompNm X scope cl own caps js){x:Str}{c:Addr}(h:cl.lookup x=some c):X.env.cells.lookup x=some c:=n.cells _ (zGH h)
theorem CompNm.has(n:CompNm X scope cl own caps js){x:Str}(h:x∈caps):∃c,cl.lookup x=some c:=zD4 (by rw[n.nm];exact h)
theorem Inv.stk_of{pins:List (Addr×Obj)}{σ:St}{H:Hp}{s:Shared}{b:Addr}(I:Inv X pins σ H s)(hf:FpOk X pins H b):b∉frs X.stack:=λz=>by
 rcases List.mem_cons.mp (I.stkSub b z) with e|e
 ·exact hf.2.1 e
 ·exact hf.2.2.1 e
theorem zME{pins:List (Addr×Obj)}{σ:St}{H:Hp}{s:Shared}{fp:List Addr}{h₁:Heap}{m:Str->Option Value}{tk:Nat}{own':List Str}(n:CompNm X scope cl own caps js)(I:Inv X pins σ H s)(hf:∀b∈fp,FpOk X pins H b)
  (hlt:∀b∈fp,b<s.heap.objs.size) (hns:h₁.Ns s.heap.objs.size m) (old:∀b o,s.heap.get? b=some o->h₁.get? b=some o) :
  Inv (zBC X scope cl (own++caps) s.heap.objs.size s H fp) [] (zDQ own.length js σ) H { s with heap:=h₁,toks:=tk }:=by
 have hl:js.length=caps.length:=by
  have:=congrArg List.length n.slot
  simpa using this.symm
 refine⟨⟨I.tab,I.ok.mod,n.kind,I.ok.glob,I.ok.blt,Nat.le_refl _,λx y c h1 h2=>I.ok.inj x y c (n.cl_of h1) (n.cl_of h2),λx hx=>?_,(λx c h=>nomatch h),I.ok.hd,I.ok.frames,.inl rfl,λb hb=>⟨Nat.ne_of_lt (hlt b hb),λx c e=>(hf b hb).2.2.2.2.1 x c (n.cl_of e)⟩,
   I.bs,Nat.le_trans I.ok.bsz I.sz,λb o e hb=>?_,λb hb=>I.stk_of (hf b hb),I.stack,I.stkFree⟩,
  rfl,I.bare,Un.kept old,⟨m,hns,λi x v e1 e2 e3=>?_⟩,λx c e=>?_,I.hok.fresh (Nat.le_refl _),λx c e=>I.freeC x c (n.cl_of e),(λp hp=>nomatch hp),I.hok.kept old,?_⟩
 ·have hx:(relabel scope X.env).names.lookup x=some .cell\/(relabel scope X.env).names.lookup x=some .free:=hx
  have key:∃k',(x,k')∈scope.names/\(k'=.cell\/k'=.free):=by
   rcases hx with h|h
   ·exact zCV h (.inl rfl)
   ·exact zCV h (.inr rfl)
  obtain⟨k',h1,h2⟩:=key
  rcases h2 with h2|h2
  ·exact absurd h2 (n.nocell _ h1)
  ·exact n.has (n.dom _ h1 h2)
 ·obtain⟨_,_,_,h4,_⟩:=hf b hb
  rcases h4 with h4|h4
  ·exact I.ok.noex b o e h4
  ·exact absurd (Nat.lt_of_lt_of_le (Heap.lt_size e) I.ok.bsz) (Nat.not_lt.mpr h4)
 ·-- a captured name
  have hi:own.length<=i:=by
   rcases Nat.lt_or_ge i own.length with h|h
   ·unfold zDQ at e2
    rw[List.getElem?_append_left (by simpa using h),List.getElem?_replicate,if_pos h] at e2
    cases e2
   ·exact h
  have e1:(own++caps)[i]?=some x:=e1
  rw[List.getElem?_append_right hi] at e1
  unfold zDQ at e2
  rw[List.getElem?_append_right (by simpa using hi),List.length_replicate,List.getElem?_map] at e2
  cases ej:js[i-own.length]? with
  |none=>rw[ej] at e2;cases e2
  |some j =>
   rw[ej] at e2
   have e2:some ((σ[j]?).getD none)=some (some v):=e2
   have hj:X.N[j]?=some x:=by
    have q:=congrArg (λl=>l[i-own.length]?) n.slot
    simp only[List.getElem?_map,e1,ej,Option.map_some] at q
    exact(Option.some.inj q).symm
   have hv:σ[j]?=some (some v):=by
    cases es:σ[j]? with
    |none=>rw[es] at e2;cases e2
    |some o=>rw[es] at e2;exact e2
   have hxc:x∈caps:=List.mem_of_getElem? e1
   obtain⟨m0,hn0,hl0⟩:=I.loc
   have vis:Vis X.env.scope x:=by
    rcases n.vis x hxc with k|k
    ·exact .inr (.inl k)
    ·exact .inr (.inr k)
   obtain⟨u,r,lk⟩:=hl0 j x v hj hv vis
   refine⟨u,r,.inr ⟨n.fr x hxc,?_⟩⟩
   obtain⟨c,hc⟩:=n.has hxc
   refine⟨c,hc,?_⟩
   rcases lk with⟨k,_⟩|⟨_,c',hc',z⟩
   ·rcases n.vis x hxc with k'|k'
    ·rw[k] at k';cases k'
    ·rw[k] at k';cases k'
   ·rw[n.cl_of hc] at hc'
    cases hc'
    obtain⟨o,ho,hd⟩:=z
    exact⟨o,old _ _ ho,hd⟩
 ·obtain⟨v,o,ho,hd⟩:=I.cell x c (n.cl_of e)
  exact⟨v,o,old _ _ ho,hd⟩
 ·show(zDQ own.length js σ).length=(own++caps).length
  unfold zDQ
  rw[List.length_append,List.length_append,List.length_replicate,List.length_map,hl]
end
abbrev TM:=St->Hp->(St->Hp->Prop)->Prop
def PM(X:Cx)(m:Sem Unit)(t:TM):Prop :=
 ∀(pins:List (Addr×Obj)) (s:Shared) (σ:St) (H:Hp) (N:St->Hp->Prop),Inv X pins σ H s->t σ H N->wpAny (model X.prog X.w) X.A m (λ_ s'=>∃σ' H',Inv X pins σ' H' s'/\N σ' H') (λ_ _=>False) s
def tWalkC(J:It)(g:TG)(tt:TT)(tm:TM):TM:=λσ H N=>∃W:Nat->Nat->St->Hp->Prop,(∃m,W 0 m σ H)/\∀i m σ H,W i m σ H ->
 (J.stop i H/\N σ H)\/(J.go i H/\∀x H',J.yld i H x H'->g x σ H' λσ2 H2=>tt σ2 H2 λb H3 =>
  if b=true then tm σ2 H3 (λσ4 H4=>∃m',m'<m/\W (i+1) m' σ4 H4) else ∃m',m'<m/\W (i+1) m' σ2 H3)
theorem zR5{Y:Cx}{e:Expr}{d:Nat}{it:Addr}{acc:Value}{tg:Expr}{ifs:List Expr}{pp:Pos}{m:Sem Unit}{g:TG}{tt:TT}{tm:TM}{J:It}{fp:List Addr}{tn:Nat->Heap->Prop}{N:St->Hp->Prop}{R:Result->Shared->Prop}
  (hund:Y.A.under (.compLoop e d (.ref it) acc Y.env)=Y.A) (hden:(model Y.prog Y.w).den (.compLoop e d (.ref it) acc Y.env)=(compTurn e d (.ref it) acc Y.env).onRaise (λx=>do noteFrame x Y.env;theTreesLotGoes x))
  (hturn:compTurn e d (.ref it) acc Y.env=(do
   standAt pp
   match <-pyNext (.ref it) with
   |none=>pure (.done .next)
   |some v =>
    letOwnedTupleGo tg (.ref it) v
    assign tg Y.env v
    let mut ok:=true
    for c in ifs do
     if ok then ok <-isTrue c Y.env (eval c Y.env)
    if ok then m
    again (.compLoop e d (.ref it) acc Y.env)))
  (hx:Y.xe=λ_ _=>False) (hc:Y.calm=true) (hg:PG Y tg g) (ht:PTs Y ifs tt) (hm:PM Y m tm) (T:Turn Y.prog Y.w Y.K tg J fp it tn)
  {pins:List (Addr×Obj)} {σ:St} {H:Hp} {s:Shared} (I:Inv Y pins σ H s) (st:tn 0 s.heap) (f:∀b∈fp,FpOk Y pins H b) (h:tWalkC J g tt tm σ H N)
  (hR:∀σ' H' s',Inv Y pins σ' H' s'->N σ' H'->R (.ok .next) s') :
  codeAny (model Y.prog Y.w) Y.A (.compLoop e d (.ref it) acc Y.env) R s:=by
 obtain⟨W,⟨m0,w0⟩,turn⟩:=h
 have stat:∀{H':Hp},(∀b∈fp,H' b=none)->∀b∈fp,FpOk Y pins H' b:=λhn b hb=>⟨hn b hb,(f b hb).2⟩
 have hxe:∀{α:Type} {t:Sem α} {Q:α->Shared->Prop} {s:Shared} {E:Value->Shared->Prop},wpAny (model Y.prog Y.w) Y.A t Q Y.xe s->wpAny (model Y.prog Y.w) Y.A t Q E s:=λh=>wpAny_mono h (λ_ _ q=>q) λ_ _ z=>by rw[hx] at z;exact z.elim
 refine codeAny_loop rfl (λk s'=>∃i σ' H',Inv Y pins σ' H' s'/\tn i s'.heap/\(∀b∈fp,H' b=none)/\W i k σ' H') (λn s3 hI=>?_) m0 ⟨0,σ,H,I,st,λb hb=>(f b hb).1,w0⟩
 obtain⟨i,σ3,H3,I3,st3,fr3,w3⟩:=hI
 rw[hund,hden]
 refine wpAny_noted ?_
 rw[hturn]
 refine wpAny_bind (wpAny_standAt (wpAny_bind ?_))
 rcases turn i n σ3 H3 w3 with⟨stop,qn⟩|⟨go,step⟩
 ·refine thn (T.done Y rfl rfl rfl hc i pins s3 σ3 H3 _ I3 (stat fr3) st3 stop) λr s4 ⟨hr,I4⟩=>?_
  subst hr
  exact wpAny_pure (hR _ _ _ I4 qn)
 ·refine thn (T.item Y rfl rfl rfl hc i pins s3 σ3 H3 _ I3 (stat fr3) st3 go) λr s4 ⟨u,hr,h4⟩=>?_
  subst hr
  refine wpAny_bind (thn h4 λ_ s5 ⟨x,H5,I5,r5,y5,st5,fr5⟩=>?_)
  have I5':=I5.pinned (stat fr5) (T.obj _ _ st5)
  refine wpAny_bind (thn (hxe (hg _ s5 σ3 H5 x u _ I5' r5 (step x H5 y5))) λ_ s6 ⟨σ6,H6,I6,q6⟩=>?_)
  have again:∀{σ7:St} {H7:Hp} {s7:Shared},Inv Y (pins++zID fp s5.heap) σ7 H7 s7->(∃m',m'<n/\W (i+1) m' σ7 H7)->∃m,m<n/\∃i σ' H',Inv Y pins σ' H' s7/\tn i s7.heap/\(∀b∈fp,H' b=none)/\W i m σ' H':=λ{σ7 H7 s7} I7 ⟨m',hm,w7⟩=>by
   refine⟨m',hm,i+1,σ7,H7,I7.unpinned,T.keep _ _ _ st5 λb hb o e=>(I7.pin (b,o) (List.mem_append_right _ (List.mem_append_right _ (zDY hb e)))).1,λb hb=>?_,w7⟩
   obtain⟨o,e,d⟩:=T.obj _ _ st5 b hb
   exact(I7.pin (b,o) (List.mem_append_right _ (List.mem_append_right _ (zDY hb e)))).2.1
  refine wpAny_bind (thn (hxe (ht _ s6 σ6 H6 _ I6 q6)) λb s7 ⟨H7,I7,q7⟩=>?_)
  cases b with
  |false=>exact wpAny_pure ⟨rfl,again I7 q7⟩
  |true =>
   exact wpAny_bind (wpAny_mono (hm _ s7 σ6 H7 _ I7 q7) (λ_ s8 ⟨σ8,H8,I8,q8⟩=>wpAny_pure ⟨rfl,again I8 q8⟩) λ_ _ z=>z.elim)
section
variable{X:Cx}{scope:Scope}{cl:List (Str×Addr)}{own caps:List Str}{js:List Nat}
def zIQ(wi:TI)(k:Nat)(js:List Nat)(o:HO)(g:Hp->TG)(tt:Hp->TT)(tm:Hp->Addr->TM):TE:=λσ H Q=>wi σ H λJ H1=>∀acc,H1 acc=none ->
 tWalkC J (g (upd H1 acc o)) (tt (upd H1 acc o)) (tm (upd H1 acc o) acc) (zDQ k js σ) (upd H1 acc o) λ_ H'=>Q (.ref acc) H'
theorem zES{pins:List (Addr×Obj)}{σ:St}{H1:Hp}{s2:Shared}{E:Value->Shared->Prop}{e tg:Expr}{ifs:List Expr}{pp:Pos}{newAcc:Sem Value}{obj:Obj}{o:HO}{m:Addr->Env->Sem Unit}{g:Hp->TG}{tt:Hp->TT}{tm:Hp->Addr->TM}{J:It}{fp:List Addr}{it:Addr}{tn:Nat->Heap->Prop}{Q:VK}
  {RR:Value->Addr->Result->Shared->Prop}
  (hnew:∀{Q:Value->Shared->Prop} {s:Shared},Q (.ref s.heap.objs.size) { s with heap:=s.heap.push obj }->wpAny (model X.prog X.w) X.A newAcc Q E s)
  (hobj:ObjOk X.prog X.w (upd H1 s2.heap.objs.size o) (s2.heap.push obj) s2.heap.objs.size o)
  (hund:∀acc env,X.A.under (.compLoop e 0 (.ref it) acc env)=X.A) (hden:∀acc env,(model X.prog X.w).den (.compLoop e 0 (.ref it) acc env)=(compTurn e 0 (.ref it) acc env).onRaise (λx=>do noteFrame x env;theTreesLotGoes x))
  (hturn:∀acc env,compTurn e 0 (.ref it) (.ref acc) env=(do
   standAt pp
   match <-pyNext (.ref it) with
   |none=>pure (.done .next)
   |some v =>
    letOwnedTupleGo tg (.ref it) v
    assign tg env v
    let mut ok:=true
    for c in ifs do
     if ok then ok <-isTrue c env (eval c env)
    if ok then m acc env
    again (.compLoop e 0 (.ref it) (.ref acc) env)))
  (hstart:∀{acc:Value} {env:Env} {R:Result->Shared->Prop} {s:Shared},codeAny (model X.prog X.w) X.A (.compLoop e 0 (.ref it) acc env) R s->wpAny (model X.prog X.w) X.A (pyIter (.ref it)) (λit' s'=>codeAny (model X.prog X.w) X.A (.compLoop e 0 it' acc env) R s')
   (notedBy (model X.prog X.w) X.A env λx s'=>R (.error x) s') s->codeAny (model X.prog X.w) X.A (.compStart e 0 (.ref it) acc env) R s)
  (n:CompNm X scope cl own caps js) (hc:X.calm=true) (hg:∀C s H fp,PG (zBC X scope cl (own++caps) C s H fp) tg (g H)) (ht:∀C s H fp,PTs (zBC X scope cl (own++caps) C s H fp) ifs (tt H))
  (hm:∀C s H fp acc,PM (zBC X scope cl (own++caps) C s H fp) (m acc (compEnvC scope cl C X.env)) (tm H acc))
  (I2:Inv X pins σ H1 s2) (T:Turn X.prog X.w X.K tg J fp it tn) (st2:tn 0 s2.heap) (f2:∀b∈fp,FpOk X pins H1 b)
  (hW:∀acc,H1 acc=none->tWalkC J (g (upd H1 acc o)) (tt (upd H1 acc o)) (tm (upd H1 acc o) acc) (zDQ own.length js σ) (upd H1 acc o) λ_ H'=>Q (.ref acc) H')
  (hRR:∀acc C H' s' m,Inv X pins σ H' s'->H' C=none->C≠X.env.locals->X.s₀.heap.objs.size<=C->(∀x c,X.env.cells.lookup x=some c->c≠C)->(∀p∈X.pn++pins,p.1≠C)->s'.heap.Ns C m->Q (.ref acc) H'->RR (.ref acc) C (.ok .next) s') :
  wpAny (model X.prog X.w) X.A newAcc (λacc s₃=>wpAny (model X.prog X.w) X.A (newFunctionEnv scope X.env.globals cl [] X.env.qual none .none (some X.env)) (λcenv s₄ =>
   codeAny (model X.prog X.w) X.A (.compStart e 0 (.ref it) acc { cenv with scope:=relabel scope X.env }) (RR acc cenv.locals) s₄) E s₃) E s2:=by
 refine hnew (wpAny_newFunctionEnv n.nocell (by intro y hy;simp at hy) (λh₁ hns₁ hsb₁=>?_) n.kind)
 dsimp only at hns₁ hsb₁ ⊢
 have hnewA:H1 s2.heap.objs.size=none:=I2.hok.fresh (Nat.le_refl _)
 have I3:Inv X pins σ (upd H1 s2.heap.objs.size o) { s2 with heap:=s2.heap.push obj } :=
  I2.laid (t':=s2.toks) (λb u e=>Heap.get?_push_of_some _ e) (Nat.le_refl _) hobj
 have hWa:=hW s2.heap.objs.size hnewA
 generalize hs3:({ s2 with heap:=s2.heap.push obj }:Shared)=s3 at I3
 have hh3:s2.heap.push obj=s3.heap:=by rw[<-hs3]
 have old2:∀b o,s2.heap.get? b=some o->s3.heap.get? b=some o:=λb o e=>by rw[<-hh3];exact Heap.get?_push_of_some _ e
 rw[hh3] at hns₁ hsb₁ ⊢
 have hlt2:∀b∈fp,b<s2.heap.objs.size:=λb hb=>by obtain⟨o,ho,_⟩:=T.obj _ _ st2 b hb;exact Heap.lt_size ho
 have hsz:s3.heap.objs.size=s2.heap.objs.size+1:=by rw[<-hh3,Heap.size_push]
 have f3:∀b∈fp,FpOk X pins (upd H1 s2.heap.objs.size o) b:=λb hb=>by
  obtain⟨q,r⟩:=f2 b hb
  exact⟨by rw[zAL (Nat.ne_of_lt (hlt2 b hb))];exact q,r⟩
 have old3:∀b o,s3.heap.get? b=some o->h₁.get? b=some o:=λb o e=>hsb₁.extBut b o (Nat.ne_of_lt (Heap.lt_size e)) (Heap.get?_push_of_some _ e)
 have e4:({ s2 with heap:=h₁,toks:=s2.toks+([]:List (Str×Value)).length }:Shared)={ s3 with heap:=h₁,toks:=s2.toks+([]:List (Str×Value)).length }:=by rw[<-hs3]
 have IY:=zME (own':=[]) (tk:=s2.toks+([]:List (Str×Value)).length) n I3 f3 (λb hb=>by rw[hsz];exact Nat.lt_succ_of_lt (hlt2 b hb)) hns₁ old3
 have stY:tn 0 h₁:=T.keep _ _ _ st2 λb hb o e=>old3 b o (old2 b o e)
 have stat:∀b∈fp,FpOk (zBC X scope cl (own++caps) s3.heap.objs.size s3 (upd H1 s2.heap.objs.size o) fp) [] (upd H1 s2.heap.objs.size o) b:=λb hb =>
   ⟨(f3 b hb).1,Nat.ne_of_lt (by show b<s3.heap.objs.size;rw[hsz];exact Nat.lt_succ_of_lt (hlt2 b hb)),I3.stk_of (f3 b hb),.inl hb,λx c e=>(f3 b hb).2.2.2.2.1 x c (n.cl_of e),(λp hp=>nomatch hp)⟩
 have loop:∀s4:Shared,s4={ s3 with heap:=h₁,toks:=s2.toks+([]:List (Str×Value)).length } ->
   codeAny (model X.prog X.w) X.A (.compLoop e 0 (.ref it) (.ref s2.heap.objs.size) (compEnvC scope cl s3.heap.objs.size X.env)) (RR (.ref s2.heap.objs.size) s3.heap.objs.size) s4:=by
  rintro s4 rfl
  refine zR5 (Y:=zBC X scope cl (own++caps) s3.heap.objs.size s3 (upd H1 s2.heap.objs.size o) fp) (hund _ _) (hden _ _) (hturn _ _) rfl hc (hg _ _ _ _) (ht _ _ _ _) (hm _ _ _ _ _) T IY stY stat hWa ?_
  intro σ6 H6 s6 I6 q
  have I7:Inv X pins σ H6 s6:=I3.call' I6.os I6.base I6.hok I6.bare λb hb=>by
   obtain⟨_,g1,_,g3,g4,g5⟩:=f3 b hb
   exact⟨g3,g1,g4,g5⟩
  obtain⟨mC,hnC,_⟩:=I6.loc
  exact hRR _ _ H6 s6 mC I7 I6.free (Nat.ne_of_gt I3.lt) I3.sz (λx c e z=>by
    obtain⟨v,zc⟩:=I3.cell x c e
    exact absurd zc.lt (by rw[z];exact Nat.lt_irrefl _))
   (λp hp z=>absurd (Heap.lt_size (I3.pin p hp).1) (by rw[z];exact Nat.lt_irrefl _)) hnC q
 rw[e4]
 exact hstart (loop _ rfl) (T.self _ 0 _ _ _ stY (loop _ rfl))
end
section
variable{X:Cx}{scope:Scope}{cl:List (Str×Addr)}{own caps:List Str}{js:List Nat}
def zJ2(acc:Addr)(te:TE):TM:=λσ H N=>te σ H λy H4=>∃ys,H4 acc=some (.lst ys)/\ys.length<sizeLine/\N σ (upd H4 acc (.lst (ys++[y])))
theorem zJ3{acc:Addr}{elt:Expr}{te:TE}(hx:X.xe=λ_ _=>False)(he:PE X elt te):PM X (do let _ <-call (.builtin "list.append") [.ref acc,<-eval elt X.env]) (zJ2 acc te):=by
 intro pins s σ H N I h
 have h1:=he pins s σ H _ I h
 rw[hx] at h1
 refine wpAny_bind (thn h1 λyv s10 ⟨y,H10,I10,r10,ys,ha,hz,q⟩=>?_)
 have:=zIK (X:=X) _ s10 σ H10 (.ref acc) [y] (.ref acc) [yv] (λv H'=>v=.non/\H'=upd H10 acc (.lst (ys++[y]))) I10 rfl (.cons r10 .nil) ⟨_,ys,y,rfl,rfl,ha,hz,rfl,rfl⟩
 refine wpAny_bind (wpAny_mono this (λ_ s11 ⟨v,H11,I11,_,_,eH⟩=>wpAny_pure ⟨σ,H11,I11,?_⟩) λ_ _ z=>by rw[hx] at z;exact z)
 subst eH
 exact q
def zR6(wi:TI)(g:TG)(tt:TT)(tm:TM):TM:=λσ H N=>wi σ H λJ H1=>tWalkC J g tt tm σ H1 N
theorem zDI{prog:Program}{w:World}{A:Around}{R:Result->Shared->Prop}{s:Shared} {elt g0 target iter ifs rest scope pos it acc env}
  (h0:codeAny (model prog w) A (.compLoop (.ListComp elt (g0::⟨target,iter,ifs,0⟩::rest) scope pos) 1 it acc env) R s)
  (h:wpAny (model prog w) A (pyIter it) (λit' s'=>codeAny (model prog w) A (.compLoop (.ListComp elt (g0::⟨target,iter,ifs,0⟩::rest) scope pos) 1 it' acc env) R s')
   (notedBy (model prog w) A env λx s'=>R (.error x) s') s) :
  codeAny (model prog w) A (.compStart (.ListComp elt (g0::⟨target,iter,ifs,0⟩::rest) scope pos) 1 it acc env) R s:=by
 refine codeAny_of_tree ?_
 show wpAny _ A ((compStart (.ListComp elt (g0::⟨target,iter,ifs,0⟩::rest) scope pos) 1 it acc env).onRaise (λx=>do noteFrame x env;standAt theWindowsPlace)) _ _ s
 refine wpAny_notedAt ?_
 unfold compStart
 show wpAny _ A (ask >>= _) _ _ s
 refine wpAny_bind (wpAny_askSetting (wpAny_ite ?_))
 split
 ·first
   |exact wpAny_bind (wpAny_pure (wpAny_pure (And.intro rfl h0)))
   |exact wpAny_pure (And.intro rfl h0)
 ·first
   |exact wpAny_bind (wpAny_rule (wpAny_bind (wpAny_standAt (wpAny_bind (wpAny_mono h (λit' s' h'=>wpAny_pure (And.intro rfl h')) λ_ _ x=>x)))))
   |(refine wpAny_bind (wpAny_rule ?_);show wpAny _ _ (standAt iter.pos >>= _) _ _ s;exact wpAny_bind (wpAny_standAt (wpAny_bind (wpAny_mono h (λit' s' h'=>wpAny_pure (And.intro rfl h')) λ_ _ x=>x))))
theorem zTG{acc:Addr}{elt tg iter:Expr}{g0:Comprehension}{ifs:List Expr}{pos:Pos}{wi:TI}{g:TG}{tt:TT}{te:TE}{sc:Scope}(hx:X.xe=λ_ _=>False)(hc:X.calm=true)(hi:PI X tg iter wi)(hg:PG X tg g)(ht:PTs X ifs tt)(he:PE X elt te)
  (hs:∀x,foldedSetIterable iter X.env x=pure x):PM X (do
    let x <-eval iter X.env
    standAt iter.pos
    let x <-foldedSetIterable iter X.env x
    let _ <-runOwn (.compStart (.ListComp elt [g0,⟨tg,iter,ifs,0⟩] sc pos) 1 (<-holding [x] (pyIter x)) (.ref acc) X.env) X.env) (zR6 wi g tt (zJ2 acc te)):=by
 intro pins s σ H N I h
 have h1:=hi pins s σ H _ I h
 rw[hx] at h1
 refine wpAny_bind (thn h1 λv s1 h2=>wpAny_bind (wpAny_standAt (wpAny_bind (wpAny_of_eq (hs v) (wpAny_bind (wpAny_holding (thn h2 λitv s2 h3=>?_)))))))
 obtain⟨it,fp,tn,J,H2,e,I2,T,st2,f2,hW⟩:=h3
 subst e
 refine wpAny_bind (wpAny_runOwn (zDI ?_ (T.self _ 0 _ _ _ st2 ?_)))
 all_goals
  refine zR5 (Y:=X) (pp:=iter.pos) (m:=(do let _ <-call (.builtin "list.append") [.ref acc,<-eval elt X.env])) rfl rfl rfl hx hc hg ht (zJ3 hx he) T I2 st2 f2 hW ?_
  intro σ' H' s' I' n'
  exact wpAny_pure ⟨σ',H',I',n'⟩
theorem zIR(elt tg iter tg2 iter2:Expr)(ifs ifs2:List Expr)(scope:Scope)(pos:Pos)(it acc:Value)(env:Env) :
  compTurn (.ListComp elt [⟨tg,iter,ifs,0⟩,⟨tg2,iter2,ifs2,0⟩] scope pos) 0 it acc env=(do
   standAt iter.pos
   match <-pyNext it with
   |none=>pure (.done .next)
   |some v =>
    letOwnedTupleGo tg it v
    assign tg env v
    let mut ok:=true
    for c in ifs do
     if ok then ok <-isTrue c env (eval c env)
    if ok then(do
     let x <-eval iter2 env
     standAt iter2.pos
     let x <-foldedSetIterable iter2 env x
     let _ <-runOwn (.compStart (.ListComp elt [⟨tg,iter,ifs,0⟩,⟨tg2,iter2,ifs2,0⟩] scope pos) 1 (<-holding [x] (pyIter x)) acc env) env)
    again (.compLoop (.ListComp elt [⟨tg,iter,ifs,0⟩,⟨tg2,iter2,ifs2,0⟩] scope pos) 0 it acc env)):=by
 simp only[bind_assoc,pure_bind]
 rfl
theorem zX2{elt tg iter tg2 iter2:Expr}{ifs ifs2:List Expr}{pos:Pos}{wi:TI}{wi2:Hp->TI}{g g2:Hp->TG}{tt tt2:Hp->TT}{te:Hp->TE}(n:CompNm X scope cl own caps js)(hc:X.calm=true)(hi:PI X tg iter wi)
  (hg:∀C s H fp,PG (zBC X scope cl (own++caps) C s H fp) tg (g H)) (ht:∀C s H fp,PTs (zBC X scope cl (own++caps) C s H fp) ifs (tt H))
  (hi2:∀C s H fp,PI (zBC X scope cl (own++caps) C s H fp) tg2 iter2 (wi2 H)) (hg2:∀C s H fp,PG (zBC X scope cl (own++caps) C s H fp) tg2 (g2 H)) (ht2:∀C s H fp,PTs (zBC X scope cl (own++caps) C s H fp) ifs2 (tt2 H))
  (he:∀C s H fp,PE (zBC X scope cl (own++caps) C s H fp) elt (te H))
  (hs:∀x,foldedSetIterable iter X.env x=pure x:=by intro _;rfl) (hs2:∀C x,foldedSetIterable iter2 (compEnvC scope cl C X.env) x=pure x:=by intro _ _;rfl) :
  PE X (.ListComp elt [⟨tg,iter,ifs,0⟩,⟨tg2,iter2,ifs2,0⟩] scope pos) (zIQ wi own.length js (.lst []) g tt λH acc=>zR6 (wi2 H) (g2 H) (tt2 H) (zJ2 acc (te H))):=by
 intro pins s σ H Q I h
 rw[eval_ListComp]
 refine wpAny_comprehension_free (use:=none) rfl hs n.clos n.kind n.loc (wpAny_mono (hi pins s σ H _ I h) (λxv s₁ h₁=>wpAny_mono h₁ (λitv s₂ h₂=>?_) λ_ _ e=>e) λ_ _ e=>e)
 obtain⟨it,fp,tn,J,H2,e,I2,T,st2,f2,hW⟩:=h₂
 subst e
 refine zES (obj:={ cls:=.type "list",dict:=none,data:=.seq ([]:List Value).toArray }) (pp:=iter.pos) (ifs:=ifs) (tg:=tg) (RR:=λacc C=>compPost (model X.prog X.w) X.A X.xe none (EP X pins σ Q) acc C)
  (m:=λacc env=>(do
    let x <-eval iter2 env
    standAt iter2.pos
    let x <-foldedSetIterable iter2 env x
    let _ <-runOwn (.compStart (.ListComp elt [⟨tg,iter,ifs,0⟩,⟨tg2,iter2,ifs2,0⟩] scope pos) 1 (<-holding [x] (pyIter x)) (.ref acc) env) env))
  (o:=.lst []) (λ{Q s} h=>wpAny_newObj_type h) (show ObjOk _ _ _ _ _ (.lst []) from⟨Nat.zero_le _,[],0,.nil,Heap.get?_push_size _ rfl⟩) (λ_ _=>rfl) (λ_ _=>rfl) (λ_ _=>zIR _ _ _ _ _ _ _ _ _ _ _ _) (λh0 h1=>codeAny_compStart_list h0 h1) n hc hg ht
  (λC s H fp acc=>zTG (X:=zBC X scope cl (own++caps) C s H fp) rfl hc (hi2 C s H fp) (hg2 C s H fp) (ht2 C s H fp) (he C s H fp) (hs2 C)) I2 T st2 f2 hW ?_
 intro acc C H' s' m I' hC h1 h2 h3 h4 hn q
 exact⟨m,hn,λh' sb=>⟨.ref acc,H',I'.turned (t':=s'.toks) (λb o hb e=>sb.extBut b o hb e) hC h1 (.inr h2) h3 h4,rfl,q⟩⟩
theorem zTH{elt tg iter:Expr}{ifs:List Expr}{pos:Pos}{wi:TI}{g:Hp->TG}{tt:Hp->TT}{te:Hp->TE}(n:CompNm X scope cl own caps js)(hc:X.calm=true)(hi:PI X tg iter wi)
  (hg:∀C s H fp,PG (zBC X scope cl (own++caps) C s H fp) tg (g H)) (ht:∀C s H fp,PTs (zBC X scope cl (own++caps) C s H fp) ifs (tt H)) (he:∀C s H fp,PE (zBC X scope cl (own++caps) C s H fp) elt (te H))
  (hs:∀x,foldedSetIterable iter X.env x=pure x:=by intro _;rfl):PE X (.ListComp elt [⟨tg,iter,ifs,0⟩] scope pos) (zIQ wi own.length js (.lst []) g tt λH acc=>zJ2 acc (te H)):=by
 intro pins s σ H Q I h
 rw[eval_ListComp]
 refine wpAny_comprehension_free (use:=none) rfl hs n.clos n.kind n.loc (wpAny_mono (hi pins s σ H _ I h) (λxv s₁ h₁=>wpAny_mono h₁ (λitv s₂ h₂=>?_) λ_ _ e=>e) λ_ _ e=>e)
 obtain⟨it,fp,tn,J,H2,e,I2,T,st2,f2,hW⟩:=h₂
 subst e
 refine zES (obj:={ cls:=.type "list",dict:=none,data:=.seq ([]:List Value).toArray }) (pp:=iter.pos) (ifs:=ifs) (tg:=tg) (RR:=λacc C=>compPost (model X.prog X.w) X.A X.xe none (EP X pins σ Q) acc C)
  (m:=λacc env=>(do let _ <-call (.builtin "list.append") [.ref acc,<-eval elt env]))
  (o:=.lst []) (λ{Q s} h=>wpAny_newObj_type h) (show ObjOk _ _ _ _ _ (.lst []) from⟨Nat.zero_le _,[],0,.nil,Heap.get?_push_size _ rfl⟩) (λ_ _=>rfl) (λ_ _=>rfl) (λ_ _=>rfl) (λh0 h1=>codeAny_compStart_list h0 h1) n hc hg ht
  (λC s H fp acc=>zJ3 (X:=zBC X scope cl (own++caps) C s H fp) rfl (he C s H fp)) I2 T st2 f2 hW ?_
 intro acc C H' s' m I' hC h1 h2 h3 h4 hn q
 exact⟨m,hn,λh' sb=>⟨.ref acc,H',I'.turned (t':=s'.toks) (λb o hb e=>sb.extBut b o hb e) hC h1 (.inr h2) h3 h4,rfl,q⟩⟩
theorem zMF{i:Nat}{x:Str}{elt tg iter:Expr}{ifs:List Expr}{pos pos' spos:Pos}{wi:TI}{g:Hp->TG}{tt:Hp->TT}{te:Hp->TE}(n:CompNm X scope cl own caps js)(hc:X.calm=true)(hi:PI X tg iter wi)
  (hg:∀C s H fp,PG (zBC X scope cl (own++caps) C s H fp) tg (g H)) (ht:∀C s H fp,PTs (zBC X scope cl (own++caps) C s H fp) ifs (tt H)) (he:∀C s H fp,PE (zBC X scope cl (own++caps) C s H fp) elt (te H))
  (hN:X.N.Nodup) (hx:X.N[i]?=some x) (hl:X.env.scope.names.lookup x=some .local)
  (hsw:swapsWith (.ListComp elt [⟨tg,iter,ifs,0⟩] scope pos) (some (.Name x pos')) spos.line X.env=pure true)
  (hs:∀x,foldedSetIterable iter X.env x=pure x:=by intro _;rfl):PS X (.Assign [.Name x pos'] (.ListComp elt [⟨tg,iter,ifs,0⟩] scope pos) spos) (zVW (zIQ wi own.length js (.lst []) g tt λH acc=>zJ2 acc (te H)) (zM5 i)):=by
 intro pins s σ H D I h
 rw[exec_Assign_Name_used _ _ _ _ hsw]
 refine wpAny_bind (wpAny_standAt (wpAny_bind ?_))
 show wpAny _ X.A (do let _ <-comprehension (.ListComp elt [⟨tg,iter,ifs,0⟩] scope pos) scope X.env _ (newList []) false (eval iter X.env) (some (assign (.Name x pos') X.env))) _ _ s
 refine wpAny_bind (wpAny_mono (wpAny_comprehension_free (use:=some (assign (.Name x pos') X.env)) (Q:=λ_ s'=>SP X pins D .next s') rfl hs n.clos n.kind n.loc
  (wpAny_mono (hi pins s σ H _ I h) (λxv s₁ h₁=>wpAny_mono h₁ (λitv s₂ h₂=>?_) λ_ _ e=>e) λ_ _ e=>e)) (λ_ s' hq=>wpAny_pure (wpAny_pure hq)) λ_ _ e=>e)
 obtain⟨it,fp,tn,J,H2,e,I2,T,st2,f2,hW⟩:=h₂
 subst e
 refine zES (obj:={ cls:=.type "list",dict:=none,data:=.seq ([]:List Value).toArray }) (pp:=iter.pos) (ifs:=ifs) (tg:=tg) (Q:=λx H1=>zM5 i x σ H1 D.nx) (RR:=λacc C=>compPost (model X.prog X.w) X.A X.xe (some (assign (.Name x pos') X.env)) (λ_ s'=>SP X pins D .next s') acc C)
  (m:=λacc env=>(do let _ <-call (.builtin "list.append") [.ref acc,<-eval elt env]))
  (o:=.lst []) (λ{Q s} h=>wpAny_newObj_type h) (show ObjOk _ _ _ _ _ (.lst []) from⟨Nat.zero_le _,[],0,.nil,Heap.get?_push_size _ rfl⟩) (λ_ _=>rfl) (λ_ _=>rfl) (λ_ _=>rfl) (λh0 h1=>codeAny_compStart_list h0 h1) n hc hg ht
  (λC s H fp acc=>zJ3 (X:=zBC X scope cl (own++caps) C s H fp) rfl (he C s H fp)) I2 T st2 f2 hW ?_
 intro acc C H' s' m I' hC h1 h2 h3 h4 hn q
 show wpAny _ X.A (assign (.Name x pos') X.env (.ref acc)) _ _ _
 refine wpAny_assign_Name (zIC I' hN hx (.inl hl) (v:=.ref acc) rfl (λs'' I'' sb=>?_) (.inr hl))
 obtain⟨a,sb,ha⟩:=sb
 have hCa:C≠a:=by
  rcases ha with ha|ha
  ·rw[ha];exact h1
  ·exact λz=>h3 x a ha z.symm
 exact⟨m,hn.sameBut sb hCa,λh' sb'=>⟨_,H',I''.turned (t':=s''.toks) (λb o hb e=>sb'.extBut b o hb e) hC h1 (.inr h2) h3 h4,q⟩⟩
end
end L2
namespace TS
open PySem PySem.W PyProof.Rows
section
variable{prog:Program}{w:World}{A:Around}{E:Value->Shared->Prop}{s:Shared}
theorem zIS{vs:List Value}{xs:Array Keyed}(h:xs.Perm (pairsOf vs)):(xs.map (·.2)).toList.Perm vs:=by
 have p:=(Array.perm_iff_toList_perm.mp h).map (·.2)
 rw[pairsOf_toList] at p
 have e:(vs.zip vs).map (·.2)=vs:=List.map_snd_zip (Nat.le_refl _)
 rw[e] at p
 simpa using p
end
end TS
namespace L2
open PySem PySem.Spec PyProof.Rows
theorem Vals.perm{us ws:List Value}(p:ws.Perm us):∀{xs:List V},Vals xs us->∃ys,ys.Perm xs/\Vals ys ws:=by
 induction p with
 |nil=>intro xs r;cases r;exact⟨[],List.Perm.refl _,.nil⟩
 |cons a _ ih =>
  intro xs r
  cases r with
  |cons h t =>
   obtain⟨ys,q,r'⟩:=ih t
   exact⟨_::ys,q.cons _,.cons h r'⟩
 |swap a b l =>
  intro xs r
  cases r with
  |cons h t =>
   cases t with
   |cons h' t'=>exact⟨_::_::_,List.Perm.swap _ _ _,.cons h' (.cons h t')⟩
 |trans _ _ ih1 ih2 =>
  intro xs r
  obtain⟨ys,q,r'⟩:=ih2 r
  obtain⟨zs,q',r''⟩:=ih1 r'
  exact⟨zs,q'.trans q,r''⟩
def zR7(H:Hp)(y:V):Prop:=∃(p:Addr) (n:Int) (ns:List Int),y=.ref p/\H p=some (.tup ((n::ns).map V.int))
theorem zNY{X:Cx}{pins:List (Addr×Obj)}{σ:St}{H:Hp}{s:Shared}(I:Inv X pins σ H s):∀{ys:List V} {us:List Value},Vals ys us->(∀y∈ys,zR7 H y) ->
  ∃fs:List Value,fs.length=us.length/\PySem.W.KatTups s.heap us fs/\(∀v∈fs,∃n t,v=.int n t)/\∀u∈us,∃(p:Addr) (its:List Value) (ns:List Int),u=.ref p/\IsTup s.heap p its.toArray/\IntsAre its ns
 |_,_,.nil,_=>⟨[],rfl,PySem.W.KatTups.nil,(λv hv=>nomatch hv),(λu hu=>nomatch hu)⟩
 |_,_,.cons r t,h=>by
  obtain⟨fs,e1,e2,e3,e4⟩:=zNY I t λy hy=>h y (List.mem_cons_of_mem _ hy)
  obtain⟨p,n,ns,ey,hp⟩:=h _ List.mem_cons_self
  subst ey
  cases r
  obtain⟨its,rv,tp,_⟩:=I.tuple (SqT.of (K:=X.K) hp)
  have hi:IntsAre its (n::ns):=zBJ rv
  have hi0:=hi
  cases hi with
  |cons _ tk r' =>
   obtain⟨o,ho,hc,k,hd⟩:=id tp
   refine⟨.int n tk::fs,by rw[List.length_cons,List.length_cons,e1],PySem.W.KatTups.cons ho hc hd (by simp) e2,λv hv=>?_,λu hu=>?_⟩
   ·rcases List.mem_cons.mp hv with rfl|hv
    ·exact⟨_,_,rfl⟩
    ·exact e3 v hv
   ·rcases List.mem_cons.mp hu with rfl|hu
    ·exact⟨p,_,n::ns,rfl,tp,hi0⟩
    ·exact e4 u hu
theorem zIT{h h':Heap}(k:∀b o,h.get? b=some o->h'.get? b=some o):∀{us fs:List Value},PySem.W.KatTups h us fs->PySem.W.KatTups h' us fs
 |[],[],_=>PySem.W.KatTups.nil
 |[],_::_,t=>t.elim
 |_::_,[],t=>t.elim
 |_::_,_::_,t=>by
  obtain⟨⟨a,o,xs,n,e,ho,r⟩,t⟩:=t
  exact⟨⟨a,o,xs,n,e,k _ _ ho,r⟩,zIT k t⟩
section
variable{prog:Program}{w:World}{A:Around}{E:Value->Shared->Prop}{s:Shared}
structure RawD(h:Heap)(d:Addr)(es:Array DictEntry)(ep:Nat):Prop where
 ex:∃o,h.get? d=some o/\o.ExactDict/\o.data=.dict es ep
 ns:(d==sysModules)=false
theorem RawD.ty{d:Addr}{es:Array DictEntry}{ep:Nat}(r:RawD s.heap d es ep):s.TypeIs (.ref d) "dict":=let ⟨o,h1,h2,_⟩:=r.ex;⟨o,h1,h2.1⟩
theorem zTI{d:Addr}{es:Array DictEntry}{ep:Nat}{Q:Value->Shared->Prop}(r:RawD s.heap d es ep)(hf:(es.size:Int)<2 ^ 63)(h:∀t tk,Q (.int es.size t) { s with toks:=tk }) :
  wpAny (model prog w) A (call (.builtin "len") [.ref d]) Q E s:=by
 obtain⟨o,ho,hc,hd⟩:=r.ex
 refine Calls.call_function_entry kind_len plain_len entry_len (args_len1 _) ?_
 unfold Builtin.«len»
 refine wpAny_bind (m:=oneArg "len" _) (wpAny_pure ?_)
 refine wpAny_bind (m:=callSpecial? (.ref d) (Str.ofString "__len__")) (wpAny_callSpecial?_slot (name:=Str.ofString "__len__") r.ty F.slot_dict_len (wpAny_call_entry F.slot_dict_len r.ty F.entry_dict_len ?_ (F.args_dict_len_1 _)))
 show wpAny _ _ (dictSize d >>= _) _ _ s
 unfold dictSize
 refine wpAny_bind (wpAny_bind (wpAny_dictEntries ho hd (wpAny_pure ?_)))
 show wpAny _ _ (Builtin.Dict.pendingCount d >>= _) _ _ s
 refine wpAny_bind (wpAny_pendingCount_other r.ns ?_)
 refine wpAny_bind (wpAny_mkInt (wpAny_pure ⟨_,rfl,?_⟩))
 refine wpAny_bind (wpAny_holding (wpAny_pure (wpAny_bind (wpAny_letGo ?_))))
 show wpAny _ _ (if((es.size:Int)+((0:Nat):Int))<0 then _ else _) _ _ _
 rw[if_neg (by lia)]
 show wpAny _ _ (if((es.size:Int)+((0:Nat):Int))>=2 ^ 63 then _ else _) _ _ _
 rw[if_neg (by lia)]
 have e0:((es.size:Int)+((0:Nat):Int))=(es.size:Int):=by simp
 show wpAny _ _ (retInt ((es.size:Int)+((0:Nat):Int))) _ _ _
 rw[e0]
 exact wpAny_bind (wpAny_mkInt (wpAny_pure ⟨_,rfl,h _ _⟩))
theorem zFD{d:Addr}{es:Array DictEntry}{ep:Nat}{Q:Value->Shared->Prop}(r:RawD s.heap d es ep)
  (h:∀h',(∀b o,s.heap.get? b=some o->h'.get? b=some o)->h'.IsKeyIter s.heap.objs.size d 0 es.size ep->Q (.ref s.heap.objs.size) { s with heap:=h' }):wpAny (model prog w) A (pyIter (.ref d)) Q E s:=by
 obtain⟨o,ho,hc,hd⟩:=r.ex
 refine wpAny_pyIter_slot r.ty F.slot_dict_iter (wpAny_call_entry F.slot_dict_iter r.ty F.entry_dict_iter ?_ (F.args_dict_iter_1 _))
 unfold Builtin.«dict.__iter__» Builtin.Dict.dictSlotNone
 refine wpAny_bind (wpAny_bind (wpAny_notOrdered_dict r.ty (wpAny_pure ?_)))
 unfold Builtin.Dict.showsAll
 show wpAny _ _ ((if _ then _ else _) >>= _) _ _ s
 rw[if_neg (by rw[r.ns];exact Bool.false_ne_true)]
 refine wpAny_bind (wpAny_pure (wpAny_bind (wpAny_dictEntries ho hd (wpAny_bind (wpAny_dictEpoch ho hd ?_)))))
 refine wpAny_bind (wpAny_newObj_type (wpAny_pure ⟨_,rfl,"dict_keyiterator",_,⟨_,Heap.get?_push_size _ rfl,rfl⟩,F.slot_dict_keyiterator_next.lookup,?_⟩))
 exact h _ (λb o e=>Heap.get?_push_of_some _ e) ⟨_,Heap.get?_push_size _ rfl,rfl,by simp[rawInt]⟩
theorem zK5{it d:Addr}{i ep:Nat}{es:Array DictEntry}{Q:Option Value->Shared->Prop}(k:s.heap.IsKeyIter it d i es.size ep)(r:RawD s.heap d es ep)(hi:i<es.size)
  (h:∀h',h'.IsKeyIter it d (i+1) es.size ep->Heap.SameBut it s.heap h'->Q (some es[i].key) { s with heap:=h' }):wpAny (model prog w) A (pyNext (.ref it)) Q E s:=by
 obtain⟨oi,hoi,hci,hdi⟩:=id k
 obtain⟨o,ho,hc,hd⟩:=r.ex
 unfold pyNext
 refine wpAny_bind (wpAny_attempt (wpAny_callSpecial?_slot (name:=Str.ofString "__next__") k.typeIs F.slot_dict_keyiterator_next (wpAny_call_entry F.slot_dict_keyiterator_next k.typeIs F.entry_dict_keyiterator_next ?_ (F.args_dict_keyiterator_next_1 _))))
 refine wpAny_bind (wpAny_pure (wpAny_bind (wpAny_bind ?_)))
 first
  |refine wpAny_bind (wpAny_typeNameOfWhole_keyiter k.typeIs (wpAny_pure (wpAny_bind (wpAny_fieldsOf hoi hdi ?_))))
  |refine wpAny_bind (wpAny_typeNameOf_keyiter k.typeIs (wpAny_pure (wpAny_bind (wpAny_fieldsOf hoi hdi ?_))))
 simp only[show Builtin.Dict_items.ownsTuple "dict_keyiterator"=false by decide,Bool.false_eq_true,if_false]
 show wpAny _ _ (if(Value.ref d==Value.none)=true then _ else _) _ _ s
 rw[if_neg (show ¬((Value.ref d==Value.none)=true) from Bool.false_ne_true)]
 refine wpAny_bind (wpAny_pure (wpAny_bind (wpAny_dictEntries ho hd ?_)))
 rw[if_neg (by simp)]
 refine wpAny_bind (wpAny_pure (wpAny_bind (wpAny_dictEpoch ho hd ?_)))
 rw[if_neg (by simp)]
 refine wpAny_pure ?_
 simp only[show ¬((i:Int)<0) from by lia,if_false,Int.toNat_natCast,Array.getElem?_eq_getElem hi]
 refine wpAny_bind ?_
 first
  |refine wpAny_bind (wpAny_typeNameOfWhole_keyiter k.typeIs (wpAny_pure (wpAny_bind (wpAny_isOneOf_keyiter k.typeIs ?_))))
  |refine wpAny_bind (wpAny_typeNameOf_keyiter k.typeIs (wpAny_pure (wpAny_bind (wpAny_isOneOf_keyiter k.typeIs ?_))))
 show wpAny _ _ (setField (.ref it) 1 (rawInt ((i:Int)+1)) >>= _) _ _ s
 refine wpAny_bind (wpAny_setField hoi hdi (by simp) ?_)
 have k':(s.heap.update it (Obj.mapFields (·.setIfInBounds 1 (rawInt ((i:Int)+1))))).IsKeyIter it d (i+1) es.size ep :=
  ⟨_,Heap.get?_update_self _ hoi (Obj.isFreed_of_fields (Obj.data_mapFields hdi _)),(Obj.cls_mapFields ..).trans hci,by rw[Obj.data_mapFields hdi];simp[rawInt]⟩
 refine wpAny_bind (wpAny_holding (wpAny_bind (wpAny_isOneOf_keyiter (s:={ s with heap:=s.heap.update it (Obj.mapFields (·.setIfInBounds 1 (rawInt ((i:Int)+1)))) }) k'.typeIs ?_)))
 show wpAny _ _ (pure es[i].key) _ _ _
 exact wpAny_pure (wpAny_pure ⟨_,rfl,wpAny_pure (h _ k' (Heap.SameBut.update ..))⟩)
theorem zNZ{it d:Addr}{i ep:Nat}{es:Array DictEntry}{Q:Option Value->Shared->Prop}(hh:A.handled=none)(k:s.heap.IsKeyIter it d i es.size ep)(r:RawD s.heap d es ep)(hi:es.size<=i)
  (h:∀h',Heap.ExtBut it s.heap h'->Q none { s with heap:=h' }):wpAny (model prog w) A (pyNext (.ref it)) Q E s:=by
 obtain⟨oi,hoi,hci,hdi⟩:=id k
 obtain⟨o,ho,hc,hd⟩:=r.ex
 unfold pyNext
 refine wpAny_bind (wpAny_attempt (wpAny_callSpecial?_slot (name:=Str.ofString "__next__") k.typeIs F.slot_dict_keyiterator_next (wpAny_call_entry F.slot_dict_keyiterator_next k.typeIs F.entry_dict_keyiterator_next ?_ (F.args_dict_keyiterator_next_1 _))))
 refine wpAny_bind (wpAny_pure (wpAny_bind (wpAny_bind ?_)))
 first
  |refine wpAny_bind (wpAny_typeNameOfWhole_keyiter k.typeIs (wpAny_pure (wpAny_bind (wpAny_fieldsOf hoi hdi ?_))))
  |refine wpAny_bind (wpAny_typeNameOf_keyiter k.typeIs (wpAny_pure (wpAny_bind (wpAny_fieldsOf hoi hdi ?_))))
 simp only[show Builtin.Dict_items.ownsTuple "dict_keyiterator"=false by decide,Bool.false_eq_true,if_false]
 show wpAny _ _ (if(Value.ref d==Value.none)=true then _ else _) _ _ s
 rw[if_neg (show ¬((Value.ref d==Value.none)=true) from Bool.false_ne_true)]
 refine wpAny_bind (wpAny_pure (wpAny_bind (wpAny_dictEntries ho hd ?_)))
 rw[if_neg (by simp)]
 refine wpAny_bind (wpAny_pure (wpAny_bind (wpAny_dictEpoch ho hd ?_)))
 rw[if_neg (by simp)]
 refine wpAny_pure ?_
 simp only[show ¬((i:Int)<0) from by lia,if_false,Int.toNat_natCast,Array.getElem?_eq_none hi]
 refine wpAny_bind ?_
 first
  |refine wpAny_bind (wpAny_typeNameOfWhole_keyiter k.typeIs (wpAny_pure ?_))
  |refine wpAny_bind (wpAny_typeNameOf_keyiter k.typeIs (wpAny_pure ?_))
 show wpAny _ _ (setField (.ref it) 0 .none >>= _) _ _ s
 refine wpAny_bind (wpAny_setField hoi hdi (by simp) ?_)
 show wpAny _ _ (newExc (.type "StopIteration") [] >>= _) _ _ _
 refine wpAny_bind ?_
 simp only[newExc,newTuple]
 refine wpAny_bind (wpAny_newObj_type ?_ (by size_fits))
 refine wpAny_bind (m:=firstArgMember _ _) (wpAny_of_eq (a:=Value.none) (by first|rfl|(simp only[firstArgMember];rfl)) (wpAny_newObj_type ?_ (by size_fits)))
 simp only[raiseNew]
 refine wpAny_bind (wpAny_handled ?_)
 rw[show A.in1.handled=none from hh]
 refine wpAny_bind (wpAny_pure (wpAny_throw ?_))
 refine wpAny_bind (wpAny_isInstance (T:="StopIteration") (b:=true) ⟨_,Heap.get?_push_size _ rfl,rfl⟩ isSubtype_stop ?_)
 exact wpAny_pure (h _ (((Heap.SameBut.update ..).extBut.push _).push _))
end
theorem zGI{P:Program}{w:World}{H:Hp}{h:Heap}{a:Addr}{kvs:List (List Key×V)}(x:ObjOk P w H h a (.dT kvs)):∃es ep,RawD h a es ep/\es.size=kvs.length/\kvs.length<=sizeLine /\
  ∀(i:Nat) (hi:i<es.size),∃(p:Addr) (k:List Key),es[i].key=.ref p/\(kvs.map (·.1))[i]?=some k/\H p=some (.tup (k.map kV)):=by
 obtain⟨z,y,xs,r,o,es,ep,h1,h2,h3,h4,h5⟩:=x
 have hl:es.size=xs.length:=by
  have:=congrArg List.length h4
  simpa using this
 have hl2:kvs.length=xs.length:=Paired.length r
 refine⟨es,ep,⟨⟨o,h1,h2,h3⟩,y⟩,by lia,z,λi hi=>?_⟩
 have key:∀{l:List (List Key×V)} {m:List (List Key×Addr×Value)},Paired (λ(p:List Key×V) (q:List Key×Addr×Value)=>p.1=q.1/\H q.2.1=some (.tup (p.1.map kV))/\RelV p.2 q.2.2) l m ->
   ∀(i:Nat) q,m[i]?=some q->∃k,(l.map (·.1))[i]?=some k/\H q.2.1=some (.tup (k.map kV)):=by
  intro l m q
  induction q with
  |nil=>intro i q e;simp at e
  |@cons p q ps qs hq t ih =>
   intro i z e
   cases i with
   |zero=>simp at e;subst e;exact⟨p.1,by simp,hq.2.1⟩
   |succ i=>obtain⟨k,e1,e2⟩:=ih i z (by simpa using e);exact⟨k,by simpa using e1,e2⟩
 have hi':i<xs.length:=by lia
 obtain⟨k,e1,e2⟩:=key r i xs[i] (by simp[hi'])
 have e3:es[i]=entryOfKey (tupleKind (zBN P w)) xs[i]:=by
  have q:es.toList[i]?=some es[i]:=by simp[hi]
  rw[h4] at q
  simp[hi'] at q
  exact q.symm
 exact⟨xs[i].2.1,k,by rw[e3];rfl,e1,e2⟩
section
variable{X:Cx}
noncomputable def Itk(d:Addr)(o:Obj)(kvs:List (List Key×V)):It :=
 ⟨λi H=>i<kvs.length/\H d=some (.frz o (.dT kvs)),λi H x H'=>H'=H/\∃p k,x=.ref p/\(kvs.map (·.1))[i]?=some k/\H p=some (.tup (k.map kV)),λi H=>kvs.length<=i/\H d=some (.frz o (.dT kvs))⟩
theorem zIU{P:Program}{w:World}{K:PySem.W.Frag}{tg:Expr}(d it:Addr)(o:Obj)(kvs:List (List Key×V))(es:Array DictEntry)(ep:Nat)(hd:o.data=.dict es ep)(hz:es.size=kvs.length) :
  Turn P w K tg (Itk d o kvs) [it] it (λi h=>h.IsKeyIter it d i es.size ep) where
 mem:=by simp
 obj:=λi h st b hb=>by
  have e:b=it:=by simpa using hb
  subst e
  obtain⟨o,e,c,d⟩:=st
  exact⟨o,e,λv z=>by rw[d] at z;cases z⟩
 keep:=λi h h' st k=>let ⟨o,e,r⟩:=st;⟨o,k it (by simp) o e,r⟩
 item:=by
  intro X hP hw hK hc i pins s σ H E I hf st hg
  subst hP hw hK
  obtain⟨hi,hk⟩:=hg
  obtain⟨ho,hx⟩:=I.hok d _ hk
  obtain⟨es',ep',rw',e1,e2,e3⟩:=zGI hx
  obtain⟨o',q1,q2,q3⟩:=rw'.ex
  rw[ho] at q1;cases q1
  rw[hd] at q3;injection q3 with q4 q5
  subst q4;subst q5
  obtain⟨f0,f1,f2,f3,f4,f5⟩:=hf it (by simp)
  refine zK5 st rw' (by lia) λh' st' sb=>?_
  obtain⟨p,k,p1,p2,p3⟩:=e3 i (by lia)
  have I1:Inv X pins σ H { s with heap:=h' }:=I.turned (t':=s.toks) (λb ob hb e=>(sb.2 b hb).trans e) f0 f1 f3 f4 f5
  obtain⟨oi,e,c,dd⟩:=id st'
  refine⟨_,rfl,zM6 (s:={ s with heap:=h' }) e c dd (by decide) ⟨.ref p,H,I1,p1,⟨rfl,p,k,rfl,p2,p3⟩,st',λb hb=>(hf b hb).1⟩⟩
 done:=by
  intro X hP hw hK hc i pins s σ H E I hf st hg
  subst hP hw hK
  obtain⟨hi,hk⟩:=hg
  obtain⟨ho,hx⟩:=I.hok d _ hk
  obtain⟨es',ep',rw',e1,e2,e3⟩:=zGI hx
  obtain⟨o',q1,q2,q3⟩:=rw'.ex
  rw[ho] at q1;cases q1
  rw[hd] at q3;injection q3 with q4 q5
  subst q4;subst q5
  obtain⟨f0,f1,f2,f3,f4,f5⟩:=hf it (by simp)
  exact zNZ (I.ok.hd hc) st rw' (by lia) λh' eb=>⟨rfl,I.turned (t':=s.toks) (λb ob hb e=>eb b ob hb e) f0 f1 f3 f4 f5⟩
 self:=λ_ _ _ _ _ st h=>wpAny_pyIter_keyiter st h
theorem Inv.freeze{pins:List (Addr×Obj)}{σ:St}{H:Hp}{s:Shared}{a:Addr}{kvs:List (List Key×V)}(I:Inv X pins σ H s)(ha:H a=some (.dT kvs)) :
  ∃o,s.heap.get? a=some o/\Inv X pins σ (upd H a (.frz o (.dT kvs))) s:=by
 have x:=I.hok a _ ha
 obtain⟨es,ep,⟨⟨o,h1,h2,h3⟩,_⟩,_⟩:=zGI x
 have kt:∀b ys,H b=some (.tup ys)->b≠a:=λb ys e z=>by rw[z,ha] at e;cases e
 have ko:∀b y,H b=some (.own y)->b≠a:=λb y e z=>by rw[z,ha] at e;cases e
 have kf:∀b ob u,H b=some (.frz ob u)->b≠a:=λb ob u e z=>by rw[z,ha] at e;cases e
 have kb:∀b t ps,H b=some (.tbl t ps)->b≠a:=λb t ps e z=>by rw[z,ha] at e;cases e
 have kn:∀b,H b=none->b≠a:=λb e z=>by rw[z,ha] at e;cases e
 refine⟨o,h1,I.un (t':=s.toks) (h':=s.heap) ⟨λb ob e _ _ _=>e,λb ob e _ _ _=>⟨ob.slots,e⟩,λb ob e n _=>by rw[zAL (kn b n)];exact n,λb ob e _=>⟨ob,e⟩,λb ys e=>by rw[zAL (kt b ys e)];exact e,λb ob u e=>by rw[zAL (kf b ob u e)];exact e,λb t ps e=>⟨#[],by rw[zAL (kb b t ps e),e];simp⟩⟩ λb u e=>?_⟩
 by_cases hb:b=a
 ·subst hb
  rw[zAN] at e
  cases e
  exact⟨h1,x.stay (λc v _ q=>q) (λc q=>by rw[zAL (ko c _ q)];exact q) (λc ys q=>by rw[zAL (kt c ys q)];exact q) λc ob x q=>by rw[zAL (kf c ob _ q)];exact q⟩
 ·rw[zAL hb] at e
  exact(I.hok b u e).stay (λc v _ q=>q) (λc q=>by rw[zAL (ko c _ q)];exact q) (λc ys q=>by rw[zAL (kt c ys q)];exact q) λc ob x q=>by rw[zAL (kf c ob _ q)];exact q
theorem zQE:CallR X (.type "range") (λxs H Q=>∃j:Int,xs=[.int j]/\∀p,H p=none->Q (.ref p) (upd H p (.rng 0 j))):=by
 intro pins s σ H xs us Q I r h
 obtain⟨j,rfl,q⟩:=h
 obtain⟨u,rfl,ru⟩:=zD8 r
 obtain⟨t,rfl⟩:=ru
 exact call_range_1 ⟨.ref s.heap.objs.size,_,I.laid (o:=.rng 0 j) (λb o e=>Heap.get?_push_of_some _ e) (Nat.le_refl _) ⟨_,_,_,Heap.get?_push_size _ rfl⟩,rfl,q _ I.fresh⟩
theorem zMG:∀(n:Nat) (us:List Value),us.length=n->(∀(i:Nat) v,us[i]?=some v->∃t,v=Value.int (i:Int) t)->Vals ((List.range n).map λi:Nat=>V.int (i:Int)) us:=by
 intro n
 induction n with
 |zero=>intro us hl _;have:=List.length_eq_zero_iff.mp hl;subst this;exact .nil
 |succ n ih =>
  intro us hl h
  have e:us=us.take n++[us[n]'(by lia)]:=by
   rw[<-List.take_succ_eq_append_getElem (by lia),List.take_of_length_le (by lia)]
  rw[e,List.range_succ,List.map_append]
  refine Vals.append (ih _ (by rw[List.length_take];lia) λi v hv=>?_) (.cons ?_ .nil)
  ·rw[List.getElem?_take] at hv
   split at hv
   ·exact h i v hv
   ·cases hv
  ·obtain⟨t,et⟩:=h n (us[n]'(by lia)) (by simp)
   exact⟨t,et⟩
theorem zG8(hc:X.calm=true):CallR X (.type "list") (λxs H Q=>∃(p:Addr) (n:Nat),xs=[.ref p]/\H p=some (.rng 0 (n:Int))/\n<=1000/\∀l,H l=none->Q (.ref l) (upd H l (.lst ((List.range n).map λi:Nat=>V.int (i:Int))))):=by
 intro pins s σ H xs us Q I r h
 obtain⟨p,n,rfl,hp,hn,q⟩:=h
 obtain⟨u,rfl,ru⟩:=zD8 r
 cases ru
 obtain⟨t,u,v,e⟩:=(show ObjOk X.prog X.w H s.heap p (.rng 0 (n:Int)) from I.hok p _ hp)
 refine call_list_range (I.ok.hd hc) (show IsRange s.heap p 0 (n:Int) 1 t u v from e) (small_one (by decide) (by decide) (by lia) (by lia)) (n:=n) (by rw[rangeSize_one];first|lia|(split<;>lia)) (by lia) λh' tk acc c k hS hI=>?_
 obtain⟨hz,hi⟩:=hI
 have rv:Vals ((List.range n).map λi:Nat=>V.int (i:Int)) acc.toList:=zMG n _ (by simpa using hz) λi v hv=>by
  obtain⟨t,et⟩:=hi i v (by rw[<-Array.getElem?_toList];exact hv)
  exact⟨t,by rw[et];simp⟩
 refine⟨.ref s.heap.objs.size,_,I.laid (o:=.lst ((List.range n).map λi:Nat=>V.int (i:Int))) k (Nat.le_refl _) ⟨?_,acc.toList,c,rv,by simpa using hS⟩,rfl,q _ I.fresh⟩
 rw[List.length_map,List.length_range,sizeLine_eq]
 lia
end
section
variable{prog:Program}{w:World}{A:Around}{E:Value->Shared->Prop}{s:Shared}
theorem zN0{a:Addr}{Q:Option Obj->Shared->Prop}(h:Q (s.heap.get? a) s):wpAny (model prog w) A (loadIfAlive a) Q E s:=λΓ p hΓ=>by
 show Sem.wp _ Γ (.loadIfAlive a .pure) _ _ p s
 rw[Sem.wp_loadIfAlive]
 exact(wpAny_pure h:wpAny (model prog w) A (pure _) Q E s) Γ p hΓ
theorem zET{it t:Addr}{i:Nat}{items:Array Value}{x:Value}{Q:Value->Shared->Prop}(k:s.heap.IsTupleIter it t i)(ht:s.heap.IsTuple t items)(hx:items[i]?=some x)
  (h:∀h',h'.IsTupleIter it t (i+1)->Heap.SameBut it s.heap h'->Q x { s with heap:=h' }):wpAny (model prog w) A (Builtin.SmallTypes.nextOf (.ref it)) Q E s:=by
 obtain⟨o,ho,hc,hd⟩:=id k
 obtain⟨ol,hol,_,nl,hdl⟩:=ht
 unfold Builtin.SmallTypes.nextOf
 refine wpAny_bind (wpAny_callSpecial?_slot (name:=Str.ofString "__next__") k.typeIs F.slot_tuple_iterator_next (wpAny_call_entry F.slot_tuple_iterator_next k.typeIs F.entry_tuple_iterator_next ?_ (F.args_tuple_iterator_next_1 _)))
 show wpAny _ _ (field (.ref it) 0 >>= _) _ _ s
 refine wpAny_bind (wpAny_field ho hd (x:=.ref t) rfl ?_)
 show wpAny _ _ (if(Value.ref t==Value.none)=true then _ else _) _ _ s
 rw[if_neg (show ¬((Value.ref t==Value.none)=true) from Bool.false_ne_true)]
 show wpAny _ _ (field (.ref it) 1 >>= _) _ _ s
 refine wpAny_bind (wpAny_field ho hd (x:=.int i 0) rfl ?_)
 show wpAny _ _ (seqItems? (.ref t) >>= _) _ _ s
 refine wpAny_bind (wpAny_seqItems hol hdl ?_)
 simp only[Int.toNat_natCast,hx]
 refine wpAny_bind (wpAny_setField ho hd (by simp) (wpAny_pure ⟨x,rfl,wpAny_pure (h _ ?_ (Heap.SameBut.update ..))⟩))
 exact⟨_,Heap.get?_update_self _ ho (Obj.isFreed_of_fields (Obj.data_mapFields hd _)),(Obj.cls_mapFields ..).trans hc,by rw[Obj.data_mapFields hd];simp[rawInt]⟩
theorem zG9{it t:Addr}{i:Nat}{items:Array Value}{Q:Value->Shared->Prop}(hh:A.handled=none)(k:s.heap.IsTupleIter it t i)(ht:s.heap.IsTuple t items)(hx:items[i]?=none)
  (h:∀h' e,Heap.ExtBut it s.heap h'->(∃o,h'.get? e=some o/\o.cls=.type "StopIteration")->E (.ref e) { s with heap:=h' }):wpAny (model prog w) A (Builtin.SmallTypes.nextOf (.ref it)) Q E s:=by
 obtain⟨o,ho,hc,hd⟩:=id k
 obtain⟨ol,hol,_,nl,hdl⟩:=ht
 unfold Builtin.SmallTypes.nextOf
 refine wpAny_bind (wpAny_callSpecial?_slot (name:=Str.ofString "__next__") k.typeIs F.slot_tuple_iterator_next (wpAny_call_entry F.slot_tuple_iterator_next k.typeIs F.entry_tuple_iterator_next ?_ (F.args_tuple_iterator_next_1 _)))
 show wpAny _ _ (field (.ref it) 0 >>= _) _ _ s
 refine wpAny_bind (wpAny_field ho hd (x:=.ref t) rfl ?_)
 show wpAny _ _ (if(Value.ref t==Value.none)=true then _ else _) _ _ s
 rw[if_neg (show ¬((Value.ref t==Value.none)=true) from Bool.false_ne_true)]
 show wpAny _ _ (field (.ref it) 1 >>= _) _ _ s
 refine wpAny_bind (wpAny_field ho hd (x:=.int i 0) rfl ?_)
 show wpAny _ _ (seqItems? (.ref t) >>= _) _ _ s
 refine wpAny_bind (wpAny_seqItems hol hdl ?_)
 simp only[Int.toNat_natCast,hx]
 refine wpAny_bind (wpAny_rule (wpAny_bind (wpAny_setField ho hd (by simp) ?_)))
 show wpAny _ _ (newExc (.type "StopIteration") [] >>= _) _ _ _
 refine wpAny_bind ?_
 simp only[newExc,newTuple]
 refine wpAny_bind (wpAny_newObj_type ?_ (by size_fits))
 refine wpAny_bind (m:=firstArgMember _ _) (wpAny_of_eq (a:=Value.none) (by first|rfl|(simp only[firstArgMember];rfl)) (wpAny_newObj_type ?_ (by size_fits)))
 simp only[raiseNew]
 refine wpAny_bind (wpAny_handled ?_)
 first|rw[show A.in1.handled=none from hh]|rw[hh]
 exact wpAny_bind (wpAny_pure (wpAny_throw (h _ _ (((Heap.SameBut.update ..).extBut.push _).push _) ⟨_,Heap.get?_push_size _ rfl,rfl⟩)))
structure ZipSt(h:Heap)(n l1 l2:Addr)(i:Nat):Prop where
 zo:∃f0 f1,h.get? (n+4)=some { cls:=.type "zip",dict:=none,data:=.fields #[f0,.bool f1,.bool false,.ref (n+2),.ref (n+3)],slots:=#[] }/\(f0=.none\/∃T:Nat,f0=rawInt T)
 ti:IsPair h (n+2) (.ref n) (.ref (n+1))
 to:∃a b,IsPair h (n+3) a b
 k1:h.IsTupleIter n l1 i
 k2:h.IsTupleIter (n+1) l2 i
theorem zIV{h h':Heap}{it t:Addr}{i:Nat}(x:h.IsTupleIter it t i)(k:∀o,h.get? it=some o->h'.get? it=some o):h'.IsTupleIter it t i:=let ⟨o,e,r⟩:=x;⟨o,k o e,r⟩
theorem zR8{h h':Heap}{t:Addr}{its:Array Value}(x:h.IsTuple t its)(k:∀o,h.get? t=some o->h'.get? t=some o):h'.IsTuple t its:=let ⟨o,e,r⟩:=x;⟨o,k o e,r⟩
theorem ZipSt.keep{h h':Heap}{n l1 l2:Addr}{i:Nat}(z:ZipSt h n l1 l2 i)(k:∀b∈[n,n+1,n+2,n+3,n+4],∀o,h.get? b=some o->h'.get? b=some o):ZipSt h' n l1 l2 i:=by
 obtain⟨f0,f1,e,r⟩:=z.zo
 obtain⟨a,b,to⟩:=z.to
 exact⟨⟨f0,f1,k _ (by simp) _ e,r⟩,k _ (by simp) _ z.ti,⟨a,b,k _ (by simp) _ to⟩,zIV z.k1 (k _ (by simp)),zIV z.k2 (k _ (by simp))⟩
def zJ4(n:Addr)(h h':Heap):Prop:=∀c o,c≠n->c≠n+1->c≠n+3->c≠n+4->h.get? c=some o->h'.get? c=some o
end
section
variable{prog:Program}{w:World}{A:Around}{E:Value->Shared->Prop}{s:Shared}
abbrev IsZ(h:Heap)(n:Addr)(f0:Value)(f1:Bool):Prop:=h.get? (n+4)=some { cls:=.type "zip",dict:=none,data:=.fields #[f0,.bool f1,.bool false,.ref (n+2),.ref (n+3)],slots:=#[] }
def F0(f0:Value):Prop:=f0=.none\/∃T:Nat,f0=rawInt T
theorem zHA(a:Addr)(h:Heap):Heap.SameBut a h h:=⟨rfl,λ_ _=>rfl⟩
theorem zGJ{n:Addr}{f0:Value}{f1:Bool}{Q:Bool->Shared->Prop}(hz:IsZ s.heap n f0 f1)(hf:F0 f0)
  (h:∀b h' f1,IsZ h' n f0 f1->Heap.SameBut (n+4) s.heap h'->Q b { s with heap:=h' }):wpAny (model prog w) A (Builtin.SmallTypes.ownedTupleIsFree (.ref (n+4))) Q E s:=by
 unfold Builtin.SmallTypes.ownedTupleIsFree
 rcases hf with rfl|⟨T,rfl⟩
 ·exact wpAny_bind (wpAny_field hz rfl (x:=.none) rfl (wpAny_pure (h true s.heap f1 hz (zHA _ _))))
 ·refine wpAny_bind (wpAny_field hz rfl (x:=rawInt T) rfl ?_)
  show wpAny _ _ (loadIfAlive (T:Int).toNat >>= _) _ _ _
  refine wpAny_bind (zN0 ?_)
  cases e:(s.heap.get? (T:Int).toNat).isNone with
  |true=>exact wpAny_pure (h true s.heap f1 hz (zHA _ _))
  |false =>
   simp only[Bool.false_eq_true,if_false]
   refine wpAny_bind (wpAny_field hz rfl (x:=.bool f1) rfl ?_)
   cases f1 with
   |true =>
    exact wpAny_pure (h false s.heap true hz (zHA _ _))
   |false =>
    show wpAny _ _ (setField (.ref (n+4)) 1 (.bool true) >>= _) _ _ _
    exact wpAny_bind (wpAny_setField_rec hz (by simp) λh' hz' hs'=>wpAny_pure (h false h' true hz' hs'))
def zWK(n l:Addr):Prop:=l≠n/\l≠n+1/\l≠n+3/\l≠n+4
theorem zCT{h h':Heap}{a t:Addr}{its:Array Value}(k:h.IsTuple t its)(hs:Heap.SameBut a h h')(ne:t≠a):h'.IsTuple t its:=zR8 k λo e=>hs.extBut _ _ ne e
theorem zBS{h h':Heap}{a t l:Addr}{i:Nat}(k:h.IsTupleIter t l i)(hs:Heap.SameBut a h h')(ne:t≠a):h'.IsTupleIter t l i:=zIV k λo e=>hs.extBut _ _ ne e
theorem zC3{n j k:Nat}(h:j≠k):n+j≠n+k:=by lia
theorem zDT{n k:Nat}(h:k≠0):n≠n+k:=by lia
theorem zQF{n l1 l2:Addr}{i:Nat}{xs ys:Array Value}{x y:Value}{Q:Option Value->Shared->Prop}(z:ZipSt s.heap n l1 l2 i)(o1:zWK n l1)(o2:zWK n l2)
  (hl1:s.heap.IsTuple l1 xs) (hl2:s.heap.IsTuple l2 ys) (hx:xs[i]?=some x) (hy:ys[i]?=some y)
  (hQ:∀h',ZipSt h' n l1 l2 (i+1)->IsPair h' s.heap.objs.size x y->h'.objs.size=s.heap.objs.size+1->zJ4 n s.heap h'->Q (some (.ref s.heap.objs.size)) { s with heap:=h' }) :
  wpAny (model prog w) A (pyNext (.ref (n+4))) Q E s:=by
 obtain⟨f0,f1,hz,hf⟩:=z.zo
 obtain⟨a,b,hTO⟩:=z.to
 have hTI:=z.ti
 have k1:=z.k1
 have k2:=z.k2
 obtain⟨p1,p2,p3,p4⟩:=o1
 obtain⟨q1,q2,q3,q4⟩:=o2
 have hT:s.TypeIs (.ref (n+4)) "zip":=⟨_,hz,rfl⟩
 have d34:n+3≠n+4:=zC3 (by decide)
 have d24:n+2≠n+4:=zC3 (by decide)
 have d14:n+1≠n+4:=zC3 (by decide)
 have d04:n≠n+4:=zDT (by decide)
 have d13:n+1≠n+3:=zC3 (by decide)
 have d03:n≠n+3:=zDT (by decide)
 have d01:n≠n+1:=zDT (by decide)
 have d23:n+2≠n+3:=zC3 (by decide)
 have d21:n+2≠n+1:=zC3 (by decide)
 have d20:n+2≠n:=(zDT (by decide)).symm
 unfold pyNext
 refine wpAny_bind (wpAny_attempt (wpAny_callSpecial?_slot (name:=Str.ofString "__next__") hT F.slot_zip_next (wpAny_call_entry F.slot_zip_next hT F.entry_zip_next ?_ (F.args_zip_next_1 _))))
 show wpAny _ _ (field (.ref (n+4)) 2 >>= _) _ _ _
 refine wpAny_bind (wpAny_field hz rfl (x:=.bool false) rfl ?_)
 show wpAny _ _ (field (.ref (n+4)) 3 >>= _) _ _ _
 refine wpAny_bind (wpAny_field hz rfl (x:=.ref (n+2)) rfl ?_)
 refine wpAny_bind (wpAny_seqItems hTI rfl ?_)
 show wpAny _ _ (Builtin.SmallTypes.ownedTupleIsFree (.ref (n+4)) >>= _) _ _ _
 refine wpAny_bind (zGJ hz hf λfr h₀ g1 hz₀ hs₀=>?_)
 have hTO₀:IsPair h₀ (n+3) a b:=hs₀.extBut _ _ d34 hTO
 have k1₀:=zBS k1 hs₀ d04
 have k2₀:=zBS k2 hs₀ d14
 have t1₀:=zCT hl1 hs₀ p4
 have t2₀:=zCT hl2 hs₀ q4
 have hTI₀:IsPair h₀ (n+2) (.ref n) (.ref (n+1)):=hs₀.extBut _ _ d24 hTI
 cases fr with
 |true =>
  simp only[if_true]
  refine wpAny_bind (wpAny_rule ?_)
  refine wpAny_bind (wpAny_field hz₀ rfl (x:=.ref (n+3)) rfl ?_)
  refine wpAny_bind (wpAny_setField_rec hz₀ (by simp) λh₁ hz₁ hs₁=>?_)
  replace hz₁:IsZ h₁ n .ellipsis g1:=hz₁
  refine wpAny_bind ?_
  simp only[List.zipIdx_cons,List.zipIdx_nil,List.forIn_cons,List.forIn_nil]
  refine wpAny_bind (wpAny_bind (wpAny_onRaise ?_))
  show wpAny _ _ (Builtin.SmallTypes.nextOf (.ref n) >>= _) _ _ _
  refine wpAny_bind (zET (zBS k1₀ hs₁ d04) (zCT t1₀ hs₁ p4) hx λh₂ k1₂ hs₂=>wpAny_pure ?_)
  have hTO₂:IsPair h₂ (n+3) a b:=hs₂.extBut _ _ d03.symm (hs₁.extBut _ _ d34 hTO₀)
  refine wpAny_bind (wpAny_seqItems hTO₂ rfl ?_)
  refine wpAny_bind (wpAny_updateSeq_pair hTO₂ λh₃ hTO₃ hs₃=>?_)
  replace hTO₃:IsPair h₃ (n+3) x b:=hTO₃
  refine wpAny_bind (wpAny_letGo (wpAny_pure ?_))
  refine wpAny_bind (wpAny_bind (wpAny_onRaise ?_))
  show wpAny _ _ (Builtin.SmallTypes.nextOf (.ref (n+1)) >>= _) _ _ _
  refine wpAny_bind (zET (zBS (zBS (zBS k2₀ hs₁ d14) hs₂ d01.symm) hs₃ d13) (zCT (zCT (zCT t2₀ hs₁ q4) hs₂ q1) hs₃ q3) hy λh₄ k2₄ hs₄=>wpAny_pure ?_)
  have hTO₄:IsPair h₄ (n+3) x b:=hs₄.extBut _ _ d13.symm hTO₃
  refine wpAny_bind (wpAny_seqItems hTO₄ rfl ?_)
  refine wpAny_bind (wpAny_updateSeq_pair hTO₄ λh₅ hTO₅ hs₅=>?_)
  replace hTO₅:IsPair h₅ (n+3) x y:=hTO₅
  refine wpAny_bind (wpAny_letGo (wpAny_pure (wpAny_pure ?_)))
  refine wpAny_bind (wpAny_seqItems hTO₅ rfl ?_)
  refine wpAny_bind (wpAny_newTuple ?_)
  have hsz:h₅.objs.size=s.heap.objs.size:=by rw[hs₅.1,hs₄.1,hs₃.1,hs₂.1,hs₁.1,hs₀.1]
  have hz₅:IsZ h₅ n .ellipsis g1:=hs₅.extBut _ _ d34.symm (hs₄.extBut _ _ d14.symm (hs₃.extBut _ _ d34.symm (hs₂.extBut _ _ d04.symm hz₁)))
  have hk₅:∀c o,c≠n+4->c≠n+3->c≠n->c≠n+1->s.heap.get? c=some o->h₅.get? c=some o:=λc o c1 c2 c3 c4 e =>
   hs₅.extBut _ _ c2 (hs₄.extBut _ _ c4 (hs₃.extBut _ _ c2 (hs₂.extBut _ _ c3 (hs₁.extBut _ _ c1 (hs₀.extBut _ _ c1 e)))))
  have k1₅:h₅.IsTupleIter n l1 (i+1):=zBS (zBS (zBS k1₂ hs₃ d03) hs₄ d01) hs₅ d03
  have k2₅:h₅.IsTupleIter (n+1) l2 (i+1):=zBS k2₄ hs₅ d13
  have hzlt:n+4<h₅.objs.size:=Heap.lt_size hz₅
  show wpAny _ _ (Builtin.SmallTypes.ownedTupleHandOut (.ref (n+4)) (.ref h₅.objs.size) >>= _) _ _ _
  refine wpAny_bind ?_
  unfold Builtin.SmallTypes.ownedTupleHandOut
  have hz₆:IsZ (h₅.push { cls:=.type "tuple",data:=.seq #[x,y] }) n .ellipsis g1:=Heap.get?_push_of_some _ hz₅
  refine wpAny_bind (wpAny_setField_rec hz₆ (by simp) λh₇ hz₇ hs₇=>?_)
  replace hz₇:IsZ h₇ n (rawInt h₅.objs.size) g1:=hz₇
  refine wpAny_setField_rec hz₇ (by simp) λh₈ hz₈ hs₈=>?_
  replace hz₈:IsZ h₈ n (rawInt h₅.objs.size) false:=hz₈
  have up:∀c o,c≠n+4->h₅.get? c=some o->h₈.get? c=some o:=λc o c1 e=>hs₈.extBut _ _ c1 (hs₇.extBut _ _ c1 (Heap.get?_push_of_some _ e))
  have hT₈:IsPair h₈ h₅.objs.size x y:=hs₈.extBut _ _ (Nat.ne_of_gt hzlt) (hs₇.extBut _ _ (Nat.ne_of_gt hzlt) (Heap.get?_push_size _ rfl))
  have hz8:h₈.objs.size=h₅.objs.size+1:=by rw[hs₈.1,hs₇.1,Heap.size_push]
  have zs:ZipSt h₈ n l1 l2 (i+1):=⟨⟨_,_,hz₈,.inr ⟨_,rfl⟩⟩,up _ _ d24 (hk₅ _ _ d24 d23 d20 d21 hTI),⟨x,y,up _ _ d34 hTO₅⟩,zIV k1₅ λo e=>up _ o d04 e,zIV k2₅ λo e=>up _ o d14 e⟩
  rw[hsz] at hT₈ hz8
  refine wpAny_pure ⟨_,rfl,wpAny_pure ?_⟩
  show Q (some (.ref h₅.objs.size)) _
  rw[hsz]
  exact hQ h₈ zs hT₈ hz8 λc o c1 c2 c3 c4 e=>up c o c4 (hk₅ c o c4 c3 c1 c2 e)
 |false =>
  simp only[Bool.false_eq_true,if_false]
  refine wpAny_bind ?_
  rw[<-Array.forIn_toList]
  simp only[List.forIn_cons,List.forIn_nil]
  refine wpAny_bind (wpAny_bind (wpAny_holding ?_))
  show wpAny _ _ (Builtin.SmallTypes.nextOf (.ref n) >>= _) _ _ _
  refine wpAny_bind (zET k1₀ t1₀ hx λh₂ k1₂ hs₂=>wpAny_pure (wpAny_pure ?_))
  refine wpAny_bind (wpAny_bind (wpAny_holding ?_))
  show wpAny _ _ (Builtin.SmallTypes.nextOf (.ref (n+1)) >>= _) _ _ _
  refine wpAny_bind (zET (zBS k2₀ hs₂ d01.symm) (zCT t2₀ hs₂ q1) hy λh₄ k2₄ hs₄=>wpAny_pure (wpAny_pure (wpAny_pure ?_)))
  refine wpAny_bind (wpAny_newTuple (items:=[x,y]) ?_)
  have hsz:h₄.objs.size=s.heap.objs.size:=by rw[hs₄.1,hs₂.1,hs₀.1]
  have hk₄:∀c o,c≠n+4->c≠n->c≠n+1->s.heap.get? c=some o->h₄.get? c=some o:=λc o c1 c3 c4 e=>hs₄.extBut _ _ c4 (hs₂.extBut _ _ c3 (hs₀.extBut _ _ c1 e))
  have zs:ZipSt (h₄.push { cls:=.type "tuple",data:=.seq #[x,y] }) n l1 l2 (i+1):=ZipSt.keep (h:=h₄) ⟨⟨f0,g1,hs₄.extBut _ _ d14.symm (hs₂.extBut _ _ d04.symm hz₀),hf⟩,hk₄ _ _ d24 d20 d21 hTI,⟨a,b,hk₄ _ _ d34 d03.symm d13.symm hTO⟩,zBS k1₂ hs₄ d01,k2₄⟩
   λb _ o e=>Heap.get?_push_of_some _ e
  refine wpAny_pure ⟨_,rfl,wpAny_pure ?_⟩
  show Q (some (.ref h₄.objs.size)) _
  have hP:IsPair (h₄.push { cls:=.type "tuple",data:=.seq #[x,y] }) h₄.objs.size x y:=Heap.get?_push_size _ rfl
  have hs':(h₄.push { cls:=.type "tuple",data:=.seq #[x,y] }).objs.size=h₄.objs.size+1:=Heap.size_push ..
  rw[hsz] at hP hs' ⊢
  exact hQ _ zs hP hs' λc o c1 c2 c3 c4 e=>Heap.get?_push_of_some _ (hk₄ c o c4 c1 c2 e)
theorem zTJ{n l1 l2:Addr}{i:Nat}{xs ys:Array Value}{Q:Option Value->Shared->Prop}(hh:A.handled=none)(z:ZipSt s.heap n l1 l2 i)(o1:zWK n l1)(o2:zWK n l2)
  (hl1:s.heap.IsTuple l1 xs) (hl2:s.heap.IsTuple l2 ys) (hend:xs[i]?=none\/ys[i]?=none)
  (hQ:∀h',zJ4 n s.heap h'->Q none { s with heap:=h' }):wpAny (model prog w) A (pyNext (.ref (n+4))) Q E s:=by
 obtain⟨f0,f1,hz,hf⟩:=z.zo
 obtain⟨a,b,hTO⟩:=z.to
 have hTI:=z.ti
 have k1:=z.k1
 have k2:=z.k2
 obtain⟨p1,p2,p3,p4⟩:=o1
 obtain⟨q1,q2,q3,q4⟩:=o2
 have hT:s.TypeIs (.ref (n+4)) "zip":=⟨_,hz,rfl⟩
 have d34:n+3≠n+4:=zC3 (by decide)
 have d24:n+2≠n+4:=zC3 (by decide)
 have d14:n+1≠n+4:=zC3 (by decide)
 have d04:n≠n+4:=zDT (by decide)
 have d13:n+1≠n+3:=zC3 (by decide)
 have d03:n≠n+3:=zDT (by decide)
 have d01:n≠n+1:=zDT (by decide)
 have fin:∀{h':Heap} {e:Addr},(∃o,h'.get? e=some o/\o.cls=.type "StopIteration")->zJ4 n s.heap h' ->
   wpAny (model prog w) A (isInstance (.ref e) (.type "StopIteration") >>= λb=>if b=true then pure none else throw (.ref e)) Q E { s with heap:=h' }:=λ{h' e} he hk=>by
  obtain⟨o,ho,hc⟩:=he
  exact wpAny_bind (wpAny_isInstance (T:="StopIteration") (b:=true) ⟨o,ho,hc⟩ isSubtype_stop (wpAny_pure (hQ _ hk)))
 unfold pyNext
 refine wpAny_bind (wpAny_attempt (wpAny_callSpecial?_slot (name:=Str.ofString "__next__") hT F.slot_zip_next (wpAny_call_entry F.slot_zip_next hT F.entry_zip_next ?_ (F.args_zip_next_1 _))))
 show wpAny _ _ (field (.ref (n+4)) 2 >>= _) _ _ _
 refine wpAny_bind (wpAny_field hz rfl (x:=.bool false) rfl ?_)
 show wpAny _ _ (field (.ref (n+4)) 3 >>= _) _ _ _
 refine wpAny_bind (wpAny_field hz rfl (x:=.ref (n+2)) rfl ?_)
 refine wpAny_bind (wpAny_seqItems hTI rfl ?_)
 show wpAny _ _ (Builtin.SmallTypes.ownedTupleIsFree (.ref (n+4)) >>= _) _ _ _
 refine wpAny_bind (zGJ hz hf λfr h₀ g1 hz₀ hs₀=>?_)
 have hTO₀:IsPair h₀ (n+3) a b:=hs₀.extBut _ _ d34 hTO
 have k1₀:=zBS k1 hs₀ d04
 have k2₀:=zBS k2 hs₀ d14
 have t1₀:=zCT hl1 hs₀ p4
 have t2₀:=zCT hl2 hs₀ q4
 cases fr with
 |true =>
  simp only[if_true]
  refine wpAny_bind (wpAny_rule ?_)
  refine wpAny_bind (wpAny_field hz₀ rfl (x:=.ref (n+3)) rfl ?_)
  refine wpAny_bind (wpAny_setField_rec hz₀ (by simp) λh₁ hz₁ hs₁=>?_)
  replace hz₁:IsZ h₁ n .ellipsis g1:=hz₁
  refine wpAny_bind ?_
  simp only[List.zipIdx_cons,List.zipIdx_nil,List.forIn_cons,List.forIn_nil]
  refine wpAny_bind (wpAny_bind (wpAny_onRaise ?_))
  show wpAny _ _ (Builtin.SmallTypes.nextOf (.ref n) >>= _) _ _ _
  cases hx:xs[i]? with
  |none =>
   refine wpAny_bind (zG9 hh (zBS k1₀ hs₁ d04) (zCT t1₀ hs₁ p4) hx λh₂ e hs₂ he=>?_)
   obtain⟨oe,hoe,hce⟩:=he
   have hz₂:IsZ h₂ n .ellipsis g1:=hs₂ _ _ d04.symm hz₁
   have hez:e≠n+4:=λx=>by subst x;rw[hz₂] at hoe;cases hoe;simp at hce
   exact wpAny_setField_rec hz₂ (by simp) λh₃ _ hs₃=>fin ⟨oe,hs₃.extBut _ _ hez hoe,hce⟩ λc o c1 c2 c3 c4 x=>hs₃.extBut _ _ c4 (hs₂ _ _ c1 (hs₁.extBut _ _ c4 (hs₀.extBut _ _ c4 x)))
  |some x =>
   have hy:ys[i]?=none:=by rcases hend with h|h;rw[hx] at h;cases h;exact h
   refine wpAny_bind (zET (zBS k1₀ hs₁ d04) (zCT t1₀ hs₁ p4) hx λh₂ k1₂ hs₂=>wpAny_pure ?_)
   have hTO₂:IsPair h₂ (n+3) a b:=hs₂.extBut _ _ d03.symm (hs₁.extBut _ _ d34 hTO₀)
   refine wpAny_bind (wpAny_seqItems hTO₂ rfl ?_)
   refine wpAny_bind (wpAny_updateSeq_pair hTO₂ λh₃ hTO₃ hs₃=>?_)
   refine wpAny_bind (wpAny_letGo (wpAny_pure ?_))
   refine wpAny_bind (wpAny_bind (wpAny_onRaise ?_))
   show wpAny _ _ (Builtin.SmallTypes.nextOf (.ref (n+1)) >>= _) _ _ _
   refine wpAny_bind (zG9 hh (zBS (zBS (zBS k2₀ hs₁ d14) hs₂ d01.symm) hs₃ d13) (zCT (zCT (zCT t2₀ hs₁ q4) hs₂ q1) hs₃ q3) hy λh₄ e hs₄ he=>?_)
   obtain⟨oe,hoe,hce⟩:=he
   have hz₄:IsZ h₄ n .ellipsis g1:=hs₄ _ _ d14.symm (hs₃.extBut _ _ d34.symm (hs₂.extBut _ _ d04.symm hz₁))
   have hez:e≠n+4:=λx=>by subst x;rw[hz₄] at hoe;cases hoe;simp at hce
   exact wpAny_setField_rec hz₄ (by simp) λh₅ _ hs₅=>fin ⟨oe,hs₅.extBut _ _ hez hoe,hce⟩ λc o c1 c2 c3 c4 x=>hs₅.extBut _ _ c4 (hs₄ _ _ c2 (hs₃.extBut _ _ c3 (hs₂.extBut _ _ c1 (hs₁.extBut _ _ c4 (hs₀.extBut _ _ c4 x)))))
 |false =>
  simp only[Bool.false_eq_true,if_false]
  refine wpAny_bind ?_
  rw[<-Array.forIn_toList]
  simp only[List.forIn_cons,List.forIn_nil]
  refine wpAny_bind (wpAny_bind (wpAny_holding ?_))
  show wpAny _ _ (Builtin.SmallTypes.nextOf (.ref n) >>= _) _ _ _
  cases hx:xs[i]? with
  |none =>
   refine wpAny_bind (zG9 hh k1₀ t1₀ hx λh₂ e hs₂ he=>?_)
   exact fin he λc o c1 c2 c3 c4 x=>hs₂ _ _ c1 (hs₀.extBut _ _ c4 x)
  |some x =>
   have hy:ys[i]?=none:=by rcases hend with h|h;rw[hx] at h;cases h;exact h
   refine wpAny_bind (zET k1₀ t1₀ hx λh₂ k1₂ hs₂=>wpAny_pure (wpAny_pure ?_))
   refine wpAny_bind (wpAny_bind (wpAny_holding ?_))
   show wpAny _ _ (Builtin.SmallTypes.nextOf (.ref (n+1)) >>= _) _ _ _
   refine wpAny_bind (zG9 hh (zBS k2₀ hs₂ d01.symm) (zCT t2₀ hs₂ q1) hy λh₄ e hs₄ he=>?_)
   exact fin he λc o c1 c2 c3 c4 x=>hs₄ _ _ c2 (hs₂.extBut _ _ c1 (hs₀.extBut _ _ c4 x))
end
section
variable{X:Cx}{pins:List (Addr×Obj)}{σ:St}{H:Hp}{s:Shared}{h':Heap}
theorem Inv.turnedL{t':Nat}{fp:List Addr}(I:Inv X pins σ H s)(hf:∀b∈fp,FpOk X pins H b)(k:∀b o,b∉fp->s.heap.get? b=some o->h'.get? b=some o):Inv X pins σ H { s with heap:=h',toks:=t' }:=by
 have nit:∀b u,H b=some u->b∉fp:=λb u e z=>by rw[(hf b z).1] at e;cases e
 refine I.step (g':=s.gens) (d':=s.drawn) (ch:=fp) (λb hb=>?_) (λb o _ _ hc e _=>k b o hc e) (λb o _ _ hc e _=>⟨o.slots,k b o hc e⟩) (λ_ _ _ _ n=>n)
  (λb o hc e=>⟨o,k b o hc e⟩) (λ_ _ e=>e) (λ_ _ _ e=>e) (λb t ps e=>⟨#[],by rw[e];simp⟩) (λm hm=>?_) (λb u e=>?_) I.bare
 ·obtain⟨f0,f1,f2,f3,f4,f5⟩:=hf b hb
  exact⟨f3,f1,f4,f5⟩
 ·obtain⟨o,es,ep,ho,r⟩:=hm
  exact⟨o,es,ep,k _ o (λz=>(hf _ z).2.1 rfl) ho,r⟩
 ·refine(I.hok b u e).stay (λc v hc q=>k c v ?_ q) (λ_ q=>q) (λ_ _ q=>q) λ_ _ _ q=>q
  rcases hc with z|z
  ·rw[z];exact nit b u e
  ·exact nit c _ z
theorem FpOk.off{a:Addr}{fp:List Addr}{xs:List V}(I:Inv X pins σ H s)(hf:∀b∈fp,FpOk X pins H b)(h:SqT X.K H a xs):a∉fp:=λz=>by
 obtain⟨f0,f1,f2,f3,f4,f5⟩:=hf a z
 rcases h with h|⟨o,its,n,hk,_⟩
 ·rcases h with h|⟨o,h⟩
  ·rw[f0] at h;cases h
  ·rw[f0] at h;cases h
 ·have hb:=I.ok.mod.kin a o hk
  rcases f3 with f3|f3
  ·exact I.ok.noex a o hb f3
  ·exact absurd (Nat.lt_of_lt_of_le (Heap.lt_size hb) I.ok.bsz) (Nat.not_lt.mpr f3)
end
section
variable{prog:Program}{w:World}{A:Around}{E:Value->Shared->Prop}{s:Shared}
theorem zWL {n l1 l2 : Addr} {i : Nat} {tg : Expr} {u : Value} {Q : Unit → Shared → Prop} (z : ZipSt s.heap n l1 l2 i) (h : ∀ h', ZipSt h' n l1 l2 i → Heap.SameBut (n + 4) s.heap h' → Q () { s with heap := h' }) :
    wpAny (model prog w) A (letOwnedTupleGo tg (.ref (n + 4)) u) Q E s := by
  have hz := h s.heap z (zHA _ _)
  obtain ⟨f0, f1, e, hf⟩ := id z.zo
  unfold letOwnedTupleGo
  cases tg <;> first
    | exact wpAny_pure hz
    | (cases u <;> first
        | exact wpAny_pure hz
        | (refine wpAny_bind (wpAny_load e ?_)
           dsimp only
           split
           · refine wpAny_bind (wpAny_rule ?_)
             show wpAny _ _ (setField (.ref (n + 4)) 0 .none) Q E s
             refine wpAny_setField_rec e (by simp) fun h' hz' hs' => h h' ?_ hs'
             obtain ⟨a, b, hTO⟩ := z.to
             exact ⟨⟨.none, f1, hz', .inl rfl⟩, hs'.extBut _ _ (zC3 (by decide)) z.ti, ⟨a, b, hs'.extBut _ _ (zC3 (by decide)) hTO⟩, zBS z.k1 hs' (zDT (by decide)), zBS z.k2 hs' (zC3 (by decide))⟩
           · exact wpAny_pure hz))
theorem zK6{n l1 l2:Addr}{i:Nat}{Q:Value->Shared->Prop}(z:ZipSt s.heap n l1 l2 i)(h:Q (.ref (n+4)) s):wpAny (model prog w) A (pyIter (.ref (n+4))) Q E s:=by
 obtain⟨f0,f1,e,hf⟩:=z.zo
 have hT:s.TypeIs (.ref (n+4)) "zip":=⟨_,e,rfl⟩
 refine wpAny_pyIter_slot hT F.slot_zip_iter (wpAny_call_entry F.slot_zip_iter hT F.entry_zip_iter ?_ (F.args_zip_iter_1 _))
 show wpAny _ _ (ret (.ref (n+4))) _ _ s
 exact wpAny_pure ⟨_,rfl,"zip",_,hT,F.slot_zip_next.lookup,h⟩
noncomputable abbrev zH1(h:Heap)(l1:Addr):Heap:=h.push { cls:=.type "tuple_iterator",data:=.fields #[.ref l1,.int 0 0] }
noncomputable abbrev zH2(h:Heap)(l1 l2:Addr):Heap:=(zH1 h l1).push { cls:=.type "tuple_iterator",data:=.fields #[.ref l2,.int 0 0] }
noncomputable abbrev zH3(h:Heap)(l1 l2:Addr):Heap:=(zH2 h l1 l2).push { cls:=.type "tuple",data:=.seq #[.ref h.objs.size,.ref (zH1 h l1).objs.size] }
noncomputable abbrev zH4(h:Heap)(l1 l2:Addr):Heap:=(zH3 h l1 l2).push { cls:=.type "tuple",data:=.seq #[.none,.none] }
noncomputable abbrev zH5(h:Heap)(l1 l2:Addr):Heap:=(zH4 h l1 l2).push { cls:=.type "zip",data:=.fields #[.none,.bool false,.bool false,.ref (zH2 h l1 l2).objs.size,.ref (zH3 h l1 l2).objs.size] }
theorem zMH(l1 l2:Addr)(xs ys:Array Value) :
  Meets (Builtin.«zip.__new__» ⟨[.type "zip",.ref l1,.ref l2],[]⟩) (λ_ R s=>s.heap.IsTuple l1 xs/\s.heap.IsTuple l2 ys /\
   R (.ok (.ret (.ref (zH4 s.heap l1 l2).objs.size))) { s with heap:=zH5 s.heap l1 l2 }) :=
 .of_wp λprog w A R s h=>by
  obtain⟨hp,g,d,tk,os⟩:=s;obtain⟨hl1,hl2,h⟩:=h
  have hsub:=sub_zip
  have hL1:Heap.IsTuple (Shared.heap ⟨hp,g,d,tk,os⟩) l1 xs:=hl1
  have hL2:Heap.IsTuple (Shared.heap ⟨hp.push { cls:=.type "tuple_iterator",data:=.fields #[.ref l1,.int 0 0] },g,d,tk,os⟩) l2 ys:=zR8 hl2 λo e=>Heap.get?_push_of_some _ e
  wp_walk using wpAny_pyIter_tuple hL1,wpAny_pyIter_tuple hL2
  exact⟨_,rfl,h⟩
theorem zN1{l1 l2:Addr}{xs ys:Array Value}{Q:Value->Shared->Prop}(hl1:s.heap.IsTuple l1 xs)(hl2:s.heap.IsTuple l2 ys)
  (h:∀h',ZipSt h' s.heap.objs.size l1 l2 0->h'.objs.size=s.heap.objs.size+5->(∀c o,s.heap.get? c=some o->h'.get? c=some o)->Q (.ref (s.heap.objs.size+4)) { s with heap:=h' }) :
  wpAny (model prog w) A (call (.type "zip") [.ref l1,.ref l2]) Q E s:=by
 refine callType_new F.called_zip (by decide) (F.typeCall_zip_2 _ _) (F.newCall_zip_2 _ _) (λobj=>F.args_object_init_3 obj _ _) F.entry_zip_new
  (zMH l1 l2 xs ys) ⟨hl1,hl2,?_⟩
 have z1:(zH1 s.heap l1).objs.size=s.heap.objs.size+1:=Heap.size_push ..
 have z2:(zH2 s.heap l1 l2).objs.size=s.heap.objs.size+2:=by rw[Heap.size_push,z1]
 have z3:(zH3 s.heap l1 l2).objs.size=s.heap.objs.size+3:=by rw[Heap.size_push,z2]
 have z4:(zH4 s.heap l1 l2).objs.size=s.heap.objs.size+4:=by rw[Heap.size_push,z3]
 have z5:(zH5 s.heap l1 l2).objs.size=s.heap.objs.size+5:=by rw[Heap.size_push,z4]
 have g5:(zH5 s.heap l1 l2).get? (zH4 s.heap l1 l2).objs.size=some _:=Heap.get?_push_size _ rfl
 have g4:(zH5 s.heap l1 l2).get? (zH3 s.heap l1 l2).objs.size=some _:=Heap.get?_push_of_some _ (Heap.get?_push_size _ rfl)
 have g3:(zH5 s.heap l1 l2).get? (zH2 s.heap l1 l2).objs.size=some _:=Heap.get?_push_of_some _ (Heap.get?_push_of_some _ (Heap.get?_push_size _ rfl))
 have g2:(zH5 s.heap l1 l2).get? (zH1 s.heap l1).objs.size=some _:=Heap.get?_push_of_some _ (Heap.get?_push_of_some _ (Heap.get?_push_of_some _ (Heap.get?_push_size _ rfl)))
 have g1:(zH5 s.heap l1 l2).get? s.heap.objs.size=some _:=Heap.get?_push_of_some _ (Heap.get?_push_of_some _ (Heap.get?_push_of_some _ (Heap.get?_push_of_some _ (Heap.get?_push_size _ rfl))))
 show _/\_
 rw[z2,z3,z4] at g5
 rw[z1,z2] at g3
 rw[z3] at g4
 rw[z1] at g2
 rw[z4]
 exact⟨⟨_,g5,rfl⟩,h _ ⟨⟨.none,false,g5,.inl rfl⟩,g3,⟨_,_,g4⟩,⟨_,g1,rfl,rfl⟩,⟨_,g2,rfl,rfl⟩⟩ z5 λc o x =>
  Heap.get?_push_of_some _ (Heap.get?_push_of_some _ (Heap.get?_push_of_some _ (Heap.get?_push_of_some _ (Heap.get?_push_of_some _ x))))⟩
end
noncomputable def Itz (K : PySem.W.Frag) (a b : Addr) : It :=
  ⟨fun i H => ∃ xs ys x y, SqT K H a xs ∧ SqT K H b ys ∧ xs[i]? = some x ∧ ys[i]? = some y,
   fun i H v H' => ∃ p x y, v = .ref p ∧ H p = none ∧ H' = upd H p (.tup [x, y]) ∧ (∀ xs, SqT K H a xs → xs[i]? = some x) ∧ (∀ ys, SqT K H b ys → ys[i]? = some y),
   fun i H => ∃ xs ys, SqT K H a xs ∧ SqT K H b ys ∧ (xs.length ≤ i ∨ ys.length ≤ i)⟩
noncomputable abbrev fpZ(n:Addr):List Addr:=[n,n+1,n+2,n+3,n+4]
theorem lt5{n c S:Nat}(h:c∈[n,n+1,n+2,n+3,n+4])(hlt:n+4<S):c<S:=by
 simp only[List.mem_cons,List.not_mem_nil,or_false] at h
 lia
theorem ge5{n c:Nat}(h:c∈[n,n+1,n+2,n+3,n+4]):n<=c:=by
 simp only[List.mem_cons,List.not_mem_nil,or_false] at h
 lia
theorem zVB{n a:Addr}(h:a∉fpZ n):zWK n a:=by
 simp only[fpZ,List.mem_cons,List.not_mem_nil,or_false,not_or] at h
 exact⟨h.1,h.2.1,h.2.2.2.1,h.2.2.2.2⟩
theorem zQG{P:Program}{w:World}{K:PySem.W.Frag}{tg:Expr}(a b n:Addr):Turn P w K tg (Itz K a b) (fpZ n) (n+4) (λi h=>ZipSt h n a b i) where
 mem:=by simp
 obj:=λi h st c hc=>by
  obtain⟨f0,f1,e,_⟩:=st.zo
  obtain⟨u,v,e3⟩:=st.to
  obtain⟨o0,e0,_,d0⟩:=st.k1
  obtain⟨o1,e1,_,d1⟩:=st.k2
  simp only[fpZ,List.mem_cons,List.not_mem_nil,or_false] at hc
  rcases hc with rfl|rfl|rfl|rfl|rfl
  ·exact⟨_,e0,λv z=>by rw[d0] at z;cases z⟩
  ·exact⟨_,e1,λv z=>by rw[d1] at z;cases z⟩
  ·exact⟨_,st.ti,λv z=>by have z':Data.seq _ _=Data.cell v:=z;cases z'⟩
  ·exact⟨_,e3,λv z=>by have z':Data.seq _ _=Data.cell v:=z;cases z'⟩
  ·exact⟨_,e,λv z=>by have z':Data.fields _=Data.cell v:=z;cases z'⟩
 keep:=λi h h' st k=>st.keep k
 item:=by
  intro X hP hw hK hc i pins s σ H E I hf st hg
  subst hP hw hK
  obtain⟨xs,ys,x,y,hq1,hq2,hx,hy⟩:=hg
  obtain⟨its1,rv1,p1,hz1⟩:=I.tuple hq1
  obtain⟨its2,rv2,p2,hz2⟩:=I.tuple hq2
  obtain⟨u1,hu1,ru1⟩:=rv1.get hx
  obtain⟨u2,hu2,ru2⟩:=rv2.get hy
  refine zQF st (zVB (FpOk.off I hf hq1)) (zVB (FpOk.off I hf hq2)) (show s.heap.IsTuple a its1.toArray from p1) (show s.heap.IsTuple b its2.toArray from p2) (x:=u1) (y:=u2) (by simpa using hu1) (by simpa using hu2) λh' st' hp hsz hk=>?_
  refine⟨_,rfl,zWL (s:={ s with heap:=h' }) st' λh2 st2 hs2=>?_⟩
  obtain⟨f0,f1,e4,_⟩:=id st.zo
  have hlt:∀c∈fpZ n,c<s.heap.objs.size:=λc hc=>lt5 hc (Heap.lt_size e4)
  have nin:s.heap.objs.size∉fpZ n:=λz=>Nat.lt_irrefl _ (hlt _ z)
  have I1:Inv X pins σ (upd H s.heap.objs.size (.tup [x,y])) { s with heap:=s.heap.push { cls:=.type "tuple",data:=.seq #[u1,u2] } } :=
   I.laid (t':=s.toks) (λb u e=>Heap.get?_push_of_some _ e) (Nat.le_refl _) ⟨by show 2<=sizeLine;decide,[u1,u2],.cons ru1 (.cons ru2 .nil),⟨_,Heap.get?_push_size _ rfl,rfl,rfl,0,rfl⟩⟩
  have hf1:∀c∈fpZ n,FpOk X pins (upd H s.heap.objs.size (.tup [x,y])) c:=λc hc=>⟨by rw[zAL (Nat.ne_of_lt (hlt c hc))];exact(hf c hc).1,(hf c hc).2⟩
  have n4:n+4∈fpZ n:=by simp
  have I2:Inv X pins σ (upd H s.heap.objs.size (.tup [x,y])) { s with heap:=h2 }:=I1.turnedL (t':=s.toks) hf1 λc o hc e=>by
   have c4:c≠n+4:=λz=>hc (by rw[z];exact n4)
   refine hs2.extBut _ _ c4 ?_
   by_cases hcs:c=s.heap.objs.size
   ·subst hcs
    rw[Heap.get?_push_size _ rfl] at e
    cases e
    exact hp
   ·have e':s.heap.get? c=some o:=by
     rw[Heap.get?_push_ne _ _ _ hcs] at e
     exact e
    obtain⟨q0,q1,q3,q4⟩:=zVB hc
    exact hk c o q0 q1 q3 q4 e'
  exact⟨.ref s.heap.objs.size,_,I2,rfl,⟨_,x,y,rfl,I.fresh,rfl,λzs hz=>by rw[I.tuple_inj hz hq1];exact hx,λzs hz=>by rw[I.tuple_inj hz hq2];exact hy⟩,st2,λc hc=>(hf1 c hc).1⟩
 done:=by
  intro X hP hw hK hc i pins s σ H E I hf st hg
  subst hP hw hK
  obtain⟨xs,ys,hq1,hq2,hx⟩:=hg
  obtain⟨its1,rv1,p1,hz1⟩:=I.tuple hq1
  obtain⟨its2,rv2,p2,hz2⟩:=I.tuple hq2
  have l1:=rv1.length
  have l2:=rv2.length
  refine zTJ (I.ok.hd hc) st (zVB (FpOk.off I hf hq1)) (zVB (FpOk.off I hf hq2)) (show s.heap.IsTuple a its1.toArray from p1) (show s.heap.IsTuple b its2.toArray from p2) (hx.imp (λh=>by simp;lia) (λh=>by simp;lia)) λh' hk=>⟨rfl,I.turnedL (t':=s.toks) hf λc o hc e=>?_⟩
  obtain⟨q0,q1,q3,q4⟩:=zVB hc
  exact hk c o q0 q1 q3 q4 e
 self:=λ_ _ _ _ _ st h=>zK6 st h
section
variable{X:Cx}{tg:Expr}
def yAZ(K:PySem.W.Frag)(ta:TA):TI:=λσ H R=>ta σ H λvs H1=>∃a b,vs=[.ref a,.ref b]/\(∃xs,SqT K H1 a xs)/\(∃ys,SqT K H1 b ys)/\R (Itz K a b) H1
theorem zWM{a b:Expr}{ta:TA}{p pos:Pos}(hg:Gl X "zip")(hm:X.mg "zip"=none)(ha:PA X [a,b] ta)(hs:starEach [a,b] X.env=[(false,eval a X.env),(false,eval b X.env)]:=by rfl)(hs2:starEach [b] X.env=[(false,eval b X.env)]:=by rfl) :
  PI X tg (.Call (.Name "zip" p) [a,b] [] pos) (yAZ X.K ta):=by
 intro pins s σ H R I h
 refine Call_ (zGF I hg hm (u:=.type "zip") (by decide +kernel) (PyProof.Rows.callWith_type1 (thn (ha pos pins s σ H _ I h) λus s1 ⟨vs,H1,I1,r1,q1⟩=>?_) (by rw[hs,hs2]) (by rw[hs2];rfl)))
 obtain⟨c,d,e,⟨xs,hq1⟩,⟨ys,hq2⟩,q⟩:=q1
 subst e
 cases r1 with
 |cons r rr =>
  cases rr with
  |cons r' rr =>
   cases rr
   cases r
   cases r'
   obtain⟨its1,rv1,p1,hz1⟩:=I1.tuple hq1
   obtain⟨its2,rv2,p2,hz2⟩:=I1.tuple hq2
   refine zN1 (show s1.heap.IsTuple c its1.toArray from p1) (show s1.heap.IsTuple d its2.toArray from p2) λh' st hsz k=>?_
   refine zK6 (s:={ s1 with heap:=h' }) st ?_
   refine⟨s1.heap.objs.size+4,fpZ s1.heap.objs.size,_,_,H1,rfl,I1.kept (t':=s1.toks) k,zQG c d _,st,λb hb=>?_,q⟩
   exact I1.fpOk (ge5 hb) (I1.hok.fresh (ge5 hb))
end
mutual
inductive DV(K:PySem.W.Frag)(H:Hp):V->PyData->Prop
 |non:DV K H .non .none
 |bl (b:Bool):DV K H (.bl b) (.bool b)
 |int (i:Int):DV K H (.int i) (.int i)
 |str (x:Str):PyData.canLay0 (.str x)=true->DV K H (.str x) (.str x)
 |tup {a:Addr} {xs:List V} {ds:List PyData}:SqT K H a xs->DVs K H xs ds->DV K H (.ref a) (.tuple ds)
 |lst {a:Addr} {xs:List V} {ds:List PyData}:SqL K H a xs->DVs K H xs ds->DV K H (.ref a) (.list ds)
inductive DVs(K:PySem.W.Frag)(H:Hp):List V->List PyData->Prop
 |nil:DVs K H [] []
 |cons {x:V} {d:PyData} {xs:List V} {ds:List PyData}:DV K H x d->DVs K H xs ds->DVs K H (x::xs) (d::ds)
end
mutual
theorem DV.can{K:PySem.W.Frag}{H:Hp}:∀{v:V} {d:PyData},DV K H v d->d.canLay0=true
 |_,_,.non=>rfl
 |_,_,.bl _=>rfl
 |_,_,.int _=>rfl
 |_,_,.str _ h=>h
 |_,_,.tup _ h=>by rw[PyData.canLay0];exact DVs.can h
 |_,_,.lst _ h=>by rw[PyData.canLay0];exact DVs.can h
theorem DVs.can{K:PySem.W.Frag}{H:Hp}:∀{v:List V} {d:List PyData},DVs K H v d->PyData.canLayAll0 d=true
 |_,_,.nil=>rfl
 |_,_,.cons h t=>by rw[PyData.canLayAll0,DV.can h,DVs.can t];rfl
end
section
variable{X:Cx}{pins:List (Addr×Obj)}{σ:St}{H:Hp}{s:Shared}
mutual
theorem DV.reads(I:Inv X pins σ H s):∀{v:V} {d:PyData},DV X.K H v d->∀{u:Value},RelV v u->∃as,Reads s.heap u d as
 |_,_,.non,_,r=>by cases r;exact⟨_,.none⟩
 |_,_,.bl b,_,r=>by cases r;exact⟨_,.bool b⟩
 |_,_,.int i,_,r=>by obtain⟨t,rfl⟩:=r;exact⟨_,.int i t⟩
 |_,_,.str x _,_,r=>by obtain⟨t,rfl⟩:=r;exact⟨_,.str x t⟩
 |_,_,.tup hq h,_,r=>by
  cases r
  obtain⟨its,rv,⟨o,ho,hc,n,hd⟩,hz⟩:=I.tuple hq
  obtain⟨as,ra⟩:=DVs.reads I h rv
  exact⟨as,.tuple ho hc hd (by simpa using ra)⟩
 |_,_,.lst hq h,_,r=>by
  cases r
  obtain⟨its,rv,pl,hz⟩:=I.list hq
  obtain⟨o,ho,hc,n,hd⟩:=pl.isList
  obtain⟨as,ra⟩:=DVs.reads I h rv
  exact⟨_,.list ho hc hd (by simpa using ra)⟩
theorem DVs.reads(I:Inv X pins σ H s):∀{v:List V} {d:List PyData},DVs X.K H v d->∀{u:List Value},Vals v u->∃as,ReadsAll s.heap u d as
 |_,_,.nil,_,r=>by cases r;exact⟨_,.nil⟩
 |_,_,.cons h t,_,r=>by
  cases r with
  |cons r1 r2 =>
   obtain⟨as,ra⟩:=DV.reads I h r1
   obtain⟨bs,rb⟩:=DVs.reads I t r2
   exact⟨_,.cons ra rb⟩
end
def zX3(K:PySem.W.Frag)(neg:Bool):R2:=λx y H Q=>∃d e,DV K H x d/\DV K H y e/\min d.depth e.depth<=60/\Q (.bl (if neg then !PyData.eqv d e else PyData.eqv d e)) H
theorem zR9(hu:X.A.units+64<cLine):OpR X (compareOp .Eq) (zX3 X.K false):=by
 intro pins s σ H x y v u Q I rx ry h
 obtain⟨d,e,hd,he,hm,q⟩:=h
 obtain⟨as,ra⟩:=hd.reads I rx
 obtain⟨bs,rb⟩:=he.reads I ry
 exact SeqAt.compareEq_reads ra rb hd.can he.can (by lia) ⟨.bl _,H,I,rfl,q⟩
theorem zSA(hu:X.A.units+64<cLine):OpR X (compareOp .NotEq) (zX3 X.K true):=by
 intro pins s σ H x y v u Q I rx ry h
 obtain⟨d,e,hd,he,hm,q⟩:=h
 obtain⟨as,ra⟩:=hd.reads I rx
 obtain⟨bs,rb⟩:=he.reads I ry
 exact SeqAt.compareNe_reads ra rb hd.can he.can (by lia) ⟨.bl _,H,I,rfl,q⟩
end
def Gr(H H':Hp):Prop:=∀b u,H b=some u->H' b=some u
theorem Gr.trans{H H1 H2:Hp}(g:Gr H H1)(g':Gr H1 H2):Gr H H2:=λb u e=>g' b u (g b u e)
theorem Gr.new{H:Hp}{p:Addr}{o:HO}(hp:H p=none):Gr H (upd H p o):=λb u e=>by rw[zAL (zBY e hp)];exact e
section
variable{prog:Program}{w:World}{A:Around}{E:Value->Shared->Prop}{s:Shared}
theorem zD9{t sl:Addr}{items:Array Value}{vl vu:Value}{lo hi:Option Int}{Q:Value->Shared->Prop}(ht:IsTup s.heap t items)(hs:s.heap.IsSliceOf sl vl vu .none)(pl:IsPart vl lo)(pu:IsPart vu hi)
  (hw:HT.sIx items.size 0 lo=0/\HT.sIx items.size items.size hi=items.size) (h:Q (.ref t) s):wpAny (model prog w) A (getItem (.ref t) (.ref sl)) Q E s:=by
 obtain⟨os,hos,hcs,hds⟩:=id hs
 have hTs:s.TypeIs (.ref sl) "slice":=⟨os,hos,hcs⟩
 unfold getItem
 try with_reducible refine wpAny_holding ?_
 first|refine wpAny_bind (wpAny_pure ?_)|skip
 refine wpAny_bind (wpAny_sequenceKey ht.typeIs (by decide) ?_)
 refine wpAny_bind (wpAny_callSpecial?_slot (name:=Str.ofString "__getitem__") ht.typeIs PyProof.Rows.slot_tuple_getitem
  (wpAny_call_entry PyProof.Rows.slot_tuple_getitem ht.typeIs entry_tuple_getitem ?_ (args_tuple_getitem _ _)))
 show wpAny _ _ (Builtin.Tuple.tupleItemsOf (.ref t) >>= _) _ _ s
 refine wpAny_bind (tupleItemsOf_ ht ?_)
 refine wpAny_bind (wpAny_typeOf hTs ?_)
 rw[if_pos (by decide)]
 refine wpAny_bind (HT.sliceApplied_gen hs pl pu ?_)
 rw[hw.1,hw.2]
 have e:(((0:Nat):Int)==0&&(1:Int)==1&&(items.size-0)==items.size)=true:=by simp
 show wpAny _ _ (if(((0:Nat):Int)==0&&(1:Int)==1&&(items.size-0)==items.size)=true then _ else _) _ _ s
 rw[if_pos e]
 show wpAny _ _ (Builtin.Tuple.tupleIsExact (.ref t) >>= _) _ _ s
 unfold Builtin.Tuple.tupleIsExact
 refine wpAny_bind (wpAny_bind (wpAny_typeOf ht.typeIs (wpAny_pure ?_)))
 show wpAny _ _ (if(Value.type "tuple"==Value.type "tuple")=true then _ else _) _ _ s
 rw[if_pos (by decide)]
 exact wpAny_bind (wpAny_rule (wpAny_pure ⟨_,rfl,wpAny_pure h⟩))
theorem zQH(xs:List Value):((List.range xs.length).filterMap λ(m:Nat)=>xs.toArray[(((xs.length:Int)-1)+(m:Int) * (-1)).toNat]?)=xs.reverse:=by
 have e:∀m∈List.range xs.length,xs.toArray[(((xs.length:Int)-1)+(m:Int) * (-1)).toNat]?=xs.reverse[m]?:=λm hm=>by
  have hm:=List.mem_range.mp hm
  have:(((xs.length:Int)-1)+(m:Int) * (-1)).toNat=xs.length-1-m:=by lia
  rw[this,List.getElem?_reverse hm]
  simp
 have cg:∀(l:List Nat) (f g:Nat->Option Value),(∀m∈l,f m=g m)->l.filterMap f=l.filterMap g:=by
  intro l f g
  induction l with
  |nil=>intro _;rfl
  |cons x l ih=>intro h;rw[List.filterMap_cons,List.filterMap_cons,h x List.mem_cons_self,ih λm hm=>h m (List.mem_cons_of_mem _ hm)]
 rw[cg _ _ _ e]
 have key:∀(ys:List Value) (n:Nat),n=ys.length->(List.range n).filterMap (λm=>ys[m]?)=ys:=by
  intro ys n hn
  subst hn
  apply List.ext_getElem?
  intro i
  have:(List.range ys.length).filterMap (λm=>ys[m]?)=ys:=by
   have h1:(List.range ys.length).map (λm=>ys[m]?)=ys.map some:=by
    apply List.ext_getElem?
    intro j
    by_cases hj:j<ys.length
    ·simp[hj]
    ·simp[hj]
   have h2:=congrArg (λl=>l.filterMap id) h1
   simpa[List.filterMap_map,Function.comp_def] using h2
  rw[this]
 exact key _ _ (by simp)
theorem places_rev(n:Nat):Builtin.Slice.slicePlaces ((n:Int)-1) (-1) (-1)=n:=by
 unfold Builtin.Slice.slicePlaces
 have h1:¬((-1:Int)>0):=by decide
 simp only[h1,if_false,Int.neg_neg,Int.ediv_one]
 split<;>lia
theorem getItem_tuple_rev{t sl:Addr}{vs:List Value}{tk:Tok}{Q:Value->Shared->Prop}(ht:IsTup s.heap t vs.toArray)(hs:s.heap.IsSliceOf sl .none .none (.int (-1) tk))
  (h:Q (.ref s.heap.objs.size) { s with heap:=s.heap.push { cls:=.type "tuple",data:=.seq vs.reverse.toArray } }) (hsz:vs.length<=sizeLine):wpAny (model prog w) A (getItem (.ref t) (.ref sl)) Q E s:=by
 obtain⟨os,hos,hcs,hds⟩:=id hs
 have hTs:s.TypeIs (.ref sl) "slice":=⟨os,hos,hcs⟩
 unfold getItem
 try with_reducible refine wpAny_holding ?_
 first|refine wpAny_bind (wpAny_pure ?_)|skip
 refine wpAny_bind (wpAny_sequenceKey ht.typeIs (by decide) ?_)
 refine wpAny_bind (wpAny_callSpecial?_slot (name:=Str.ofString "__getitem__") ht.typeIs PyProof.Rows.slot_tuple_getitem
  (wpAny_call_entry PyProof.Rows.slot_tuple_getitem ht.typeIs entry_tuple_getitem ?_ (args_tuple_getitem _ _)))
 show wpAny _ _ (Builtin.Tuple.tupleItemsOf (.ref t) >>= _) _ _ s
 refine wpAny_bind (tupleItemsOf_ ht ?_)
 refine wpAny_bind (wpAny_typeOf hTs ?_)
 rw[if_pos (by decide)]
 refine wpAny_bind (m:=Builtin.Slice.sliceApplied (.ref sl) (pure (vs.toArray.size:Int))) ?_
 unfold Builtin.Slice.sliceApplied Builtin.Slice.sliceFields
 refine wpAny_bind (wpAny_bind (wpAny_field hos hds (x:=.none) rfl (wpAny_bind (wpAny_field hos hds (x:=.none) rfl (wpAny_bind (wpAny_field hos hds (x:=.int (-1) tk) rfl (wpAny_pure ?_)))))))
 refine wpAny_bind (HT.slicePart_ (.int (-1) tk) ?_)
 show wpAny _ _ (if((-1:Int)==0)=true then _ else _) _ _ s
 rw[if_neg (by decide)]
 refine wpAny_bind (HT.slicePart_ .none (wpAny_bind (HT.slicePart_ .none (wpAny_bind (wpAny_pure ?_)))))
 show wpAny _ _ (pure (((vs.toArray.size:Nat):Int)-1,(-1:Int),Builtin.Slice.slicePlaces (((vs.toArray.size:Nat):Int)-1) (-1) (-1))) _ _ s
 rw[places_rev]
 refine wpAny_pure ?_
 have e:¬((((vs.toArray.size:Int)-1)==0&&(-1:Int)==1&&vs.toArray.size==vs.toArray.size)=true):=by
  intro q
  rw[Bool.and_eq_true,Bool.and_eq_true] at q
  exact absurd (eq_of_beq q.1.2) (by decide)
 show wpAny _ _ (if(((vs.toArray.size:Int)-1)==0&&(-1:Int)==1&&vs.toArray.size==vs.toArray.size)=true then _ else _) _ _ s
 rw[if_neg e]
 simp only[List.size_toArray]
 rw[zQH vs]
 have htake:sizeOk (.seq vs.reverse.toArray):=by
  show vs.reverse.toArray.size<=sizeLine
  rw[List.size_toArray,List.length_reverse]
  exact hsz
 first
  |exact wpAny_bind (m:=Builtin.Tuple.tupleExact _) (wpAny_newObj_type (wpAny_pure ⟨_,rfl,wpAny_pure h⟩) htake)
  |exact wpAny_bind (m:=Builtin.Tuple.tupleExact _) (wpAny_newObj_type (wpAny_bind (wpAny_pure (wpAny_pure ⟨_,rfl,wpAny_pure h⟩))) htake)
  |exact wpAny_bind (wpAny_bind (m:=Builtin.Tuple.tupleExact _) (wpAny_newObj_type (wpAny_pure (wpAny_pure ⟨_,rfl,wpAny_pure h⟩)) htake))
  |exact wpAny_bind (wpAny_bind (m:=Builtin.Tuple.tupleExact _) (wpAny_newObj_type (wpAny_pure ⟨_,rfl,wpAny_pure h⟩) htake))
theorem zTK{t b:Addr}{vs ws:List Value}{Q:Value->Shared->Prop}(ht:IsTup s.heap t vs.toArray)(hb:IsTup s.heap b ws.toArray)
  (h0:vs=[]->Q (.ref b) s) (h1:vs≠[]->ws=[]->Q (.ref t) s) (h2:vs≠[]->ws≠[]->Q (.ref s.heap.objs.size) { s with heap:=s.heap.push { cls:=.type "tuple",data:=.seq (vs++ws).toArray } })
  (hsz:vs.length+ws.length<=sizeLine):wpAny (model prog w) A (binaryOp .Add (.ref t) (.ref b)) Q E s:=by
 by_cases hv:vs=[]
 ·obtain⟨⟨cls,dd,data,sl⟩,ho,hc,n,hd⟩:=id ht
  obtain⟨⟨cls2,dd2,data2,sl2⟩,ho2,hc2,n2,hd2⟩:=id hb
  simp only at hc hd hc2 hd2
  subst hc hd hc2 hd2
  exact concat_meets ⟨_,ho,rfl⟩ ⟨_,ho2,rfl⟩ noFill_tuple_add seq_tuple_add PySem.F.slot_tuple_add PySem.F.entry_tuple_add (PySem.F.args_tuple_add_2 _ _)
   (tuple_addW0 t b vs.toArray ws.toArray n n2 dd dd2 sl sl2 (by simp[hv])) ⟨ho,ho2,h0 hv⟩
 ·exact HT.cat_tup ht hb hv (h1 hv) (h2 hv) hsz
end
section
variable{X:Cx}{e:Expr}{te:TE}{pos p2:Pos}
theorem zN2{xs:List V}{lo hi:Option Int}(h:HT.sIx xs.length 0 lo=0/\HT.sIx xs.length xs.length hi=xs.length):zK2 xs lo hi=xs:=by
 unfold zK2
 rw[h.1,h.2,List.drop_zero,Nat.sub_zero,List.take_length]
end
section
variable{prog:Program}{w:World}{A:Around}{E:Value->Shared->Prop}{s:Shared}
end
section
variable(K:PySem.W.Frag)
end
section
variable{X:Cx}
theorem zQI{pins:List (Addr×Obj)}{σ:St}{H:Hp}{s:Shared}{A:Around}{E:Value->Shared->Prop}{Q:Value->Shared->Prop}{a:Addr}{xs:List V}{c:Value}{b:Bool}(I:Inv X pins σ H s)(ha:SqT X.K H a xs)
  (e:PySem.W.kitOne X.K (.type "tuple") c=some b) (h:∀tk,Q (.bool b) { s with toks:=tk }):wpAny (model X.prog X.w) A (call (.builtin "isinstance") [.ref a,c]) Q E s:=by
 obtain⟨its,r,p,_⟩:=I.tuple ha
 obtain⟨o,h1,h2,_⟩:=p
 exact PySem.W.kia_one PySem.W.kitx_tuple I.kIn ⟨o,h1,h2⟩ e (λz=>nomatch z) h
theorem zTL{bs:List Bool}:∀{us:List Value},Vals (bs.map V.bl) us->us=bs.map Value.bool:=by
 induction bs with
 |nil=>intro us r;rw[List.map_nil] at r;cases r;rfl
 |cons b bs ih =>
  intro us r
  rw[List.map_cons] at r
  cases r with
  |cons r1 r2=>cases r1;rw[ih r2];rfl
theorem zN3(bs:List Bool):(List.range bs.length).all (λi=>bs.getD i false)=bs.all id:=by
 rw[Bool.eq_iff_iff,List.all_eq_true,List.all_eq_true]
 constructor
 ·intro h b hb
  obtain⟨i,hi,e⟩:=List.mem_iff_getElem.mp hb
  have:=h i (List.mem_range.mpr hi)
  rw[List.getD_eq_getElem?_getD,List.getElem?_eq_getElem hi] at this
  rw[<-e]
  exact this
 ·intro h i hi
  have hi:=List.mem_range.mp hi
  rw[List.getD_eq_getElem?_getD,List.getElem?_eq_getElem hi]
  exact h _ (List.getElem_mem hi)
theorem zQJ{prog:Program}{w:World}{A:Around}(bs:List Bool):TruthOf prog w A (λi v=>(bs.map Value.bool).toArray[i]?=some v) (λi=>bs.getD i false):=by
 intro i v s Q E hP hQ
 have hP:(bs.map Value.bool)[i]?=some v:=by simpa using hP
 rw[List.getElem?_map] at hP
 cases e:bs[i]? with
 |none=>rw[e] at hP;cases hP
 |some b =>
  rw[e] at hP
  cases hP
  refine wpAny_truthy_bool ?_
  have e3:bs.getD i false=b:=by rw[List.getD_eq_getElem?_getD,e];rfl
  have hQ:Q (bs.getD i false) s:=hQ
  rw[e3] at hQ
  exact hQ
def zZ0(K:PySem.W.Frag):List V->Hp->VK->Prop:=λxs H Q=>∃(p:Addr) (bs:List Bool),xs=[.ref p]/\SqL K H p (bs.map V.bl)/\Q (.bl (bs.all id)) H
theorem zQK(hc:X.calm=true):CallR X (.builtin "all") (zZ0 X.K):=by
 intro pins s σ H xs us Q I r h
 obtain⟨p,bs,rfl,hp,q⟩:=h
 obtain⟨u,rfl,ru⟩:=zD8 r
 cases ru
 obtain⟨its,rv,pl,hz⟩:=I.list hp
 have e:=zTL rv
 subst e
 have hlt:p<s.heap.objs.size:=by obtain⟨o,ho,_⟩:=pl.isList;exact Heap.lt_size ho
 refine call_all_walk (wpAny_pyIter_list pl.isList ?_)
 refine⟨_,_,_,_,_,_,λi=>bs.getD i false,rfl,Walks.list (by have:=I.ok.hd hc;simp[this]) _ p (Nat.ne_of_lt hlt) (bs.map Value.bool).toArray,⟨⟨_,Heap.get?_push_size _ rfl,rfl,rfl⟩,pl.isList.push _⟩,zQJ bs,λh' tk hk=>?_⟩
 have e2:(List.range (bs.map Value.bool).toArray.size).all (λi=>bs.getD i false)=bs.all id:=by simpa using zN3 bs
 refine⟨.bl (bs.all id),H,I.kept (t':=tk) λb o e=>hk b o ?_ (Heap.get?_push_of_some _ e),by rw[e2];rfl,q⟩
 simp only[List.mem_singleton]
 exact Nat.ne_of_lt (Heap.lt_size e)
end
section
variable{prog:Program}{w:World}{A:Around}{E:Value->Shared->Prop}{s:Shared}
end
section
variable{X:Cx}{tg:Expr}
end
section
variable{prog:Program}{w:World}{A:Around}{E:Value->Shared->Prop}{s:Shared}
end
section
variable{X:Cx}{pins:List (Addr×Obj)}{σ:St}{H:Hp}{s:Shared}
variable{e:Expr}{te:TE}{pos p2:Pos}
end
section
variable{prog:Program}{w:World}{A:Around}{E:Value->Shared->Prop}{s:Shared}
end
section
variable{X:Cx}{tg:Expr}
end
section
variable{prog:Program}{w:World}{A:Around}{s:Shared}{R:Result->Shared->Prop}{a b x:Value}{T I S:Addr}
end
section
variable{X:Cx}
end
section
variable{prog:Program}{w:World}{A:Around}{E:Value->Shared->Prop}{s:Shared}
end
theorem zN4{l1 l2:List V}(pp:l1.Perm l2):∀ns:List Int,l2=ns.map V.int->∃ms:List Int,l1=ms.map V.int/\ms.Perm ns:=by
 induction pp with
 |nil=>intro ns e;cases ns with|nil=>exact⟨[],rfl,List.Perm.refl _⟩|cons _ _=>cases e
 |cons a _ ih =>
  intro ns e
  cases ns with
  |nil=>cases e
  |cons b ns =>
   rw[List.map_cons] at e
   injection e with e1 e2
   obtain⟨ms,h1,h2⟩:=ih ns e2
   exact⟨b::ms,by rw[List.map_cons,e1,h1],h2.cons b⟩
 |swap a b l =>
  intro ns e
  match ns,e with
  |c::d::ns,e =>
   rw[List.map_cons,List.map_cons] at e
   injection e with e1 e2
   injection e2 with e2 e3
   exact⟨d::c::ns,by rw[List.map_cons,List.map_cons,e1,e2,e3],List.Perm.swap _ _ _⟩
 |trans _ _ ih1 ih2 =>
  intro ns e
  obtain⟨ms,h1,h2⟩:=ih2 ns e
  obtain⟨ks,h3,h4⟩:=ih1 ms h1
  exact⟨ks,h3,h4.trans h2⟩
theorem zFJ{P:Program}{w:World}{H:Hp}{h:Heap}{a:Addr}{kvs:List (Key×V)}(x:ObjOk P w H h a (.dK kvs)):∃es ep,RawD h a es ep/\es.size=kvs.length/\kvs.length<=sizeLine /\
  ∀(i:Nat) (hi:i<es.size),∃k:Key,(kvs.map (·.1))[i]?=some k/\RelV (kV k) es[i].key:=by
 obtain⟨z,y,vs,r,o,es,ep,h1,h2,h3,h4,h5,h6⟩:=x
 have hl:es.size=vs.length:=by rw[<-h5.length];simp
 have hl2:kvs.length=vs.length:=r.length
 refine⟨es,ep,⟨⟨o,h1,h2,h3⟩,y⟩,by lia,z,λi hi=>?_⟩
 have hi':i<vs.length:=by lia
 obtain⟨e1,_⟩:=h5.get? (i:=i) (e:=es[i]) (k:=vs[i].1) (v:=vs[i].2) (by simp[hi]) (by simp[hi'])
 refine⟨vs[i].1,by rw[r.keys];simp[hi'],?_⟩
 rw[zGD] at e1
 rcases zA2 e1 with⟨j,t,z1,z2⟩|⟨y,t,z1,z2⟩
 ·rw[z1,z2];exact⟨t,rfl⟩
 ·rw[z1,z2];exact⟨t,rfl⟩
section
variable{X:Cx}
noncomputable def ItK(d:Addr)(o:Obj)(kvs:List (Key×V)):It :=
 ⟨λi H=>i<kvs.length/\H d=some (.frz o (.dK kvs)),λi H x H'=>H'=H/\∃k,x=kV k/\(kvs.map (·.1))[i]?=some k,λi H=>kvs.length<=i/\H d=some (.frz o (.dK kvs))⟩
theorem zGK{P:Program}{w:World}{K:PySem.W.Frag}{tg:Expr}(d it:Addr)(o:Obj)(kvs:List (Key×V))(es:Array DictEntry)(ep:Nat)(hd:o.data=.dict es ep)(hz:es.size=kvs.length) :
  Turn P w K tg (ItK d o kvs) [it] it (λi h=>h.IsKeyIter it d i es.size ep) where
 mem:=by simp
 obj:=λi h st b hb=>by
  have e:b=it:=by simpa using hb
  subst e
  obtain⟨o,e,c,d⟩:=st
  exact⟨o,e,λv z=>by rw[d] at z;cases z⟩
 keep:=λi h h' st k=>let ⟨o,e,r⟩:=st;⟨o,k it (by simp) o e,r⟩
 item:=by
  intro X hP hw hK hc i pins s σ H E I hf st hg
  subst hP hw hK
  obtain⟨hi,hk⟩:=hg
  obtain⟨ho,hx⟩:=I.hok d _ hk
  obtain⟨es',ep',rw',e1,e2,e3⟩:=zFJ hx
  obtain⟨o',q1,q2,q3⟩:=rw'.ex
  rw[ho] at q1;cases q1
  rw[hd] at q3;injection q3 with q4 q5
  subst q4;subst q5
  obtain⟨f0,f1,f2,f3,f4,f5⟩:=hf it (by simp)
  refine zK5 st rw' (by lia) λh' st' sb=>?_
  obtain⟨k,p2,p3⟩:=e3 i (by lia)
  have I1:Inv X pins σ H { s with heap:=h' }:=I.turned (t':=s.toks) (λb ob hb e=>(sb.2 b hb).trans e) f0 f1 f3 f4 f5
  obtain⟨oi,e,c,dd⟩:=id st'
  refine⟨_,rfl,zM6 (s:={ s with heap:=h' }) e c dd (by decide) ⟨kV k,H,I1,p3,⟨rfl,k,rfl,p2⟩,st',λb hb=>(hf b hb).1⟩⟩
 done:=by
  intro X hP hw hK hc i pins s σ H E I hf st hg
  subst hP hw hK
  obtain⟨hi,hk⟩:=hg
  obtain⟨ho,hx⟩:=I.hok d _ hk
  obtain⟨es',ep',rw',e1,e2,e3⟩:=zFJ hx
  obtain⟨o',q1,q2,q3⟩:=rw'.ex
  rw[ho] at q1;cases q1
  rw[hd] at q3;injection q3 with q4 q5
  subst q4;subst q5
  obtain⟨f0,f1,f2,f3,f4,f5⟩:=hf it (by simp)
  exact zNZ (I.ok.hd hc) st rw' (by lia) λh' eb=>⟨rfl,I.turned (t':=s.toks) (λb ob hb e=>eb b ob hb e) f0 f1 f3 f4 f5⟩
 self:=λ_ _ _ _ _ st h=>wpAny_pyIter_keyiter st h
theorem Inv.freezeK{pins:List (Addr×Obj)}{σ:St}{H:Hp}{s:Shared}{a:Addr}{kvs:List (Key×V)}(I:Inv X pins σ H s)(ha:H a=some (.dK kvs)) :
  ∃o,s.heap.get? a=some o/\Inv X pins σ (upd H a (.frz o (.dK kvs))) s:=by
 have x:=I.hok a _ ha
 obtain⟨es,ep,⟨⟨o,h1,h2,h3⟩,_⟩,_⟩:=zFJ x
 have kt:∀b ys,H b=some (.tup ys)->b≠a:=λb ys e z=>by rw[z,ha] at e;cases e
 have ko:∀b y,H b=some (.own y)->b≠a:=λb y e z=>by rw[z,ha] at e;cases e
 have kf:∀b ob u,H b=some (.frz ob u)->b≠a:=λb ob u e z=>by rw[z,ha] at e;cases e
 have kb:∀b t ps,H b=some (.tbl t ps)->b≠a:=λb t ps e z=>by rw[z,ha] at e;cases e
 have kn:∀b,H b=none->b≠a:=λb e z=>by rw[z,ha] at e;cases e
 refine⟨o,h1,I.un (t':=s.toks) (h':=s.heap) ⟨λb ob e _ _ _=>e,λb ob e _ _ _=>⟨ob.slots,e⟩,λb ob e n _=>by rw[zAL (kn b n)];exact n,λb ob e _=>⟨ob,e⟩,λb ys e=>by rw[zAL (kt b ys e)];exact e,λb ob u e=>by rw[zAL (kf b ob u e)];exact e,λb t ps e=>⟨#[],by rw[zAL (kb b t ps e),e];simp⟩⟩ λb u e=>?_⟩
 by_cases hb:b=a
 ·subst hb
  rw[zAN] at e
  cases e
  exact⟨h1,x.stay (λc v _ q=>q) (λc q=>by rw[zAL (ko c _ q)];exact q) (λc ys q=>by rw[zAL (kt c ys q)];exact q) λc ob x q=>by rw[zAL (kf c ob _ q)];exact q⟩
 ·rw[zAL hb] at e
  exact(I.hok b u e).stay (λc v _ q=>q) (λc q=>by rw[zAL (ko c _ q)];exact q) (λc ys q=>by rw[zAL (kt c ys q)];exact q) λc ob x q=>by rw[zAL (kf c ob _ q)];exact q
end
end L2
namespace TS
open PySem PyProof.Rows
section
variable{prog:Program}{w:World}{A:Around}{E:Value->Shared->Prop}{s:Shared}{a₀:Array Keyed}{kd:SortKind}{L:Keyed->Keyed->Bool}
def zIW(prog:Program)(w:World)(A:Around)(s:Shared)(kd:SortKind)(a₀:Array Keyed)(L:Keyed->Keyed->Bool):Prop :=
 ∀x y:Keyed,x∈a₀->y∈a₀->∀(Q:Bool->Shared->Prop) (E:Value->Shared->Prop),Q (L x y) s->wpAny (model prog w) A (keyLt' kd x.1 y.1) Q E s
theorem zHB{st:SortSt}{x y:Keyed}{Q:Option Bool->SortSt->Prop}(hA:zIW prog w A s kd a₀ L)(hk:kindOf st=kd)(hx:x∈a₀)(hy:y∈a₀)(h:Q (some (L x y)) st) :
  wpS (model prog w) A E s (lt' x y) Q st:=by
 rw[lt'_eq]
 refine wpS_bind (wpS_get ?_)
 rw[hk]
 refine wpS_bind (wpS_lift (wpAny_attempt (hA x y hx hy _ _ ⟨rfl,?_⟩)))
 exact wpS_pure h
def Cut(B:Nat->Bool)(n k:Nat):Prop:=k<=n/\(∀i<k,B i=true)/\∀i,k<=i->i<n->B i=false
theorem via{α β γ:Type}{T:β->γ->StateT SortSt Sem α}{M:Model}{A:Around}{E:Value->Shared->Prop}{s:Shared}{Q:α->SortSt->Prop}{st:SortSt}{goal:Prop}(P:β->γ->Prop)(h1:(∀x y,P x y->wpS M A E s (T x y) Q st)->goal)(h2:∀x y,P x y->wpS M A E s (T x y) Q st):goal:=h1 h2
theorem zGL{st:SortSt}{left:Bool}{key:Keyed}{arr:Array Keyed}{base n hint:Nat}{Q:Option Nat->SortSt->Prop}{B:Nat->Bool}(hA:zIW prog w A s kd a₀ L)(hk:kindOf st=kd)(hkey:key∈a₀)(harr:∀x∈arr,x∈a₀)
  (hb:base+n<=arr.size) (hh:hint<n) (hB:∀i (hi:base+i<arr.size),B i=if left then L arr[base+i] key else !L key arr[base+i]) (mono:∀i j,i<=j->j<n->B j=true->B i=true)
  (h:∀k,Cut B n k->Q (some k) st):wpS (model prog w) A E s (zFI left key arr base n hint) Q st:=by
 have hm:∀(i:Nat) (hi:base+i<arr.size),arr[base+i]∈a₀:=λi hi=>harr _ (Array.getElem_mem hi)
 have anti:∀i j,i<=j->j<n->B i=false->B j=false:=λi j hij hj hi=>by
  cases e:B j with
  |false=>rfl
  |true=>rw[mono i j hij hj e] at hi;cases hi
 have bey:∀(i:Nat) (hi:i<n) {Q:Option Bool->SortSt->Prop},Q (some (B i)) st->wpS (model prog w) A E s (do let x <-elem' arr (base+i);if left=true then lt' x key else return (<-lt' key x).map (!·)) Q st:=λi hi {Q} q=>by
  have hi':base+i<arr.size:=by omega
  have eB:=hB i hi'
  refine wpS_bind (zDZ hi' (zAQ (λhl=>zHB hA hk (hm _ hi') hkey ?_) λhl=>wpS_bind (zHB hA hk hkey (hm _ hi') (wpS_pure ?_))))
  ·rw[if_pos hl] at eB;rw[<-eB];exact q
  ·rw[if_neg hl] at eB;show Q (some (!_)) st;rw[<-eB];exact q
 clear hB
 refine via (M:=model prog w) (A:=A) (E:=E) (s:=s) (λlo hi:Nat=>lo<=hi/\hi<=n/\(∀i<lo,B i=true)/\∀i,hi<=i->i<n->B i=false) (λK=>by
  refine wpS_bind (bey hint hh ?_)
  cases e:B hint with
  |true =>
   refine wpS_bind (wpS_mono (wpS_forRange (I:=λx c st'=>st'=st/\∃l o,c=(none,l,o)/\B (hint+l)=true/\hint+l<n/\l<o/\x+1<=o)
    (Q:=λc st'=>st'=st/\∃l o,c=(none,l,o)/\B (hint+l)=true/\hint+l<n/\l<o/\(n-hint<=o\/hint+o<n/\B (hint+o)=false)) ?step (λc st' ⟨e,l,o,e1,e2,e3,e4,e5⟩=>⟨e,l,o,e1,e2,e3,e4,.inl (by omega)⟩) ⟨rfl,0,1,rfl,e,hh,by omega,by omega⟩) ?post)
   case step =>
    rintro x c st' _ _ ⟨rfl,l,o,rfl,h1,h2,h3,h4⟩
    try dsimp only
    refine zAQ (λq=>wpS_pure ⟨rfl,l,o,rfl,h1,h2,h3,.inl q⟩) (λq=>?_)
    refine wpS_bind (bey (hint+o) (by omega) ?_)
    cases e:B (hint+o) with
    |true=>exact wpS_pure ⟨rfl,o,2 * o+1,rfl,e,by omega,by omega,by omega⟩
    |false=>exact wpS_pure ⟨rfl,l,o,rfl,h1,h2,h3,.inr ⟨by omega,e⟩⟩
   case post =>
    rintro c st' ⟨rfl,l,o,rfl,h1,h2,h3,h4⟩
    have hP:hint+l+1<=hint+min o (n-hint)/\hint+min o (n-hint)<=n/\(∀i<hint+l+1,B i=true)/\∀i,hint+min o (n-hint)<=i->i<n->B i=false:=⟨by omega,by omega,λi hi=>mono i (hint+l) (by omega) h2 h1,λi hi hn=>by
     rcases h4 with h4|⟨h4,h5⟩
     ·omega
     ·exact anti (hint+o) i (by omega) hn h5⟩
    revert hP
    dsimp only
    generalize hint+l+1=lo',hint+min o (n-hint)=hi'
    exact λhP=>K lo' hi' hP
  |false =>
   refine wpS_bind (wpS_mono (wpS_forRange (I:=λx c st'=>st'=st/\∃l o,c=(none,l,o)/\B (hint-l)=false/\l<=hint/\l<o/\x+1<=o)
    (Q:=λc st'=>st'=st/\∃l o,c=(none,l,o)/\B (hint-l)=false/\l<=hint/\l<o/\(hint+1<=o\/o<=hint/\B (hint-o)=true)) ?step (λc st' ⟨e,l,o,e1,e2,e3,e4,e5⟩=>⟨e,l,o,e1,e2,e3,e4,.inl (by omega)⟩) ⟨rfl,0,1,rfl,e,by omega,by omega,by omega⟩) ?post)
   case step =>
    rintro x c st' _ _ ⟨rfl,l,o,rfl,h1,h2,h3,h4⟩
    try dsimp only
    refine zAQ (λq=>wpS_pure ⟨rfl,l,o,rfl,h1,h2,h3,.inl q⟩) (λq=>?_)
    refine wpS_bind (bey (hint-o) (by omega) ?_)
    cases e:B (hint-o) with
    |true=>exact wpS_pure ⟨rfl,l,o,rfl,h1,h2,h3,.inr ⟨by omega,e⟩⟩
    |false=>exact wpS_pure ⟨rfl,o,2 * o+1,rfl,e,by omega,by omega,by omega⟩
   case post =>
    rintro c st' ⟨rfl,l,o,rfl,h1,h2,h3,h4⟩
    exact K (hint+1-min o (hint+1)) (hint-l) ⟨by omega,by omega,λi hi=>by
     rcases h4 with h4|⟨h4,h5⟩
     ·omega
     ·exact mono i (hint-o) (by omega) (by omega) h5,λi hi hn=>anti (hint-l) i hi hn h1⟩) ?_
 rintro lo hi ⟨p1,p2,p3,p4⟩
 refine wpS_bind (wpS_mono (wpS_forRange (I:=λx c st2=>st2=st/\∃l r,c=(none,l,r)/\l<=r/\r<=n/\(∀i<l,B i=true)/\(∀i,r<=i->i<n->B i=false)/\r-l+x<=n)
  (Q:=λc st2=>st2=st/\∃l r,c=(none,l,r)/\Cut B n r) ?st2 (λc st2 ⟨e,l,r,e1,e2,e3,e4,e5,e6⟩=>⟨e,l,r,e1,e3,λi hi=>e4 i (by omega),e5⟩) ⟨rfl,lo,hi,rfl,p1,p2,p3,p4,by omega⟩) ?po2)
 case po2 =>
  rintro c st2 ⟨rfl,l,r,rfl,hr⟩
  exact wpS_pure (h r hr)
 case st2 =>
  rintro x c st2 _ _ ⟨rfl,l,r,rfl,q1,q2,q3,q4,q5⟩
  try dsimp only
  refine zAQ (λq=>wpS_pure ⟨rfl,l,r,rfl,q2,λi hi=>q3 i (by omega),q4⟩) (λq=>?_)
  refine wpS_bind (bey (l+(r-l) / 2) (by omega) ?_)
  cases e:B (l+(r-l) / 2) with
  |true=>exact wpS_pure ⟨rfl,l+(r-l) / 2+1,r,rfl,by omega,q2,λi hi=>mono i (l+(r-l) / 2) (by omega) (by omega) e,q4,by omega⟩
  |false=>exact wpS_pure ⟨rfl,l,l+(r-l) / 2,rfl,by omega,by omega,q3,λi hi hn=>anti (l+(r-l) / 2) i hi hn e,by omega⟩
end
structure Ord(L:Keyed->Keyed->Bool)(a₀:Array Keyed):Prop where
 asym:∀x y,x∈a₀->y∈a₀->L x y=true->L y x=false
 trans:∀x y z,x∈a₀->y∈a₀->z∈a₀->L y x=false->L z y=false->L z x=false
def SA(L:Keyed->Keyed->Bool)(a:Array Keyed):Prop:=∀(i j:Nat) (hj:j<a.size) (hij:i<j),L a[j] (a[i]'(by lia))=false
theorem Ord.refl{L:Keyed->Keyed->Bool}{a₀:Array Keyed}(O:Ord L a₀){x:Keyed}(hx:x∈a₀):L x x=false:=by
 cases e:L x x with
 |false=>rfl
 |true=>rw[O.asym x x hx hx e] at e;cases e
theorem SA.le{L:Keyed->Keyed->Bool}{a₀ a:Array Keyed}(O:Ord L a₀)(ha:∀x∈a,x∈a₀)(s:SA L a){i j:Nat}(hj:j<a.size)(hij:i<=j):L a[j] (a[i]'(by lia))=false:=by
 rcases Nat.lt_or_eq_of_le hij with h|h
 ·exact s i j hj h
 ·subst h;exact O.refl (ha _ (Array.getElem_mem _))
section
variable{prog:Program}{w:World}{A:Around}{E:Value->Shared->Prop}{s:Shared}{a₀:Array Keyed}{kd:SortKind}{L:Keyed->Keyed->Bool}
theorem zIX{st:SortSt}{key:Keyed}{arr:Array Keyed}{base n hint:Nat}{Q:Option Nat->SortSt->Prop}(hA:zIW prog w A s kd a₀ L)(O:Ord L a₀)(hk:kindOf st=kd)(hkey:key∈a₀)(harr:∀x∈arr,x∈a₀)
  (hb:base+n<=arr.size) (hh:hint<n) (sl:∀(i j:Nat) (hj:base+j<arr.size) (hij:i<j),j<n->L arr[base+j] (arr[base+i]'(by lia))=false)
  (h:∀k,k<=n->(∀(i:Nat) (hi:base+i<arr.size),i<k->L key arr[base+i]=false)->(∀(i:Nat) (hi:base+i<arr.size),k<=i->i<n->L key arr[base+i]=true)->Q (some k) st):wpS (model prog w) A E s (zFI false key arr base n hint) Q st:=by
 refine zGL (B:=λi=>if hi:base+i<arr.size then !L key arr[base+i] else false) hA hk hkey harr hb hh (λi hi=>by simp[hi]) (λi j hij hj e=>?_) λk ⟨c1,c2,c3⟩=>h k c1 (λi hi hik=>?_) (λi hi hki hin=>?_)
 ·rcases Nat.lt_or_eq_of_le hij with h'|h'
  ·have hj':base+j<arr.size:=by lia
   have hi':base+i<arr.size:=by lia
   rw[dif_pos hj'] at e
   show(if hi:base+i<arr.size then !L key arr[base+i] else false)=true
   rw[dif_pos hi']
   have e':L key arr[base+j]=false:=by simpa using e
   rw[O.trans _ _ _ (harr _ (Array.getElem_mem hi')) (harr _ (Array.getElem_mem hj')) hkey (sl i j hj' h' hj) e']
   rfl
  ·subst h';exact e
 ·have:=c2 i hik
  simpa[hi] using this
 ·have:=c3 i hki hin
  simpa[hi] using this
theorem zIY{st:SortSt}{key:Keyed}{arr:Array Keyed}{base n hint:Nat}{Q:Option Nat->SortSt->Prop}(hA:zIW prog w A s kd a₀ L)(O:Ord L a₀)(hk:kindOf st=kd)(hkey:key∈a₀)(harr:∀x∈arr,x∈a₀)
  (hb:base+n<=arr.size) (hh:hint<n) (sl:∀(i j:Nat) (hj:base+j<arr.size) (hij:i<j),j<n->L arr[base+j] (arr[base+i]'(by lia))=false)
  (h:∀k,k<=n->(∀(i:Nat) (hi:base+i<arr.size),i<k->L arr[base+i] key=true)->(∀(i:Nat) (hi:base+i<arr.size),k<=i->i<n->L arr[base+i] key=false)->Q (some k) st):wpS (model prog w) A E s (zFI true key arr base n hint) Q st:=by
 refine zGL (B:=λi=>if hi:base+i<arr.size then L arr[base+i] key else false) hA hk hkey harr hb hh (λi hi=>by simp[hi]) (λi j hij hj e=>?_) λk ⟨c1,c2,c3⟩=>h k c1 (λi hi hik=>?_) (λi hi hki hin=>?_)
 ·rcases Nat.lt_or_eq_of_le hij with h'|h'
  ·have hj':base+j<arr.size:=by lia
   have hi':base+i<arr.size:=by lia
   rw[dif_pos hj'] at e
   show(if hi:base+i<arr.size then L arr[base+i] key else false)=true
   rw[dif_pos hi']
   cases ei:L arr[base+i] key with
   |true=>rfl
   |false =>
    rw[O.trans _ _ _ hkey (harr _ (Array.getElem_mem hi')) (harr _ (Array.getElem_mem hj')) ei (sl i j hj' h' hj)] at e
    cases e
  ·subst h';exact e
 ·have:=c2 i hik
  simpa[hi] using this
 ·have:=c3 i hki hin
  simpa[hi] using this
end
structure MidO(L:Keyed->Keyed->Bool)(a b out:Array Keyed)(ia ib:Nat):Prop where
 m:Mid a b out ia ib
 so:out.toList.Pairwise λx y=>L y x=false
 oa:∀x∈out,∀(i:Nat) (hi:i<a.size),ia<=i->L a[i] x=false
 ob:∀x∈out,∀(i:Nat) (hi:i<b.size),ib<=i->L b[i] x=false
section
variable{L:Keyed->Keyed->Bool}{a b out:Array Keyed}{ia ib:Nat}
theorem zN5{x:Keyed}(h:out.toList.Pairwise λx y=>L y x=false)(hx:∀y∈out,L x y=false):(out.push x).toList.Pairwise λx y=>L y x=false:=by
 rw[Array.toList_push,List.pairwise_append]
 refine⟨h,List.pairwise_singleton _ _,λy hy z hz=>?_⟩
 rw[List.mem_singleton.mp hz]
 exact hx y (Array.mem_toList_iff.mp hy)
theorem MidO.pushB(m:MidO L a b out ia ib)(sb:SA L b)(h:ib<b.size)(hle:∀(i:Nat) (hi:i<a.size),ia<=i->L a[i] b[ib]=false):MidO L a b (out.push b[ib]) ia (ib+1) where
 m:=m.m.pushB h
 so:=zN5 m.so λy hy=>m.ob y hy ib h (Nat.le_refl _)
 oa:=λx hx i hi hia=>by
  rcases Array.mem_push.mp hx with hx|rfl
  ·exact m.oa x hx i hi hia
  ·exact hle i hi hia
 ob:=λx hx i hi hib=>by
  rcases Array.mem_push.mp hx with hx|rfl
  ·exact m.ob x hx i hi (by lia)
  ·exact sb ib i hi (by lia)
theorem MidO.pushA(m:MidO L a b out ia ib)(sa:SA L a)(h:ia<a.size)(hle:∀(i:Nat) (hi:i<b.size),ib<=i->L b[i] a[ia]=false):MidO L a b (out.push a[ia]) (ia+1) ib where
 m:=m.m.pushA h
 so:=zN5 m.so λy hy=>m.oa y hy ia h (Nat.le_refl _)
 oa:=λx hx i hi hia=>by
  rcases Array.mem_push.mp hx with hx|rfl
  ·exact m.oa x hx i hi (by lia)
  ·exact sa ia i hi (by lia)
 ob:=λx hx i hi hib=>by
  rcases Array.mem_push.mp hx with hx|rfl
  ·exact m.ob x hx i hi hib
  ·exact hle i hi hib
theorem zHC(a:Array Keyed){i k:Nat}(h:i+k<a.size):out++a.extract i (i+(k+1))=(out++a.extract i (i+k)).push a[i+k]:=by
 apply Array.ext'
 rw[Array.toList_append,Array.toList_push,Array.toList_append,Array.toList_extract,Array.toList_extract,List.append_assoc]
 congr 1
 show(a.toList.drop i).take (i+(k+1)-i)=(a.toList.drop i).take (i+k-i)++[a[i+k]]
 rw[show i+(k+1)-i=k+1 by lia,show i+k-i=k by lia,List.take_succ_eq_append_getElem (by simp;lia)]
 simp
theorem MidO.manyA(sa:SA L a):∀{k:Nat},MidO L a b out ia ib->ia+k<=a.size->(∀(i:Nat) (hi:i<a.size),ia<=i->i<ia+k->∀(j:Nat) (hj:j<b.size),ib<=j->L b[j] a[i]=false)->MidO L a b (out++a.extract ia (ia+k)) (ia+k) ib
 |0,m,_,_=>by
  have e:out++a.extract ia (ia+0)=out:=by simp<;>lia
  rw[e];exact m
 |k+1,m,h,hle=>by
  have z:=MidO.manyA sa (k:=k) m (by lia) λi hi h1 h2=>hle i hi h1 (by lia)
  rw[zHC a (show ia+k<a.size by lia)]
  exact z.pushA sa (by lia) λj hj hjb=>hle (ia+k) (by lia) (by lia) (by lia) j hj hjb
theorem MidO.manyB(sb:SA L b):∀{k:Nat},MidO L a b out ia ib->ib+k<=b.size->(∀(i:Nat) (hi:i<b.size),ib<=i->i<ib+k->∀(j:Nat) (hj:j<a.size),ia<=j->L a[j] b[i]=false)->MidO L a b (out++b.extract ib (ib+k)) ia (ib+k)
 |0,m,_,_=>by
  have e:out++b.extract ib (ib+0)=out:=by simp<;>lia
  rw[e];exact m
 |k+1,m,h,hle=>by
  have z:=MidO.manyB sb (k:=k) m (by lia) λi hi h1 h2=>hle i hi h1 (by lia)
  rw[zHC b (show ib+k<b.size by lia)]
  exact z.pushB sb (by lia) λj hj hja=>hle (ib+k) (by lia) (by lia) (by lia) j hj hja
theorem MidO.doneB(m:MidO L a b out ia ib)(sa:SA L a)(h:ib=b.size):(out++a.extract ia a.size++b.extract ib b.size).toList.Pairwise λx y=>L y x=false:=by
 have la:=m.m.la
 have z:=m.manyA sa (k:=a.size-ia) (by lia) λi hi h1 h2 j hj hjb=>by lia
 rw[show ia+(a.size-ia)=a.size by lia] at z
 have e:b.extract ib b.size=#[]:=by rw[h];simp
 rw[e,Array.append_empty]
 exact z.so
theorem MidO.doneA(m:MidO L a b out ia ib)(sb:SA L b)(h:ia=a.size):(out++a.extract ia a.size++b.extract ib b.size).toList.Pairwise λx y=>L y x=false:=by
 have lb:=m.m.lb
 have z:=m.manyB sb (k:=b.size-ib) (by lia) λi hi h1 h2 j hj hja=>by lia
 rw[show ib+(b.size-ib)=b.size by lia] at z
 have e:a.extract ia a.size=#[]:=by rw[h];simp
 rw[e,Array.append_empty]
 exact z.so
theorem MidO.lastA(m:MidO L a b out ia ib)(sa:SA L a)(sb:SA L b)(h:ia+1=a.size)(hl:∀(j:Nat) (hj:j<b.size),L (a[a.size-1]'(by lia)) b[j]=false):(out++b.extract ib b.size++a.extract ia a.size).toList.Pairwise λx y=>L y x=false:=by
 have lb:=m.m.lb
 have z:=m.manyB sb (k:=b.size-ib) (by lia) λi hi h1 h2 j hj hja=>by
  have e:j=a.size-1:=by lia
  subst e
  exact hl i hi
 rw[show ib+(b.size-ib)=b.size by lia] at z
 have z2:=z.manyA sa (k:=1) (by lia) λi hi h1 h2 j hj hjb=>by lia
 rw[h] at z2
 exact z2.so
end
@[elab_as_elim] theorem zX4{K:Prop}{α0 α1 α2 α3 γ:Type}{f:α0->α1->α2->α3->γ}{P:α0->α1->α2->α3->Prop}{G:γ->Prop}{c:γ}(H:K/\∃x0 x1 x2 x3,c=f x0 x1 x2 x3/\P x0 x1 x2 x3)(k:K->∀x0 x1 x2 x3,P x0 x1 x2 x3->G (f x0 x1 x2 x3)):G c:=by
 obtain⟨g,x0,x1,x2,x3,rfl,p⟩:=H
 exact k g x0 x1 x2 x3 p
@[elab_as_elim] theorem zVC{K:Prop}{α0 α1 α2 α3 α4 γ:Type}{f:α0->α1->α2->α3->α4->γ}{P:α0->α1->α2->α3->α4->Prop}{G:γ->Prop}{c:γ}(H:K/\∃x0 x1 x2 x3 x4,c=f x0 x1 x2 x3 x4/\P x0 x1 x2 x3 x4)(k:K->∀x0 x1 x2 x3 x4,P x0 x1 x2 x3 x4->G (f x0 x1 x2 x3 x4)):G c:=by
 obtain⟨g,x0,x1,x2,x3,x4,rfl,p⟩:=H
 exact k g x0 x1 x2 x3 x4 p
@[elab_as_elim] theorem zVD{K:Prop}{α0 α1 α2 α3 α4 α5 γ:Type}{f:α0->α1->α2->α3->α4->α5->γ}{P:α0->α1->α2->α3->α4->α5->Prop}{G:γ->Prop}{c:γ}(H:K/\∃x0 x1 x2 x3 x4 x5,c=f x0 x1 x2 x3 x4 x5/\P x0 x1 x2 x3 x4 x5)(k:K->∀x0 x1 x2 x3 x4 x5,P x0 x1 x2 x3 x4 x5->G (f x0 x1 x2 x3 x4 x5)):G c:=by
 obtain⟨g,x0,x1,x2,x3,x4,x5,rfl,p⟩:=H
 exact k g x0 x1 x2 x3 x4 x5 p
@[elab_as_elim] theorem zZ1{K:Prop}{α0 α1 α2 α3 α4 α5 α6 γ:Type}{f:α0->α1->α2->α3->α4->α5->α6->γ}{P:α0->α1->α2->α3->α4->α5->α6->Prop}{G:γ->Prop}{c:γ}(H:K/\∃x0 x1 x2 x3 x4 x5 x6,c=f x0 x1 x2 x3 x4 x5 x6/\P x0 x1 x2 x3 x4 x5 x6)(k:K->∀x0 x1 x2 x3 x4 x5 x6,P x0 x1 x2 x3 x4 x5 x6->G (f x0 x1 x2 x3 x4 x5 x6)):G c:=by
 obtain⟨g,x0,x1,x2,x3,x4,x5,x6,rfl,p⟩:=H
 exact k g x0 x1 x2 x3 x4 x5 x6 p
section
variable{prog:Program}{w:World}{A:Around}{E:Value->Shared->Prop}{s:Shared}{a₀:Array Keyed}{kd:SortKind}{L:Keyed->Keyed->Bool}{β:Type}{Q:β->SortSt->Prop}{st:SortSt}
theorem zDR{arr:Array Keyed}{i:Nat}{f:Keyed->StateT SortSt Sem β}(hi:i<arr.size)(h:wpS (model prog w) A E s (f arr[i]) Q st):wpS (model prog w) A E s (elem' arr i >>= f) Q st:=wpS_bind (zDZ hi h)
theorem zX5{g:Nat}{f:Unit->StateT SortSt Sem β}(h:wpS (model prog w) A E s (f ()) Q (zIO st g)):wpS (model prog w) A E s (zDH g >>= f) Q st:=wpS_bind (zTD h)
theorem zZ2{x y:Keyed}{f:Option Bool->StateT SortSt Sem β}(hA:zIW prog w A s kd a₀ L)(hk:kindOf st=kd)(hx:x∈a₀)(hy:y∈a₀)(h:wpS (model prog w) A E s (f (some (L x y))) Q st):wpS (model prog w) A E s (lt' x y >>= f) Q st:=wpS_bind (zHB hA hk hx hy h)
theorem zGM{γ:Type}{a b:Nat}{f:Nat->γ->StateT SortSt Sem (ForInStep γ)}{k:γ->StateT SortSt Sem β}(I:Nat->γ->SortSt->Prop)(R:γ->SortSt->Prop)
  (hstep:∀i c st,a<=i->i<b->I i c st->wpS (model prog w) A E s (f i c) (λr st'=>match r with|.done c'=>R c' st'|.yield c'=>I (i+1) c' st') st)
  (hend:∀c st,I (max a b) c st->R c st) {c:γ} (h:I a c st) (hp:∀c st',R c st'->wpS (model prog w) A E s (k c) Q st'):wpS (model prog w) A E s (forIn [a:b] c f >>= k) Q st:=wpS_bind (wpS_mono (wpS_forRange I hstep hend h) hp)
theorem zZ3{key:Keyed}{arr:Array Keyed}{base n hint:Nat}{f:Option Nat->StateT SortSt Sem β}(hA:zIW prog w A s kd a₀ L)(O:Ord L a₀)(hk:kindOf st=kd)(hkey:key∈a₀)(harr:∀x∈arr,x∈a₀)
  (hb:base+n<=arr.size) (hh:hint<n) (sl:∀(i j:Nat) (hj:base+j<arr.size) (hij:i<j),j<n->L arr[base+j] (arr[base+i]'(by lia))=false)
  (h:∀k,k<=n->(∀(i:Nat) (hi:base+i<arr.size),i<k->L key arr[base+i]=false)->(∀(i:Nat) (hi:base+i<arr.size),k<=i->i<n->L key arr[base+i]=true)->wpS (model prog w) A E s (f (some k)) Q st):wpS (model prog w) A E s (zFI false key arr base n hint >>= f) Q st:=wpS_bind (zIX hA O hk hkey harr hb hh sl h)
theorem zZ4{key:Keyed}{arr:Array Keyed}{base n hint:Nat}{f:Option Nat->StateT SortSt Sem β}(hA:zIW prog w A s kd a₀ L)(O:Ord L a₀)(hk:kindOf st=kd)(hkey:key∈a₀)(harr:∀x∈arr,x∈a₀)
  (hb:base+n<=arr.size) (hh:hint<n) (sl:∀(i j:Nat) (hj:base+j<arr.size) (hij:i<j),j<n->L arr[base+j] (arr[base+i]'(by lia))=false)
  (h:∀k,k<=n->(∀(i:Nat) (hi:base+i<arr.size),i<k->L arr[base+i] key=true)->(∀(i:Nat) (hi:base+i<arr.size),k<=i->i<n->L arr[base+i] key=false)->wpS (model prog w) A E s (f (some k)) Q st):wpS (model prog w) A E s (zFI true key arr base n hint >>= f) Q st:=wpS_bind (zIY hA O hk hkey harr hb hh sl h)
end
section
variable{prog:Program}{w:World}{A:Around}{E:Value->Shared->Prop}{s:Shared}{a₀:Array Keyed}{kd:SortKind}{L:Keyed->Keyed->Bool}
theorem zZ5{α β:Type}{T:β->StateT SortSt Sem α}{M:Model}{A:Around}{E:Value->Shared->Prop}{s:Shared}{Q:α->SortSt->Prop}{st:SortSt}{goal:Prop}(h1:(∀x,wpS M A E s (T x) Q st)->goal)(h2:∀x,wpS M A E s (T x) Q st):goal:=h1 h2
theorem zJ5{st:SortSt}{a b:Array Keyed}{Q:Array Keyed->SortSt->Prop}(hA:zIW prog w A s kd a₀ L)(O:Ord L a₀)(hk:kindOf st=kd)(ha:∀x∈a,x∈a₀)(hb:∀x∈b,x∈a₀)(na:1<=a.size)(nb:1<=b.size)(sa:SA L a)(sb:SA L b)(hf:∀(i:Nat) (hi:i<a.size),L a[i] (b[0]'(by lia))=false)(hl:∀(j:Nat) (hj:j<b.size),L (a[a.size-1]'(by lia)) b[j]=false)
  (h:∀c st',Gal st st'->c.Perm (a++b)->(c.toList.Pairwise λx y=>L y x=false)->Q c st'):wpS (model prog w) A E s (zQC a b) Q st:=by
 refine wpS_bind (wpS_lift (wpAny_rule ⟨rfl,?_⟩))
 dsimp only
 refine zDR (by lia) ?_
 have m0:MidO L a b #[b[0]] 0 1:=by
  have z:MidO L a b #[] 0 0:=⟨⟨by simp,by lia,by lia,rfl⟩,List.Pairwise.nil,λx hx=>by simp at hx,λx hx=>by simp at hx⟩
  exact z.pushB sb (by lia) λi hi _=>hf i hi
 refine zAQ (λe1=>wpS_pure (h _ _ (Gal.refl st) m0.m.done (m0.doneB sa (beq_iff_eq.mp e1)))) (λe1=>?_)
 replace e1:¬1=b.size:=λz=>e1 (beq_iff_eq.mpr z)
 refine zAQ (λe2=>wpS_pure (h _ _ (Gal.refl st) m0.m.lastA (m0.lastA sa sb (beq_iff_eq.mp e2) hl))) (λe2=>?_)
 replace e2:¬0+1=a.size:=λz=>e2 (beq_iff_eq.mpr z)
 refine wpS_bind (wpS_get ?_)
 refine zGM
  (I:=λi c st'=>Gal st st'/\∃out ia ib g,c=(none,out,ia,ib,g)/\MidO L a b out ia ib/\ia+1<a.size/\ib<b.size/\i+1<=out.size)
  (R:=λc st'=>Gal st st'/\∃r out ia ib g,c=(some r,out,ia,ib,g)/\(r.Perm (a++b)/\r.toList.Pairwise λx y=>L y x=false)) ?step ?fin ?init ?post
 case init=>exact⟨Gal.refl st,_,_,_,_,rfl,m0,by lia,by lia,by simp⟩
 case post =>
  intro c st' H
  refine zVC (c:=c) H λg r out ia ib gg p=>?_
  clear H
  exact wpS_pure (h _ _ g p.1 p.2)
 case fin =>
  intro c st' H
  refine zX4 (c:=c) H λg out ia ib gg P=>?_
  clear H
  have m:=P.1
  have h1:=P.2.1
  have h2:=P.2.2.1
  have h3:=P.2.2.2
  clear P
  exfalso
  have:=m.m.sz
  lia
 case step =>
  intro i c st' _ hi H
  refine zX4 (c:=c) H λg out ia ib gg P=>?_
  clear H
  have m:=P.1
  have h1:=P.2.1
  have h2:=P.2.2.1
  have h3:=P.2.2.2
  clear P
  dsimp only
  have tot:0<a.size+b.size:=by lia
  -- one by one
  refine zGM
   (I:=λ_ c st2=>Gal st st2/\∃out ia ib ac bc,c=(none,out,ia,ib,ac,bc)/\MidO L a b out ia ib/\ia+1<a.size/\ib<b.size/\i+1<=out.size)
   (R:=λc st2=>Gal st st2/\∃r out ia ib ac bc,c=(r,out,ia,ib,ac,bc)/\(match r with
    |some r=>(r.Perm (a++b)/\r.toList.Pairwise λx y=>L y x=false)
    |none=>MidO L a b out ia ib/\ia+1<a.size/\ib<b.size/\i+1<=out.size)) ?step1 ?fin1 ⟨g,_,_,_,_,_,rfl,m,h1,h2,h3⟩ ?post1
  case fin1 =>
   intro c st2 H
   refine zVC (c:=c) H λg2 out ia ib ac bc P=>?_
   clear H
   have m:=P.1
   have h1:=P.2.1
   have h2:=P.2.2.1
   have h3:=P.2.2.2
   clear P
   exact⟨g2,none,_,_,_,_,_,rfl,m,h1,h2,h3⟩
  case step1 =>
   intro j c st2 _ hj H
   refine zVC (c:=c) H λg2 out ia ib ac bc P=>?_
   clear H
   have m:=P.1
   have h1:=P.2.1
   have h2:=P.2.2.1
   have h3:=P.2.2.2
   clear P
   dsimp only
   refine zDR h2 (zDR (by lia) (zZ2 hA (g2.kind hk) (hb _ (Array.getElem_mem h2)) (ha _ (Array.getElem_mem _)) ?_))
   have hia:ia<a.size:=by lia
   refine zAQ (λew=>?_) (λew=>?_)
   ·refine zDR h2 ?_
    have m2:=m.pushB sb h2 λi hi hii=>O.trans _ _ _ (hb _ (Array.getElem_mem h2)) (ha _ (Array.getElem_mem hia)) (ha _ (Array.getElem_mem hi)) (O.asym _ _ (hb _ (Array.getElem_mem h2)) (ha _ (Array.getElem_mem hia)) ew) (sa.le O ha hi hii)
    have hs2:i+1<=(out.push b[ib]).size:=by rw[Array.size_push];lia
    refine zAQ (λq=>wpS_pure ⟨g2,some _,_,_,_,_,_,rfl,m2.m.done,m2.doneB sa (beq_iff_eq.mp q)⟩) (λq=>?_)
    have h2':ib+1<b.size:=Nat.lt_of_le_of_ne h2 λz=>q (beq_iff_eq.mpr z)
    refine zAQ (λ_=>?_) (λ_=>?_)
    ·exact wpS_pure ⟨g2,none,_,_,_,_,_,rfl,m2,h1,h2',hs2⟩
    ·exact wpS_pure ⟨g2,_,_,_,_,_,rfl,m2,h1,h2',hs2⟩
   ·refine zDR hia ?_
    have m2:=m.pushA sa hia λi hi hii=>O.trans _ _ _ (ha _ (Array.getElem_mem hia)) (hb _ (Array.getElem_mem h2)) (hb _ (Array.getElem_mem hi)) (Bool.eq_false_iff.mpr ew) (sb.le O hb hi hii)
    have hs2:i+1<=(out.push a[ia]).size:=by rw[Array.size_push];lia
    refine zAQ (λq=>wpS_pure ⟨g2,some _,_,_,_,_,_,rfl,m2.m.lastA,m2.lastA sa sb (beq_iff_eq.mp q) hl⟩) (λq=>?_)
    have h1':ia+1+1<a.size:=Nat.lt_of_le_of_ne h1 λz=>q (beq_iff_eq.mpr z)
    refine zAQ (λ_=>?_) (λ_=>?_)
    ·exact wpS_pure ⟨g2,none,_,_,_,_,_,rfl,m2,h1',h2,hs2⟩
    ·exact wpS_pure ⟨g2,_,_,_,_,_,rfl,m2,h1',h2,hs2⟩
  case post1 =>
   intro c st2 H
   refine zVD (c:=c) H λg2 r out ia ib ac bc hr=>?_
   clear H
   cases r with
   |some r=>exact wpS_pure ⟨g2,r,_,_,_,_,rfl,hr⟩
   |none =>
    have m:=hr.1
    have h1:=hr.2.1
    have h2:=hr.2.2.1
    have h3:=hr.2.2.2
    clear hr
    dsimp only
    refine wpS_bind (wpS_lift (wpAny_rule ⟨rfl,?_⟩))
    refine zGM
     (I:=λj c st3=>Gal st st3/\∃out ia ib gg ac bc,c=(none,out,ia,ib,gg,ac,bc)/\MidO L a b out ia ib/\ia+1<a.size/\ib<b.size/\i+1+(if j=0 then 0 else 1)<=out.size)
     (R:=λc st3=>Gal st st3/\∃r out ia ib gg ac bc,c=(r,out,ia,ib,gg,ac,bc)/\(match r with
      |some r=>(r.Perm (a++b)/\r.toList.Pairwise λx y=>L y x=false)
      |none=>MidO L a b out ia ib/\ia+1<a.size/\ib<b.size/\i+2<=out.size)) ?step2 ?fin2 ⟨g2,_,_,_,_,_,_,rfl,m,h1,h2,by simpa using h3⟩ ?post2
    case fin2 =>
     intro c st3 H
     refine zVD (c:=c) H λg3 out ia ib gg ac bc P=>?_
     clear H
     have m:=P.1
     have h1:=P.2.1
     have h2:=P.2.2.1
     have h3:=P.2.2.2
     clear P
     rw[if_neg (by lia)] at h3
     exact⟨g3,none,_,_,_,_,_,_,rfl,m,h1,h2,h3⟩
    case step2 =>
     intro j c st3 _ hj H
     refine zVD (c:=c) H λg3 out ia ib gg ac bc P=>?_
     clear H
     have m:=P.1
     have h1:=P.2.1
     have h2:=P.2.2.1
     have h3:=P.2.2.2
     clear P
     replace h3:i+1<=out.size:=by
      split at h3<;>lia
     dsimp only
     refine zZ5 (M:=model prog w) (A:=A) (E:=E) (s:=s) (λK=>by
      refine zAQ (λhg=>?gpos) (λhg=>?gneg)
      case gneg =>
       generalize gg=g'
       exact K g'
      case gpos=>exact K (gg-1)) (λgg=>?_)
     refine zX5 ?_
     refine zDR h2 (zZ3 hA O ((g3.set _).kind hk) (hb _ (Array.getElem_mem h2)) ha (by lia) (by lia) (λi j hj hij _=>sa (ia+i) (ia+j) hj (by lia)) λk hk' c1 c2=>?_)
     have c2':∀(i:Nat) (hi:i<a.size),ia+k<=i->L a[i] b[ib]=false:=λi hi hik=>O.asym _ _ (hb _ (Array.getElem_mem h2)) (ha _ (Array.getElem_mem hi)) (by
      have z:=c2 (i-ia) (by lia) (by lia) (by lia)
      simpa[show ia+(i-ia)=i by lia] using z)
     dsimp only
     refine via (λ(out:Array Keyed) (ia:Nat)=>MidO L a b out ia ib/\ia+1<a.size/\i+1<=out.size/\∀(i:Nat) (hi:i<a.size),ia<=i->L a[i] b[ib]=false) (λK=>by
      by_cases hk0:¬(k>0)
      ·rw[if_neg hk0]
       have hP:MidO L a b out ia ib/\ia+1<a.size/\i+1<=out.size/\∀(i:Nat) (hi:i<a.size),ia<=i->L a[i] b[ib]=false:=⟨m,h1,h3,λi hi hik=>c2' i hi (by lia)⟩
       revert hP
       generalize out=out',ia=ia'
       exact λhP=>K out' ia' hP
      ·rw[if_pos (Decidable.not_not.mp hk0)]
       replace m:=m.manyA sa (k:=k) (by lia) λi hi h1' h2' j hj hjb=>O.trans _ _ _ (ha _ (Array.getElem_mem hi)) (hb _ (Array.getElem_mem h2)) (hb _ (Array.getElem_mem hj)) (by
        have z:=c1 (i-ia) (by lia) (by lia)
        simpa[show ia+(i-ia)=i by lia] using z) (sb.le O hb hj hjb)
       refine zAQ (λq1=>wpS_pure ⟨g3.set _,some _,_,_,_,_,_,_,rfl,m.m.lastA,m.lastA sa sb (beq_iff_eq.mp q1) hl⟩) (λq1=>?_)
       replace q1:¬(ia+k+1=a.size):=λz=>q1 (beq_iff_eq.mpr z)
       refine zAQ (λq2=>wpS_pure ⟨g3.set _,some _,_,_,_,_,_,_,rfl,m.m.done,m.doneA sb (beq_iff_eq.mp q2)⟩) (λq2=>?_)
       replace q2:¬(ia+k=a.size):=λz=>q2 (beq_iff_eq.mpr z)
       exact K _ _ ⟨m,by lia,by rw[Array.size_append];lia,c2'⟩) ?_
     clear c1 c2 c2' m h1 h3 hk'
     intro out ia P
     have m:=P.1
     have h1:=P.2.1
     have h3:=P.2.2.1
     have c2':=P.2.2.2
     clear P
     refine zDR h2 ?_
     have hs0:=m.m.sz
     replace m:=m.pushB sb h2 c2'
     have hs:=m.m.sz
     refine zAQ (λq3=>wpS_pure ⟨g3.set _,some _,_,_,_,_,_,_,rfl,m.m.done,m.doneB sa (beq_iff_eq.mp q3)⟩) (λq3=>?_)
     replace q3:¬(ib+1=b.size):=λz=>q3 (beq_iff_eq.mpr z)
     refine zDR (by lia) (zZ4 hA O ((g3.set _).kind hk) (ha _ (Array.getElem_mem _)) hb (by lia) (by lia) (λi j hj hij _=>sb (ib+1+i) (ib+1+j) hj (by lia)) λk2 hk2 d1 d2=>?_)
     dsimp only
     refine via (λ(out:Array Keyed) (ib:Nat)=>MidO L a b out ia ib/\ib<b.size/\i+2<=out.size/\∀(i:Nat) (hi:i<b.size),ib<=i->L b[i] (a[ia]'(by lia))=false) (λK=>by
      by_cases hk1:¬(k2>0)
      ·rw[if_neg hk1]
       have hP:MidO L a b (out.push b[ib]) ia (ib+1)/\ib+1<b.size/\i+2<=(out.push b[ib]).size/\∀(i:Nat) (hi:i<b.size),ib+1<=i->L b[i] (a[ia]'(by lia))=false:=⟨m,by lia,by rw[Array.size_push];lia,λi hi hii=>by
        have z:=d2 (i-(ib+1)) (by lia) (by lia) (by lia)
        simpa[show ib+1+(i-(ib+1))=i by lia] using z⟩
       revert hP
       generalize out.push b[ib]=out',ib+1=ib'
       exact λhP=>K out' ib' hP
      ·rw[if_pos (Decidable.not_not.mp hk1)]
       replace m:=m.manyB sb (k:=k2) (by lia) λi hi h1' h2' j hj hja=>O.trans _ _ _ (hb _ (Array.getElem_mem hi)) (ha _ (Array.getElem_mem _)) (ha _ (Array.getElem_mem hj)) (O.asym _ _ (hb _ (Array.getElem_mem hi)) (ha _ (Array.getElem_mem _)) (by
        have z:=d1 (i-(ib+1)) (by lia) (by lia)
        simpa[show ib+1+(i-(ib+1))=i by lia] using z)) (sa.le O ha hj hja)
       refine zAQ (λq4=>wpS_pure ⟨g3.set _,some _,_,_,_,_,_,_,rfl,m.m.done,m.doneB sa (beq_iff_eq.mp q4)⟩) (λq4=>?_)
       replace q4:¬(ib+1+k2=b.size):=λz=>q4 (beq_iff_eq.mpr z)
       exact K _ _ ⟨m,by lia,by rw[Array.size_append];lia,λi hi hii=>by
        have z:=d2 (i-(ib+1)) (by lia) (by lia) (by lia)
        simpa[show ib+1+(i-(ib+1))=i by lia] using z⟩) ?_
     clear d1 d2 hk2 m q3 hs hs0 h3 c2'
     intro out ib P
     have m:=P.1
     have h2:=P.2.1
     have h3:=P.2.2.1
     have d2:=P.2.2.2
     clear P
     refine zDR (by lia) ?_
     have hs2:=m.m.sz
     replace m:=m.pushA sa (by lia) d2
     have hs3:=m.m.sz
     refine zAQ (λq5=>?_) (λq5=>?_)
     ·exact wpS_pure ⟨g3.set _,some _,_,_,_,_,_,_,rfl,m.m.lastA,m.lastA sa sb (beq_iff_eq.mp q5) hl⟩
     ·have q5':¬(_=_):=λz=>q5 (beq_iff_eq.mpr z)
      refine zAQ (λq6=>?_) (λq6=>?_)
      ·exact wpS_pure ⟨g3.set _,none,_,_,_,_,_,_,rfl,m,by lia,h2,by lia⟩
      ·exact wpS_pure ⟨g3.set _,_,_,_,_,_,_,rfl,m,by lia,h2,by rw[if_neg (by lia)];lia⟩
    case post2 =>
     intro c st3 H
     refine zZ1 (c:=c) H λg3 r out ia ib gg ac bc hr=>?_
     clear H
     cases r with
     |some r=>exact wpS_pure ⟨g3,r,_,_,_,_,rfl,hr⟩
     |none =>
      have m:=hr.1
      have h1:=hr.2.1
      have h2:=hr.2.2.1
      have h3:=hr.2.2.2
      clear hr
      exact zX5 (wpS_pure ⟨g3.set _,_,_,_,_,rfl,m,h1,h2,h3⟩)
end
structure MidHO(L:Keyed->Keyed->Bool)(a b out:Array Keyed)(na nb:Nat):Prop where
 m:MidH a b out na nb
 so:out.toList.Pairwise λx y=>L x y=false
 oa:∀x∈out,∀(i:Nat) (hi:i<a.size),i<na->L x a[i]=false
 ob:∀x∈out,∀(i:Nat) (hi:i<b.size),i<nb->L x b[i]=false
section
variable{L:Keyed->Keyed->Bool}{a b out:Array Keyed}{na nb:Nat}
theorem zK7{x:Keyed}(h:out.toList.Pairwise λx y=>L x y=false)(hx:∀y∈out,L y x=false):(out.push x).toList.Pairwise λx y=>L x y=false:=by
 rw[Array.toList_push,List.pairwise_append]
 refine⟨h,List.pairwise_singleton _ _,λy hy z hz=>?_⟩
 rw[List.mem_singleton.mp hz]
 exact hx y (Array.mem_toList_iff.mp hy)
theorem MidHO.pushA(m:MidHO L a b out na nb)(sa:SA L a)(h0:1<=na)(h:na-1<a.size)(hle:∀(j:Nat) (hj:j<b.size),j<nb->L a[na-1] b[j]=false):MidHO L a b (out.push a[na-1]) (na-1) nb where
 m:=m.m.pushA h0 h
 so:=zK7 m.so λy hy=>m.oa y hy (na-1) h (by lia)
 oa:=λx hx i hi hia=>by
  rcases Array.mem_push.mp hx with hx|rfl
  ·exact m.oa x hx i hi (by lia)
  ·exact sa i (na-1) h (by lia)
 ob:=λx hx i hi hib=>by
  rcases Array.mem_push.mp hx with hx|rfl
  ·exact m.ob x hx i hi hib
  ·exact hle i hi hib
theorem MidHO.pushB(m:MidHO L a b out na nb)(sb:SA L b)(h0:1<=nb)(h:nb-1<b.size)(hle:∀(j:Nat) (hj:j<a.size),j<na->L b[nb-1] a[j]=false):MidHO L a b (out.push b[nb-1]) na (nb-1) where
 m:=m.m.pushB h0 h
 so:=zK7 m.so λy hy=>m.ob y hy (nb-1) h (by lia)
 oa:=λx hx i hi hia=>by
  rcases Array.mem_push.mp hx with hx|rfl
  ·exact m.oa x hx i hi hia
  ·exact hle i hi hia
 ob:=λx hx i hi hib=>by
  rcases Array.mem_push.mp hx with hx|rfl
  ·exact m.ob x hx i hi (by lia)
  ·exact sb i (nb-1) h (by lia)
theorem zN6(a:Array Keyed){i n:Nat}(h:i<n)(hn:n-1<a.size):out++(a.extract i n).reverse=(out.push a[n-1])++(a.extract i (n-1)).reverse:=by
 have e:a.extract i n=(a.extract i (n-1)).push a[n-1]:=by
  have z:=zHC (out:=#[]) a (i:=i) (k:=n-1-i) (by lia)
  rw[show i+(n-1-i+1)=n by lia] at z
  simpa[show i+(n-1-i)=n-1 by lia] using z
 rw[e]
 generalize a.extract i (n-1)=x
 generalize a[n-1]=y
 apply Array.ext'
 simp
theorem MidHO.manyA(sa:SA L a){i0:Nat}(m:MidHO L a b out na nb)(h:i0<=na)(hle:∀(i:Nat) (hi:i<a.size),i0<=i->i<na->∀(j:Nat) (hj:j<b.size),j<nb->L a[i] b[j]=false):MidHO L a b (out++(a.extract i0 na).reverse) i0 nb:=by
 obtain⟨d,hd⟩:∃d,na=i0+d:=⟨na-i0,by lia⟩
 induction d generalizing na out with
 |zero =>
  have e0:na=i0:=by lia
  subst e0
  have e:out++(a.extract na na).reverse=out:=by
   have:a.extract na na=#[]:=by simp<;>lia
   rw[this];simp
  rw[e];exact m
 |succ d ih =>
  have la:=m.m.la
  rw[zN6 a (show i0<na by lia) (by lia)]
  exact ih (m.pushA sa (by lia) (by lia) λj hj hjn=>hle (na-1) (by lia) (by lia) (by lia) j hj hjn) (by lia) (λi hi h1 h2=>hle i hi h1 (by lia)) (by lia)
theorem MidHO.manyB(sb:SA L b){i0:Nat}(m:MidHO L a b out na nb)(h:i0<=nb)(hle:∀(i:Nat) (hi:i<b.size),i0<=i->i<nb->∀(j:Nat) (hj:j<a.size),j<na->L b[i] a[j]=false):MidHO L a b (out++(b.extract i0 nb).reverse) na i0:=by
 obtain⟨d,hd⟩:∃d,nb=i0+d:=⟨nb-i0,by lia⟩
 induction d generalizing nb out with
 |zero =>
  have e0:nb=i0:=by lia
  subst e0
  have e:out++(b.extract nb nb).reverse=out:=by
   have:b.extract nb nb=#[]:=by simp<;>lia
   rw[this];simp
  rw[e];exact m
 |succ d ih =>
  have lb:=m.m.lb
  rw[zN6 b (show i0<nb by lia) (by lia)]
  exact ih (m.pushB sb (by lia) (by lia) λj hj hjn=>hle (nb-1) (by lia) (by lia) (by lia) j hj hjn) (by lia) (λi hi h1 h2=>hle i hi h1 (by lia)) (by lia)
theorem zN7(h:out.toList.Pairwise λx y=>L x y=false):out.reverse.toList.Pairwise λx y=>L y x=false:=by
 rw[Array.toList_reverse,List.pairwise_reverse];exact h
theorem MidHO.doneA(m:MidHO L a b out na nb)(sb:SA L b)(h:na=0):(a.extract 0 na++b.extract 0 nb++out.reverse).toList.Pairwise λx y=>L y x=false:=by
 have z:=zN7 (m.manyB sb (i0:=0) (Nat.zero_le _) λi hi h1 h2 j hj hjn=>by lia).so
 subst h
 simpa using z
theorem MidHO.doneB(m:MidHO L a b out na nb)(sa:SA L a)(h:nb=0):(a.extract 0 na++b.extract 0 nb++out.reverse).toList.Pairwise λx y=>L y x=false:=by
 have z:=zN7 (m.manyA sa (i0:=0) (Nat.zero_le _) λi hi h1 h2 j hj hjn=>by lia).so
 subst h
 simpa using z
theorem MidHO.firstB(m:MidHO L a b out na nb)(sa:SA L a)(sb:SA L b)(h:nb=1)(hf:∀(i:Nat) (hi:i<a.size),L a[i] (b[0]'(by have:=m.m.lb;lia))=false):(b.extract 0 nb++a.extract 0 na++out.reverse).toList.Pairwise λx y=>L y x=false:=by
 have z1:=m.manyA sa (i0:=0) (Nat.zero_le _) λi hi h1 h2 j hj hjn=>by
  have e:j=0:=by lia
  subst e
  exact hf i hi
 have z:=zN7 (z1.manyB sb (i0:=0) (Nat.zero_le _) λi hi h1 h2 j hj hjn=>by lia).so
 simpa using z
end
section
variable{prog:Program}{w:World}{A:Around}{E:Value->Shared->Prop}{s:Shared}{a₀:Array Keyed}{kd:SortKind}{L:Keyed->Keyed->Bool}
theorem zZ6{α β γ δ:Type}{T:β->γ->δ->StateT SortSt Sem α}{M:Model}{A:Around}{E:Value->Shared->Prop}{s:Shared}{Q:α->SortSt->Prop}{st:SortSt}{goal:Prop}(P:β->γ->Prop)(h1:(∀x y z,P x y->wpS M A E s (T x y z) Q st)->goal)(h2:∀x y z,P x y->wpS M A E s (T x y z) Q st):goal:=h1 h2
theorem zJ6{st:SortSt}{a b:Array Keyed}{Q:Array Keyed->SortSt->Prop}(hA:zIW prog w A s kd a₀ L)(O:Ord L a₀)(hk:kindOf st=kd)(ha:∀x∈a,x∈a₀)(hb:∀x∈b,x∈a₀)(na:1<=a.size)(nb:1<=b.size)(sa:SA L a)(sb:SA L b)(hf:∀(i:Nat) (hi:i<a.size),L a[i] (b[0]'(by lia))=false)(hl:∀(j:Nat) (hj:j<b.size),L (a[a.size-1]'(by lia)) b[j]=false)
  (h:∀c st',Gal st st'->c.Perm (a++b)->(c.toList.Pairwise λx y=>L y x=false)->Q c st'):wpS (model prog w) A E s (zQD a b) Q st:=by
 refine wpS_bind (wpS_lift (wpAny_rule ⟨rfl,?_⟩))
 dsimp only
 refine zDR (by lia) ?_
 have m0:MidHO L a b #[a[a.size-1]] (a.size-1) b.size:=by
  have z:MidHO L a b #[] a.size b.size:=⟨⟨by rw[List.take_of_length_le (by simp),List.take_of_length_le (by simp)];simp,by lia,by lia,by simp⟩,List.Pairwise.nil,λx hx=>by simp at hx,λx hx=>by simp at hx⟩
  exact z.pushA sa (by lia) (by lia) λj hj _=>hl j hj
 refine zAQ (λe1=>?_) (λe1=>?_)
 ·exact wpS_pure (h _ _ (Gal.refl st) m0.m.done (m0.doneA sb (beq_iff_eq.mp e1)))
 refine zAQ (λe2=>?_) (λe2=>?_)
 ·exact wpS_pure (h _ _ (Gal.refl st) m0.m.firstB (m0.firstB sa sb (beq_iff_eq.mp e2) hf))
 have e1':¬(a.size-1=0):=λz=>e1 (beq_iff_eq.mpr z)
 have e2':¬(b.size=1):=λz=>e2 (beq_iff_eq.mpr z)
 refine wpS_bind (wpS_get ?_)
 refine zGM
  (I:=λi c st'=>Gal st st'/\∃na nb out g,c=(none,na,nb,out,g)/\MidHO L a b out na nb/\1<=na/\2<=nb/\i+1<=out.size)
  (R:=λc st'=>Gal st st'/\∃r na nb out g,c=(some r,na,nb,out,g)/\(r.Perm (a++b)/\r.toList.Pairwise λx y=>L y x=false)) ?step ?fin ?init ?post
 case init=>exact⟨Gal.refl st,_,_,_,_,rfl,m0,by lia,by lia,by simp⟩
 case post =>
  intro c st' H
  refine zVC (c:=c) H λg r ia ib out gg p=>?_
  clear H
  exact wpS_pure (h _ _ g p.1 p.2)
 case fin =>
  intro c st' H
  refine zX4 (c:=c) H λg na nb out gg P=>?_
  clear H
  have m:=P.1
  have h1:=P.2.1
  have h2:=P.2.2.1
  have h3:=P.2.2.2
  clear P
  exfalso
  have:=m.m.sz
  lia
 case step =>
  intro i c st' _ hi H
  refine zX4 (c:=c) H λg na nb out gg P=>?_
  clear H
  have m:=P.1
  have h1:=P.2.1
  have h2:=P.2.2.1
  have h3:=P.2.2.2
  clear P
  dsimp only
  have tot:0<a.size+b.size:=by lia
  refine zGM
   (I:=λ_ c st2=>Gal st st2/\∃na nb out ac bc,c=(none,na,nb,out,ac,bc)/\MidHO L a b out na nb/\1<=na/\2<=nb/\i+1<=out.size)
   (R:=λc st2=>Gal st st2/\∃r na nb out ac bc,c=(r,na,nb,out,ac,bc)/\(match r with
    |some r=>(r.Perm (a++b)/\r.toList.Pairwise λx y=>L y x=false)
    |none=>MidHO L a b out na nb/\1<=na/\2<=nb/\i+1<=out.size)) ?step1 ?fin1 ⟨g,_,_,_,_,_,rfl,m,h1,h2,h3⟩ ?post1
  case fin1 =>
   intro c st2 H
   refine zVC (c:=c) H λg2 na nb out ac bc P=>?_
   clear H
   have m:=P.1
   have h1:=P.2.1
   have h2:=P.2.2.1
   have h3:=P.2.2.2
   clear P
   exact⟨g2,none,_,_,_,_,_,rfl,m,h1,h2,h3⟩
  case step1 =>
   intro j c st2 _ hj H
   refine zVC (c:=c) H λg2 na nb out ac bc P=>?_
   clear H
   have m:=P.1
   have h1:=P.2.1
   have h2:=P.2.2.1
   have h3:=P.2.2.2
   clear P
   dsimp only
   have la:=m.m.la
   have lb:=m.m.lb
   refine zDR (by lia) (zDR (by lia) (zZ2 hA (g2.kind hk) (hb _ (Array.getElem_mem _)) (ha _ (Array.getElem_mem _)) ?_))
   have hia:na-1<a.size:=by lia
   have hib:nb-1<b.size:=by lia
   refine zAQ (λew=>?_) (λew=>?_)
   ·refine zDR hia ?_
    have m2:=m.pushA sa h1 hia λj hj hjn=>O.trans _ _ _ (hb _ (Array.getElem_mem hj)) (hb _ (Array.getElem_mem hib)) (ha _ (Array.getElem_mem hia)) (sb.le O hb hib (by lia)) (O.asym _ _ (hb _ (Array.getElem_mem hib)) (ha _ (Array.getElem_mem hia)) ew)
    have hs2:i+1<=(out.push a[na-1]).size:=by rw[Array.size_push];lia
    refine zAQ (λq=>wpS_pure ⟨g2,some _,_,_,_,_,_,rfl,m2.m.done,m2.doneA sb (beq_iff_eq.mp q)⟩) (λq=>?_)
    have h1':1<=na-1:=Nat.pos_of_ne_zero λz=>q (beq_iff_eq.mpr z)
    refine zAQ (λq=>?_) (λq=>?_)
    ·exact wpS_pure ⟨g2,none,_,_,_,_,_,rfl,m2,h1',h2,hs2⟩
    ·exact wpS_pure ⟨g2,_,_,_,_,_,rfl,m2,h1',h2,hs2⟩
   ·refine zDR hib ?_
    have m2:=m.pushB sb (by lia) hib λj hj hjn=>O.trans _ _ _ (ha _ (Array.getElem_mem hj)) (ha _ (Array.getElem_mem hia)) (hb _ (Array.getElem_mem hib)) (sa.le O ha hia (by lia)) (Bool.eq_false_iff.mpr ew)
    have hs2:i+1<=(out.push b[nb-1]).size:=by rw[Array.size_push];lia
    refine zAQ (λq=>wpS_pure ⟨g2,some _,_,_,_,_,_,rfl,m2.m.firstB,m2.firstB sa sb (beq_iff_eq.mp q) hf⟩) (λq=>?_)
    have h2':2<=nb-1:=by
     have q':¬(nb-1=1):=λz=>q (beq_iff_eq.mpr z)
     lia
    refine zAQ (λq=>?_) (λq=>?_)
    ·exact wpS_pure ⟨g2,none,_,_,_,_,_,rfl,m2,h1,h2',hs2⟩
    ·exact wpS_pure ⟨g2,_,_,_,_,_,rfl,m2,h1,h2',hs2⟩
  case post1 =>
   intro c st2 H
   refine zVD (c:=c) H λg2 r na nb out ac bc hr=>?_
   clear H
   cases r with
   |some r=>exact wpS_pure ⟨g2,r,_,_,_,_,rfl,hr⟩
   |none =>
    have m:=hr.1
    have h1:=hr.2.1
    have h2:=hr.2.2.1
    have h3:=hr.2.2.2
    clear hr
    dsimp only
    refine wpS_bind (wpS_lift (wpAny_rule ⟨rfl,?_⟩))
    refine zGM
     (I:=λj c st3=>Gal st st3/\∃na nb out gg ac bc,c=(none,na,nb,out,gg,ac,bc)/\MidHO L a b out na nb/\1<=na/\2<=nb/\i+1+(if j=0 then 0 else 1)<=out.size)
     (R:=λc st3=>Gal st st3/\∃r na nb out gg ac bc,c=(r,na,nb,out,gg,ac,bc)/\(match r with
      |some r=>(r.Perm (a++b)/\r.toList.Pairwise λx y=>L y x=false)
      |none=>MidHO L a b out na nb/\1<=na/\2<=nb/\i+2<=out.size)) ?step2 ?fin2 ⟨g2,_,_,_,_,_,_,rfl,m,h1,h2,by simpa using h3⟩ ?post2
    case fin2 =>
     intro c st3 H
     refine zVD (c:=c) H λg3 na nb out gg ac bc P=>?_
     clear H
     have m:=P.1
     have h1:=P.2.1
     have h2:=P.2.2.1
     have h3:=P.2.2.2
     clear P
     rw[if_neg (by lia)] at h3
     exact⟨g3,none,_,_,_,_,_,_,rfl,m,h1,h2,h3⟩
    case step2 =>
     intro j c st3 _ hj H
     refine zVD (c:=c) H λg3 na nb out gg ac bc P=>?_
     clear H
     have m:=P.1
     have h1:=P.2.1
     have h2:=P.2.2.1
     have h3:=P.2.2.2
     clear P
     replace h3:i+1<=out.size:=by
      split at h3<;>lia
     dsimp only
     have la:=m.m.la
     have lb:=m.m.lb
     refine zZ5 (λK=>by
      refine zAQ (λhg=>?gpos) (λhg=>?gneg)
      case gneg =>
       generalize gg=g'
       exact K g'
      case gpos=>exact K (gg-1)) (λgg=>?_)
     refine zX5 ?_
     refine zDR (by lia) (zZ3 hA O ((g3.set _).kind hk) (hb _ (Array.getElem_mem _)) ha (by lia) (by lia) (λi j hj hij _=>sa (0+i) (0+j) hj (by lia)) λk hk' c1 c2=>?_)
     have hib:nb-1<b.size:=by lia
     have c1':∀(i:Nat) (hi:i<a.size),i<k->L b[nb-1] a[i]=false:=λi hi hik=>by
      have z:=c1 i (by lia) hik
      simpa using z
     dsimp only
     refine zZ6 (λ(out:Array Keyed) (na:Nat)=>MidHO L a b out na nb/\1<=na/\i+1<=out.size/\∀(i:Nat) (hi:i<a.size),i<na->L b[nb-1] a[i]=false) (λK=>by
      by_cases hk0:¬(na-k>0)
      ·rw[if_neg hk0]
       have hP:MidHO L a b out na nb/\1<=na/\i+1<=out.size/\∀(i:Nat) (hi:i<a.size),i<na->L b[nb-1] a[i]=false:=⟨m,h1,h3,λi hi hik=>c1' i hi (by lia)⟩
       revert hP
       generalize na-k=ac'
       generalize out=out',na=na'
       exact λhP=>K out' na' ac' hP
      ·rw[if_pos (Decidable.not_not.mp hk0)]
       replace m:=m.manyA sa hk' λi hi h1' h2' j hj hjn=>O.trans _ _ _ (hb _ (Array.getElem_mem hj)) (hb _ (Array.getElem_mem hib)) (ha _ (Array.getElem_mem hi)) (sb.le O hb hib (by lia)) (O.asym _ _ (hb _ (Array.getElem_mem hib)) (ha _ (Array.getElem_mem hi)) (by
        have z:=c2 i (by lia) h1' h2'
        simpa using z))
       refine zAQ (λq1=>wpS_pure ⟨g3.set _,some _,_,_,_,_,_,_,rfl,m.m.done,m.doneA sb (beq_iff_eq.mp q1)⟩) (λq1=>?_)
       replace q1:¬(k=0):=λz=>q1 (beq_iff_eq.mpr z)
       exact K _ _ _ ⟨m,by lia,by rw[Array.size_append];lia,c1'⟩) ?_
     clear c1 c2 c1' m h1 h3 hk' la
     intro out na ac P
     have m:=P.1
     have h1:=P.2.1
     have h3:=P.2.2.1
     have c1':=P.2.2.2
     clear P
     refine zDR (by lia) ?_
     have hs0:=m.m.sz
     have la:=m.m.la
     replace m:=m.pushB sb (by lia) (by lia) c1'
     have hs:=m.m.sz
     refine zAQ (λq3=>wpS_pure ⟨g3.set _,some _,_,_,_,_,_,_,rfl,m.m.firstB,m.firstB sa sb (beq_iff_eq.mp q3) hf⟩) (λq3=>?_)
     have q3':¬(nb-1=1):=λz=>q3 (beq_iff_eq.mpr z)
     refine zDR (by lia) (zZ4 hA O ((g3.set _).kind hk) (ha _ (Array.getElem_mem _)) hb (by lia) (by lia) (λi j hj hij _=>sb (0+i) (0+j) hj (by lia)) λk2 hk2 d1 d2=>?_)
     have hia:na-1<a.size:=by lia
     have d1':∀(j:Nat) (hj:j<b.size),j<k2->L a[na-1] b[j]=false:=λj hj hjn=>O.asym _ _ (hb _ (Array.getElem_mem hj)) (ha _ (Array.getElem_mem _)) (by
      have z:=d1 j (by lia) hjn
      simpa using z)
     dsimp only
     refine zZ6 (λ(out:Array Keyed) (nb:Nat)=>MidHO L a b out na nb/\2<=nb/\i+2<=out.size/\∀(j:Nat) (hj:j<b.size),j<nb->L a[na-1] b[j]=false) (λK=>by
      by_cases hk1:¬(nb-1-k2>0)
      ·rw[if_neg hk1]
       have hP:MidHO L a b (out.push b[nb-1]) na (nb-1)/\2<=nb-1/\i+2<=(out.push b[nb-1]).size/\∀(j:Nat) (hj:j<b.size),j<nb-1->L a[na-1] b[j]=false:=⟨m,by lia,by rw[Array.size_push];lia,λj hj hjn=>d1' j hj (by lia)⟩
       revert hP
       generalize nb-1-k2=bc'
       generalize out.push b[nb-1]=out'
       generalize nb-1=nb'
       exact λhP=>K out' nb' bc' hP
      ·rw[if_pos (Decidable.not_not.mp hk1)]
       replace m:=m.manyB sb hk2 λi hi h1' h2' j hj hjn=>O.trans _ _ _ (ha _ (Array.getElem_mem hj)) (ha _ (Array.getElem_mem hia)) (hb _ (Array.getElem_mem hi)) (sa.le O ha hia (by lia)) (by
        have z:=d2 i (by lia) h1' h2'
        simpa using z)
       refine zAQ (λq4=>wpS_pure ⟨g3.set _,some _,_,_,_,_,_,_,rfl,m.m.firstB,m.firstB sa sb (beq_iff_eq.mp q4) hf⟩) (λq4=>?_)
       replace q4:¬(k2=1):=λz=>q4 (beq_iff_eq.mpr z)
       refine zAQ (λq5=>wpS_pure ⟨g3.set _,some _,_,_,_,_,_,_,rfl,m.m.done,m.doneB sa (beq_iff_eq.mp q5)⟩) (λq5=>?_)
       replace q5:¬(k2=0):=λz=>q5 (beq_iff_eq.mpr z)
       exact K _ _ _ ⟨m,by lia,by rw[Array.size_append,Array.size_push];lia,d1'⟩) ?_
     clear d1 d2 d1' hk2 m hs hs0 h3 c1'
     intro out nb' bc P
     have m:=P.1
     have h2':=P.2.1
     have h3:=P.2.2.1
     have d1':=P.2.2.2
     clear P
     refine zDR (by lia) ?_
     have hs2:=m.m.sz
     replace m:=m.pushA sa (by lia) (by lia) d1'
     have hs3:=m.m.sz
     refine zAQ (λq6=>wpS_pure ⟨g3.set _,some _,_,_,_,_,_,_,rfl,m.m.done,m.doneA sb (beq_iff_eq.mp q6)⟩) (λq6=>?_)
     have q6':¬(na-1=0):=λz=>q6 (beq_iff_eq.mpr z)
     refine zAQ (λq7=>?_) (λq7=>?_)
     ·exact wpS_pure ⟨g3.set _,none,_,_,_,_,_,_,rfl,m,by lia,h2',by lia⟩
     ·exact wpS_pure ⟨g3.set _,_,_,_,_,_,_,rfl,m,by lia,h2',by rw[if_neg (by lia)];lia⟩
    case post2 =>
     intro c st3 H
     refine zZ1 (c:=c) H λg3 r na nb out gg ac bc hr=>?_
     clear H
     cases r with
     |some r=>exact wpS_pure ⟨g3,r,_,_,_,_,rfl,hr⟩
     |none =>
      have m:=hr.1
      have h1:=hr.2.1
      have h2:=hr.2.2.1
      have h3:=hr.2.2.2
      clear hr
      exact zX5 (wpS_pure ⟨g3.set _,_,_,_,_,rfl,m,h1,h2,h3⟩)
end
def Seg(L:Keyed->Keyed->Bool)(a:Array Keyed)(i n:Nat):Prop:=∀(p q:Nat) (hq:q<a.size) (hpq:p<q),i<=p->q<i+n->L a[q] (a[p]'(by lia))=false
theorem zTM{a c:Array Keyed}{sa:Nat}(h:sa+c.size<=a.size):(c.toList.zipIdx.foldl (λa (p:Keyed×Nat)=>a.setIfInBounds (sa+p.2) p.1) a).size=a.size /\
  ∀(p:Nat) (hp:p<(c.toList.zipIdx.foldl (λa (p:Keyed×Nat)=>a.setIfInBounds (sa+p.2) p.1) a).size) (hp':p<a.size),
   (c.toList.zipIdx.foldl (λa (p:Keyed×Nat)=>a.setIfInBounds (sa+p.2) p.1) a)[p]=if h:sa<=p/\p-sa<c.size then c[p-sa]'h.2 else a[p]:=by
 have e:=zNW c.toList a sa 0 (by simpa using h)
 generalize c.toList.zipIdx.foldl (λa (p:Keyed×Nat)=>a.setIfInBounds (sa+p.2) p.1) a=r at e ⊢
 rw[show sa+0=sa by lia] at e
 have hs:r.size=a.size:=by
  have:=congrArg List.length e
  simp at this
  lia
 refine⟨hs,λp hp hp'=>?_⟩
 have e2:r.toList[p]?=(a.toList.take sa++c.toList++a.toList.drop (sa+c.toList.length))[p]?:=by rw[e]
 rw[Array.getElem?_toList,getElem?_pos r p hp] at e2
 have hl:(a.toList.take sa).length=sa:=by simp;lia
 by_cases h1:p<sa
 ·rw[dif_neg (by lia)]
  rw[List.append_assoc,List.getElem?_append_left (by lia),List.getElem?_take_of_lt h1,Array.getElem?_toList,getElem?_pos a p hp'] at e2
  exact Option.some.inj e2
 ·by_cases h2:p-sa<c.size
  ·rw[dif_pos ⟨by lia,h2⟩]
   rw[List.append_assoc,List.getElem?_append_right (by lia),hl,List.getElem?_append_left (by simpa using h2),Array.getElem?_toList,getElem?_pos c (p-sa) h2] at e2
   exact Option.some.inj e2
  ·rw[dif_neg (by lia)]
   rw[List.append_assoc,List.getElem?_append_right (by lia),hl,List.getElem?_append_right (by simp;lia),List.getElem?_drop] at e2
   rw[show sa+c.toList.length+(p-sa-c.toList.length)=p by simp;lia,Array.getElem?_toList,getElem?_pos a p hp'] at e2
   exact Option.some.inj e2
section
variable{prog:Program}{w:World}{A:Around}{E:Value->Shared->Prop}{s:Shared}{a₀:Array Keyed}{kd:SortKind}{L:Keyed->Keyed->Bool}
theorem zJ7{a:Array Keyed}{i j:Nat}{x:Keyed}(hx:x∈a.extract i j):∃(p:Nat) (hp:p<a.size),i<=p/\p<j/\x=a[p]:=by
 rw[Array.mem_iff_getElem] at hx
 obtain⟨k,hk,rfl⟩:=hx
 rw[Array.size_extract] at hk
 exact⟨i+k,by lia,by lia,by lia,by simp⟩
theorem yA0{P goal:Prop}(h1:P->goal)(h2:P):goal:=h1 h2
theorem zJ8{st:SortSt}{i sa na sb nb pa pb:Nat}{Q:Bool->SortSt->Prop}(hA:zIW prog w A s kd a₀ L)(O:Ord L a₀)(hB:SB a₀ kd st)(e1:(pendingOf st)[i]?=some (sa,na,pa))(e2:(pendingOf st)[i+1]?=some (sb,nb,pb))
  (h1:1<=na) (h2:1<=nb) (hsb:sb=sa+na) (hz:sb+nb<=a₀.size) (ga:Seg L (arrOf st) sa na) (gb:Seg L (arrOf st) sb nb)
  (h:∀st',SB a₀ kd st'->pendingOf st'=((pendingOf st).setIfInBounds i (sa,na+nb,pa)).eraseIdxIfInBounds (i+1)->Seg L (arrOf st') sa (na+nb) ->
   (∀(p:Nat) (hp:p<(arrOf st').size) (hp':p<(arrOf st).size),p<sa\/sa+(na+nb)<=p->(arrOf st')[p]=(arrOf st)[p])->Q true st') :
  wpS (model prog w) A E s (mergeAt' i) Q st:=by
 refine wpS_bind (wpS_get ?_)
 rw[e1,e2]
 dsimp only
 have hsz:=hB.size
 have hall:∀x∈arrOf st,x∈a₀:=λx hx=>hB.perm.mem_iff.mp hx
 have mm:∀(p:Nat) (hp:p<(arrOf st).size),(arrOf st)[p]∈a₀:=λp hp=>hall _ (Array.getElem_mem hp)
 refine wpS_bind (zTE ?_)
 have hB2:SB a₀ kd (setPending st (((pendingOf st).setIfInBounds i (sa,na+nb,pa)).eraseIdxIfInBounds (i+1))):=⟨hB.perm,hB.kind,hB.failed⟩
 have hsb0:sb<(arrOf st).size:=by lia
 -- b's first is at most the others of b;a's last is at least the others of a
 have b0:∀(q:Nat) (hq:q<(arrOf st).size),sb<=q->q<sb+nb->L (arrOf st)[q] (arrOf st)[sb]=false:=λq hq h3 h4=>by
  rcases Nat.lt_or_eq_of_le h3 with z|z
  ·exact gb sb q hq z (Nat.le_refl _) h4
  ·subst z;exact O.refl (mm _ _)
 have hal:sa+na-1<(arrOf st).size:=by lia
 have aL:∀(p:Nat) (hp:p<(arrOf st).size),sa<=p->p<sa+na->L (arrOf st)[sa+na-1] (arrOf st)[p]=false:=λp hp h3 h4=>by
  rcases Nat.lt_or_eq_of_le (show p<=sa+na-1 by lia) with z|z
  ·exact ga p (sa+na-1) hal z h3 (by lia)
  ·subst z;exact O.refl (mm _ _)
 refine wpS_bind (zDZ (arr:=arrOf st) (by lia) (wpS_bind (zIX (arr:=arrOf st) hA O hB2.kind (hall _ (Array.getElem_mem _)) hall (by lia) (by lia) (λi j hj hij hjn=>ga (sa+i) (sa+j) hj (by lia) (by lia) (by lia)) λk hk c1 c2=>?_)))
 have c1':∀(p:Nat) (hp:p<(arrOf st).size),sa<=p->p<sa+k->L (arrOf st)[sb] (arrOf st)[p]=false:=λp hp h3 h4=>by
  have z:=c1 (p-sa) (by lia) (by lia)
  simpa[show sa+(p-sa)=p by lia] using z
 have c2':∀(p:Nat) (hp:p<(arrOf st).size),sa+k<=p->p<sa+na->L (arrOf st)[sb] (arrOf st)[p]=true:=λp hp h3 h4=>by
  have z:=c2 (p-sa) (by lia) (by lia) (by lia)
  simpa[show sa+(p-sa)=p by lia] using z
 dsimp only
 refine zAQ (λq=>?_) (λq=>?_)
 ·have q':na-k=0:=beq_iff_eq.mp q
  refine wpS_pure (h _ hB2 rfl (λp r hr hpr h3 h4=>?_) λp hp hp' _=>rfl)
  by_cases ha':r<sa+na
  ·exact ga p r hr hpr h3 ha'
  ·by_cases hb':sb<=p
   ·exact gb p r hr hpr hb' (by lia)
   ·exact O.trans _ _ _ (mm p (by lia)) (mm sb hsb0) (mm r hr) (c1' p (by lia) h3 (by lia)) (b0 r hr (by lia) (by lia))
 have q':¬(na-k=0):=λz=>q (beq_iff_eq.mpr z)
 refine wpS_bind (zDZ (arr:=arrOf st) (by lia) (wpS_bind (zIY (arr:=arrOf st) hA O hB2.kind (hall _ (Array.getElem_mem _)) hall (by lia) (by lia) (λi j hj hij hjn=>gb (sb+i) (sb+j) hj (by lia) (by lia) (by lia)) λm hm d1 d2=>?_)))
 have eal:sa+k+(na-k)-1=sa+na-1:=by lia
 have d1':∀(r:Nat) (hr:r<(arrOf st).size),sb<=r->r<sb+m->L (arrOf st)[r] (arrOf st)[sa+na-1]=true:=λr hr h3 h4=>by
  have z:=d1 (r-sb) (by lia) (by lia)
  simpa[show sb+(r-sb)=r by lia,eal] using z
 have d2':∀(r:Nat) (hr:r<(arrOf st).size),sb+m<=r->r<sb+nb->L (arrOf st)[r] (arrOf st)[sa+na-1]=false:=λr hr h3 h4=>by
  have z:=d2 (r-sb) (by lia) (by lia) (by lia)
  simpa[show sb+(r-sb)=r by lia,eal] using z
 dsimp only
 refine zAQ (λr=>?_) (λr=>?_)
 ·have r':m=0:=beq_iff_eq.mp r
  refine wpS_pure (h _ hB2 rfl (λp r hr hpr h3 h4=>?_) λp hp hp' _=>rfl)
  by_cases ha':r<sa+na
  ·exact ga p r hr hpr h3 ha'
  ·by_cases hb':sb<=p
   ·exact gb p r hr hpr hb' (by lia)
   ·exact O.trans _ _ _ (mm p (by lia)) (mm _ hal) (mm r hr) (aL p (by lia) h3 (by lia)) (d2' r hr (by lia) (by lia))
 have r':¬(m=0):=λz=>r (beq_iff_eq.mpr z)
 have ex:∀i j x,x∈(arrOf st).extract i j->x∈a₀:=λi j x hx=>by
  obtain⟨p,hp,_,_,rfl⟩:=zJ7 hx
  exact mm p hp
 have zx:((arrOf st).extract (sa+k) sb).size=na-k:=by rw[Array.size_extract];lia
 have zy:((arrOf st).extract sb (sb+m)).size=m:=by rw[Array.size_extract];lia
 have sx:SA L ((arrOf st).extract (sa+k) sb):=λi j hj hij=>by
  rw[zx] at hj
  simpa using ga (sa+k+i) (sa+k+j) (by lia) (by lia) (by lia) (by lia)
 have sy:SA L ((arrOf st).extract sb (sb+m)):=λi j hj hij=>by
  rw[zy] at hj
  simpa using gb (sb+i) (sb+j) (by lia) (by lia) (by lia) (by lia)
 have hf:∀(i:Nat) (hi:i<((arrOf st).extract (sa+k) sb).size),L ((arrOf st).extract (sa+k) sb)[i] (((arrOf st).extract sb (sb+m))[0]'(by lia))=false:=λi hi=>by
  have z:=O.asym _ _ (mm sb hsb0) (mm (sa+k+i) (by lia)) (c2' (sa+k+i) (by lia) (by lia) (by lia))
  simpa using z
 have hl:∀(j:Nat) (hj:j<((arrOf st).extract sb (sb+m)).size),L (((arrOf st).extract (sa+k) sb)[((arrOf st).extract (sa+k) sb).size-1]'(by lia)) ((arrOf st).extract sb (sb+m))[j]=false:=λj hj=>by
  have z:=O.asym _ _ (mm (sb+j) (by lia)) (mm (sa+na-1) hal) (d1' (sb+j) (by lia) (by lia) (by lia))
  simpa[zx,show sa+k+(na-k-1)=sa+na-1 by lia] using z
 refine yA0 (λK=>zAQ (λ_=>wpS_bind (zJ5 (a:=(arrOf st).extract (sa+k) sb) (b:=(arrOf st).extract sb (sb+m)) hA O hB2.kind (ex _ _) (ex _ _) (by lia) (by lia) sx sy hf hl K)) (λ_=>wpS_bind (zJ6 (a:=(arrOf st).extract (sa+k) sb) (b:=(arrOf st).extract sb (sb+m)) hA O hB2.kind (ex _ _) (ex _ _) (by lia) (by lia) sx sy hf hl K))) ?_
 rintro c st' ⟨g,rfl⟩ hp hpw
 refine wpS_bind (wpS_modify (wpS_bind (wpS_get (wpS_pure ?_))))
 have hn:(failedOf st).isNone=true:=by rw[hB.failed];rfl
 show Q (failedOf st).isNone _
 rw[hn]
 have hcs:c.size=na-k+m:=by rw[hp.size_eq,Array.size_append,zx,zy]
 obtain⟨os,oat⟩:=zTM (a:=arrOf st) (c:=c) (sa:=sa+k) (by lia)
 have cmem:∀(j:Nat) (hj:j<c.size),(∃(p:Nat) (hp:p<(arrOf st).size),sa+k<=p/\p<sb/\c[j]=(arrOf st)[p])\/∃(p:Nat) (hp:p<(arrOf st).size),sb<=p/\p<sb+m/\c[j]=(arrOf st)[p]:=λj hj=>by
  have hx:c[j]∈(arrOf st).extract (sa+k) sb++(arrOf st).extract sb (sb+m):=hp.mem_iff.mp (Array.getElem_mem hj)
  rcases Array.mem_append.mp hx with hx|hx
  ·exact .inl (zJ7 hx)
  ·exact .inr (zJ7 hx)
 refine h _ ⟨(zNX (by lia) (by lia) hp).trans hB.perm,hB.kind,hB.failed⟩ rfl (λp r hr hpr h3 h4=>?_) λp hpp hpp' hor=>?_
 ·have hr':r<(arrOf st).size:=by rw[<-os];exact hr
  show L (_:Array Keyed)[r] (_:Array Keyed)[p]=false
  rw[oat r hr hr',oat p (by lia) (by lia)]
  by_cases hp1:p<sa+k
  ·rw[dif_neg (show ¬(sa+k<=p/\p-(sa+k)<c.size) by lia)]
   by_cases hr1:r<sa+k
   ·rw[dif_neg (show ¬(sa+k<=r/\r-(sa+k)<c.size) by lia)]
    exact ga p r hr' hpr h3 (by lia)
   ·by_cases hr2:r-(sa+k)<c.size
    ·rw[dif_pos (show sa+k<=r/\r-(sa+k)<c.size from⟨by lia,hr2⟩)]
     rcases cmem _ hr2 with⟨u,hu,u1,u2,eu⟩|⟨u,hu,u1,u2,eu⟩
     ·rw[eu];exact ga p u hu (by lia) h3 (by lia)
     ·rw[eu];exact O.trans _ _ _ (mm p (by lia)) (mm sb hsb0) (mm u hu) (c1' p (by lia) h3 hp1) (b0 u hu u1 (by lia))
    ·rw[dif_neg (show ¬(sa+k<=r/\r-(sa+k)<c.size) by lia)]
     exact O.trans _ _ _ (mm p (by lia)) (mm sb hsb0) (mm r hr') (c1' p (by lia) h3 hp1) (b0 r hr' (by lia) (by lia))
  ·by_cases hp2:p-(sa+k)<c.size
   ·rw[dif_pos (show sa+k<=p/\p-(sa+k)<c.size from⟨by lia,hp2⟩)]
    by_cases hr2:r-(sa+k)<c.size
    ·rw[dif_pos (show sa+k<=r/\r-(sa+k)<c.size from⟨by lia,hr2⟩)]
     have z:=List.pairwise_iff_getElem.mp hpw (p-(sa+k)) (r-(sa+k)) (by simpa using hp2) (by simpa using hr2) (by lia)
     simpa using z
    ·rw[dif_neg (show ¬(sa+k<=r/\r-(sa+k)<c.size) by lia)]
     rcases cmem _ hp2 with⟨u,hu,u1,u2,eu⟩|⟨u,hu,u1,u2,eu⟩
     ·rw[eu];exact O.trans _ _ _ (mm u hu) (mm _ hal) (mm r hr') (aL u hu (by lia) (by lia)) (d2' r hr' (by lia) (by lia))
     ·rw[eu];exact gb u r hr' (by lia) u1 (by lia)
   ·rw[dif_neg (show ¬(sa+k<=p/\p-(sa+k)<c.size) by lia),dif_neg (show ¬(sa+k<=r/\r-(sa+k)<c.size) by lia)]
    exact gb p r hr' hpr (by lia) (by lia)
 ·show(_:Array Keyed)[p]=_
  rw[oat p hpp hpp',dif_neg (show ¬(sa+k<=p/\p-(sa+k)<c.size) by lia)]
end
theorem seg_iff{L:Keyed->Keyed->Bool}{a:Array Keyed}{i n:Nat}:Seg L a i n↔∀p q x y,p<q->i<=p->q<i+n->a[p]?=some x->a[q]?=some y->L y x=false:=by
 constructor
 ·intro h p q x y hpq hi hq ex ey
  obtain⟨h1,rfl⟩:=Array.getElem?_eq_some_iff.mp ex
  obtain⟨h2,rfl⟩:=Array.getElem?_eq_some_iff.mp ey
  exact h p q h2 hpq hi hq
 ·intro h p q hq hpq hi hn
  exact h p q _ _ hpq hi hn (getElem?_pos a p (by omega)) (getElem?_pos a q hq)
section
variable{prog:Program}{w:World}{A:Around}{E:Value->Shared->Prop}{s:Shared}{a₀:Array Keyed}{kd:SortKind}{L:Keyed->Keyed->Bool}
theorem zC4{st:SortSt}{i j:Nat}{Q:Option Bool->SortSt->Prop}(hA:zIW prog w A s kd a₀ L)(hB:SB a₀ kd st)(hi:i<(arrOf st).size)(hj:j<(arrOf st).size)(h:Q (some (L (arrOf st)[i] (arrOf st)[j])) st) :
  wpS (model prog w) A E s (ltAt' i j) Q st:=by
 rw[ltAt'_eq]
 refine wpS_bind (wpS_get ?_)
 exact wpS_bind (zDZ hi (wpS_bind (zDZ hj (zHB hA hB.kind (hB.mem hi) (hB.mem hj) h))))
theorem zF7{st:SortSt}{lo n ok:Nat}{Q:Bool->SortSt->Prop}(hA:zIW prog w A s kd a₀ L)(O:Ord L a₀)(hn:lo+n<=a₀.size)(hok:ok<=n)(h1:1<=n)(hB:SB a₀ kd st)(hs:Seg L (arrOf st) lo ok)
  (h:∀st',SB a₀ kd st'->pendingOf st'=pendingOf st->Seg L (arrOf st') lo n->(∀p,p<lo->(arrOf st')[p]?=(arrOf st)[p]?)->Q true st'):wpS (model prog w) A E s (binarySort' lo n ok) Q st:=by
 rw[binarySort'_eq]
 refine wpS_bind (wpS_mono (wpS_forRange (I:=λk c st'=>c=(none,())/\SB a₀ kd st'/\pendingOf st'=pendingOf st/\Seg L (arrOf st') lo k/\∀p,p<lo->(arrOf st')[p]?=(arrOf st)[p]?)
  (Q:=λc st'=>c=(none,())/\SB a₀ kd st'/\pendingOf st'=pendingOf st/\Seg L (arrOf st') lo n/\∀p,p<lo->(arrOf st')[p]?=(arrOf st)[p]?) ?step ?fin ⟨rfl,hB,rfl,?ini,λ_ _=>rfl⟩) ?post)
 case ini =>
  intro p q hq hpq hp hqn
  exact hs p q hq hpq hp (by omega)
 case fin =>
  rintro c st' ⟨e,hB',hp,hs',ho⟩
  refine⟨e,hB',hp,λp q hq hpq hp hqn=>hs' p q hq hpq hp ?_,ho⟩
  omega
 case post =>
  rintro c st' ⟨rfl,hB',hp,hs',ho⟩
  exact wpS_pure (h st' hB' hp hs' ho)
 case step =>
  rintro k c st' hak hkn ⟨rfl,hB',hp,hs',ho⟩
  have hsz:=hB'.size
  have hk':lo+k<(arrOf st').size:=by omega
  have mm:∀(p:Nat) (hp:p<(arrOf st').size),(arrOf st')[p]∈a₀:=λp hp=>hB'.mem hp
  refine wpS_bind (wpS_mono (wpS_forRange (I:=λx c st''=>st''=st'/\∃l r,c=(none,l,r)/\l<=r/\r<=k/\(∀(p:Nat) (hp:lo+p<(arrOf st').size),p<l->L (arrOf st')[lo+k] (arrOf st')[lo+p]=false)/\(∀(p:Nat) (hp:lo+p<(arrOf st').size),r<=p->p<k->L (arrOf st')[lo+k] (arrOf st')[lo+p]=true)/\r-l+x<=k)
   (Q:=λc st''=>st''=st'/\∃l r,c=(none,l,r)/\l<=k/\(∀(p:Nat) (hp:lo+p<(arrOf st').size),p<l->L (arrOf st')[lo+k] (arrOf st')[lo+p]=false)/\(∀(p:Nat) (hp:lo+p<(arrOf st').size),l<=p->p<k->L (arrOf st')[lo+k] (arrOf st')[lo+p]=true)) ?istep
   (λc st'' ⟨e,l,r,e2,q1,q2,q3,q4,q5⟩=>⟨e,l,r,e2,by omega,q3,λp hp h1 h2=>q4 p hp (by omega) h2⟩) ⟨rfl,0,k,rfl,Nat.zero_le _,Nat.le_refl _,λp hp h=>by omega,λp hp h1 h2=>by omega,by omega⟩) ?ipost)
  case istep =>
   rintro x c st'' _ hxk ⟨rfl,l,r,rfl,q1,q2,q3,q4,q5⟩
   dsimp only
   by_cases hge:l>=r
   ·rw[if_pos hge]
    exact wpS_pure ⟨rfl,l,r,rfl,by omega,q3,λp hp h1 h2=>q4 p hp (by omega) h2⟩
   ·rw[if_neg hge]
    have hm:lo+(l+r) / 2<(arrOf st'').size:=by omega
    refine wpS_bind (zC4 hA hB' hk' hm ?_)
    cases e:L (arrOf st'')[lo+k] (arrOf st'')[lo+(l+r) / 2] with
    |true =>
     refine wpS_pure ⟨rfl,l,(l+r) / 2,rfl,by omega,by omega,q3,λp hp h1 h2=>?_,by omega⟩
     cases e3:L (arrOf st'')[lo+k] (arrOf st'')[lo+p] with
     |true=>rfl
     |false =>
      rcases Nat.lt_or_eq_of_le h1 with z|z
      ·rw[O.trans _ _ _ (mm _ hm) (mm _ hp) (mm _ hk') (hs' (lo+(l+r) / 2) (lo+p) hp (by omega) (by omega) (by omega)) e3] at e
       cases e
      ·subst z;rw[e] at e3;cases e3
    |false =>
     refine wpS_pure ⟨rfl,(l+r) / 2+1,r,rfl,by omega,q2,λp hp h1=>?_,q4,by omega⟩
     rcases Nat.lt_or_eq_of_le (show p<=(l+r) / 2 by omega) with z|z
     ·exact O.trans _ _ _ (mm _ hp) (mm _ hm) (mm _ hk') (hs' (lo+p) (lo+(l+r) / 2) hm (by omega) (by omega) (by omega)) e
     ·subst z;exact e
  case ipost =>
   rintro c st'' ⟨rfl,l,r,rfl,hl,q3,q4⟩
   show wpS _ _ _ _ (do moveDown' (lo+k) (lo+l);pure (ForInStep.yield (none,()))) _ _
   rw[moveDown'_eq]
   have bu:=getElem?_bubble (xs:=arrOf st'') hk' (lo+k-(lo+l)) (by omega)
   refine wpS_bind (wpS_modify (wpS_pure ⟨rfl,hB'.setArr (bubble_perm _ _ _),hp,?_,λp hp2=>?_⟩))
   ·show Seg L (bubble (arrOf st'') (lo+k) (lo+k-(lo+l))) lo (k+1)
    have hq':=seg_iff.mp hs'
    rw[seg_iff]
    intro p q x y hpq hlp hqn ex ey
    rw[bu] at ex ey
    rw[show lo+k-(lo+k-(lo+l))=lo+l by omega] at ex ey
    by_cases hp1:p=lo+l
    ·rw[if_pos hp1] at ex
     rw[if_neg (by omega),if_pos (by omega)] at ey
     obtain⟨z1,rfl⟩:=Array.getElem?_eq_some_iff.mp ex
     obtain⟨z2,rfl⟩:=Array.getElem?_eq_some_iff.mp ey
     have z:=q4 (q-1-lo) (by omega) (by omega) (by omega)
     have e:lo+(q-1-lo)=q-1:=by omega
     simp only[e] at z
     exact O.asym _ _ (mm _ z1) (mm _ z2) z
    ·rw[if_neg hp1] at ex
     by_cases hq1:q=lo+l
     ·rw[if_pos hq1] at ey
      rw[if_neg (by omega)] at ex
      obtain⟨z1,rfl⟩:=Array.getElem?_eq_some_iff.mp ex
      obtain⟨z2,rfl⟩:=Array.getElem?_eq_some_iff.mp ey
      have z:=q3 (p-lo) (by omega) (by omega)
      have e:lo+(p-lo)=p:=by omega
      simp only[e] at z
      exact z
     ·rw[if_neg hq1] at ey
      by_cases hp2:lo+l<p/\p<=lo+k
      ·rw[if_pos hp2] at ex
       rw[if_pos (by omega)] at ey
       exact hq' (p-1) (q-1) x y (by omega) (by omega) (by omega) ex ey
      ·rw[if_neg hp2] at ex
       by_cases hq2:lo+l<q/\q<=lo+k
       ·rw[if_pos hq2] at ey
        exact hq' p (q-1) x y (by omega) (by omega) (by omega) ex ey
       ·rw[if_neg hq2] at ey
        exact hq' p q x y (by omega) (by omega) (by omega) ex ey
   ·show(bubble (arrOf st'') (lo+k) (lo+k-(lo+l)))[p]?=_
    rw[bu,if_neg (by omega),if_neg (by omega)]
    exact ho p hp2
end
section
variable{L:Keyed->Keyed->Bool}{a a₀:Array Keyed}
def Desc(L:Keyed->Keyed->Bool)(a:Array Keyed)(i n:Nat):Prop:=∀p q x y,p<q->i<=p->q<i+n->a[p]?=some x->a[q]?=some y->L x y=false
def Blk(L:Keyed->Keyed->Bool)(a:Array Keyed)(i j:Nat):Prop:=∀p q x y,i<=p->p<j->i<=q->q<j->a[p]?=some x->a[q]?=some y->L x y=false
theorem mir{xs:Array Keyed}{i j:Nat}(hj:j<=xs.size)(k:Nat):(mirror xs i j ((j-i) / 2))[k]?=if i<=k/\k<j then xs[i+j-1-k]? else xs[k]?:=getElem?_mirror_all hj k
theorem Desc.blk{lo n i:Nat}(d:Desc L a lo n)(hi:lo<=i)(hj:lo+n<=a.size)(b:Blk L a i (lo+n)):Desc L (mirror a i (lo+n) ((lo+n-i) / 2)) lo n:=by
 intro p q x y hpq hp hq ex ey
 rw[mir hj] at ex ey
 by_cases hp1:i<=p/\p<lo+n
 ·rw[if_pos hp1] at ex
  rw[if_pos (by lia)] at ey
  exact b _ _ x y (by lia) (by lia) (by lia) (by lia) ex ey
 ·rw[if_neg hp1] at ex
  by_cases hq1:i<=q/\q<lo+n
  ·rw[if_pos hq1] at ey
   exact d p _ x y (by lia) hp (by lia) ex ey
  ·rw[if_neg hq1] at ey
   exact d p q x y hpq hp hq ex ey
theorem Desc.rev{lo n:Nat}(d:Desc L a lo n)(hj:lo+n<=a.size):Seg L (mirror a lo (lo+n) ((lo+n-lo) / 2)) lo n:=by
 rw[seg_iff]
 intro p q x y hpq hp hq ex ey
 rw[mir hj] at ex ey
 rw[if_pos (by lia)] at ex ey
 exact d _ _ y x (by lia) (by lia) (by lia) ey ex
theorem Seg.more{lo n:Nat}(O:Ord L a₀)(hm:∀x∈a,x∈a₀)(s:Seg L a lo n)(h1:1<=n)(hs:lo+n<a.size)(h:L a[lo+n] (a[lo+n-1]'(by lia))=false):Seg L a lo (n+1):=by
 intro p q hq hpq hp hqn
 rcases Nat.lt_or_eq_of_le (show q<=lo+n by lia) with z|z
 ·exact s p q hq hpq hp z
 ·subst z
  rcases Nat.lt_or_eq_of_le (show p<=lo+n-1 by lia) with z|z
  ·exact O.trans _ _ _ (hm _ (Array.getElem_mem _)) (hm _ (Array.getElem_mem _)) (hm _ (Array.getElem_mem hs)) (s p (lo+n-1) (by lia) z hp (by lia)) h
  ·subst z;exact h
theorem Desc.snoc{lo n:Nat}{y:Keyed}(d:Desc L a lo n)(h:∀p z,lo<=p->p<lo+n->a[p]?=some z->L z y=false)(e:a[lo+n]?=some y):Desc L a lo (n+1):=λp q x y' hpq hp hq ex ey=>by
 rcases Nat.lt_or_eq_of_le (show q<=lo+n by lia) with z|z
 ·exact d p q x y' hpq hp z ex ey
 ·subst z
  rw[e] at ey
  cases ey
  exact h p x hp (by lia) ex
theorem zN8{lo n i:Nat}{P:Keyed->Prop}(hj:lo+n<=a.size)(hi:lo<=i)(h:∀p z,lo<=p->p<lo+n->a[p]?=some z->P z):∀p z,lo<=p->p<lo+n->(mirror a i (lo+n) ((lo+n-i) / 2))[p]?=some z->P z:=λp z h1 h2 e=>by
 rw[mir hj] at e
 split at e
 ·exact h _ z (by lia) (by lia) e
 ·exact h p z h1 h2 e
theorem Blk.mir{i j:Nat}(b:Blk L a i j)(hj:j<=a.size):Blk L (mirror a i j ((j-i) / 2)) i j:=λp q x y h1 h2 h3 h4 ex ey=>by
 rw[TS.mir hj,if_pos ⟨h1,h2⟩] at ex
 rw[TS.mir hj,if_pos ⟨h3,h4⟩] at ey
 exact b _ _ x y (by lia) (by lia) (by lia) (by lia) ex ey
theorem Blk.one{i:Nat}(O:Ord L a₀)(hm:∀x∈a,x∈a₀):Blk L a i (i+1):=λp q x y h1 h2 h3 h4 ex ey=>by
 have e1:p=i:=by lia
 have e2:q=i:=by lia
 subst e1;subst e2
 rw[ex] at ey
 cases ey
 exact O.refl (hm _ (Array.mem_of_getElem? ex))
theorem Seg.one{lo:Nat}:Seg L a lo 1:=λp q hq hpq hp hqn=>by lia
end
section
variable{prog:Program}{w:World}{A:Around}{E:Value->Shared->Prop}{s:Shared}{a₀:Array Keyed}{kd:SortKind}{L:Keyed->Keyed->Bool}
def KpO(a₀:Array Keyed)(kd:SortKind)(lo:Nat)(st st':SortSt):Prop:=Kp a₀ kd st st'/\∀p,p<lo->(arrOf st')[p]?=(arrOf st)[p]?
theorem KpO.rev{st st':SortSt}{lo i j:Nat}(h:KpO a₀ kd lo st st')(hi:lo<=i)(hj:j<=a₀.size):KpO a₀ kd lo st (setArr st' (mirror (arrOf st') i j ((j-i) / 2))):=by
 refine⟨h.1.rev,λp hp=>?_⟩
 show(mirror (arrOf st') i j ((j-i) / 2))[p]?=_
 rw[mir (by rw[h.1.1.size];exact hj),if_neg (by lia)]
 exact h.2 p hp
theorem zZ7{α:Type}{T:StateT SortSt Sem α}{M:Model}{A:Around}{E:Value->Shared->Prop}{s:Shared}{Q:α->SortSt->Prop}{goal:Prop}(P:SortSt->Prop)(h1:(∀st,P st->wpS M A E s T Q st)->goal)(h2:∀st,P st->wpS M A E s T Q st):goal:=h1 h2
theorem zIZ{st:SortSt}{lo nrem:Nat}{Q:Option Nat->SortSt->Prop}(hA:zIW prog w A s kd a₀ L)(O:Ord L a₀)(hn:lo+nrem<=a₀.size)(h1:1<=nrem)(hB:SB a₀ kd st)
  (h:∀m st',KpO a₀ kd lo st st'->1<=m->m<=nrem->Seg L (arrOf st') lo m->Q (some m) st'):wpS (model prog w) A E s (countRun' lo nrem) Q st:=by
 have k0:KpO a₀ kd lo st st:=⟨⟨hB,rfl⟩,λ_ _=>rfl⟩
 have hsz:=hB.size
 have mm:∀x∈arrOf st,x∈a₀:=λx hx=>hB.perm.mem_iff.mp hx
 refine wpS_bind (wpS_mono (wpS_forRange (I:=λx c st'=>st'=st/\c=(none,x)/\Seg L (arrOf st) lo x) (Q:=λc st'=>st'=st/\∃n,c=(none,n)/\1<=n/\n<=nrem/\Seg L (arrOf st) lo n/\(n=nrem\/∃(hx:lo+n<(arrOf st).size),L (arrOf st)[lo+n] ((arrOf st)[lo+n-1]'(by lia))=true)) ?s1 ?f1 ⟨rfl,rfl,Seg.one⟩) ?p1)
 case f1 =>
  rintro c st' ⟨rfl,rfl,sg⟩
  have e:(if 1<=nrem then nrem else 1)=nrem:=if_pos h1
  exact⟨rfl,_,rfl,by lia,by lia,sg,.inl (by lia)⟩
 case s1 =>
  rintro x c st' hax hxn ⟨rfl,rfl,sg⟩
  have hx1:lo+x<(arrOf st').size:=by lia
  refine wpS_bind (zC4 hA hB hx1 (show lo+x-1<(arrOf st').size by lia) ?_)
  cases e:L (arrOf st')[lo+x] ((arrOf st')[lo+x-1]'(by lia)) with
  |true=>exact wpS_pure ⟨rfl,x,rfl,hax,by lia,sg,.inr ⟨hx1,e⟩⟩
  |false=>exact wpS_pure ⟨rfl,rfl,sg.more O mm hax hx1 e⟩
 case p1 =>
  rintro c st' ⟨rfl,n,rfl,hn1,hn2,sg,hor⟩
  refine zAQ (λq=>?_) (λq=>?_)
  ·exact wpS_pure (h n _ k0 hn1 hn2 sg)
  have q':¬(n=nrem):=λz=>q (beq_iff_eq.mpr z)
  obtain⟨hx1,hless⟩:∃(hx:lo+n<(arrOf st').size),L (arrOf st')[lo+n] ((arrOf st')[lo+n-1]'(by lia))=true:=by
   rcases hor with z|z
   ·exact absurd z q'
   ·exact z
  -- the first n are alike,and the next is below
  have zDG:∀st1,KpO a₀ kd lo st' st1->Blk L (arrOf st1) lo (lo+n)->(∀p x,lo<=p->p<lo+n->(arrOf st1)[p]?=some x->L x (arrOf st')[lo+n]=false)->(arrOf st1)[lo+n]?=(arrOf st')[lo+n]?->Desc L (arrOf st1) lo (n+1):=λst1 k1 bl hall he p q x y hpq hp hq ex ey=>by
   rcases Nat.lt_or_eq_of_le (show q<=lo+n by lia) with z|z
   ·exact bl p q x y hp (by lia) (by lia) z ex ey
   ·subst z
    rw[he,getElem?_pos (arrOf st') (lo+n) hx1] at ey
    cases ey
    exact hall p x hp (by lia) ex
  have bl0:∀(hq0:n=1\/L ((arrOf st')[lo]'(by lia)) ((arrOf st')[lo+n-1]'(by lia))=false),Blk L (arrOf st') lo (lo+n):=λhq0 p q x y hp hp2 hq hq2 ex ey=>by
   obtain⟨z1,rfl⟩:=Array.getElem?_eq_some_iff.mp ex
   obtain⟨z2,rfl⟩:=Array.getElem?_eq_some_iff.mp ey
   have le:∀(u v:Nat) (hv:v<(arrOf st').size) (huv:u<=v),lo<=u->v<lo+n->L (arrOf st')[v] ((arrOf st')[u]'(by lia))=false:=λu v hv huv h3 h4=>by
    rcases Nat.lt_or_eq_of_le huv with z|z
    ·exact sg u v hv z h3 h4
    ·subst z;exact O.refl (mm _ (Array.getElem_mem _))
   rcases hq0 with z|z
   ·have e1:p=lo:=by lia
    have e2:q=lo:=by lia
    subst e1;subst e2
    exact O.refl (mm _ (Array.getElem_mem _))
   ·-- y<=last<=first<=x turned: y at most x
    have a1:=le q (lo+n-1) (by lia) (by lia) hq (by lia)
    have a2:=le lo p z1 hp (Nat.le_refl _) hp2
    exact O.trans _ _ _ (mm _ (Array.getElem_mem z2)) (mm _ (Array.getElem_mem (show lo<(arrOf st').size by lia))) (mm _ (Array.getElem_mem z1))
     (O.trans _ _ _ (mm _ (Array.getElem_mem z2)) (mm _ (Array.getElem_mem (show lo+n-1<(arrOf st').size by lia))) (mm _ (Array.getElem_mem (show lo<(arrOf st').size by lia))) a1 z) a2
  have all0:Blk L (arrOf st') lo (lo+n)->∀p x,lo<=p->p<lo+n->(arrOf st')[p]?=some x->L x (arrOf st')[lo+n]=false:=λbl p x hp hp2 ex=>by
   obtain⟨z1,rfl⟩:=Array.getElem?_eq_some_iff.mp ex
   have a1:=O.asym _ _ (mm _ (Array.getElem_mem hx1)) (mm _ (Array.getElem_mem (show lo+n-1<(arrOf st').size by lia))) hless
   have a2:=bl p (lo+n-1) _ _ hp hp2 (by lia) (by lia) (getElem?_pos (arrOf st') p z1) (getElem?_pos (arrOf st') (lo+n-1) (by lia))
   exact O.trans _ _ _ (mm _ (Array.getElem_mem hx1)) (mm _ (Array.getElem_mem (show lo+n-1<(arrOf st').size by lia))) (mm _ (Array.getElem_mem z1)) a1 a2
  refine zZ7 (λst1=>KpO a₀ kd lo st' st1/\Desc L (arrOf st1) lo (n+1)) (λK=>by
   refine zAQ (λq1=>?_) (λq1=>?_)
   case refine_2=>exact K _ ⟨k0,zDG _ k0 (bl0 (.inl (by lia))) (all0 (bl0 (.inl (by lia)))) rfl⟩
   case refine_1 =>
    refine wpS_bind (zC4 hA hB (show lo<(arrOf st').size by lia) (show lo+n-1<(arrOf st').size by lia) ?_)
    cases eq1:L ((arrOf st')[lo]'(by lia)) ((arrOf st')[lo+n-1]'(by lia))
    case true=>exact wpS_pure (h n _ k0 hn1 hn2 sg)
    refine wpS_bind (zG7 ?_)
    have bl:=bl0 (.inr eq1)
    have k1:=k0.rev (i:=lo) (j:=lo+n) (Nat.le_refl _) (by lia)
    exact K _ ⟨k1,zDG _ k1 (Blk.mir (i:=lo) (j:=lo+n) bl (by lia)) (zN8 (by lia) (Nat.le_refl _) (all0 bl)) (by
     show(mirror (arrOf st') lo (lo+n) ((lo+n-lo) / 2))[lo+n]?=_
     rw[mir (by lia),if_neg (by lia)])⟩) ?_
  clear zDG bl0 all0
  rintro st1 ⟨k1,D1⟩
  refine wpS_bind (wpS_lift (wpAny_rule ⟨rfl,?_⟩))
  have mk:∀st2,KpO a₀ kd lo st' st2->∀x∈arrOf st2,x∈a₀:=λst2 k x hx=>k.1.1.perm.mem_iff.mp hx
  refine wpS_bind (wpS_mono (wpS_forRange (I:=λx c st2=>∃neq,c=(none,x,neq)/\KpO a₀ kd lo st' st2/\Desc L (arrOf st2) lo x/\neq+1<=x/\Blk L (arrOf st2) (lo+x-(neq+1)) (lo+x))
   (Q:=λc st2=>∃m neq,c=(none,m,neq)/\KpO a₀ kd lo st' st2/\n+1<=m/\m<=nrem/\Desc L (arrOf st2) lo m/\neq+1<=m/\Blk L (arrOf st2) (lo+m-(neq+1)) (lo+m)) ?s2 ?f2 ⟨0,rfl,k1,D1,by lia,Blk.one O (mk _ k1)⟩) ?p2)
  case f2 =>
   rintro c st2 ⟨neq,rfl,k,D,hne,bk⟩
   exact⟨_,neq,rfl,k,by lia,by lia,D,hne,bk⟩
  case s2 =>
   rintro x c st2 hax hxn ⟨neq,rfl,k,D,hne,bk⟩
   have hz2:=k.1.1.size
   have m2:=mk _ k
   have hx2:lo+x<(arrOf st2).size:=by lia
   have hx3:lo+x-1<(arrOf st2).size:=by lia
   have all1:L (arrOf st2)[lo+x-1] (arrOf st2)[lo+x]=false->∀p z,lo<=p->p<lo+x->(arrOf st2)[p]?=some z->L z (arrOf st2)[lo+x]=false:=λe p z hp hp2 ez=>by
    obtain⟨z1,rfl⟩:=Array.getElem?_eq_some_iff.mp ez
    rcases Nat.lt_or_eq_of_le (show p<=lo+x-1 by lia) with u|u
    ·exact O.trans _ _ _ (m2 _ (Array.getElem_mem hx2)) (m2 _ (Array.getElem_mem hx3)) (m2 _ (Array.getElem_mem z1)) e (D p (lo+x-1) _ _ u hp (by lia) ez (getElem?_pos (arrOf st2) (lo+x-1) hx3))
    ·subst u;exact e
   refine wpS_bind (zC4 hA k.1.1 hx2 hx3 ?_)
   cases e:L (arrOf st2)[lo+x] (arrOf st2)[lo+x-1] with
   |true =>
    have al:=all1 (O.asym _ _ (m2 _ (Array.getElem_mem hx2)) (m2 _ (Array.getElem_mem hx3)) e)
    simp only[if_true]
    refine zAQ (λ_=>?_) (λ_=>?_)
    ·have k':=k.rev (i:=lo+x-(neq+1)) (j:=lo+x) (by lia) (by lia)
     refine wpS_bind (zG7 (wpS_pure ⟨0,rfl,k',?_,by lia,Blk.one O (mk _ k')⟩))
     refine Desc.snoc (y:=(arrOf st2)[lo+x]) (D.blk (by lia) (by lia) bk) (zN8 (by lia) (by lia) al) ?_
     show(mirror (arrOf st2) (lo+x-(neq+1)) (lo+x) ((lo+x-(lo+x-(neq+1))) / 2))[lo+x]?=_
     rw[mir (by lia),if_neg (by lia)]
     exact getElem?_pos (arrOf st2) (lo+x) hx2
    ·exact wpS_pure ⟨0,rfl,k,D.snoc al (getElem?_pos (arrOf st2) (lo+x) hx2),by lia,Blk.one O m2⟩
   |false =>
    refine wpS_bind (zC4 hA k.1.1 hx3 hx2 ?_)
    cases e2:L (arrOf st2)[lo+x-1] (arrOf st2)[lo+x] with
    |true=>exact wpS_pure ⟨x,neq,rfl,k,hax,by lia,D,hne,bk⟩
    |false =>
     have al:=all1 e2
     refine wpS_pure ⟨neq+1,rfl,k,D.snoc al (getElem?_pos (arrOf st2) (lo+x) hx2),by lia,λp q u v h1' h2' h3' h4' eu ev=>?_⟩
     by_cases hp:p<lo+x
     ·by_cases hq:q<lo+x
      ·exact bk p q u v (by lia) hp (by lia) hq eu ev
      ·have e3:q=lo+x:=by lia
       subst e3
       rw[getElem?_pos (arrOf st2) (lo+x) hx2] at ev
       cases ev
       exact al p u (by lia) hp eu
     ·have e3:p=lo+x:=by lia
      subst e3
      rw[getElem?_pos (arrOf st2) (lo+x) hx2] at eu
      cases eu
      by_cases hq:q<lo+x
      ·obtain⟨z1,rfl⟩:=Array.getElem?_eq_some_iff.mp ev
       have a1:=bk (lo+x-1) q _ _ (by lia) (by lia) (by lia) hq (getElem?_pos (arrOf st2) (lo+x-1) hx3) ev
       exact O.trans _ _ _ (m2 _ (Array.getElem_mem z1)) (m2 _ (Array.getElem_mem hx3)) (m2 _ (Array.getElem_mem hx2)) a1 e
      ·have e4:q=lo+x:=by lia
       subst e4
       rw[getElem?_pos (arrOf st2) (lo+x) hx2] at ev
       cases ev
       exact O.refl (m2 _ (Array.getElem_mem hx2))
  case p2 =>
   rintro c st2 ⟨m,neq,rfl,k2,hm1,hm2,D,hne,bk⟩
   have hz2:=k2.1.1.size
   dsimp only
   refine zZ7 (λst1=>KpO a₀ kd lo st' st1/\Desc L (arrOf st1) lo m) (λK=>by
    refine zAQ (λ_=>?_) (λ_=>?_)
    case refine_2=>exact K _ ⟨k2,D⟩
    case refine_1=>exact wpS_bind (zG7 (K _ ⟨k2.rev (i:=lo+m-(neq+1)) (j:=lo+m) (by lia) (by lia),D.blk (i:=lo+m-(neq+1)) (by lia) (by lia) bk⟩))) ?_
   clear k2 D bk hz2
   rintro st2 ⟨k2,D⟩
   have hz3:=k2.1.1.size
   refine wpS_bind (zG7 ?_)
   have sg3:=Desc.rev D (by first|exact Nat.le_trans (by lia) (Nat.le_of_eq hz3.symm)|lia)
   have k3:=k2.rev (i:=lo) (j:=lo+m) (Nat.le_refl _) (by lia)
   refine wpS_bind (wpS_mono (wpS_forRange (I:=λx c st3=>KpO a₀ kd lo st' st3/\c=(none,x)/\Seg L (arrOf st3) lo x) (Q:=λc st3=>KpO a₀ kd lo st' st3/\∃n,c=(none,n)/\1<=n/\n<=nrem/\Seg L (arrOf st3) lo n) ?s3 ?f3 ⟨k3,rfl,sg3⟩) ?p3)
   case f3 =>
    rintro c st3 ⟨k,rfl,sg⟩
    exact⟨k,_,rfl,by lia,by lia,sg⟩
   case s3 =>
    rintro x c st3 hax hxn ⟨k,rfl,sg⟩
    have hz4:=k.1.1.size
    have hx2:lo+x<(arrOf st3).size:=by lia
    refine wpS_bind (zC4 hA k.1.1 hx2 (show lo+x-1<(arrOf st3).size by lia) ?_)
    cases e:L (arrOf st3)[lo+x] ((arrOf st3)[lo+x-1]'(by lia)) with
    |true=>exact wpS_pure ⟨k,x,rfl,by lia,by lia,sg⟩
    |false=>exact wpS_pure ⟨k,rfl,sg.more O (mk _ k) (by lia) hx2 e⟩
   case p3 =>
    rintro c st3 ⟨k,z,rfl,hz1,hz2,sg⟩
    exact wpS_pure (h z _ k hz1 hz2 sg)
end
section
variable{L:Keyed->Keyed->Bool}{x x':Array Keyed}
theorem Seg.keep{i n:Nat}(s:Seg L x i n)(h:∀q,i<=q->q<i+n->x'[q]?=x[q]?):Seg L x' i n:=by
 rw[seg_iff] at s ⊢
 intro p q u v hpq hp hq eu ev
 rw[h p hp (by lia)] at eu
 rw[h q (by lia) hq] at ev
 exact s p q u v hpq hp hq eu ev
def CovO(L:Keyed->Keyed->Bool)(x:Array Keyed):List Run->Nat->Nat->Prop
 |[],a,b=>a=b
 |(st,len,_)::r,a,b=>st=a/\1<=len/\Seg L x a len/\CovO L x r (a+len) b
theorem CovO.le:∀{p:List Run} {a b:Nat},CovO L x p a b->a<=b
 |[],_,_,h=>Nat.le_of_eq h
 |(_,len,_)::r,a,b,h=>by have:=CovO.le h.2.2.2;lia
theorem CovO.len:∀{p:List Run} {a b:Nat},CovO L x p a b->p.length+a<=b
 |[],_,_,h=>by have h:_=_:=h;simp;lia
 |(_,len,_)::r,a,b,h=>by have:=CovO.len h.2.2.2;have:=h.2.1;rw[List.length_cons];lia
theorem CovO.keepIn:∀{p:List Run} {a b:Nat},CovO L x p a b->(∀q,a<=q->q<b->x'[q]?=x[q]?)->CovO L x' p a b
 |[],_,_,h,_=>h
 |(_,len,_)::r,a,b,h,hk=>by
  have:=CovO.le h.2.2.2
  exact⟨h.1,h.2.1,h.2.2.1.keep λq h1 h2=>hk q h1 (by lia),CovO.keepIn h.2.2.2 λq h1 h2=>hk q (by lia) h2⟩
theorem CovO.keep{p:List Run}{b:Nat}(h:CovO L x p 0 b)(hk:∀q,q<b->x'[q]?=x[q]?):CovO L x' p 0 b:=h.keepIn λq _ hq=>hk q hq
theorem CovO.snoc:∀{p:List Run} {a b n k:Nat},CovO L x p a b->1<=n->Seg L x b n->CovO L x (p++[(b,n,k)]) a (b+n)
 |[],a,b,n,k,h,hn,s=>by
  have h:a=b:=h
  subst h
  exact⟨rfl,hn,s,rfl⟩
 |(_,len,_)::r,a,b,n,k,h,hn,s=>⟨h.1,h.2.1,h.2.2.1,CovO.snoc h.2.2.2 hn s⟩
theorem CovO.modify:∀{p:List Run} {a b i pw:Nat},CovO L x p a b->CovO L x (p.modify i λ(st,len,_)=>(st,len,pw)) a b
 |[],a,b,i,pw,h=>by simpa using h
 |(_,len,_)::r,a,b,0,pw,h=>⟨h.1,h.2.1,h.2.2.1,h.2.2.2⟩
 |(_,len,_)::r,a,b,i+1,pw,h=>by
  rw[List.modify_succ_cons]
  exact⟨h.1,h.2.1,h.2.2.1,CovO.modify h.2.2.2⟩
theorem CovO.last{p:List Run}{b:Nat}(h:CovO L x p 0 b)(hl:p.length<=1):Seg L x 0 b:=by
 match p,h,hl with
 |[],h,_ =>
  have h:0=b:=h
  subst h
  intro p q hq hpq hp hqn
  lia
 |[(st,len,k)],h,_ =>
  obtain⟨_,_,s,e⟩:=h
  have e:0+len=b:=e
  have e':b=len:=by lia
  subst e'
  exact s
theorem CovO.at:∀{p:List Run} {a b i sa na pa sb nb pb:Nat},CovO L x p a b->p[i]?=some (sa,na,pa)->p[i+1]?=some (sb,nb,pb) ->
  (1<=na/\1<=nb/\sb=sa+na/\sb+nb<=b/\a<=sa)/\Seg L x sa na/\Seg L x sb nb /\
  ((∀q,q<sa\/sa+(na+nb)<=q->x'[q]?=x[q]?)->Seg L x' sa (na+nb)->CovO L x' ((p.set i (sa,na+nb,pa)).eraseIdx (i+1)) a b)
 |[],a,b,i,_,_,_,_,_,_,h,e,_=>by simp at e
 |[y],a,b,0,_,_,_,_,_,_,h,e,e2=>by simp at e2
 |y::z::r,a,b,0,sa,na,pa,sb,nb,pb,h,e,e2=>by
  simp at e e2
  subst e;subst e2
  obtain⟨h1,h2,h3,h4,h5,h6,h7⟩:=h
  have:=h7.le
  refine⟨⟨h2,h5,by lia,by lia,by lia⟩,by rw[h1];exact h3,by rw[h4];exact h6,λhk s=>?_⟩
  show CovO L x' ((sa,na+nb,pa)::r) a b
  refine⟨h1,by lia,by rw[<-h1];exact s,?_⟩
  rw[<-Nat.add_assoc]
  exact h7.keepIn λq h8 _=>hk q (by lia)
 |(_,len,_)::r,a,b,i+1,sa,na,pa,sb,nb,pb,h,e,e2=>by
  obtain⟨⟨q1,q2,q3,q4,q5⟩,s1,s2,q6⟩:=CovO.at h.2.2.2 (by simpa using e) (by simpa using e2)
  exact⟨⟨q1,q2,q3,q4,by lia⟩,s1,s2,λhk s=>⟨h.1,h.2.1,h.2.2.1.keep λq h8 h9=>hk q (by lia),q6 hk s⟩⟩
end
section
variable{prog:Program}{w:World}{A:Around}{E:Value->Shared->Prop}{s:Shared}{a₀:Array Keyed}{kd:SortKind}{L:Keyed->Keyed->Bool}
structure SRO(L:Keyed->Keyed->Bool)(a₀:Array Keyed)(kd:SortKind)(lo:Nat)(st:SortSt):Prop where
 sb:SB a₀ kd st
 cov:CovO L (arrOf st) (pendingOf st).toList 0 lo
 le:lo<=a₀.size
theorem zE3{st:SortSt}{i lo:Nat}{Q:Bool->SortSt->Prop}(hA:zIW prog w A s kd a₀ L)(O:Ord L a₀)(R:SRO L a₀ kd lo st)(hi:i+1<(pendingOf st).size)
  (h:∀st',SRO L a₀ kd lo st'->(pendingOf st').size+1=(pendingOf st).size->(∀q,lo<=q->(arrOf st')[q]?=(arrOf st)[q]?)->Q true st') :
  wpS (model prog w) A E s (mergeAt' i) Q st:=by
 have hi0:i<(pendingOf st).size:=by lia
 obtain⟨⟨sa,na,pa⟩,e1⟩:∃r:Run,(pendingOf st)[i]?=some r:=⟨_,getElem?_pos _ i hi0⟩
 obtain⟨⟨sb,nb,pb⟩,e2⟩:∃r:Run,(pendingOf st)[i+1]?=some r:=⟨_,getElem?_pos _ (i+1) hi⟩
 obtain⟨⟨q1,q2,q3,q4,q5⟩,s1,s2,_⟩:=R.cov.at (x':=arrOf st) (i:=i) (by rw[Array.getElem?_toList];exact e1) (by rw[Array.getElem?_toList];exact e2)
 refine zJ8 hA O R.sb e1 e2 q1 q2 q3 (Nat.le_trans q4 R.le) s1 s2 λst' hB hp sg hk=>?_
 have hz1:=hB.size
 have hz2:=R.sb.size
 have hk':∀q,q<sa\/sa+(na+nb)<=q->(arrOf st')[q]?=(arrOf st)[q]?:=λq hq=>by
  by_cases z:q<a₀.size
  ·rw[getElem?_pos (arrOf st') q (by lia),getElem?_pos (arrOf st) q (by lia),hk q (by lia) (by lia) hq]
  ·rw[getElem?_neg (arrOf st') q (by lia),getElem?_neg (arrOf st) q (by lia)]
 have hz:i+1<((pendingOf st).setIfInBounds i (sa,na+nb,pa)).size:=by rw[Array.size_setIfInBounds];exact hi
 refine h st' ⟨hB,?_,R.le⟩ ?_ λq hq=>hk' q (.inr (by lia))
 ·rw[hp,Array.eraseIdxIfInBounds,dif_pos hz,Array.toList_eraseIdx,Array.toList_setIfInBounds]
  exact(R.cov.at (x':=arrOf st') (i:=i) (by rw[Array.getElem?_toList];exact e1) (by rw[Array.getElem?_toList];exact e2)).2.2.2 hk' sg
 ·rw[hp,Array.eraseIdxIfInBounds,dif_pos hz,Array.size_eraseIdx,Array.size_setIfInBounds]
  lia
theorem yA1{α:Type}{T:Nat->StateT SortSt Sem α}{M:Model}{A:Around}{E:Value->Shared->Prop}{s:Shared}{Q:α->SortSt->Prop}{goal:Prop}(P:Nat->SortSt->Prop)(h1:(∀n st,P n st->wpS M A E s (T n) Q st)->goal)(h2:∀n st,P n st->wpS M A E s (T n) Q st):goal:=h1 h2
theorem zI0{st:SortSt}{Q:Unit->SortSt->Prop}(hA:zIW prog w A s kd a₀ L)(O:Ord L a₀)(hB:SB a₀ kd st)(hp:pendingOf st=#[])
  (h:∀st',SB a₀ kd st'->Seg L (arrOf st') 0 a₀.size->Q () st'):wpS (model prog w) A E s sortRuns' Q st:=by
 rw[sortRuns'_eq]
 refine wpS_bind (wpS_get ?_)
 dsimp only
 rw[hB.size]
 refine wpS_bind (wpS_mono (wpS_forRange (I:=λx c st'=>∃lo,c=(none,lo)/\SRO L a₀ kd lo st'/\x<=lo)
  (Q:=λc st'=>∃lo,c=(none,lo)/\SRO L a₀ kd lo st'/\a₀.size<=lo) ?step (λc st' ⟨lo,e,R,hx⟩=>⟨lo,e,R,by lia⟩) ⟨0,rfl,⟨hB,by rw[hp];rfl,Nat.zero_le _⟩,Nat.le_refl _⟩) ?post)
 case step =>
  rintro x c st' _ hx ⟨lo,rfl,R,hxl⟩
  dsimp only
  refine zAQ (λq=>?_) (λq=>?_)
  ·exact wpS_pure ⟨lo,rfl,R,q⟩
  refine wpS_bind (zIZ hA O (by lia) (by lia) R.sb λm st2 k2 hm1 hm2 sg2=>?_)
  have R2:SRO L a₀ kd lo st2:=⟨k2.1.1,by rw[k2.1.2];exact R.cov.keep λq hq=>k2.2 q hq,R.le⟩
  dsimp only
  refine yA1 (λm st3=>SRO L a₀ kd lo st3/\Seg L (arrOf st3) lo m/\1<=m/\lo+m<=a₀.size) (λK=>by
   refine zAQ (λhlt=>?_) (λhlt=>?_)
   case refine_2 =>
    have hP:SRO L a₀ kd lo st2/\Seg L (arrOf st2) lo m/\1<=m/\lo+m<=a₀.size:=⟨R2,sg2,hm1,by lia⟩
    revert hP
    generalize m=m'
    exact λhP=>K m' _ hP
   case refine_1 =>
    refine wpS_bind (wpS_lift (wpAny_rule ⟨rfl,?_⟩))
    refine wpS_bind (zF7 hA O (by lia) (by lia) (by lia) R2.sb sg2 λst3 hB3 hp3 sg3 ho3=>?_)
    exact K _ _ ⟨⟨hB3,by rw[hp3];exact R2.cov.keep λq hq=>ho3 q hq,R2.le⟩,sg3,by lia,by lia⟩) ?_
  clear sg2 k2 R2 hm1 hm2
  rintro m st3 ⟨R3,sg3,hm1,hm2⟩
  refine wpS_bind (wpS_get ?_)
  split
  ·rename_i s1 n1 p1 hb
   refine wpS_bind (wpS_mono (wpS_forRange (I:=λ_ c st'=>c=(none,())/\SRO L a₀ kd lo st'/\Seg L (arrOf st') lo _) (Q:=λc st'=>c=(none,())/\SRO L a₀ kd lo st'/\Seg L (arrOf st') lo _) ?st1 (λ_ _ h=>h) ⟨rfl,R3,sg3⟩) ?po1)
   case po1 =>
    rintro c st4 ⟨rfl,R4,sg4⟩
    refine wpS_bind (wpS_modify (wpS_bind (wpS_modify (wpS_pure ⟨_,rfl,⟨⟨R4.sb.perm,R4.sb.kind,R4.sb.failed⟩,?_,by lia⟩,by lia⟩))))
    show CovO L (arrOf st4) (Array.push _ _).toList 0 _
    rw[Array.toList_push]
    refine CovO.snoc ?_ (by lia) sg4
    show CovO L (arrOf st4) (Array.modify _ _ _).toList 0 lo
    rw[Array.toList_modify]
    exact R4.cov.modify
   case st1 =>
    rintro y c st4 _ _ ⟨rfl,R4,sg4⟩
    refine wpS_bind (wpS_get ?_)
    by_cases hz:(pendingOf st4).size>1
    ·rw[if_pos hz,getElem?_pos (pendingOf st4) ((pendingOf st4).size-2) (by lia)]
     refine zAQ (λ_=>?_) (λ_=>?_)
     ·exact wpS_pure ⟨rfl,R4,sg4⟩
     refine wpS_bind (zE3 hA O R4 (by lia) λst5 R5 _ ho5=>?_)
     exact wpS_pure ⟨rfl,R5,sg4.keep λq hq _=>ho5 q hq⟩
    ·rw[if_neg hz]
     exact wpS_pure ⟨rfl,R4,sg4⟩
  ·refine wpS_bind (wpS_modify (wpS_pure ⟨_,rfl,⟨⟨R3.sb.perm,R3.sb.kind,R3.sb.failed⟩,?_,by lia⟩,by lia⟩))
   show CovO L _ (Array.push _ _).toList 0 _
   rw[Array.toList_push]
   exact R3.cov.snoc (by lia) sg3
 case post =>
  rintro c st' ⟨lo,rfl,R,hlo⟩
  dsimp only
  have hle:=R.le
  have elo:lo=a₀.size:=by lia
  subst elo
  have hpz:=R.cov.len
  refine wpS_bind (wpS_mono (wpS_forRange (I:=λy c st'=>c=(none,())/\SRO L a₀ kd a₀.size st'/\(pendingOf st').size+y<=a₀.size+1) (Q:=λc st'=>c=(none,())/\SRO L a₀ kd a₀.size st'/\(pendingOf st').size<=1) ?st2 (λc st' ⟨e,R,hs⟩=>⟨e,R,by lia⟩) ⟨rfl,R,by simp at hpz;lia⟩) ?po2)
  case po2 =>
   rintro c st4 ⟨rfl,R4,h4⟩
   exact wpS_pure (h _ R4.sb (R4.cov.last (by simpa using h4)))
  case st2 =>
   rintro y c st4 _ _ ⟨rfl,R4,h4⟩
   refine wpS_bind (wpS_get ?_)
   refine zAQ (λhz=>?_) (λhz=>?_)
   ·exact wpS_pure ⟨rfl,R4,hz⟩
   refine wpS_bind (zE3 hA O R4 ?_ λst5 R5 hs5 _=>?_)
   ·exact Nat.lt_of_le_of_lt (Nat.add_le_add_right (zWJ (n:=(pendingOf st4).size-2) (by lia) (Nat.le_refl _)) 1) (by lia)
   ·exact wpS_pure ⟨rfl,R5,by lia⟩
end
end TS
namespace TS
open PySem PySem.W PyProof.Rows
theorem zWN{vs:List Value}{LV:Value->Value->Bool}{xs:Array Keyed}(hp:xs.Perm (pairsOf vs))(sg:Seg (λx y=>LV x.1 y.1) xs 0 (pairsOf vs).size):(xs.map (·.2)).toList.Pairwise λx y=>LV y x=false:=by
 rw[Array.toList_map,List.pairwise_map,List.pairwise_iff_getElem]
 intro i j hi hj hij
 have hz:=hp.size_eq
 have hi':i<xs.size:=by simpa using hi
 have hj':j<xs.size:=by simpa using hj
 have z:=sg i j hj' hij (Nat.zero_le _) (by omega)
 have same:∀x∈xs,x.1=x.2:=λx hx=>by
  have h1:x∈pairsOf vs:=hp.mem_iff.mp hx
  have h2:x∈vs.zip vs:=by rw[<-pairsOf_toList];exact Array.mem_toList_iff.mpr h1
  exact(mem_zip_self h2).1
 have e1:=same _ (Array.getElem_mem hi')
 have e2:=same _ (Array.getElem_mem hj')
 simp only[e1,e2] at z
 simpa using z
section
variable{prog:Program}{w:World}{A:Around}{E:Value->Shared->Prop}{s:Shared}
theorem zQL{a:Addr}{vs:List Value}{n:Nat}{R:PySem.Fin->Shared->Prop}{LV:Value->Value->Bool}(O:Ord (λx y=>LV x.1 y.1) (pairsOf vs))(ho:s.heap.get? a=some (seqObj "list" vs.toArray n))(hz:vs.length<=sizeLine)
  (hk:∀h6:Heap,(∀b o,b≠a->s.heap.get? b=some o->h6.get? b=some o)->2<=vs.length->wpAny (model prog w) A (keyKind' vs.toArray) (λk s'=>s'={ s with heap:=h6 }/\zIW prog w A s' k (pairsOf vs) (λx y=>LV x.1 y.1)) E { s with heap:=h6 })
  (h:∀out:List Value,out.Perm vs->(out.Pairwise λx y=>LV y x=false)->R (.done (.ret .none)) { s with heap:=sortedHeap s.heap a vs out.toArray }):wpAny (model prog w) A (Builtin.«list.sort» ⟨[.ref a],[]⟩) R E s:=by
 have la:a<s.heap.objs.size:=Heap.lt_size ho
 have zs:vs.toArray.size<=sizeLine:=by simpa using hz
 rw[list_sort_plain]
 refine wpAny_bind (listItems_at ho rfl (wpAny_bind (listUpdate_at ho rfl ?_ zs (Nat.zero_le _))))
 have g1:=get?_update_seq ho (λ_=>#[])
 generalize hh1:s.heap.update a (Obj.mapSeq λ_=>#[])=h1 at g1
 have z1:h1.objs.size=s.heap.objs.size:=by rw[<-hh1,Heap.size_update]
 have o1:∀b o,b≠a->s.heap.get? b=some o->h1.get? b=some o:=λb o hb e=>by rw[<-hh1,Heap.get?_update_ne _ _ _ _ hb];exact e
 refine wpAny_bind (seqEpoch_at g1 rfl (wpAny_bind (wpAny_newTuple (wpAny_bind (wpAny_newList (wpAny_holding ?_))) (by simpa using hz))))
 generalize hh6:(h1.push (seqObj "tuple" vs.toArray 0)).push (seqObj "list" #[] 0)=h6
 have old6:∀b o,h1.get? b=some o->h6.get? b=some o:=λb o e=>by rw[<-hh6];exact Heap.get?_push_of_some _ (Heap.get?_push_of_some _ e)
 have g6:=old6 _ _ g1
 have fin:∀st':SortSt,(arrOf st').Perm (pairsOf vs)->Seg (λx y=>LV x.1 y.1) (arrOf st') 0 (pairsOf vs).size->R (.done (.ret .none)) { s with heap:=h6.update a (Obj.mapSeq λ_=>(arrOf st').map (·.2)) }:=λst' hp sg=>by
  have q:=h _ (zIS hp) (zWN hp sg)
  unfold sortedHeap at q
  rw[hh1,hh6,Array.toArray_toList] at q
  exact q
 have szp:∀st':SortSt,(arrOf st').Perm (pairsOf vs)->((arrOf st').map (·.2)).size<=sizeLine+1:=λst' hp=>by
  rw[Array.size_map,hp.size_eq,pairsOf_size];omega
 by_cases h2:vs.toArray.size<2
 ·rw[if_pos h2,if_pos h2]
  refine wpAny_bind (wpAny_pure ?_)
  dsimp only
  rw[StateT.run_pure]
  refine wpAny_bind (wpAny_pure (wpAny_bind (seqEpoch_at g6 rfl ?_)))
  refine wpAny_bind (listUpdate_at g6 rfl ?_ (Nat.zero_le _) (szp (SortSt.mk' general' (pairsOf vs) #[] 7 none) (Array.Perm.refl _)))
  simp only[bne_self_eq_false,Bool.false_eq_true,if_false]
  exact wpAny_pure (fin (SortSt.mk' general' (pairsOf vs) #[] 7 none) (Array.Perm.refl _) (λp q hq hpq hp hqn=>by rw[pairsOf_size] at hqn;simp at h2;omega))
 ·rw[if_neg h2,if_neg h2]
  refine wpAny_bind (wpAny_mono (hk h6 (λb o hb e=>old6 b o (o1 b o hb e)) (by simpa using h2)) (λk s7 ⟨e7,ask⟩=>?_) λ_ _ e=>e)
  subst e7
  refine wpAny_bind (wpAny_mono (zI0 (st:=SortSt.mk' k (vs.toArray.zip vs.toArray) #[] 7 none) (Q:=λ_ st'=>SB (pairsOf vs) k st'/\Seg (λx y=>LV x.1 y.1) (arrOf st') 0 (pairsOf vs).size) ask O ⟨Array.Perm.refl _,rfl,rfl⟩ rfl λst' b sg=>⟨b,sg⟩) ?_ λ_ _ e=>e)
  rintro⟨⟨⟩,st'⟩ s8 ⟨e8,B,sg⟩
  subst e8
  dsimp only
  refine wpAny_bind (seqEpoch_at g6 rfl (wpAny_bind (listUpdate_at g6 rfl ?_ (Nat.zero_le _) (szp st' B.perm))))
  rw[B.failed]
  simp only[bne_self_eq_false,Bool.false_eq_true,if_false]
  exact wpAny_pure (fin st' B.perm sg)
theorem sorted_inO{l:Addr}{vs:List Value}{Q:Value->Shared->Prop}{LV:Value->Value->Bool}(O:Ord (λx y=>LV x.1 y.1) (pairsOf vs))(hl:s.heap.IsList l vs.toArray)(hz:vs.length<=sizeLine)
  (hk:∀h6:Heap,(∀b o,s.heap.get? b=some o->h6.get? b=some o)->2<=vs.length->∀E',wpAny (model prog w) A.in1.in1 (keyKind' vs.toArray) (λk s'=>s'={ s with heap:=h6 }/\zIW prog w A.in1.in1 s' k (pairsOf vs) (λx y=>LV x.1 y.1)) E' { s with heap:=h6 })
  (h:∀out:List Value,out.Perm vs->(out.Pairwise λx y=>LV y x=false)->Q (.ref (s.heap.objs.size+1)) { s with heap:=sortedAll s.heap vs out.toArray }):wpAny (model prog w) A (call (.builtin "sorted") [.ref l]) Q E s:=by
 refine Calls.call_function_entry kind_sorted plain_sorted entry_sorted (args_sorted1 _) ?_
 unfold Builtin.«sorted»
 refine wpAny_bind (m:=checkCount "sorted" 1 1 _) (wpAny_pure (wpAny_bind (collect_list hl (wpAny_bind (wpAny_newList ?_ hz)) hz)))
 have old:∀b o,s.heap.get? b=some o->((s.heap.push (seqObj "list" #[] 0)).update s.heap.objs.size (Obj.mapSeq (·++vs.toArray))).get? b=some o:=λb o e=>by
  rw[Heap.get?_update_ne _ _ _ _ (Nat.ne_of_lt (Heap.lt_size e))];exact Heap.get?_push_of_some _ e
 have z2:((s.heap.push (seqObj "list" #[] 0)).update s.heap.objs.size (Obj.mapSeq (·++vs.toArray))).objs.size=s.heap.objs.size+1:=by rw[Heap.size_update,size_push']
 generalize hh2:(s.heap.push (seqObj "list" #[] 0)).update s.heap.objs.size (Obj.mapSeq (·++vs.toArray))=h2 at old z2
 have gL:(h2.push (seqObj "list" vs.toArray 0)).get? h2.objs.size=some (seqObj "list" vs.toArray 0):=Heap.get?_push_size _ rfl
 show wpAny _ _ _ _ _ { s with heap:=h2.push (seqObj "list" vs.toArray 0) }
 refine wpAny_bind (wpAny_holding (wpAny_call_entry slot_list_sort ⟨_,gL,rfl⟩ entry_list_sort (zQL O gL hz (λh6 o6 h2'=>?_) λout ho hpw=>⟨_,rfl,?_⟩) (args_list_sort _)))
 ·exact hk h6 (λb o e=>o6 b o (by rw[z2];exact Nat.ne_of_lt (Nat.lt_succ_of_lt (Heap.lt_size e))) (Heap.get?_push_of_some _ (old b o e))) h2' _
 ·have q:=h out ho hpw
  unfold sortedAll at q
  rw[hh2,<-z2] at q
  exact wpAny_pure ⟨_,rfl,q⟩
end
end TS
namespace L2
open PySem PySem.Spec PyProof.Rows
theorem zTN(a₀:Array Keyed):TS.Ord (λx y=>decide (numOf x.1<numOf y.1)) a₀ where
 asym:=λx y _ _ h=>by
  have:=of_decide_eq_true h
  exact decide_eq_false (by omega)
 trans:=λx y z _ _ _ h1 h2=>by
  have a:=of_decide_eq_false h1
  have b:=of_decide_eq_false h2
  exact decide_eq_false (by omega)
theorem zTO{us:List Value}{ns:List Int}(h:IntsAre us ns)(p:us.Pairwise λx y=>decide (numOf y<numOf x)=false):ns.Pairwise (·<=·):=by
 rw[<-h.nums,List.pairwise_map]
 exact p.imp λh=>by have:=of_decide_eq_false h;omega
theorem zWO{α:Type}:∀{l:List α},2<=l.length->∃a b r,l=a::b::r
 |a::b::r,_=>⟨a,b,r,rfl⟩
 |[],h=>by simp at h
 |[_],h=>by simp at h
theorem call_sortedIO{X:Cx}:CallR X (.builtin "sorted") (λxs H Q=>∃(l:Addr) (ns:List Int),xs=[.ref l]/\SqL X.K H l (ns.map V.int)/\∀(ms:List Int) (q:Addr),ms.Perm ns->ms.Pairwise (·<=·)->H q=none->Q (.ref q) (upd H q (.lst (ms.map V.int)))):=by
 intro pins s σ H xs us Q I r h
 obtain⟨l,ns,rfl,hl,q⟩:=h
 obtain⟨u,rfl,ru⟩:=zD8 r
 cases ru
 obtain⟨its,rv,pl,z⟩:=I.list hl
 have hlen:=rv.length
 have hi:IntsAre its ns:=zBJ rv
 refine TS.sorted_inO (LV:=λx y=>decide (numOf x<numOf y)) (zTN _) pl.isList (by rw[<-hlen];exact z) (λh6 o6 h2 E'=>?_) λout ho hpw=>?_
 ·obtain⟨v1,v2,vr,rfl⟩:=zWO h2
  rw[keyKind_ints hi]
  refine wpAny_pure ⟨rfl,λx y hx hy Q' E2 hq=>?_⟩
  have mem:∀x:Keyed,x∈pairsOf (v1::v2::vr)->∃n t,x.1=.int n t:=λx hx=>by
   have:x∈(v1::v2::vr).zip (v1::v2::vr):=by rw[<-pairsOf_toList];exact Array.mem_toList_iff.mpr hx
   obtain⟨i,hi',ei⟩:=List.mem_iff_getElem.mp (List.of_mem_zip this).1
   obtain⟨t,et⟩:=IntsAre.int_at hi i x.1 (by rw[List.getElem?_eq_getElem hi',ei])
   exact⟨_,t,et⟩
  obtain⟨n1,t1,e1⟩:=mem x hx
  obtain⟨n2,t2,e2⟩:=mem y hy
  dsimp only at hq
  rw[e1,e2] at hq ⊢
  exact PySem.W.kat_lt_int hq
 ·obtain⟨zs,p,rz⟩:=Vals.perm ho rv
  obtain⟨e',hat⟩:=sortedAll_at s.heap its out.toArray
  have hf:H (s.heap.objs.size+1)=none:=I.hok.fresh (Nat.le_succ _)
  obtain⟨ms,rfl,pm⟩:=zN4 p ns rfl
  refine⟨.ref (s.heap.objs.size+1),_,I.laid (t':=s.toks) (o:=.lst (ms.map V.int)) (λb o hb=>sortedAll_old hb) (Nat.le_succ _) ⟨?_,out,e',rz,hat⟩,rfl,q ms _ pm (zTO (zBJ rz) hpw) hf⟩
  rw[p.length_eq];exact z
noncomputable def zE4(h:Heap):Value->Int×Int
 |.ref p=>match h.get? p with
  |some o=>match o.data with
   |.seq xs _=>(numOf (xs.getD 0 .none),numOf (xs.getD 1 .none))
   |_=>(0,0)
  |none=>(0,0)
 |_=>(0,0)
noncomputable def ltP(a b:Int×Int):Bool:=decide (a.1<b.1\/a.1=b.1/\a.2<b.2)
theorem zQM(h:Heap)(a₀:Array Keyed):TS.Ord (λx y=>ltP (zE4 h x.1) (zE4 h y.1)) a₀ where
 asym:=λx y _ _ e=>by
  have:=of_decide_eq_true e
  exact decide_eq_false (by omega)
 trans:=λx y z _ _ _ h1 h2=>by
  have a:=of_decide_eq_false h1
  have b:=of_decide_eq_false h2
  exact decide_eq_false (by omega)
def Prs(H:Hp)(ys:List V)(ps:List (Int×Int)):Prop:=Paired (λ(z:V) (p:Int×Int)=>∃q,z=.ref q/\H q=some (.tup [.int p.1,.int p.2])) ys ps
section
variable{prog:Program}{w:World}{A:Around}{s:Shared}
theorem zQN{b fin:Bool}{Q:Bool->Shared->Prop}{x1 y1 x2 y2:Int}{t1 t2 t3 t4:Tok}(hf:fin=false)(hq:Q (ltP (x1,y1) (x2,y2)) s):PySem.W.KatLex prog w A b fin Q [(.int x1 t1,.int x2 t2),(.int y1 t3,.int y2 t4)] 0 s:=by
 have one:∀{i:Nat} {u v:Int} {t t':Tok},Q (decide (u<v)) s->wpAny (model prog w) A (oneLt' (b&&i==0) (.int u t) (.int v t')) Q (λ_ _=>False) s:=λ{i u v t t'} h=>by
  cases hb:(b&&i==0) with
  |true=>exact oneLt_int h
  |false=>exact PySem.W.kat_one _ _ (lt_int h)
 refine PySem.W.kat_cons (wpAny_eqBool_int (PySem.W.kat_go (λh1=>PySem.W.kat_yes (PySem.W.kat_cons (wpAny_eqBool_int (PySem.W.kat_go (λh2=>PySem.W.kat_yes (PySem.W.kat_nil ?_)) λh2=>PySem.W.kat_no (one ?_))))) λh1=>PySem.W.kat_no (one ?_)))
 ·have e1:x1=x2:=by simpa using h1
  have e2:y1=y2:=by simpa using h2
  subst e1;subst e2
  rw[hf]
  have:ltP (x1,y1) (x1,y1)=false:=decide_eq_false (by simp)
  rw[this] at hq
  exact hq
 ·have e1:x1=x2:=by simpa using h1
  subst e1
  have:ltP (x1,y1) (x1,y2)=decide (y1<y2):=by unfold ltP;simp
  rw[this] at hq
  exact hq
 ·have e1:¬x1=x2:=by simpa using h1
  have:ltP (x1,y1) (x2,y2)=decide (x1<x2):=by unfold ltP;simp[e1]
  rw[this] at hq
  exact hq
end
theorem Prs.perm{H:Hp}{zs ys:List V}(p:zs.Perm ys):∀{ps:List (Int×Int)},Prs H ys ps->∃qs,qs.Perm ps/\Prs H zs qs:=by
 induction p with
 |nil=>intro ps r;cases r;exact⟨[],List.Perm.refl _,.nil⟩
 |cons a _ ih =>
  intro ps r
  cases r with
  |cons h t =>
   obtain⟨qs,q,r'⟩:=ih t
   exact⟨_::qs,q.cons _,.cons h r'⟩
 |swap a b l =>
  intro ps r
  cases r with
  |cons h t =>
   cases t with
   |cons h' t'=>exact⟨_::_::_,List.Perm.swap _ _ _,.cons h' (.cons h t')⟩
 |trans _ _ ih1 ih2 =>
  intro ps r
  obtain⟨qs,q,r'⟩:=ih2 r
  obtain⟨us,q',r''⟩:=ih1 r'
  exact⟨us,q'.trans q,r''⟩
theorem zN9{X:Cx}{pins:List (Addr×Obj)}{σ:St}{H:Hp}{s:Shared}(I:Inv X pins σ H s):∀{ys:List V} {us:List Value} {ps:List (Int×Int)},Vals ys us->Prs H ys ps ->
  (∀y∈ys,zR7 H y)/\us.map (zE4 s.heap)=ps/\∀u∈us,∃(p:Addr) (o:Obj) (k:Nat) (x y:Int) (t1 t2:Tok),u=.ref p/\s.heap.get? p=some o/\o.data=.seq #[.int x t1,.int y t2] k/\zE4 s.heap u=(x,y)
 |_,_,_,.nil,.nil=>⟨(λy hy=>nomatch hy),rfl,(λu hu=>nomatch hu)⟩
 |_,_,_,.cons r t,.cons (b:=pp) ⟨q,e,hq⟩ t'=>by
  obtain⟨i1,i2,i3⟩:=zN9 I t t'
  subst e
  cases r
  obtain⟨its,rv,tp,_⟩:=I.tuple (SqT.of (K:=X.K) hq)
  have hi:IntsAre its [pp.1,pp.2]:=zBJ (ns:=[pp.1,pp.2]) rv
  obtain⟨o,ho,hc,k,hd⟩:=tp
  obtain⟨t1,t2,rfl⟩:∃t1 t2,its=[.int pp.1 t1,.int pp.2 t2]:=by
   cases hi with
   |cons _ t1 h2 =>
    cases h2 with
    |cons _ t2 h3=>cases h3;exact⟨t1,t2,rfl⟩
  have e2:zE4 s.heap (.ref q)=(pp.1,pp.2):=by
   unfold zE4
   simp only[ho,hd]
   rfl
  refine⟨λy hy=>?_,?_,λv hv=>?_⟩
  ·rcases List.mem_cons.mp hy with rfl|hy
   ·exact⟨q,pp.1,[pp.2],rfl,hq⟩
   ·exact i1 y hy
  ·rw[List.map_cons,i2,e2]
  ·rcases List.mem_cons.mp hv with rfl|hv
   ·exact⟨q,o,k,pp.1,pp.2,t1,t2,rfl,ho,hd,e2⟩
   ·exact i3 v hv
theorem zHD{X:Cx}:CallR X (.builtin "sorted") (λxs H Q=>∃(l:Addr) (ys:List V) (ps:List (Int×Int)),xs=[.ref l]/\SqL X.K H l ys/\Prs H ys ps/\∀(zs:List V) (qs:List (Int×Int)) (q:Addr),zs.Perm ys->Prs H zs qs->qs.Perm ps->(qs.Pairwise λa b=>ltP b a=false)->H q=none->Q (.ref q) (upd H q (.lst zs))):=by
 intro pins s σ H xs us Q I r h
 obtain⟨l,ys,ps,rfl,hl,hps,q⟩:=h
 obtain⟨u,rfl,ru⟩:=zD8 r
 cases ru
 obtain⟨its,rv,pl,z⟩:=I.list hl
 have hlen:=rv.length
 obtain⟨ht,e0,at0⟩:=zN9 I rv hps
 obtain⟨fs,f1,f2,f3,f4⟩:=zNY I rv ht
 refine TS.sorted_inO (LV:=λx y=>ltP (zE4 s.heap x) (zE4 s.heap y)) (zQM _ _) pl.isList (by rw[<-hlen];exact z) (λh6 o6 h2 E'=>?_) λout ho hpw=>?_
 ·refine PySem.W.kat_kind (T:=.type "int") (zIT o6 f2) (by rw[f1];omega) (λv hv=>?_) (by decide) ⟨rfl,λx y hx hy Q' E2 hq=>?_⟩
  ·obtain⟨n,t,rfl⟩:=f3 v hv
   exact PySem.W.Looks.now
  ·have mem:∀x:Keyed,x∈pairsOf its->x.1∈its:=λx hx=>by
    have:x∈its.zip its:=by rw[<-pairsOf_toList];exact Array.mem_toList_iff.mpr hx
    exact(List.of_mem_zip this).1
   obtain⟨p1,o1,k1,x1,y1,t1,t2,e1,ho1,hd1,ep1⟩:=at0 _ (mem x hx)
   obtain⟨p2,o2,k2,x2,y2,t3,t4,e2,ho2,hd2,ep2⟩:=at0 _ (mem y hy)
   dsimp only at hq
   rw[ep1,ep2] at hq
   rw[e1,e2]
   exact PySem.W.kat_lt (o6 _ _ ho1) hd1 (o6 _ _ ho2) hd2 (zQN rfl hq)
 ·obtain⟨zs,p,rz⟩:=Vals.perm ho rv
  obtain⟨qs,pq,hqs⟩:=Prs.perm p hps
  obtain⟨_,e3,_⟩:=zN9 I rz hqs
  obtain⟨e',hat⟩:=sortedAll_at s.heap its out.toArray
  have hf:H (s.heap.objs.size+1)=none:=I.hok.fresh (Nat.le_succ _)
  have pw:qs.Pairwise λa b=>ltP b a=false:=by
   rw[<-e3,List.pairwise_map]
   exact hpw
  refine⟨.ref (s.heap.objs.size+1),_,I.laid (t':=s.toks) (o:=.lst zs) (λb o hb=>sortedAll_old hb) (Nat.le_succ _) ⟨?_,out,e',rz,hat⟩,rfl,q zs qs _ p hqs pq pw hf⟩
  rw[p.length_eq];exact z
inductive D where
 |non|bl (b:Bool)|int (i:Int)|str (x:Str)|tup (xs:List D)|lst (xs:List D)
 |dk (kvs:List (Key×D))|dt (kvs:List (List Int×D))
inductive Out(α:Type) where
 |ok (a:α)|exc (c:Nat)|bad
noncomputable def Out.bind{α β:Type}:Out α->(α->Out β)->Out β
 |.ok a,f=>f a
 |.exc c,_=>.exc c
 |.bad,_=>.bad
theorem Out.bind_ok{α β:Type}{x:Out α}{f:α->Out β}{b:β}(h:x.bind f=.ok b):∃a,x=.ok a/\f a=.ok b:=by
 cases x with
 |ok a=>exact⟨a,rfl,h⟩
 |exc c=>cases h
 |bad=>cases h
inductive Sl where
 |no|val (d:D)|own (t:Bool) (d:D)
abbrev Ev:=List Sl
def zOA:HO->Prop
 |.dK _=>True
 |.dT _=>True
 |_=>False
def Le(F F':Hp):Prop:=∀a u,F a=some u->F' a=some u\/(zOA u/\∃o,F' a=some (.frz o u))\/∃t ps ps',u=.tbl t ps/\F' a=some (.tbl t ps')
theorem Le.refl(F:Hp):Le F F:=λ_ _ h=>.inl h
theorem Le.trans{F G H:Hp}(x:Le F G)(y:Le G H):Le F H:=λa u e=>by
 rcases x a u e with h|⟨hd,o,h⟩|⟨t,ps,ps',rfl,h⟩
 ·exact y a u h
 ·rcases y a _ h with h|⟨hd',_⟩|⟨_,_,_,z,_⟩
  ·exact .inr (.inl ⟨hd,o,h⟩)
  ·exact hd'.elim
  ·cases z
 ·rcases y a _ h with h|⟨hd',_⟩|⟨_,_,_,z,h⟩
  ·exact .inr (.inr ⟨_,_,_,rfl,h⟩)
  ·exact hd'.elim
  ·cases z;exact .inr (.inr ⟨_,_,_,rfl,h⟩)
theorem Le.rd{F F':Hp}(l:Le F F'){a:Addr}{u:HO}(h:Rd F a u)(hu:∀t ps,u≠.tbl t ps:=by intro _ _ z;cases z):Rd F' a u:=by
 rcases h with h|⟨o,h⟩
 ·rcases l a u h with h|⟨_,o,h⟩|⟨_,_,_,z,_⟩
  ·exact .inl h
  ·exact .inr ⟨o,h⟩
  ·exact absurd z (hu _ _)
 ·rcases l a _ h with h|⟨hd,_⟩|⟨_,_,_,z,_⟩
  ·exact .inr ⟨o,h⟩
  ·exact hd.elim
  ·cases z
theorem Le.tup{F F':Hp}(l:Le F F'){a:Addr}{vs:List V}(h:F a=some (.tup vs)):F' a=some (.tup vs):=by
 rcases l a _ h with h|⟨hd,_⟩|⟨_,_,_,z,_⟩
 ·exact h
 ·exact hd.elim
 ·cases z
theorem Le.of_gr{F F':Hp}(g:Gr F F'):Le F F':=λa u e=>.inl (g a u e)
mutual
inductive Rep(K:PySem.W.Frag)(F:Hp):V->D->Prop
 |non:Rep K F .non .non
 |bl (b:Bool):Rep K F (.bl b) (.bl b)
 |int (i:Int):Rep K F (.int i) (.int i)
 |str (x:Str):Rep K F (.str x) (.str x)
 |tup {a:Addr} {vs:List V} {ds:List D}:F a=some (.tup vs)->Reps K F vs ds->Rep K F (.ref a) (.tup ds)
 |tupK {a:Addr} {xs:List Str}:SqT K (λ_=>none) a (xs.map V.str)->xs≠[]->Rep K F (.ref a) (.tup (xs.map D.str))
 |lst {a:Addr} {vs:List V} {ds:List D}:SqL K F a vs->Reps K F vs ds->Rep K F (.ref a) (.lst ds)
 |dk {a:Addr} {kvs:List (Key×V)} {ds:List (Key×D)}:Rd F a (.dK kvs)->RepK K F kvs ds->Rep K F (.ref a) (.dk ds)
 |dt {a:Addr} {kvs:List (List Key×V)} {ds:List (List Int×D)}:Rd F a (.dT kvs)->RepT K F kvs ds->Rep K F (.ref a) (.dt ds)
inductive Reps(K:PySem.W.Frag)(F:Hp):List V->List D->Prop
 |nil:Reps K F [] []
 |cons {v:V} {d:D} {vs:List V} {ds:List D}:Rep K F v d->Reps K F vs ds->Reps K F (v::vs) (d::ds)
inductive RepK(K:PySem.W.Frag)(F:Hp):List (Key×V)->List (Key×D)->Prop
 |nil:RepK K F [] []
 |cons {k:Key} {v:V} {d:D} {vs:List (Key×V)} {ds:List (Key×D)}:Rep K F v d->RepK K F vs ds->RepK K F ((k,v)::vs) ((k,d)::ds)
inductive RepT(K:PySem.W.Frag)(F:Hp):List (List Key×V)->List (List Int×D)->Prop
 |nil:RepT K F [] []
 |cons {k:List Int} {v:V} {d:D} {vs:List (List Key×V)} {ds:List (List Int×D)}:Rep K F v d->RepT K F vs ds->RepT K F ((k.map Sum.inl,v)::vs) ((k,d)::ds)
end
section
variable{K:PySem.W.Frag}{F F':Hp}
mutual
theorem Rep.le(l:Le F F'):∀{v:V} {d:D},Rep K F v d->Rep K F' v d
 |_,_,.non=>.non
 |_,_,.bl b=>.bl b
 |_,_,.int i=>.int i
 |_,_,.str x=>.str x
 |_,_,.tup h r=>.tup (l.tup h) (Reps.le l r)
 |_,_,.tupK h n=>.tupK h n
 |_,_,.lst h r=>.lst (h.imp (λz=>l.rd z) id) (Reps.le l r)
 |_,_,.dk h r=>.dk (l.rd h) (RepK.le l r)
 |_,_,.dt h r=>.dt (l.rd h) (RepT.le l r)
theorem Reps.le(l:Le F F'):∀{v:List V} {d:List D},Reps K F v d->Reps K F' v d
 |_,_,.nil=>.nil
 |_,_,.cons h r=>.cons (Rep.le l h) (Reps.le l r)
theorem RepK.le(l:Le F F'):∀{v:List (Key×V)} {d:List (Key×D)},RepK K F v d->RepK K F' v d
 |_,_,.nil=>.nil
 |_,_,.cons h r=>.cons (Rep.le l h) (RepK.le l r)
theorem RepT.le(l:Le F F'):∀{v:List (List Key×V)} {d:List (List Int×D)},RepT K F v d->RepT K F' v d
 |_,_,.nil=>.nil
 |_,_,.cons h r=>.cons (Rep.le l h) (RepT.le l r)
end
theorem Rep.vI{v:V}{i:Int}(r:Rep K F v (.int i)):v=.int i:=by cases r;rfl
theorem Rep.vB{v:V}{b:Bool}(r:Rep K F v (.bl b)):v=.bl b:=by cases r;rfl
theorem Rep.vS{v:V}{x:Str}(r:Rep K F v (.str x)):v=.str x:=by cases r;rfl
theorem Rep.vN{v:V}(r:Rep K F v .non):v=.non:=by cases r;rfl
theorem Reps.length:∀{vs:List V} {ds:List D},Reps K F vs ds->vs.length=ds.length
 |_,_,.nil=>rfl
 |_,_,.cons _ r=>by rw[List.length_cons,List.length_cons,r.length]
theorem Reps.append:∀{vs ws:List V} {ds es:List D},Reps K F vs ds->Reps K F ws es->Reps K F (vs++ws) (ds++es)
 |_,_,_,_,.nil,s=>s
 |_,_,_,_,.cons h r,s=>.cons h (Reps.append r s)
theorem Reps.get:∀{vs:List V} {ds:List D} {i:Nat} {d:D},Reps K F vs ds->ds[i]?=some d->∃v,vs[i]?=some v/\Rep K F v d
 |_,_,_,_,.nil,e=>by simp at e
 |_,_,0,_,.cons h _,e=>by simp at e;subst e;exact⟨_,rfl,h⟩
 |_,_,i+1,d,.cons _ r,e=>by
  obtain⟨v,h1,h2⟩:=Reps.get (i:=i) (d:=d) r (by simpa using e)
  exact⟨v,by simpa using h1,h2⟩
theorem Reps.set:∀{vs:List V} {ds:List D} (i:Nat) {v:V} {d:D},Reps K F vs ds->Rep K F v d->Reps K F (vs.set i v) (ds.set i d)
 |_,_,_,_,_,.nil,_=>.nil
 |_,_,0,_,_,.cons _ r,h=>.cons h r
 |_,_,i+1,_,_,.cons q r,h=>.cons q (Reps.set i r h)
theorem Reps.take:∀{vs:List V} {ds:List D} (n:Nat),Reps K F vs ds->Reps K F (vs.take n) (ds.take n)
 |_,_,0,_=>.nil
 |_,_,_+1,.nil=>.nil
 |_,_,n+1,.cons h r=>.cons h (Reps.take n r)
theorem Reps.drop:∀{vs:List V} {ds:List D} (n:Nat),Reps K F vs ds->Reps K F (vs.drop n) (ds.drop n)
 |_,_,0,r=>r
 |_,_,_+1,.nil=>.nil
 |_,_,n+1,.cons _ r=>Reps.drop n r
theorem Reps.reverse:∀{vs:List V} {ds:List D},Reps K F vs ds->Reps K F vs.reverse ds.reverse
 |_,_,.nil=>.nil
 |_,_,.cons h r=>by rw[List.reverse_cons,List.reverse_cons];exact(Reps.reverse r).append (.cons h .nil)
theorem Reps.eraseIdx:∀{vs:List V} {ds:List D} (i:Nat),Reps K F vs ds->Reps K F (vs.eraseIdx i) (ds.eraseIdx i)
 |_,_,_,.nil=>.nil
 |_,_,0,.cons _ r=>r
 |_,_,i+1,.cons h r=>.cons h (Reps.eraseIdx i r)
theorem Reps.nil_iff{vs:List V}{ds:List D}(r:Reps K F vs ds):vs=[]↔ds=[]:=by cases r<;>simp
theorem Reps.ints:∀ns:List Int,Reps K F (ns.map V.int) (ns.map D.int)
 |[]=>.nil
 |n::ns=>.cons (.int n) (Reps.ints ns)
theorem Reps.vint:∀{ns:List Int} {vs:List V},Reps K F vs (ns.map D.int)->vs=ns.map V.int
 |[],_,.nil=>rfl
 |_::_,_,.cons h r=>by cases h;rw[Reps.vint r];rfl
theorem Reps.vbl:∀{bs:List Bool} {vs:List V},Reps K F vs (bs.map D.bl)->vs=bs.map V.bl
 |[],_,.nil=>rfl
 |_::_,_,.cons h r=>by cases h;rw[Reps.vbl r];rfl
theorem Reps.vstr:∀{bs:List Str} {vs:List V},Reps K F vs (bs.map D.str)->vs=bs.map V.str
 |[],_,.nil=>rfl
 |_::_,_,.cons h r=>by cases h;rw[Reps.vstr r];rfl
end
def Sub(F H:Hp):Prop:=∀a u,F a=some u->H a=some u
theorem Sub.rd{F H:Hp}(s:Sub F H){a:Addr}{u:HO}(h:Rd F a u):Rd H a u:=h.imp (s a u) λ⟨o,h⟩=>⟨o,s a _ h⟩
def OwnAt(K:PySem.W.Frag)(F H:Hp)(a:Addr):D->Prop
 |.lst ds=>∃vs,H a=some (.lst vs)/\Reps K F vs ds
 |.dk ds=>∃kvs,H a=some (.dK kvs)/\RepK K F kvs ds
 |.dt ds=>∃kvs,H a=some (.dT kvs)/\RepT K F kvs ds
 |_=>False
def zI1:HO->Prop
 |.lst _=>True
 |.dK _=>True
 |.dT _=>True
 |_=>False
theorem OwnAt.ho{K:PySem.W.Frag}{F H:Hp}{a:Addr}{d:D}(h:OwnAt K F H a d):∃o,H a=some o/\zI1 o:=by
 cases d with
 |lst ds=>obtain⟨vs,e,_⟩:=h;exact⟨_,e,trivial⟩
 |dk ds=>obtain⟨vs,e,_⟩:=h;exact⟨_,e,trivial⟩
 |dt ds=>obtain⟨vs,e,_⟩:=h;exact⟨_,e,trivial⟩
 |_=>exact h.elim
theorem OwnAt.mono{K:PySem.W.Frag}{F F' H H':Hp}{a:Addr}{d:D}(h:OwnAt K F H a d)(l:Le F F')(e:H' a=H a):OwnAt K F' H' a d:=by
 cases d with
 |lst ds=>obtain⟨vs,q,r⟩:=h;exact⟨vs,e.trans q,r.le l⟩
 |dk ds=>obtain⟨vs,q,r⟩:=h;exact⟨vs,e.trans q,r.le l⟩
 |dt ds=>obtain⟨vs,q,r⟩:=h;exact⟨vs,e.trans q,r.le l⟩
 |_=>exact h.elim
theorem OwnAt.rep{K:PySem.W.Frag}{F H:Hp}{a:Addr}{d:D}(h:OwnAt K F H a d)(n:F a=none){o:HO}(eo:H a=some o):Rep K (upd F a o) (.ref a) d:=by
 have l:Le F (upd F a o):=.of_gr (Gr.new n)
 cases d with
 |lst ds=>obtain⟨vs,q,r⟩:=h;rw[eo] at q;cases q;exact .lst (.inl (.inl zAN)) (r.le l)
 |dk ds=>obtain⟨vs,q,r⟩:=h;rw[eo] at q;cases q;exact .dk (.inl zAN) (r.le l)
 |dt ds=>obtain⟨vs,q,r⟩:=h;rw[eo] at q;cases q;exact .dt (.inl zAN) (r.le l)
 |_=>exact h.elim
def owA(σ:St)(E:Ev)(a:Addr):Prop:=∃(i:Nat) (t:Bool) (d:D),E[i]?=some (Sl.own t d)/\σ[i]?=some (some (V.ref a))
structure Sim(K:PySem.W.Frag)(H₀:Hp)(τ:Addr)(F H:Hp)(σ:St)(E:Ev):Prop where
 sub:Sub F H
 len:E.length=σ.length
 val:∀(i:Nat) d,E[i]?=some (.val d)->∃v,σ[i]?=some (some v)/\Rep K F v d
 own:∀(i:Nat) t d,E[i]?=some (.own t d)->∃a,σ[i]?=some (some (.ref a))/\F a=none/\OwnAt K F H a d/\(∀o u,H₀ a≠some (.frz o u))/\(t=true->τ=a)
 inj:∀(i j:Nat) t u d e a,E[i]?=some (.own t d)->E[j]?=some (.own u e)->σ[i]?=some (some (.ref a))->σ[j]?=some (some (.ref a))->i=j
def Nw(H:Hp)(a:Addr):Prop:=∀o,H a=some o->¬zI1 o
theorem Nw.none{H:Hp}{a:Addr}(h:H a=none):Nw H a:=λo e=>by rw[h] at e;cases e
structure Stp(ow:Addr->Prop)(F H F' H':Hp)(ow':Addr->Prop):Prop where
 keep:∀a o,H a=some o->zI1 o->F a=none->¬ow a->H' a=some o
 dom:∀a,H' a=none->H a=none
 le:Le F F'
 new:∀a o,F' a=some o->F a≠none\/Nw H a\/ow a
 own:∀a,ow' a->ow a\/H a=none
section
variable{K:PySem.W.Frag}{H₀:Hp}{τ:Addr}{F H F' H' F1 H1 F2 H2:Hp}{σ σ':St}{E E':Ev}{ow ow1 ow2:Addr->Prop}
theorem Stp.refl:Stp ow F H F H ow:=⟨λ_ _ h _ _ _=>h,λ_ h=>h,.refl _,λa o e=>.inl (by rw[e];exact nofun),λ_ h=>.inl h⟩
theorem Stp.nF (x : Stp ow F H F1 H1 ow1) {a : Addr} {o : HO} (hf : F a = none) (e : H a = some o) (hw : zI1 o) (ho : ¬ ow a) : F1 a = none := by
  cases e1 : F1 a with
  | none => rfl
  | some u => rcases x.new a u e1 with z | z | z
              · exact absurd hf z
              · exact absurd hw (z o e)
              · exact absurd z ho
theorem Stp.nw(x:Stp ow F H F1 H1 ow1){a:Addr}(z:Nw H1 a):F a≠none\/Nw H a\/ow a:=by
 by_cases h1:F a=none
 ·by_cases h2:ow a
  ·exact .inr (.inr h2)
  ·exact .inr (.inl λo e hw=>z o (x.keep a o e hw h1 h2) hw)
 ·exact .inl h1
theorem Stp.trans(x:Stp ow F H F1 H1 ow1)(y:Stp ow1 F1 H1 F2 H2 ow2):Stp ow F H F2 H2 ow2:=by
 have o1:∀a,H a≠none->¬ow a->¬ow1 a:=λa hh ho z=>(x.own a z).elim ho hh
 refine⟨λa o e hw hf ho=>?_,λa h=>x.dom a (y.dom a h),x.le.trans y.le,λa o e=>?_,λa h=>?_⟩
 ·have hh:H a≠none:=by rw[e];exact nofun
  exact y.keep a o (x.keep a o e hw hf ho) hw (x.nF hf e hw ho) (o1 a hh ho)
 ·rcases y.new a o e with z|z|z
  ·cases e1:F1 a with
   |none=>exact absurd e1 z
   |some u=>exact x.new a u e1
  ·exact x.nw z
  ·exact(x.own a z).elim (λq=>.inr (.inr q)) λq=>.inr (.inl (.none q))
 ·exact(y.own a h).elim (x.own a) λq=>.inr (x.dom a q)
theorem Stp.weak(x:Stp ow F H F1 H1 ow1)(h:∀a,ow2 a->ow1 a):Stp ow F H F1 H1 ow2:=⟨x.keep,x.dom,x.le,x.new,λa q=>x.own a (h a q)⟩
def New(F H F' H':Hp):Prop:=Stp (λ_=>False) F H F' H' (λ_=>False)/\Sub F' H'
theorem New.stp(n:New F H F' H'):Stp ow F H F' H' ow :=
 ⟨λa o e hw hf _=>n.1.keep a o e hw hf id,n.1.dom,n.1.le,λa o e=>(n.1.new a o e).elim .inl λz=>z.elim (λz=>.inr (.inl z)) λz=>z.elim,λ_ h=>.inl h⟩
theorem New.refl(s:Sub F H):New F H F H:=⟨Stp.refl,s⟩
theorem New.laid{p:Addr}{o:HO}(s:Sub F H)(h:H p=none):New F H (upd F p o) (upd H p o):=by
 have hf:F p=none:=by
  cases e:F p with
  |none=>rfl
  |some u=>rw[s p u e] at h;cases h
 refine⟨⟨λa u e _ _ _=>by rw[zAL (zBY e h)];exact e,λa e=>?_,.of_gr (Gr.new hf),λa u e=>?_,λ_ z=>z.elim⟩,λa u e=>?_⟩
 ·by_cases ha:a=p
  ·subst ha;rw[zAN] at e;cases e
  ·rw[zAL ha] at e;exact e
 ·by_cases ha:a=p
  ·subst ha;exact .inr (.inl (.none h))
  ·rw[zAL ha] at e;exact .inl (by rw[e];exact nofun)
 ·by_cases ha:a=p
  ·subst ha;rw[zAN] at e ⊢;exact e
  ·rw[zAL ha] at e ⊢;exact s a u e
theorem Gr.dom(g:Gr H H')(a:Addr)(e:H' a=none):H a=none:=by
 cases q:H a with
 |none=>rfl
 |some o=>rw[g a o q] at e;cases e
theorem New.junk(s:Sub F H)(g:Gr H H'):New F H F H' :=
 ⟨⟨λa o e _ _ _=>g a o e,g.dom,.refl _,λa o e=>.inl (by rw[e];exact nofun),λ_ z=>z.elim⟩,λa u e=>g a u (s a u e)⟩
theorem Sim.new(S:Sim K H₀ τ F H σ E)(n:New F H F' H'):Sim K H₀ τ F' H' σ E where
 sub:=n.2
 len:=S.len
 val:=λi d e=>let ⟨v,h1,h2⟩:=S.val i d e;⟨v,h1,h2.le n.1.le⟩
 own:=λi t d e=>by
  obtain⟨a,h1,h2,h3,h4⟩:=S.own i t d e
  obtain⟨o,ho,hw⟩:=h3.ho
  exact⟨a,h1,n.1.nF h2 ho hw id,h3.mono n.1.le ((n.1.keep a o ho hw h2 id).trans ho.symm),h4⟩
 inj:=S.inj
theorem Sim.fresh(S:Sim K H₀ τ F H σ E){a:Addr}(h:H a=none):¬owA σ E a:=λ⟨i,t,d,e,e'⟩=>by
 obtain⟨b,h1,_,h3,_⟩:=S.own i t d e
 rw[e'] at h1
 cases h1
 obtain⟨o,ho,_⟩:=h3.ho
 rw[h] at ho;cases ho
end
abbrev G:=Ev->Out (D×Ev)
def tV(K:PySem.W.Frag)(H₀:Hp)(g:G):TE:=λσ H Q=>∃τ F E d E',Sim K H₀ τ F H σ E/\g E=.ok (d,E') /\
 ∀v F' H',Stp (owA σ E) F H F' H' (owA σ E')->Sim K H₀ τ F' H' σ E'->Rep K F' v d->Q v H'
def tF(K:PySem.W.Frag)(H₀:Hp)(g:G):TE:=λσ H Q=>∃τ F E d E',Sim K H₀ τ F H σ E/\g E=.ok (d,E') /\
 ∀a F' H',Stp (owA σ E) F H F' H' (owA σ E')->Sim K H₀ τ F' H' σ E'->F' a=none->H a=none->OwnAt K F' H' a d->¬owA σ E' a->Q (.ref a) H'
def tT(K:PySem.W.Frag)(H₀:Hp)(g:Ev->Out (Bool×Ev)):TT:=λσ H Q=>∃τ F E b E',Sim K H₀ τ F H σ E/\g E=.ok (b,E') /\
 ∀F' H',Stp (owA σ E) F H F' H' (owA σ E')->Sim K H₀ τ F' H' σ E'->Q b H'
theorem PE.imp{X:Cx}{e:Expr}{t t':TE}(h:PE X e t)(hi:∀σ H Q,t' σ H Q->t σ H Q):PE X e t':=λpins s σ H Q I q=>h pins s σ H Q I (hi σ H Q q)
theorem PT.imp{X:Cx}{e:Expr}{t t':TT}(h:PT X e t)(hi:∀σ H Q,t' σ H Q->t σ H Q):PT X e t':=λpins s σ H Q I q=>h pins s σ H Q I (hi σ H Q q)
theorem PW.imp{X:Cx}{e:Expr}{t t':TT}(h:PW X e t)(hi:∀σ H Q,t' σ H Q->t σ H Q):PW X e t':=λw pins s σ H Q I q=>h w pins s σ H Q I (hi σ H Q q)
theorem PS.imp{X:Cx}{e:Stmt}{t t':TS}(h:PS X e t)(hi:∀D σ H,t' D σ H->t D σ H):PS X e t':=λpins s σ H D I q=>h pins s σ H D I (hi D σ H q)
theorem PSs.imp{X:Cx}{e:List Stmt}{t t':TS}(h:PSs X e t)(hi:∀D σ H,t' D σ H->t D σ H):PSs X e t':=λpins s σ H D I q=>h pins s σ H D I (hi D σ H q)
abbrev VE(X:Cx)(e:Expr)(g:G):Prop:=PE X e (tV X.K X.H₀ g)
abbrev FE(X:Cx)(e:Expr)(g:G):Prop:=PE X e (tF X.K X.H₀ g)
abbrev VT(X:Cx)(e:Expr)(g:Ev->Out (Bool×Ev)):Prop:=PT X e (tT X.K X.H₀ g)
section
variable{X:Cx}{e a b c:Expr}{g ga gb gc:G}{pos:Pos}{K:PySem.W.Frag}{H₀:Hp}
theorem tF.toV{σ:St}{H:Hp}{Q:VK}(h:tV K H₀ g σ H Q):tF K H₀ g σ H Q:=by
 obtain⟨τ,F,E,d,E',S,hg,k⟩:=h
 refine⟨τ,F,E,d,E',S,hg,λp F' H' st S' n n0 ow no=>?_⟩
 obtain⟨o,ho,hown⟩:=ow.ho
 have nw:Stp (owA σ E) F H (upd F' p o) H' (owA σ E'):=⟨st.keep,st.dom,st.le.trans (.of_gr (Gr.new n)),λa u e=>by
  by_cases ha:a=p
  ·subst ha;exact .inr (.inl (.none n0))
  ·rw[zAL ha] at e;exact st.new a u e,st.own⟩
 refine k _ _ _ nw ⟨λa u e=>?_,S'.len,λi d e=>?_,λi t d e=>?_,S'.inj⟩ (ow.rep n ho)
 ·by_cases ha:a=p
  ·subst ha;rw[zAN] at e;rw[ho];exact e
  ·rw[zAL ha] at e;exact S'.sub a u e
 ·obtain⟨v,h1,h2⟩:=S'.val i d e;exact⟨v,h1,h2.le (.of_gr (Gr.new n))⟩
 ·obtain⟨b,h1,h2,h3,h4⟩:=S'.own i t d e
  refine⟨b,h1,?_,h3.mono (.of_gr (Gr.new n)) rfl,h4⟩
  rw[zAL (λz=>no ⟨i,t,d,e,by rw[<-z];exact h1⟩)];exact h2
theorem FE.ve(h:FE X e g):VE X e g:=PE.imp h λ_ _ _ q=>tF.toV q
noncomputable def zAC(i:Nat):G:=λE=>match E[i]? with
 |some (.val d)=>.ok (d,E)
 |some (.own false d)=>.ok (d,E.set i (.val d))
 |_=>.bad
noncomputable def gC(d:D):G:=λE=>.ok (d,E)
theorem Sim.share{τ:Addr}{F H:Hp}{σ:St}{E:Ev}{i:Nat}{t:Bool}{d:D}(S:Sim K H₀ τ F H σ E)(e:E[i]?=some (.own t d)) :
  ∃a F',σ[i]?=some (some (.ref a))/\Stp (owA σ E) F H F' H (owA σ (E.set i (.val d)))/\Sim K H₀ τ F' H σ (E.set i (.val d))/\Rep K F' (.ref a) d:=by
 obtain⟨a,h1,h2,h3,h4⟩:=S.own i t d e
 obtain⟨o,ho,_⟩:=h3.ho
 have hi:i<E.length:=(List.getElem?_eq_some_iff.mp e).1
 have l:Le F (upd F a o):=.of_gr (Gr.new h2)
 have old:∀(j:Nat) t d',(E.set i (.val d))[j]?=some (.own t d')->j≠i/\E[j]?=some (.own t d'):=λj t d' q=>by
  by_cases hj:i=j
  ·subst hj;rw[List.getElem?_set_self hi] at q;cases q
  ·rw[List.getElem?_set_ne hj] at q;exact⟨Ne.symm hj,q⟩
 refine⟨a,upd F a o,h1,⟨λ_ _ q _ _ _=>q,λ_ q=>q,l,λb u q=>?_,λb ⟨j,t',d',q1,q2⟩=>.inl ⟨j,t',d',(old j t' d' q1).2,q2⟩⟩,⟨λb u q=>?_,by rw[List.length_set];exact S.len,λj d' q=>?_,λj t' d' q=>?_,λj k t1 t2 d1 d2 b q1 q2=>S.inj j k t1 t2 d1 d2 b (old _ _ _ q1).2 (old _ _ _ q2).2⟩,h3.rep h2 ho⟩
 ·by_cases hb:b=a
  ·subst hb;exact .inr (.inr ⟨i,t,d,e,h1⟩)
  ·rw[zAL hb] at q;exact .inl (by rw[q];exact nofun)
 ·by_cases hb:b=a
  ·subst hb;rw[zAN] at q;rw[ho];exact q
  ·rw[zAL hb] at q;exact S.sub b u q
 ·by_cases hj:i=j
  ·subst hj;rw[List.getElem?_set_self hi] at q;cases q;exact⟨_,h1,h3.rep h2 ho⟩
  ·rw[List.getElem?_set_ne hj] at q
   obtain⟨v,z1,z2⟩:=S.val j d' q
   exact⟨v,z1,z2.le l⟩
 ·obtain⟨hj,q⟩:=old j t' d' q
  obtain⟨b,z1,z2,z3,z4⟩:=S.own j t' d' q
  refine⟨b,z1,?_,z3.mono l rfl,z4⟩
  rw[zAL (λz=>hj (S.inj j i t' t d' d a q e (by rw[z1,z]) h1))];exact z2
theorem zAD(i:Nat){x:Str}{pos:Pos}(hN:X.N[i]?=some x:=by rfl)(hv:Vis X.env.scope x:=by first|exact Or.inl rfl|exact Or.inr (Or.inl rfl)|exact Or.inr (Or.inr rfl))(hd:(x==("__debug__":Str))=false:=by decide)
  (hcd:(x==("__classdict__":Str))=false:=by decide):VE X (.Name x pos) (zAC i):=(zGE hN hv hd hcd).imp λσ H Q h=>by
 obtain⟨τ,F,E,d,E',S,hg,k⟩:=h
 unfold zAC at hg
 split at hg
 ·cases hg
  rename_i e
  obtain⟨v,h1,h2⟩:=S.val i _ e
  exact⟨v,h1,k v F H .refl S h2⟩
 ·cases hg
  rename_i e
  obtain⟨a,F',h1,h2,h3,h4⟩:=S.share e
  exact⟨_,h1,k _ F' H h2 h3 h4⟩
 ·cases hg
theorem zWP{v:V}{d:D}(r:∀F,Rep K F v d){σ:St}{H:Hp}{Q:VK}(h:tV K H₀ (gC d) σ H Q):tC v σ H Q:=by
 obtain⟨τ,F,E,d',E',S,hg,k⟩:=h
 cases hg
 exact k v F H .refl S (r F)
theorem zAJ {i j pos}:VE X (.Constant (.int i) j pos) (gC (.int i)):=pe_int.imp λ_ _ _ h=>zWP (λ_=>.int i) h
theorem zHE {b j pos}:VE X (.Constant (.bool b) j pos) (gC (.bl b)):=pe_bl.imp λ_ _ _ h=>zWP (λ_=>.bl b) h
theorem zQO {j pos}:VE X (.Constant .none j pos) (gC .non):=pe_non.imp λ_ _ _ h=>zWP (λ_=>.non) h
theorem zWQ {x j pos}:VE X (.Constant (.str x) j pos) (gC (.str x)):=pe_str.imp λ_ _ _ h=>zWP (λ_=>.str x) h
theorem zSB{x:Str}{v:V}{u:Value}{d:D}{pos:Pos}(hm:X.mg x=some u)(r:RelV v u)(rd:∀F,Rep X.K F v d)(hg:Gl X x:=by rfl)(hd:(x==("__debug__":Str))=false:=by decide):VE X (.Name x pos) (gC d):=(zSU hg hm r hd).imp λ_ _ _ h=>zWP rd h
noncomputable def g2(f:D->D->Out D)(ga gb:G):G:=λE=>(ga E).bind λp=>(gb p.2).bind λq=>(f p.1 q.1).bind λd=>.ok (d,q.2)
noncomputable def g1(f:D->Out D)(ga:G):G:=λE=>(ga E).bind λp=>(f p.1).bind λd=>.ok (d,p.2)
def OpS(K:PySem.W.Frag)(rd:R2)(f:D->D->Out D):Prop:=∀v u x y F H d Q,Sub F H->Rep K F v x->Rep K F u y->f x y=.ok d->(∀z F' H',New F H F' H'->Rep K F' z d->Q z H')->rd v u H Q
def UnS(K:PySem.W.Frag)(rd:V->Hp->VK->Prop)(f:D->Out D):Prop:=∀v x F H d Q,Sub F H->Rep K F v x->f x=.ok d->(∀z F' H',New F H F' H'->Rep K F' z d->Q z H')->rd v H Q
theorem zQP{rd:R2}{f:D->D->Out D}(hs:OpS K rd f){σ:St}{H:Hp}{Q:VK}(h:tV K H₀ (g2 f ga gb) σ H Q):tOp rd (tV K H₀ ga) (tV K H₀ gb) σ H Q:=by
 obtain⟨τ,F,E,d,E',S,hg,k⟩:=h
 obtain⟨p,ea,hg⟩:=Out.bind_ok hg
 obtain⟨q,eb,hg⟩:=Out.bind_ok hg
 obtain⟨z,ef,hg⟩:=Out.bind_ok hg
 cases hg
 refine⟨τ,F,E,p.1,p.2,S,ea,λv F1 H1 st1 S1 r1=>?_⟩
 refine⟨τ,F1,p.2,q.1,q.2,S1,eb,λu F2 H2 st2 S2 r2=>?_⟩
 exact hs v u p.1 q.1 F2 H2 d Q S2.sub (r1.le st2.le) r2 ef λz F3 H3 n r3=>k z F3 H3 ((st1.trans st2).trans n.stp) (S2.new n) r3
theorem zY0{rd:V->Hp->VK->Prop}{f:D->Out D}(hs:UnS K rd f){σ:St}{H:Hp}{Q:VK}(h:tV K H₀ (g1 f ga) σ H Q):tUn rd (tV K H₀ ga) σ H Q:=by
 obtain⟨τ,F,E,d,E',S,hg,k⟩:=h
 obtain⟨p,ea,hg⟩:=Out.bind_ok hg
 obtain⟨z,ef,hg⟩:=Out.bind_ok hg
 cases hg
 refine⟨τ,F,E,p.1,p.2,S,ea,λv F1 H1 st1 S1 r1=>?_⟩
 exact hs v p.1 F1 H1 d Q S1.sub r1 ef λz F3 H3 n r3=>k z F3 H3 (st1.trans n.stp) (S1.new n) r3
theorem zVE{op:Operator}{rd:R2}{f:D->D->Out D}(ho:OpR X (binaryOp op) rd)(hs:OpS X.K rd f)(ha:VE X a ga)(hb:VE X b gb):VE X (.BinOp a op b pos) (g2 f ga gb):=(zYM ho ha hb).imp λ_ _ _ h=>zQP hs h
theorem yA2{op:UnaryOp}{rd:V->Hp->VK->Prop}{f:D->Out D}(ho:UnR X (unaryOp op) rd)(hs:UnS X.K rd f)(ha:VE X a ga):VE X (.UnaryOp op a pos) (g1 f ga):=(zYN ho ha).imp λ_ _ _ h=>zY0 hs h
theorem zTP{op:CmpOp}{rd:R2}{f:D->D->Out D}(ho:OpR X (compareOp op) rd)(hs:OpS X.K rd f)(ha:VE X a ga)(hb:VE X b gb)(hm:behindInMarks op b=false):VE X (.Compare a [op] [b] pos) (g2 f ga gb):=(zS1 ho ha hb hm).imp λ_ _ _ h=>zQP hs h
noncomputable def gB(g:G):Ev->Out (Bool×Ev):=λE=>(g E).bind λp=>match p.1 with|.bl b=>.ok (b,p.2)|_=>.bad
theorem zGN{op:CmpOp}{rd:R2}{f:D->D->Out D}(ho:OpR X (compareOp op) rd)(hs:OpS X.K rd f)(ha:VE X a ga)(hb:VE X b gb)(hm:behindInMarks op b=false):VT X (.Compare a [op] [b] pos) (gB (g2 f ga gb)):=(zS2 ho ha hb hm).imp λσ H Q h=>by
 obtain⟨τ,F,E,b',E',S,hg,k⟩:=h
 obtain⟨p,ea,hg⟩:=Out.bind_ok hg
 refine zQP hs ⟨τ,F,E,p.1,p.2,S,ea,λv F1 H1 st1 S1 r1=>?_⟩
 split at hg
 ·rename_i b' eb
  cases hg
  rw[eb] at r1
  cases r1
  exact⟨_,rfl,k F1 H1 st1 S1⟩
 ·cases hg
noncomputable def zBG(t:Ev->Out (Bool×Ev)):Ev->Out (Bool×Ev):=λE=>(t E).bind λp=>.ok (!p.1,p.2)
noncomputable def zOB(t u:Ev->Out (Bool×Ev)):Ev->Out (Bool×Ev):=λE=>(t E).bind λp=>if p.1=true then u p.2 else .ok (false,p.2)
noncomputable def zCN(t u:Ev->Out (Bool×Ev)):Ev->Out (Bool×Ev):=λE=>(t E).bind λp=>if p.1=true then .ok (true,p.2) else u p.2
theorem zCJ{t:Ev->Out (Bool×Ev)}(h:VT X a t):VT X (.UnaryOp .Not a pos) (zBG t):=(zVQ h).imp λσ H Q q=>by
 obtain⟨τ,F,E,b',E',S,hg,k⟩:=q
 obtain⟨p,ea,hg⟩:=Out.bind_ok hg
 cases hg
 exact⟨τ,F,E,p.1,p.2,S,ea,λF1 H1 st1 S1=>k F1 H1 st1 S1⟩
abbrev VW(X:Cx)(e:Expr)(g:Ev->Out (Bool×Ev)):Prop:=PW X e (tT X.K X.H₀ g)
theorem VW.t{t:Ev->Out (Bool×Ev)}(h:VW X a t):VT X a t:=PW.pt h
theorem zTQ{t:Ev->Out (Bool×Ev)}(h:VT X a t):VW X (.BoolOp .And [a] pos) t:=zSW h
theorem zDM{t:Ev->Out (Bool×Ev)}(h:VT X a t):VW X (.BoolOp .Or [a] pos) t:=zVO h
theorem zWR{t u:Ev->Out (Bool×Ev)}{rest:List Expr}(h:VT X a t)(h':VW X (.BoolOp .And (b::rest) pos) u):VW X (.BoolOp .And (a::b::rest) pos) (zOB t u):=(zVP h h').imp λσ H Q q=>by
 obtain⟨τ,F,E,b',E',S,hg,k⟩:=q
 obtain⟨p,ea,hg⟩:=Out.bind_ok hg
 refine⟨τ,F,E,p.1,p.2,S,ea,λF1 H1 st1 S1=>?_⟩
 by_cases hp:p.1=true
 ·rw[if_pos hp] at hg ⊢
  exact⟨τ,F1,p.2,b',E',S1,hg,λF2 H2 st2 S2=>k F2 H2 (st1.trans st2) S2⟩
 ·rw[if_neg hp] at hg ⊢
  cases hg
  exact k F1 H1 st1 S1
theorem zC5{t u:Ev->Out (Bool×Ev)}{rest:List Expr}(h:VT X a t)(h':VW X (.BoolOp .Or (b::rest) pos) u):VW X (.BoolOp .Or (a::b::rest) pos) (zCN t u):=(zYA h h').imp λσ H Q q=>by
 obtain⟨τ,F,E,b',E',S,hg,k⟩:=q
 obtain⟨p,ea,hg⟩:=Out.bind_ok hg
 refine⟨τ,F,E,p.1,p.2,S,ea,λF1 H1 st1 S1=>?_⟩
 by_cases hp:p.1=true
 ·rw[if_pos hp] at hg ⊢
  cases hg
  exact k F1 H1 st1 S1
 ·rw[if_neg hp] at hg ⊢
  exact⟨τ,F1,p.2,b',E',S1,hg,λF2 H2 st2 S2=>k F2 H2 (st1.trans st2) S2⟩
noncomputable def zPT(ga gb:G):G:=λE=>(ga E).bind λp=>match p.1 with|.bl true=>gb p.2|.bl false=>.ok (.bl false,p.2)|_=>.bad
noncomputable def zY1(ga:G):G:=λE=>(ga E).bind λp=>match p.1 with|.bl b=>.ok (.bl (!b),p.2)|_=>.bad
theorem zOC {op} (h:VE X a g):VE X (.BoolOp op [a] pos) g:=zVR h
theorem zMI{rest:List Expr}(ha:VE X a ga)(hb:VE X (.BoolOp .And (b::rest) pos) gb):VE X (.BoolOp .And (a::b::rest) pos) (zPT ga gb):=(zVS ha hb).imp λσ H Q q=>by
 obtain⟨τ,F,E,d,E',S,hg,k⟩:=q
 obtain⟨p,ea,hg⟩:=Out.bind_ok hg
 refine⟨τ,F,E,p.1,p.2,S,ea,λv F1 H1 st1 S1 r1=>?_⟩
 split at hg
 ·rename_i eb
  rw[eb] at r1;cases r1
  exact⟨true,rfl,zZZ ⟨τ,F1,p.2,d,E',S1,hg,λv F2 H2 st2 S2 r2=>k v F2 H2 (st1.trans st2) S2 r2⟩⟩
 ·rename_i eb
  rw[eb] at r1;cases r1
  cases hg
  exact⟨false,rfl,zZY (k _ F1 H1 st1 S1 (.bl false))⟩
 ·cases hg
theorem zWS(ha:VE X a ga):VE X (.UnaryOp .Not a pos) (zY1 ga):=(zVT ha).imp λσ H Q q=>by
 obtain⟨τ,F,E,d,E',S,hg,k⟩:=q
 obtain⟨p,ea,hg⟩:=Out.bind_ok hg
 refine⟨τ,F,E,p.1,p.2,S,ea,λv F1 H1 st1 S1 r1=>?_⟩
 split at hg
 ·rename_i b' eb
  rw[eb] at r1;cases r1
  cases hg
  exact⟨_,rfl,k _ F1 H1 st1 S1 (.bl _)⟩
 ·cases hg
noncomputable def gIf(t:Ev->Out (Bool×Ev))(ga gb:G):G:=λE=>(t E).bind λp=>if p.1=true then ga p.2 else gb p.2
theorem yA3{c:Expr}{t:Ev->Out (Bool×Ev)}(hc:VT X c t)(ha:VE X a ga)(hb:VE X b gb):VE X (.IfExp c a b pos) (gIf t ga gb):=(zPX hc ha hb).imp λσ H Q q=>by
 obtain⟨τ,F,E,d,E',S,hg,k⟩:=q
 obtain⟨p,ea,hg⟩:=Out.bind_ok hg
 refine⟨τ,F,E,p.1,p.2,S,ea,λF1 H1 st1 S1=>?_⟩
 by_cases hp:p.1=true
 ·rw[if_pos hp] at hg ⊢
  exact⟨τ,F1,p.2,d,E',S1,hg,λv F2 H2 st2 S2 r=>k v F2 H2 (st1.trans st2) S2 r⟩
 ·rw[if_neg hp] at hg ⊢
  exact⟨τ,F1,p.2,d,E',S1,hg,λv F2 H2 st2 S2 r=>k v F2 H2 (st1.trans st2) S2 r⟩
end
def Thw(H₀ H H2:Hp):Prop:=∀a,H2 a=H a\/∃o u,H a=some (.frz o u)/\H2 a=some u/\zOA u/\∀o' u',H₀ a≠some (.frz o' u')
theorem Inv.thaw{X:Cx}{pins:List (Addr×Obj)}{σ:St}{H H2:Hp}{s:Shared}(I:Inv X pins σ H s)(t:Thw X.H₀ H H2):Inv X pins σ H2 s:=by
 have tn:∀a,H a=none->H2 a=none:=λa e=>by
  rcases t a with h|⟨o,u,h,_⟩
  ·rw[h,e]
  ·rw[e] at h;cases h
 have tk:∀a v,H a=some v->(∀o u,v≠.frz o u)->H2 a=some v:=λa v e n=>by
  rcases t a with h|⟨o,u,h,_⟩
  ·rw[h,e]
  ·rw[e] at h;cases h;exact absurd rfl (n o u)
 refine⟨I.ok,I.os,I.bare,⟨I.base.keep,I.base.slot,λb o e n hx=>tn b (I.base.free b o e n hx),I.base.there,λb xs e=>tk b _ (I.base.tups b xs e) (λ_ _ z=>HO.noConfusion z),λb o u e=>?_,λb t' ps e=>?_⟩,I.loc,I.cell,tn _ I.free,λx c e=>tn c (I.freeC x c e),λp hp=>?_,λb u e=>?_,I.len⟩
 ·rcases t b with h|⟨o',u',_,_,_,h⟩
  ·rw[h];exact I.base.frzs b o u e
  ·exact absurd e (h o u)
 ·obtain⟨m,h⟩:=I.base.tbls b t' ps e
  exact⟨m,tk b _ h (λ_ _ z=>HO.noConfusion z)⟩
 ·obtain⟨h1,h2,h3⟩:=I.pin p hp
  exact⟨h1,tn _ h2,h3⟩
 ·have ok:ObjOk X.prog X.w H s.heap b u:=by
   rcases t b with h|⟨o',u',h1,h2,_⟩
   ·exact I.hok b u (by rw[<-h];exact e)
   ·rw[e] at h2;cases h2
    obtain⟨_,q⟩:=I.hok b _ h1
    exact q
  exact ok.stay (λc v _ q=>q) (λc q=>tk c _ q (λ_ _ z=>HO.noConfusion z)) (λc ys q=>tk c _ q (λ_ _ z=>HO.noConfusion z)) λc o x q=>(t c).elim (λh=>h.trans q) λ⟨_,_,h,_,d,_⟩=>by rw[q] at h;cases h;exact d.elim
mutual
noncomputable def D.flat:D->Bool
 |.tup xs=>D.flats xs
 |.lst _=>false
 |.dk _=>false
 |.dt _=>false
 |_=>true
noncomputable def D.flats:List D->Bool
 |[]=>true
 |d::ds=>d.flat&&D.flats ds
end
mutual
noncomputable def D.nod:D->Bool
 |.tup xs=>D.nods xs
 |.lst xs=>D.nods xs
 |.dk _=>false
 |.dt _=>false
 |_=>true
noncomputable def D.nods:List D->Bool
 |[]=>true
 |d::ds=>d.nod&&D.nods ds
end
section
variable{K:PySem.W.Frag}{F F2:Hp}
mutual
theorem Rep.flat2(ht:∀a vs,F a=some (.tup vs)->F2 a=some (.tup vs)):∀{v:V} {d:D},Rep K F v d->d.flat=true->Rep K F2 v d
 |_,_,.non,_=>.non
 |_,_,.bl b,_=>.bl b
 |_,_,.int i,_=>.int i
 |_,_,.str x,_=>.str x
 |_,_,.tup h r,e=>.tup (ht _ _ h) (Reps.flat2 ht r (by rw[D.flat] at e;exact e))
 |_,_,.tupK h n,_=>.tupK h n
 |_,_,.lst _ _,e=>by rw[D.flat] at e;cases e
 |_,_,.dk _ _,e=>by rw[D.flat] at e;cases e
 |_,_,.dt _ _,e=>by rw[D.flat] at e;cases e
theorem Reps.flat2(ht:∀a vs,F a=some (.tup vs)->F2 a=some (.tup vs)):∀{v:List V} {d:List D},Reps K F v d->D.flats d=true->Reps K F2 v d
 |_,_,.nil,_=>.nil
 |_,_,.cons h r,e=>by
  rw[D.flats,Bool.and_eq_true] at e
  exact .cons (Rep.flat2 ht h e.1) (Reps.flat2 ht r e.2)
end
mutual
theorem Rep.nod2(ht:∀a vs,F a=some (.tup vs)->F2 a=some (.tup vs))(hl:∀a vs,SqL K F a vs->SqL K F2 a vs):∀{v:V} {d:D},Rep K F v d->d.nod=true->Rep K F2 v d
 |_,_,.non,_=>.non
 |_,_,.bl b,_=>.bl b
 |_,_,.int i,_=>.int i
 |_,_,.str x,_=>.str x
 |_,_,.tup h r,e=>.tup (ht _ _ h) (Reps.nod2 ht hl r (by rw[D.nod] at e;exact e))
 |_,_,.tupK h n,_=>.tupK h n
 |_,_,.lst h r,e=>.lst (hl _ _ h) (Reps.nod2 ht hl r (by rw[D.nod] at e;exact e))
 |_,_,.dk _ _,e=>by rw[D.nod] at e;cases e
 |_,_,.dt _ _,e=>by rw[D.nod] at e;cases e
theorem Reps.nod2(ht:∀a vs,F a=some (.tup vs)->F2 a=some (.tup vs))(hl:∀a vs,SqL K F a vs->SqL K F2 a vs):∀{v:List V} {d:List D},Reps K F v d->D.nods d=true->Reps K F2 v d
 |_,_,.nil,_=>.nil
 |_,_,.cons h r,e=>by
  rw[D.nods,Bool.and_eq_true] at e
  exact .cons (Rep.nod2 ht hl h e.1) (Reps.nod2 ht hl r e.2)
end
end
noncomputable def zE8(is:List Nat)(j:Nat):Sl->Sl
 |.own _ d=>if is.contains j then .val d else .no
 |s=>s
noncomputable def zHF(is:List Nat):Nat->Ev->Ev
 |_,[]=>[]
 |j,s::E=>zE8 is j s::zHF is (j+1) E
noncomputable abbrev zHG(is:List Nat)(E:Ev):Ev:=zHF is 0 E
theorem zI2(is:List Nat):∀(E:Ev) (k j:Nat),(zHF is k E)[j]?=(E[j]?).map (zE8 is (k+j))
 |[],_,_=>by simp[zHF]
 |s::E,k,0=>by simp[zHF]
 |s::E,k,j+1=>by
  show(zHF is (k+1) E)[j]?=_
  rw[zI2 is E (k+1) j,List.getElem?_cons_succ,show k+1+j=k+(j+1) by lia]
theorem zK8(is:List Nat)(E:Ev)(j:Nat):(zHG is E)[j]?=(E[j]?).map (zE8 is j):=by rw[zI2];simp
theorem zI3(is:List Nat):∀(E:Ev) (k:Nat),(zHF is k E).length=E.length
 |[],_=>rfl
 |s::E,k=>by rw[zHF,List.length_cons,List.length_cons,zI3 is E (k+1)]
noncomputable def zX6:Option Sl->Bool
 |some (.own _ (.lst _))=>true
 |_=>false
noncomputable def zZ8:Option Sl->Bool
 |some (.own _ (.dk _))=>true
 |some (.own _ (.dt _))=>true
 |_=>false
noncomputable def zI4(is:List Nat)(E:Ev)(d:D):Bool:=(!(is.any λi=>zX6 E[i]?)||d.flat)&&(!(is.any λi=>zZ8 E[i]?)||d.nod)
noncomputable def zJR(is:List Nat)(g:G):G:=λE=>(g (zHG is E)).bind λp=>if zI4 is E p.1=true then .ok (p.1,E) else .bad
noncomputable def zHH(is:List Nat)(g:Ev->Out (Bool×Ev)):Ev->Out (Bool×Ev):=λE=>(g (zHG is E)).bind λp=>.ok (p.1,E)
section
variable{X:Cx}{K:PySem.W.Frag}{H₀ F H F' H':Hp}{τ:Addr}{σ:St}{E:Ev}{is:List Nat}
def Lent(σ:St)(E:Ev)(is:List Nat)(a:Addr):Prop:=∃(i:Nat) (t:Bool) (d:D),i∈is/\E[i]?=some (Sl.own t d)/\σ[i]?=some (some (V.ref a))
theorem Lent.ow{a:Addr}(h:Lent σ E is a):owA σ E a:=let ⟨i,t,d,_,e,q⟩:=h;⟨i,t,d,e,q⟩
theorem Sim.owned(S:Sim K H₀ τ F H σ E){a:Addr}(h:owA σ E a):F a=none/\(∃o,H a=some o/\zI1 o)/\∀o u,H₀ a≠some (.frz o u):=by
 obtain⟨i,t,d,e,q⟩:=h
 obtain⟨b,h1,h2,h3,h4,_⟩:=S.own i t d e
 rw[q] at h1;cases h1
 exact⟨h2,h3.ho,h4⟩
open Classical in
noncomputable def zK9(σ:St)(E:Ev)(is:List Nat)(F H:Hp):Hp:=λa=>if Lent σ E is a then H a else F a
open Classical in
noncomputable def zJ9(σ:St)(E:Ev)(is:List Nat)(F':Hp):Hp:=λa=>if Lent σ E is a then none else F' a
open Classical in
noncomputable def zPU(σ:St)(E:Ev)(is:List Nat)(H H':Hp):Hp:=λa=>if Lent σ E is a then H a else H' a
theorem Sim.lend(S:Sim K H₀ τ F H σ E)(is:List Nat):Sim K H₀ τ (zK9 σ E is F H) H σ (zHG is E)/\∀a,¬owA σ (zHG is E) a:=by
 have l:Le F (zK9 σ E is F H):=λa u e=>by
  refine .inl ?_
  unfold zK9
  split
  ·exact S.sub a u e
  ·exact e
 have no:∀(i:Nat) t d,(zHG is E)[i]?≠some (.own t d):=λi t d e=>by
  rw[zK8] at e
  cases q:E[i]? with
  |none=>rw[q] at e;cases e
  |some s =>
   rw[q] at e
   have e:zE8 is i s=.own t d:=Option.some.inj e
   cases s with
   |no=>cases e
   |val _=>cases e
   |own t' d' =>
    by_cases hc:is.contains i=true
    ·rw[show zE8 is i (.own t' d')=.val d' from if_pos hc] at e;cases e
    ·rw[show zE8 is i (.own t' d')=.no from if_neg hc] at e;cases e
 refine⟨⟨λa u e=>?_,by rw[zI3];exact S.len,λi d e=>?_,λi t d e=>absurd e (no i t d),λi j t u d d' a e=>absurd e (no i t d)⟩,λa ⟨i,t,d,e,_⟩=>no i t d e⟩
 ·unfold zK9 at e
  split at e
  ·exact e
  ·exact S.sub a u e
 ·rw[zK8] at e
  cases q:E[i]? with
  |none=>rw[q] at e;cases e
  |some s =>
   rw[q] at e
   have e:zE8 is i s=.val d:=Option.some.inj e
   cases s with
   |no=>cases e
   |val d' =>
    cases e
    obtain⟨v,h1,h2⟩:=S.val i d q
    exact⟨v,h1,h2.le l⟩
   |own t' d' =>
    by_cases hc:is.contains i=true
    ·rw[show zE8 is i (.own t' d')=.val d' from if_pos hc] at e
     cases e
     obtain⟨a,h1,h2,h3,_⟩:=S.own i t' d q
     obtain⟨o,ho,_⟩:=h3.ho
     refine⟨.ref a,h1,(h3.rep h2 ho).le λb u e=>.inl ?_⟩
     have la:Lent σ E is a:=⟨i,t',d,by simpa using hc,q,h1⟩
     by_cases hb:b=a
     ·subst hb
      rw[zAN] at e
      unfold zK9
      rw[if_pos la,ho];exact e
     ·rw[zAL hb] at e
      unfold zK9
      split
      ·exact S.sub b u e
      ·exact e
    ·rw[show zE8 is i (.own t' d')=.no from if_neg hc] at e;cases e
theorem Sim.back (S : Sim K H₀ τ F H σ E) (is : List Nat) {ow' : Addr → Prop} (st : Stp (fun _ => False) (zK9 σ E is F H) H F' H' ow') (sb : Sub F' H') :
    Thw H₀ H' (zPU σ E is H H') ∧ Stp (owA σ E) F H (zJ9 σ E is F') (zPU σ E is H H') (owA σ E) ∧ Sim K H₀ τ (zJ9 σ E is F') (zPU σ E is H H') σ E ∧
    (∀ a u, F' a = some u → (∀ o w, zI1 o → u ≠ o ∧ u ≠ .frz w o) → zJ9 σ E is F' a = some u) ∧
    ((is.any fun i => zX6 E[i]?) = false → ∀ a vs, SqL K F' a vs → SqL K (zJ9 σ E is F') a vs) := by
  have lh : ∀ a, Lent σ E is a → ∃ o, H a = some o ∧ zI1 o ∧ (F' a = some o ∨ (zOA o ∧ ∃ w, F' a = some (.frz w o))) := fun a h => by
    obtain ⟨_, ⟨o, ho, hw⟩, _⟩ := S.owned h.ow
    refine ⟨o, ho, hw, (st.le a o ?_).imp_right fun z => z.resolve_right fun ⟨_, _, _, y, _⟩ => by subst y; exact hw⟩
    unfold zK9
    rw [if_pos h]; exact ho
  have l2 : Le F (zJ9 σ E is F') := fun a u e => by
    have hn : ¬ Lent σ E is a := fun h => by rw [(S.owned h.ow).1] at e; cases e
    unfold zJ9
    rw [if_neg hn]
    exact st.le a u (by unfold zK9; rw [if_neg hn]; exact e)
  have kp : ∀ a o, H a = some o → zI1 o → F a = none → zPU σ E is H H' a = some o := fun a o e hw n => by
    unfold zPU
    by_cases h : Lent σ E is a
    · rw [if_pos h]; exact e
    · rw [if_neg h]; exact st.keep a o e hw (by unfold zK9; rw [if_neg h]; exact n) id
  have nw : ∀ a o, zJ9 σ E is F' a = some o → F a ≠ none ∨ Nw H a := fun a o e => by
    unfold zJ9 at e
    by_cases h : Lent σ E is a
    · rw [if_pos h] at e; cases e
    · rw [if_neg h] at e
      rcases st.new a o e with z | z | z
      · unfold zK9 at z; rw [if_neg h] at z; exact .inl z
      · exact .inr z
      · exact z.elim
  refine ⟨fun a => ?_, ⟨fun a o e hw n _ => kp a o e hw n, fun a e => ?_, l2, fun a o e => (nw a o e).imp_right .inl, fun _ h => .inl h⟩, ⟨fun a u e => ?_, S.len, fun i d e => ?_, fun i t d e => ?_, S.inj⟩, fun a u e hn => ?_, fun hl a vs h => ?_⟩
  · by_cases h : Lent σ E is a
    · obtain ⟨o, ho, _, z | ⟨id, w, z⟩⟩ := lh a h
      · exact .inl (by unfold zPU; rw [if_pos h, sb a o z, ho])
      · exact .inr ⟨w, o, sb a _ z, by unfold zPU; rw [if_pos h, ho], id, (S.owned h.ow).2.2⟩
    · exact .inl (by unfold zPU; rw [if_neg h])
  · unfold zPU at e
    by_cases h : Lent σ E is a
    · rw [if_pos h] at e; exact e
    · rw [if_neg h] at e; exact st.dom a e
  · unfold zJ9 at e
    by_cases h : Lent σ E is a
    · rw [if_pos h] at e; cases e
    · rw [if_neg h] at e
      unfold zPU
      rw [if_neg h]; exact sb a u e
  · obtain ⟨v, h1, h2⟩ := S.val i d e
    exact ⟨v, h1, h2.le l2⟩
  · obtain ⟨a, h1, h2, h3, h4⟩ := S.own i t d e
    obtain ⟨o, ho, hw⟩ := h3.ho
    refine ⟨a, h1, ?_, h3.mono l2 ((kp a o ho hw h2).trans ho.symm), h4⟩
    cases q : zJ9 σ E is F' a with
    | none => rfl
    | some u => rcases nw a u q with z | z
                · exact absurd h2 z
                · exact absurd hw (z o ho)
  · unfold zJ9
    by_cases h : Lent σ E is a
    · obtain ⟨o, ho, hw, z | ⟨_, w, z⟩⟩ := lh a h
      · rw [e] at z; cases z; exact absurd rfl (hn u default hw).1
      · rw [e] at z; cases z; exact absurd rfl (hn o w hw).2
    · rw [if_neg h]; exact e
  · rcases h with h | h
    case inr => exact .inr h
    refine .inl ?_
    have hn : ¬ Lent σ E is a := fun hh => by
      obtain ⟨o, ho, hw, z⟩ := lh a hh
      obtain ⟨i, t, d, hi, e, q⟩ := id hh
      have hld : zX6 E[i]? = false := by
        have := List.any_eq_false.mp hl i hi
        simpa using this
      obtain ⟨b, h1, h2, h3, _⟩ := S.own i t d e
      rw [q] at h1; cases h1
      have od : zOA o := by
        cases d with
        | lst ds => rw [e] at hld; cases hld
        | dk ds => obtain ⟨_, q, _⟩ := h3; rw [ho] at q; cases q; trivial
        | dt ds => obtain ⟨_, q, _⟩ := h3; rw [ho] at q; cases q; trivial
        | _ => exact h3.elim
      rcases h with h | ⟨w, h⟩ <;> rcases z with z | ⟨_, w', z⟩ <;> rw [h] at z <;> cases z <;> exact od
    unfold Rd zJ9
    rw [if_neg hn]
    exact h
theorem zQQ(S:Sim K H₀ τ F H σ E)(is:List Nat){ow':Addr->Prop}(st:Stp (λ_=>False) (zK9 σ E is F H) H F' H' ow')(sb:Sub F' H'){v:V}{d:D}(hl:zI4 is E d=true)(r:Rep K F' v d):Rep K (zJ9 σ E is F') v d:=by
 obtain⟨_,_,_,h1,h2⟩:=S.back is st sb
 have ht:∀a vs,F' a=some (.tup vs)->zJ9 σ E is F' a=some (.tup vs):=λa vs e=>h1 a _ e λo w ho=>⟨λz=>by subst z;exact ho,λz=>HO.noConfusion z⟩
 unfold zI4 at hl
 rw[Bool.and_eq_true,Bool.or_eq_true,Bool.or_eq_true] at hl
 rcases hl.1 with z|z
 ·rcases hl.2 with y|y
  ·-- nothing is lent at all
   have no:∀a,¬Lent σ E is a:=λa ⟨i,t,d,hi,e,q⟩=>by
    have e1:zX6 E[i]?=false:=by have:=List.any_eq_false.mp (by simpa using z) i hi;simpa using this
    have e2:zZ8 E[i]?=false:=by have:=List.any_eq_false.mp (by simpa using y) i hi;simpa using this
    obtain⟨b,_,_,h3,_⟩:=S.own i t d e
    rw[e] at e1 e2
    cases d with
    |lst ds=>cases e1
    |dk ds=>cases e2
    |dt ds=>cases e2
    |_=>exact h3.elim
   exact r.le λa u e=>.inl (by unfold zJ9;rw[if_neg (no a)];exact e)
  ·exact Rep.nod2 ht (h2 (by simpa using z)) r y
 ·exact Rep.flat2 ht r z
theorem Stp.toF{ow ow':Addr->Prop}(h:∀a,¬ow a)(st:Stp ow F H F' H' ow'):Stp (λ_=>False) F H F' H' ow' :=
 ⟨λa o e hw n _=>st.keep a o e hw n (h a),st.dom,st.le,λa o e=>(st.new a o e).imp_right λz=>z.imp_right (h a),λa z=>(st.own a z).elim (λz=>absurd z (h a)) .inr⟩
theorem zKA{e:Expr}{g:G}(is:List Nat)(h:VE X e g):VE X e (zJR is g):=by
 intro pins s σ H Q I ⟨τ,F,E,d,E',S,hg,k⟩
 obtain⟨p,eg,hg⟩:=Out.bind_ok hg
 split at hg
 ·rename_i hl
  cases hg
  obtain⟨S1,no⟩:=S.lend is
  refine thn (h pins s σ H (λv H'=>∃F' ow',Stp (λ_=>False) (zK9 σ E is F H) H F' H' ow'/\Sub F' H'/\Rep X.K F' v p.1) I ⟨τ,_,_,p.1,p.2,S1,eg,λv F' H' st S' r=>⟨F',_,st.toF no,S'.sub,r⟩⟩) λu s' ⟨v,H',I',rv,F',ow',st,sb,r⟩=>?_
  obtain⟨t1,t2,t3,_⟩:=S.back is st sb
  exact⟨v,_,I'.thaw t1,rv,k v _ _ t2 t3 (zQQ S is st sb hl r)⟩
 ·cases hg
theorem zOD{e:Expr}{g:Ev->Out (Bool×Ev)}(is:List Nat)(h:VT X e g):VT X e (zHH is g):=by
 intro pins s σ H Q I ⟨τ,F,E,d,E',S,hg,k⟩
 obtain⟨p,eg,hg⟩:=Out.bind_ok hg
 cases hg
 obtain⟨S1,no⟩:=S.lend is
 refine thn (h pins s σ H (λb H'=>b=p.1/\∃F' ow',Stp (λ_=>False) (zK9 σ E is F H) H F' H' ow'/\Sub F' H') I ⟨τ,_,_,p.1,p.2,S1,eg,λF' H' st S'=>⟨rfl,F',_,st.toF no,S'.sub⟩⟩) λu s' ⟨H',I',eb,F',ow',st,sb⟩=>?_
 obtain⟨t1,t2,t3,_⟩:=S.back is st sb
 subst eb
 exact⟨_,I'.thaw t1,k _ _ t2 t3⟩
end
inductive Fl where
 |nx (E:Ev)|rt (b:Bool) (d:D) (E:Ev)|bk (E:Ev)|ct (E:Ev)
abbrev GS:=Ev->Out Fl
def RetR(K:PySem.W.Frag)(ow:Addr->Prop)(H:Hp)(F' H':Hp)(σ':St)(E':Ev):Bool->V->D->Prop
 |false,v,d=>Rep K F' v d
 |true,v,d=>∃a,v=.ref a/\F' a=none/\OwnAt K F' H' a d/\(ow a\/H a=none)/\∀(i:Nat) d',E'[i]?=some (.own true d')->σ'[i]?≠some (some (.ref a))
def FlOk(K:PySem.W.Frag)(H₀:Hp)(τ:Addr)(ow:Addr->Prop)(F H:Hp)(D:Ends):Fl->Prop
 |.nx E'=>∀σ' F' H',Stp ow F H F' H' (owA σ' E')->Sim K H₀ τ F' H' σ' E'->D.nx σ' H'
 |.bk E'=>∀σ' F' H',Stp ow F H F' H' (owA σ' E')->Sim K H₀ τ F' H' σ' E'->D.bk σ' H'
 |.ct E'=>∀σ' F' H',Stp ow F H F' H' (owA σ' E')->Sim K H₀ τ F' H' σ' E'->D.ct σ' H'
 |.rt b d E'=>∀σ' v F' H',Stp ow F H F' H' (owA σ' E')->Sim K H₀ τ F' H' σ' E'->RetR K ow H F' H' σ' E' b v d->D.rt v H'
def tS(K:PySem.W.Frag)(H₀:Hp)(g:GS):TS:=λD σ H=>∃τ F E r,Sim K H₀ τ F H σ E/\g E=.ok r/\FlOk K H₀ τ (owA σ E) F H D r
abbrev VS(X:Cx)(st:Stmt)(g:GS):Prop:=PS X st (tS X.K X.H₀ g)
abbrev VSs(X:Cx)(st:List Stmt)(g:GS):Prop:=PSs X st (tS X.K X.H₀ g)
section
variable{X:Cx}{K:PySem.W.Frag}{H₀ F H F1 H1:Hp}{τ:Addr}{ow ow1:Addr->Prop}{D':Ends}{st:Stmt}{rest:List Stmt}{g g':GS}{pos:Pos}{e:Expr}{ge:G}
theorem RetR.pre{F' H':Hp}{σ':St}{E':Ev}{b:Bool}{v:V}{d:D}(s:Stp ow F H F1 H1 ow1)(h:RetR K ow1 H1 F' H' σ' E' b v d):RetR K ow H F' H' σ' E' b v d:=by
 cases b with
 |false=>exact h
 |true =>
  obtain⟨a,h1,h2,h3,h4,h5⟩:=h
  exact⟨a,h1,h2,h3,h4.elim (s.own a) λz=>.inr (s.dom a z),h5⟩
theorem FlOk.pre{r:Fl}(s:Stp ow F H F1 H1 ow1)(h:FlOk K H₀ τ ow F H D' r):FlOk K H₀ τ ow1 F1 H1 D' r:=by
 cases r with
 |nx E'=>exact λσ' F' H' st S=>h σ' F' H' (s.trans st) S
 |bk E'=>exact λσ' F' H' st S=>h σ' F' H' (s.trans st) S
 |ct E'=>exact λσ' F' H' st S=>h σ' F' H' (s.trans st) S
 |rt b d E'=>exact λσ' v F' H' st S q=>h σ' v F' H' (s.trans st) S (q.pre s)
noncomputable def gNx:GS:=λE=>.ok (.nx E)
noncomputable def zBA(g g':GS):GS:=λE=>(g E).bind λr=>match r with|.nx E1=>g' E1|r=>.ok r
theorem zA1:VSs X [] gNx:=pss_nil.imp λD' σ H h=>by
 obtain⟨τ,F,E,r,S,hg,k⟩:=h
 cases hg
 exact k σ F H .refl S
theorem zWT{σ:St}(h:tS K H₀ (zBA g g') D' σ H):zZO (tS K H₀ g) (tS K H₀ g') D' σ H:=by
 obtain⟨τ,F,E,r,S,hg,k⟩:=h
 obtain⟨r1,e1,hg⟩:=Out.bind_ok hg
 refine⟨τ,F,E,r1,S,e1,?_⟩
 cases r1 with
 |nx E1=>exact λσ' F' H' st S'=>⟨τ,F',E1,r,S',hg,k.pre st⟩
 |bk E1=>cases hg;exact k
 |ct E1=>cases hg;exact k
 |rt b d E1=>cases hg;exact k
theorem zAH(h1:VS X st g)(h2:VSs X rest g'):VSs X (st::rest) (zBA g g'):=(zPY h1 h2).imp λ_ _ _ h=>zWT h
theorem zAP(h:VS X st g):VSs X [st] g:=zSX h
noncomputable def zC6(t:Ev->Out (Bool×Ev))(g g':GS):GS:=λE=>(t E).bind λp=>if p.1=true then g p.2 else g' p.2
theorem zCL{c:Expr}{a b:List Stmt}{t:Ev->Out (Bool×Ev)}(hc:VT X c t)(ha:VSs X a g)(hb:VSs X b g'):VS X (.If c a b pos) (zC6 t g g'):=(zYF hc ha hb).imp λD' σ H h=>by
 obtain⟨τ,F,E,r,S,hg,k⟩:=h
 obtain⟨p,e1,hg⟩:=Out.bind_ok hg
 refine⟨τ,F,E,p.1,p.2,S,e1,λF1 H1 s1 S1=>?_⟩
 by_cases hp:p.1=true
 ·rw[if_pos hp] at hg ⊢
  exact⟨τ,F1,p.2,r,S1,hg,k.pre s1⟩
 ·rw[if_neg hp] at hg ⊢
  exact⟨τ,F1,p.2,r,S1,hg,k.pre s1⟩
noncomputable def zC1(g:G):GS:=λE=>(g E).bind λp=>.ok (.rt false p.1 p.2)
theorem zAY(h:VE X e ge):VS X (.Return (some e) pos) (zC1 ge):=(zR0 h).imp λD' σ H q=>by
 obtain⟨τ,F,E,r,S,hg,k⟩:=q
 obtain⟨p,e1,hg⟩:=Out.bind_ok hg
 cases hg
 exact⟨τ,F,E,p.1,p.2,S,e1,λv F1 H1 s1 S1 r1=>k σ v F1 H1 s1 S1 r1⟩
noncomputable def zQR(g:G):GS:=λE=>(g E).bind λp=>.ok (.rt true p.1 p.2)
theorem zOE(h:FE X e ge):VS X (.Return (some e) pos) (zQR ge):=(zR0 h).imp λD' σ H q=>by
 obtain⟨τ,F,E,r,S,hg,k⟩:=q
 obtain⟨p,e1,hg⟩:=Out.bind_ok hg
 cases hg
 exact⟨τ,F,E,p.1,p.2,S,e1,λa F1 H1 s1 S1 n1 n2 ow no=>k σ _ F1 H1 s1 S1 ⟨a,rfl,n1,ow,.inr n2,λi d' z1 z2=>no ⟨i,true,d',z1,z2⟩⟩⟩
inductive Tg where
 |nm (i:Nat)|tp (ts:List Tg)
mutual
noncomputable def gTg:Tg->D->Ev->Out Ev
 |.nm i,d,E=>.ok (E.set i (.val d))
 |.tp ts,d,E=>match d with
  |.tup ds=>zOF ts ds E
  |_=>.bad
noncomputable def zOF:List Tg->List D->Ev->Out Ev
 |[],[],E=>.ok E
 |[],_::_,_=>.bad
 |_::_,[],_=>.bad
 |t::ts,d::ds,E=>(gTg t d E).bind λE1=>zOF ts ds E1
end
mutual
noncomputable def Tg.ltn(n:Nat):Tg->Bool
 |.nm i=>decide (i<n)
 |.tp ts=>Tg.ltns n ts
noncomputable def Tg.ltns(n:Nat):List Tg->Bool
 |[]=>true
 |t::ts=>t.ltn n&&Tg.ltns n ts
end
theorem Sim.put{σ:St}{E:Ev}{i:Nat}{v:V}{d:D}(S:Sim K H₀ τ F H σ E)(r:Rep K F v d):Sim K H₀ τ F H (σ.set i (some v)) (E.set i (.val d))/\∀a,owA (σ.set i (some v)) (E.set i (.val d)) a->owA σ E a:=by
 have old:∀(j:Nat) t d',(E.set i (.val d))[j]?=some (.own t d')->i≠j/\E[j]?=some (.own t d'):=λj t d' q=>by
  by_cases hj:i=j
  ·subst hj
   by_cases hi:i<E.length
   ·rw[List.getElem?_set_self hi] at q;cases q
   ·rw[List.getElem?_eq_none (by rw[List.length_set];lia)] at q;cases q
  ·rw[List.getElem?_set_ne hj] at q;exact⟨hj,q⟩
 refine⟨⟨S.sub,by rw[List.length_set,List.length_set];exact S.len,λj d' q=>?_,λj t d' q=>?_,λj k t1 t2 d1 d2 b q1 q2 z1 z2=>?_⟩,λa ⟨j,t,d',q1,q2⟩=>?_⟩
 ·by_cases hj:i=j
  ·subst hj
   have hi:i<E.length:=by
    have:=(List.getElem?_eq_some_iff.mp q).1
    rw[List.length_set] at this;exact this
   rw[List.getElem?_set_self hi] at q;cases q
   exact⟨v,by rw[List.getElem?_set_self (by rw[<-S.len];exact hi)],r⟩
  ·rw[List.getElem?_set_ne hj] at q ⊢;exact S.val j d' q
 ·obtain⟨hj,q⟩:=old j t d' q
  rw[List.getElem?_set_ne hj];exact S.own j t d' q
 ·obtain⟨hj,q1⟩:=old j _ _ q1
  obtain⟨hk,q2⟩:=old k _ _ q2
  rw[List.getElem?_set_ne hj] at z1
  rw[List.getElem?_set_ne hk] at z2
  exact S.inj j k t1 t2 d1 d2 b q1 q2 z1 z2
 ·obtain⟨hj,q1⟩:=old j t d' q1
  rw[List.getElem?_set_ne hj] at q2
  exact⟨j,t,d',q1,q2⟩
theorem Sim.putO{σ:St}{E:Ev}{i:Nat}{a:Addr}{d:D}(S:Sim K H₀ τ F H σ E)(h2:F a=none)(h3:OwnAt K F H a d)(h4:∀o u,H₀ a≠some (.frz o u))(no:¬owA σ E a) :
  Sim K H₀ τ F H (σ.set i (some (.ref a))) (E.set i (.own false d))/\∀b,owA (σ.set i (some (.ref a))) (E.set i (.own false d)) b->owA σ E b\/b=a:=by
 have old:∀(j:Nat) t d',(E.set i (.own false d))[j]?=some (.own t d')->(i=j/\t=false/\d'=d/\(σ.set i (some (V.ref a)))[j]?=some (some (.ref a)))\/(i≠j/\E[j]?=some (.own t d')/\(σ.set i (some (V.ref a)))[j]?=σ[j]?):=λj t d' q=>by
  by_cases hj:i=j
  ·subst hj
   have hi:i<E.length:=by
    have:=(List.getElem?_eq_some_iff.mp q).1
    rw[List.length_set] at this;exact this
   rw[List.getElem?_set_self hi] at q;cases q
   exact .inl ⟨rfl,rfl,rfl,by rw[List.getElem?_set_self (by rw[<-S.len];exact hi)]⟩
  ·rw[List.getElem?_set_ne hj] at q;exact .inr ⟨hj,q,by rw[List.getElem?_set_ne hj]⟩
 refine⟨⟨S.sub,by rw[List.length_set,List.length_set];exact S.len,λj d' q=>?_,λj t d' q=>?_,λj k t1 t2 d1 d2 b q1 q2 z1 z2=>?_⟩,λb ⟨j,t,d',q1,q2⟩=>?_⟩
 ·by_cases hj:i=j
  ·subst hj
   have hi:i<E.length:=by
    have:=(List.getElem?_eq_some_iff.mp q).1
    rw[List.length_set] at this;exact this
   rw[List.getElem?_set_self hi] at q;cases q
  ·rw[List.getElem?_set_ne hj] at q ⊢;exact S.val j d' q
 ·rcases old j t d' q with⟨rfl,rfl,rfl,z⟩|⟨hj,q,z⟩
  ·exact⟨a,z,h2,h3,h4,nofun⟩
  ·rw[z];exact S.own j t d' q
 ·rcases old j t1 d1 q1 with⟨e1,_,_,y1⟩|⟨hj,p1,y1⟩<;>rcases old k t2 d2 q2 with⟨e2,_,_,y2⟩|⟨hk,p2,y2⟩
  ·rw[<-e1,<-e2]
  ·rw[y1] at z1;cases z1
   rw[y2] at z2
   exact absurd ⟨k,t2,d2,p2,z2⟩ no
  ·rw[y2] at z2;cases z2
   rw[y1] at z1
   exact absurd ⟨j,t1,d1,p1,z1⟩ no
  ·rw[y1] at z1;rw[y2] at z2
   exact S.inj j k t1 t2 d1 d2 b p1 p2 z1 z2
 ·rcases old j t d' q1 with⟨rfl,rfl,rfl,y1⟩|⟨hj,q1,y1⟩
  ·rw[y1] at q2;cases q2;exact .inr rfl
  ·rw[y1] at q2;exact .inl ⟨j,t,d',q1,q2⟩
def tG(K:PySem.W.Frag)(H₀:Hp)(t:Tg):TG:=λv σ H Q=>∃τ F E d E',Sim K H₀ τ F H σ E/\Rep K F v d/\gTg t d E=.ok E'/\∀σ',Sim K H₀ τ F H σ' E'->(∀a,owA σ' E' a->owA σ E a)->(∀n,t.ltn n=true->∀j:Nat,n<=j->σ'[j]?=σ[j]?)->Q σ' H
def tGs(K:PySem.W.Frag)(H₀:Hp)(ts:List Tg):TGs:=λvs σ H Q=>∃τ F E ds E',Sim K H₀ τ F H σ E/\Reps K F vs ds/\zOF ts ds E=.ok E'/\∀σ',Sim K H₀ τ F H σ' E'->(∀a,owA σ' E' a->owA σ E a)->(∀n,Tg.ltns n ts=true->∀j:Nat,n<=j->σ'[j]?=σ[j]?)->Q σ' H
theorem PG.imp{tg:Expr}{t t':TG}(h:PG X tg t)(hi:∀v σ H Q,t' v σ H Q->t v σ H Q):PG X tg t':=λpins s σ H x u Q I r q=>h pins s σ H x u Q I r (hi _ _ _ _ q)
theorem PGs.imp{tg:List Expr}{t t':TGs}(h:PGs X tg t)(hi:∀v σ H Q,t' v σ H Q->t v σ H Q):PGs X tg t':=λpins s σ H x u Q I r q=>h pins s σ H x u Q I r (hi _ _ _ _ q)
abbrev VG(X:Cx)(tg:Expr)(t:Tg):Prop:=PG X tg (tG X.K X.H₀ t)
abbrev VGs(X:Cx)(tg:List Expr)(t:List Tg):Prop:=PGs X tg (tGs X.K X.H₀ t)
theorem zA8{i:Nat}{x:Str}(hN:X.N.Nodup)(hi:X.N[i]?=some x)(hx:Loc X.env.scope x)(hf:X.fn x=true\/X.env.scope.names.lookup x=some .local:=by first|exact .inl rfl|exact .inr rfl|assumption):VG X (.Name x pos) (.nm i):=(zSZ hN hi hx hf).imp λv σ H Q h=>by
 obtain⟨τ,F,E,d,E',S,r,hg,k⟩:=h
 rw[gTg] at hg
 cases hg
 obtain⟨S1,h1⟩:=S.put (i:=i) r
 refine k _ S1 h1 λn hn j hj=>?_
 rw[Tg.ltn] at hn
 have:i<n:=of_decide_eq_true hn
 rw[List.getElem?_set_ne (by lia)]
theorem Rep.sqT{a:Addr}{ds:List D}(s:Sub F H)(r:Rep K F (.ref a) (.tup ds)):∃vs,SqT K H a vs/\Reps K F vs ds:=by
 cases r with
 |tup h r=>exact⟨_,.inl (.inl (s _ _ h)),r⟩
 |@tupK _ xs h n =>
  rcases h with h|h
  ·rcases h with h|⟨o,h⟩<;>cases h
  ·refine⟨_,.inr h,?_⟩
   induction xs with
   |nil=>exact .nil
   |cons x xs ih=>exact .cons (.str x) (by
     clear ih n h
     induction xs with
     |nil=>exact .nil
     |cons y ys ih=>exact .cons (.str y) ih)
theorem Rep.isRefT{v:V}{ds:List D}(r:Rep K F v (.tup ds)):∃a,v=.ref a:=by (first|obtain rfl:=r.vI|obtain rfl:=r.vB|obtain rfl:=r.vS|obtain rfl:=r.vN|cases r)<;>exact⟨_,rfl⟩
theorem Rep.isRefL{v:V}{ds:List D}(r:Rep K F v (.lst ds)):∃a vs,v=.ref a/\SqL K F a vs/\Reps K F vs ds:=by cases r with|lst h r=>exact⟨_,_,rfl,h,r⟩
theorem zLA:∀{ts:List Tg} {ds:List D} {E E':Ev},zOF ts ds E=.ok E'->ts.length=ds.length
 |[],[],_,_,_=>rfl
 |[],_::_,_,_,h=>by rw[zOF] at h;cases h
 |_::_,[],_,_,h=>by rw[zOF] at h;cases h
 |t::ts,d::ds,E,E',h=>by
  rw[zOF] at h
  obtain⟨E1,_,h⟩:=Out.bind_ok h
  rw[List.length_cons,List.length_cons,zLA h]
theorem zEU:VGs X [] []:=pgs_nil.imp λv σ H Q h=>by
 obtain⟨τ,F,E,d,E',S,r,hg,k⟩:=h
 cases r with
 |nil=>rw[zOF] at hg;cases hg;exact⟨rfl,k σ S (λ_ h=>h) λ_ _ _ _=>rfl⟩
 |cons _ _=>rw[zOF] at hg;cases hg
theorem zBU{es:List Expr}{t:Tg}{ts:List Tg}(h1:VG X e t)(h2:VGs X es ts)
  (hs:(assignEach (e::es) X.env).map (·.2)=assign e X.env::(assignEach es X.env).map (·.2):=by rfl):VGs X (e::es) (t::ts):=(zPZ h1 h2 hs).imp λv σ H Q h=>by
 obtain⟨τ,F,E,ds,E',S,r,hg,k⟩:=h
 cases r with
 |nil=>rw[zOF] at hg;cases hg
 |@cons v d vs ds r rs =>
  rw[zOF] at hg
  obtain⟨E1,e1,hg⟩:=Out.bind_ok hg
  exact⟨v,vs,rfl,τ,F,E,d,E1,S,r,e1,λσ1 S1 h1 b1=>⟨τ,F,E1,ds,E',S1,rs,hg,λσ2 S2 h2 b2=>k σ2 S2 (λa z=>h1 a (h2 a z)) λn hn j hj=>by
   rw[Tg.ltns,Bool.and_eq_true] at hn
   rw[b2 n hn.2 j hj,b1 n hn.1 j hj]⟩⟩
theorem zGO {es : List Expr} {k : Nat} {ts : List Tg} (hc : X.calm = true) (h : VGs X es ts)
    (hn : (assignEach es X.env).length = ts.length := by rfl) (hst : (assignEach es X.env).findIdx? (·.1) = none := by rfl) : VG X (.Tuple es k pos) (.tp ts) := (zVU hc h hn hst).imp fun v σ H Q h => by
  obtain ⟨τ, F, E, d, E', S, r, hg, k⟩ := h
  cases d with
  | tup ds =>
    obtain ⟨a, rfl⟩ := r.isRefT
    obtain ⟨vs, h1, h2⟩ := r.sqT S.sub
    rw [gTg] at hg
    exact ⟨a, vs, rfl, h1, by rw [h2.length, ← zLA hg], τ, F, E, ds, E', S, h2, hg, fun σ' S' h' b' => k σ' S' h' fun n hn => b' n (by rw [Tg.ltn] at hn; exact hn)⟩
  | _ => have hg : (Out.bad : Out Ev) = .ok E' := hg
         cases hg
noncomputable def zBQ(t:Tg)(g:G):GS:=λE=>(g E).bind λp=>(gTg t p.1 p.2).bind λE1=>.ok (.nx E1)
theorem zWU{t:Tg}{σ:St}(h:tS K H₀ (zBQ t ge) D' σ H):zVW (tV K H₀ ge) (tG K H₀ t) D' σ H:=by
 obtain⟨τ,F,E,r,S,hg,k⟩:=h
 obtain⟨p,e1,hg⟩:=Out.bind_ok hg
 obtain⟨E1,e2,hg⟩:=Out.bind_ok hg
 cases hg
 exact⟨τ,F,E,p.1,p.2,S,e1,λv F1 H1 s1 S1 r1=>⟨τ,F1,p.2,p.1,E1,S1,r1,e2,λσ2 S2 h2 _=>k σ2 F1 H1 (s1.weak h2) S2⟩⟩
theorem zLB{tg:Expr}{t:Tg}(he:VE X e ge)(hg:VG X tg t)(hs:swapsWithSole [tg] e pos.line X.env=pure false:=by rfl)(hw:swappedStores [tg] e X.env=pure none:=by rfl)
  (h1:(assignEach [tg] X.env).map (·.2)=[assign tg X.env]:=by rfl):VS X (.Assign [tg] e pos) (zBQ t ge):=(zR1 he hg hs hw h1).imp λ_ _ _ h=>zWU h
theorem zBH{i:Nat}{x:Str}{pos':Pos}(hN:X.N.Nodup)(hi:X.N[i]?=some x)(hx:Loc X.env.scope x)(he:VE X e ge)(hs:swapsWith e (some (.Name x pos')) pos.line X.env=pure false:=by rfl)(hf:X.fn x=true\/X.env.scope.names.lookup x=some .local:=by first|exact .inl rfl|exact .inr rfl|assumption) :
  VS X (.Assign [.Name x pos'] e pos) (zBQ (.nm i) ge):=(zR2 hN hi hx he hs hf).imp λD' σ H h=>by
 obtain⟨τ,F,E,r,S,hg,k⟩:=h
 obtain⟨p,e1,hg⟩:=Out.bind_ok hg
 obtain⟨E1,e2,hg⟩:=Out.bind_ok hg
 cases hg
 rw[gTg] at e2
 cases e2
 refine⟨τ,F,E,p.1,p.2,S,e1,λv F1 H1 s1 S1 r1=>?_⟩
 obtain⟨S2,h2⟩:=S1.put (i:=i) r1
 exact k _ F1 H1 (s1.weak h2) S2
noncomputable def zHI(i:Nat)(g:G):GS:=λE=>(g E).bind λp=>.ok (.nx (p.2.set i (.own false p.1)))
theorem zQS{pins:List (Addr×Obj)}{s:Shared}{σ:St}(I:Inv X pins σ H s){a:Addr}(h:H a=none):∀o u,X.H₀ a≠some (.frz o u):=λo u e=>by
 rw[I.base.frzs a o u e] at h;cases h
theorem zWV{i:Nat}{pins:List (Addr×Obj)}{s:Shared}{σ:St}(I:Inv X pins σ H s)(h:tS X.K X.H₀ (zHI i ge) D' σ H):zVW (tF X.K X.H₀ ge) (zM5 i) D' σ H:=by
 obtain⟨τ,F,E,r,S,hg,k⟩:=h
 obtain⟨p,e1,hg⟩:=Out.bind_ok hg
 cases hg
 refine⟨τ,F,E,p.1,p.2,S,e1,λa F1 H1 s1 S1 n1 n0 ow no=>?_⟩
 obtain⟨S2,h2⟩:=S1.putO (i:=i) n1 ow (zQS I n0) no
 refine k _ F1 H1 ⟨s1.keep,s1.dom,s1.le,s1.new,λb z=>?_⟩ S2
 rcases h2 b z with z|rfl
 ·exact s1.own b z
 ·exact .inr n0
theorem zHJ{i:Nat}{x:Str}{pos':Pos}(hN:X.N.Nodup)(hi:X.N[i]?=some x)(hx:Loc X.env.scope x)(he:FE X e ge)(hs:swapsWith e (some (.Name x pos')) pos.line X.env=pure false:=by rfl)(hf:X.fn x=true\/X.env.scope.names.lookup x=some .local:=by first|exact .inl rfl|exact .inr rfl|assumption) :
  VS X (.Assign [.Name x pos'] e pos) (zHI i ge):=λpins s σ H D' I h=>zR2 hN hi hx he hs hf pins s σ H D' I (zWV I h)
noncomputable def zQT(g:G):GS:=λE=>(g E).bind λp=>.ok (.nx p.2)
theorem zTR(he:VE X e ge)(hs:swapsWith e none pos.line X.env=pure false:=by rfl):VS X (.Expr e pos) (zQT ge):=(zSY he hs).imp λD' σ H h=>by
 obtain⟨τ,F,E,r,S,hg,k⟩:=h
 obtain⟨p,e1,hg⟩:=Out.bind_ok hg
 cases hg
 exact⟨τ,F,E,p.1,p.2,S,e1,λv F1 H1 s1 S1 r1=>k σ F1 H1 s1 S1⟩
noncomputable def gWh(t:Ev->Out (Bool×Ev))(g:GS):Nat->GS
 |0,_=>.bad
 |n+1,E=>(t E).bind λp=>if p.1=true then(g p.2).bind λr=>match r with
   |.nx E1=>gWh t g n E1
   |.ct E1=>gWh t g n E1
   |.bk E1=>.ok (.nx E1)
   |.rt b d E1=>.ok (.rt b d E1)
  else .ok (.nx p.2)
theorem zQU{c:Expr}{body:List Stmt}{t:Ev->Out (Bool×Ev)}(n:Nat)(hp:PassesOwn (model X.prog X.w) X.A X.env X.xe)(hc:VT X c t)(hb:VSs X body g):VS X (.While c body [] pos) (gWh t g n):=(zP0 hp hc hb).imp λD' σ H h=>by
 obtain⟨τ,F,E,r,S,hg,k⟩:=h
 refine⟨λm σ1 H1=>∃F1 E1,Sim X.K X.H₀ τ F1 H1 σ1 E1/\Stp (owA σ E) F H F1 H1 (owA σ1 E1)/\gWh t g m E1=.ok r,⟨n,F,E,S,.refl,hg⟩,?_⟩
 rintro m σ1 H1 ⟨F1,E1,S1,s1,h1⟩
 cases m with
 |zero=>rw[gWh] at h1;cases h1
 |succ m =>
  rw[gWh] at h1
  obtain⟨p,e1,h1⟩:=Out.bind_ok h1
  refine⟨τ,F1,E1,p.1,p.2,S1,e1,λF2 H2 s2 S2=>?_⟩
  have s12:=s1.trans s2
  dsimp only
  by_cases hp:p.1=true
  ·rw[if_pos hp] at h1 ⊢
   obtain⟨q,e2,h1⟩:=Out.bind_ok h1
   refine⟨λσ3 H3=>∃F3 E3,Sim X.K X.H₀ τ F3 H3 σ3 E3/\Stp (owA σ E) F H F3 H3 (owA σ3 E3)/\gWh t g m E3=.ok r,λσ3 H3 ⟨F3,E3,a1,a2,a3⟩=>⟨m,Nat.lt_succ_self m,F3,E3,a1,a2,a3⟩,τ,F2,p.2,q,S2,e2,?_⟩
   cases q with
   |nx E3=>exact λσ3 F3 H3 s3 S3=>⟨F3,E3,S3,s12.trans s3,h1⟩
   |ct E3=>exact λσ3 F3 H3 s3 S3=>⟨F3,E3,S3,s12.trans s3,h1⟩
   |bk E3=>cases h1;exact λσ3 F3 H3 s3 S3=>k σ3 F3 H3 (s12.trans s3) S3
   |rt b d E3=>cases h1;exact λσ3 v F3 H3 s3 S3 q=>k σ3 v F3 H3 (s12.trans s3) S3 (q.pre s12)
  ·rw[if_neg hp] at h1 ⊢
   cases h1
   exact k σ1 F2 H2 s12 S2
end
def Walks(K:PySem.W.Frag)(J:It)(F:Hp)(ds:List D):Prop:=∀(i:Nat) F1 H1,Le F F1->Sub F1 H1->(i<ds.length->J.go i H1)/\(i=ds.length->J.stop i H1)/\∀x H' d,ds[i]?=some d->J.yld i H1 x H'->∃F',New F1 H1 F' H'/\Rep K F' x d
abbrev GI:=Ev->Out (List D×Ev)
def tI(K:PySem.W.Frag)(H₀:Hp)(g:GI):TI:=λσ H R=>∃τ F E ds E',Sim K H₀ τ F H σ E/\g E=.ok (ds,E') /\
 ∀J F' H',Stp (owA σ E) F H F' H' (owA σ E')->Sim K H₀ τ F' H' σ E'->Walks K J F' ds->R J H'
theorem PI.imp{X:Cx}{tg e:Expr}{t t':TI}(h:PI X tg e t)(hi:∀σ H Q,t' σ H Q->t σ H Q):PI X tg e t':=λpins s σ H Q I q=>h pins s σ H Q I (hi σ H Q q)
abbrev VI(X:Cx)(tg e:Expr)(g:GI):Prop:=PI X tg e (tI X.K X.H₀ g)
section
variable{X:Cx}{K:PySem.W.Frag}{H₀ F H F1 H1:Hp}{τ:Addr}{ow ow1:Addr->Prop}{D':Ends}{st:Stmt}{rest:List Stmt}{g g':GS}{pos:Pos}{e tg:Expr}{ge:G}{gi:GI}
noncomputable def gSq(g:G):GI:=λE=>(g E).bind λp=>match p.1 with|.lst ds=>.ok (ds,p.2)|_=>.bad
noncomputable def gTp(g:G):GI:=λE=>(g E).bind λp=>match p.1 with|.tup ds=>.ok (ds,p.2)|_=>.bad
theorem zMJ{a:Addr}{vs:List V}{ds:List D}(h:SqL K F a vs)(r:Reps K F vs ds):Walks K (Itl K a) F ds:=λi F1 H1 l s=>by
 have sq:SqL K H1 a vs:=h.imp (λh=>s.rd (l.rd h)) id
 refine⟨λhi=>?_,λhi=>⟨vs,sq,by rw[r.length,hi];exact Nat.le_refl _⟩,λx H' d e ⟨e1,y⟩=>?_⟩
 ·have hv:i<vs.length:=by rw[r.length];exact hi
  exact⟨vs,vs[i],sq,by simp[hv]⟩
 ·subst e1
  obtain⟨v,h1,h2⟩:=r.get e
  rw[y vs sq] at h1;cases h1
  exact⟨F1,.refl s,h2.le l⟩
theorem Rep.tupSq{v:V}{ds:List D}(r:Rep K F v (.tup ds)):∃a vs,v=.ref a/\Reps K F vs ds/\∀F1 H1,Le F F1->Sub F1 H1->SqT K H1 a vs:=by
 cases r with
 |tup h r=>exact⟨_,_,rfl,r,λF1 H1 l s=>.inl (.inl (s _ _ (l.tup h)))⟩
 |@tupK a xs h n =>
  obtain⟨vs,h1,h2⟩:=Rep.sqT (F:=F) (H:=F) (λ_ _ e=>e) (.tupK h n)
  refine⟨a,vs,rfl,h2,λF1 H1 _ _=>?_⟩
  rcases h with h|h
  ·rcases h with h|⟨o,h⟩<;>cases h
  ·have:vs=xs.map V.str:=Reps.vstr h2
   subst this
   exact .inr h
theorem zOG{a:Addr}{vs:List V}{ds:List D}(sq:∀F1 H1,Le F F1->Sub F1 H1->SqT K H1 a vs)(r:Reps K F vs ds):Walks K (Itt K a) F ds:=λi F1 H1 l s=>by
 have sq:=sq F1 H1 l s
 refine⟨λhi=>?_,λhi=>⟨vs,sq,by rw[r.length,hi];exact Nat.le_refl _⟩,λx H' d e ⟨e1,y⟩=>?_⟩
 ·have hv:i<vs.length:=by rw[r.length];exact hi
  exact⟨vs,vs[i],sq,by simp[hv]⟩
 ·subst e1
  obtain⟨v,h1,h2⟩:=r.get e
  rw[y vs sq] at h1;cases h1
  exact⟨F1,.refl s,h2.le l⟩
theorem zTS(h:VE X e ge):VI X tg e (gSq ge):=(zS0 h).imp λσ H Q h=>by
 obtain⟨τ,F,E,ds,E',S,hg,k⟩:=h
 obtain⟨p,e1,hg⟩:=Out.bind_ok hg
 refine⟨τ,F,E,p.1,p.2,S,e1,λv F1 H1 s1 S1 r1=>?_⟩
 split at hg
 ·rename_i ds' ed
  cases hg
  rw[ed] at r1
  obtain⟨a,vs,rfl,h1,h2⟩:=r1.isRefL
  exact⟨a,rfl,⟨vs,h1.imp S1.sub.rd id⟩,k _ F1 H1 s1 S1 (zMJ h1 h2)⟩
 ·cases hg
theorem zWW(h:VE X e ge):VI X tg e (gTp ge):=(zVY h).imp λσ H Q h=>by
 obtain⟨τ,F,E,ds,E',S,hg,k⟩:=h
 obtain⟨p,e1,hg⟩:=Out.bind_ok hg
 refine⟨τ,F,E,p.1,p.2,S,e1,λv F1 H1 s1 S1 r1=>?_⟩
 split at hg
 ·rename_i ds' ed
  cases hg
  rw[ed] at r1
  obtain⟨a,vs,rfl,h1,h2⟩:=r1.tupSq
  exact⟨a,rfl,⟨vs,h2 F1 H1 (.refl _) S1.sub⟩,k _ F1 H1 s1 S1 (zOG h2 h1)⟩
 ·cases hg
noncomputable def zCM:List G->Ev->Out (List D×Ev)
 |[],E=>.ok ([],E)
 |g::gs,E=>(g E).bind λp=>(zCM gs p.2).bind λq=>.ok (p.1::q.1,q.2)
def tAr(K:PySem.W.Frag)(H₀:Hp)(gs:List G):TA:=λσ H Q=>∃τ F E ds E',Sim K H₀ τ F H σ E/\zCM gs E=.ok (ds,E') /\
 ∀vs F' H',Stp (owA σ E) F H F' H' (owA σ E')->Sim K H₀ τ F' H' σ E'->Reps K F' vs ds->Q vs H'
theorem PA.imp{es:List Expr}{t t':TA}(h:PA X es t)(hi:∀σ H Q,t' σ H Q->t σ H Q):PA X es t':=λp pins s σ H Q I q=>h p pins s σ H Q I (hi σ H Q q)
abbrev VA(X:Cx)(es:List Expr)(gs:List G):Prop:=PA X es (tAr X.K X.H₀ gs)
theorem zAE:VA X [] []:=pa_nil.imp λσ H Q h=>by
 obtain⟨τ,F,E,ds,E',S,hg,k⟩:=h
 cases hg
 exact k [] F H .refl S .nil
theorem zTT{gs:List G}{σ:St}{Q:List V->Hp->Prop}(h:tAr K H₀ (ge::gs) σ H Q):zS4 (tV K H₀ ge) (tAr K H₀ gs) σ H Q:=by
 obtain⟨τ,F,E,ds,E',S,hg,k⟩:=h
 rw[zCM] at hg
 obtain⟨p,e1,hg⟩:=Out.bind_ok hg
 obtain⟨q,e2,hg⟩:=Out.bind_ok hg
 cases hg
 exact⟨τ,F,E,p.1,p.2,S,e1,λv F1 H1 s1 S1 r1=>⟨τ,F1,p.2,q.1,q.2,S1,e2,λvs F2 H2 s2 S2 r2=>k (v::vs) F2 H2 (s1.trans s2) S2 (.cons (r1.le s2.le) r2)⟩⟩
theorem zAA{es:List Expr}{gs:List G}(ha:VE X e ge)(hr:VA X es gs)(hs:starEach (e::es) X.env=(false,eval e X.env)::starEach es X.env:=by rfl):VA X (e::es) (ge::gs):=(zCS ha hr hs).imp λ_ _ _ h=>zTT h
theorem zFK{n:Nat}(h:n<10000):n<sizeLine:=Nat.lt_of_lt_of_le h (by decide)
noncomputable def few(n:Nat){α:Type}(x:Out α):Out α:=if n<10000 then x else .bad
theorem zDN{n:Nat}{α:Type}{x:Out α}{a:α}(h:few n x=.ok a):n<10000/\x=.ok a:=by
 unfold few at h
 split at h
 ·exact⟨by assumption,h⟩
 ·cases h
noncomputable def zAX(gs:List G):G:=λE=>(zCM gs E).bind λp=>few p.1.length (.ok (.tup p.1,p.2))
noncomputable def zDJ(gs:List G):G:=λE=>(zCM gs E).bind λp=>few p.1.length (.ok (.lst p.1,p.2))
theorem zB0{es:List Expr}{gs:List G} {x1} (h:VA X es gs):VE X (.Tuple es x1 pos) (zAX gs):=(zV8 h).imp λσ H Q h=>by
 obtain⟨τ,F,E,ds,E',S,hg,k⟩:=h
 obtain⟨p,e1,hg⟩:=Out.bind_ok hg
 obtain⟨hl,hg⟩:=zDN hg
 cases hg
 refine⟨τ,F,E,p.1,p.2,S,e1,λvs F1 H1 s1 S1 r1=>⟨by rw[r1.length];exact Nat.le_of_lt (zFK hl),λq hq=>?_⟩⟩
 have n:=New.laid (o:=.tup vs) S1.sub hq
 exact k _ _ _ (s1.trans n.stp) (S1.new n) (.tup zAN (r1.le n.1.le))
theorem zDK{es:List Expr}{gs:List G}(h:VA X es gs):FE X (.List es pos) (zDJ gs):=(zV9 h).imp λσ H Q h=>by
 obtain⟨τ,F,E,ds,E',S,hg,k⟩:=h
 obtain⟨p,e1,hg⟩:=Out.bind_ok hg
 obtain⟨hl,hg⟩:=zDN hg
 cases hg
 refine⟨τ,F,E,p.1,p.2,S,e1,λvs F1 H1 s1 S1 r1=>⟨by rw[r1.length];exact Nat.le_of_lt (zFK hl),λq hq=>?_⟩⟩
 have n:=New.junk (H':=upd H1 q (.lst vs)) S1.sub (Gr.new hq)
 have fq:F1 q=none:=by
  cases z:F1 q with
  |none=>rfl
  |some o=>rw[S1.sub q o z] at hq;cases hq
 exact k q _ _ (s1.trans n.stp) (S1.new n) fq (s1.dom q hq) ⟨vs,zAN,r1⟩ (S1.fresh hq)
noncomputable def zDL(t:Tg)(g:GS):List D->GS
 |[],E=>.ok (.nx E)
 |d::ds,E=>(gTg t d E).bind λE1=>(g E1).bind λr=>match r with
  |.nx E2=>zDL t g ds E2
  |.ct E2=>zDL t g ds E2
  |.bk E2=>.ok (.nx E2)
  |.rt b d E2=>.ok (.rt b d E2)
noncomputable def zMX(gi:GI)(t:Tg)(g:GS):GS:=λE=>(gi E).bind λp=>zDL t g p.1 p.2
theorem zI5{iter:Expr}{body:List Stmt}{t:Tg}(hp:PassesOwn (model X.prog X.w) X.A X.env X.xe)(hc:X.calm=true)(hi:VI X tg iter gi)(hg:VG X tg t)(hb:VSs X body g)
  (hs:∀x,foldedSetIterable iter X.env x=pure x:=by intro _;rfl):VS X (.For tg iter body [] pos) (zMX gi t g):=(zVZ hp hc hi hg hb hs).imp λD' σ H h=>by
 obtain⟨τ,F,E,r,S,hg,k⟩:=h
 obtain⟨p,e1,hg⟩:=Out.bind_ok hg
 refine⟨τ,F,E,p.1,p.2,S,e1,λJ F1 H1 s1 S1 w1=>?_⟩
 refine⟨λi m σ2 H2=>m=p.1.length-i/\i<=p.1.length/\∃F2 E2,Sim X.K X.H₀ τ F2 H2 σ2 E2/\Stp (owA σ E) F H F2 H2 (owA σ2 E2)/\Le F1 F2/\zDL t g (p.1.drop i) E2=.ok r,⟨_,rfl,Nat.zero_le _,F1,p.2,S1,s1,.refl _,by rw[List.drop_zero];exact hg⟩,?_⟩
 rintro i m σ2 H2 ⟨rfl,hil,F2,E2,S2,s2,l2,h2⟩
 obtain⟨w2,w3,w4⟩:=w1 i F2 H2 l2 S2.sub
 by_cases hi:i<p.1.length
 ·obtain⟨d,hd⟩:∃d,p.1[i]?=some d:=⟨p.1[i],by simp[hi]⟩
  have hdr:p.1.drop i=d::p.1.drop (i+1):=by
   rw[List.drop_eq_getElem_cons hi]
   have:p.1[i]=d:=by rw[List.getElem?_eq_getElem hi] at hd;exact Option.some.inj hd
   rw[this]
  rw[hdr,zDL] at h2
  obtain⟨E3,e3,h2⟩:=Out.bind_ok h2
  obtain⟨q,e4,h2⟩:=Out.bind_ok h2
  refine .inr ⟨w2 hi,λσ5 H5=>∃F5 E5,Sim X.K X.H₀ τ F5 H5 σ5 E5/\Stp (owA σ E) F H F5 H5 (owA σ5 E5)/\Le F1 F5/\zDL t g (p.1.drop (i+1)) E5=.ok r,λσ5 H5 ⟨F5,E5,a1,a2,a3,a4⟩=>⟨_,by omega,rfl,hi,F5,E5,a1,a2,a3,a4⟩,λx H' y=>?_⟩
  obtain⟨F3,n3,r3⟩:=w4 x H' d hd y
  refine⟨τ,F3,E2,d,E3,S2.new n3,r3,e3,λσ4 S4 h4 _=>⟨τ,F3,E3,q,S4,e4,?_⟩⟩
  have s4:Stp (owA σ E) F H F3 H' (owA σ4 E3):=(s2.trans n3.stp).weak h4
  have l3:Le F1 F3:=l2.trans n3.1.le
  cases q with
  |nx E5=>exact λσ5 F5 H5 s5 S5=>⟨F5,E5,S5,s4.trans s5,l3.trans s5.le,h2⟩
  |ct E5=>exact λσ5 F5 H5 s5 S5=>⟨F5,E5,S5,s4.trans s5,l3.trans s5.le,h2⟩
  |bk E5=>cases h2;exact λσ5 F5 H5 s5 S5=>k σ5 F5 H5 (s4.trans s5) S5
  |rt b d E5=>cases h2;exact λσ5 v F5 H5 s5 S5 q=>k σ5 v F5 H5 (s4.trans s5) S5 (q.pre s4)
 ·have hi:i=p.1.length:=by omega
  rw[List.drop_eq_nil_of_le (by omega),zDL] at h2
  cases h2
  exact .inl ⟨w3 hi,k σ2 F2 H2 s2 S2⟩
end
abbrev Mr:=List Sl->Out (Bool×D×D)
noncomputable def zQV(sl:Ev)(d:D):Ev:=match sl with
 |.own t _::r=>.own t d::r
 |sl=>sl
noncomputable def fin(sl:Ev)(E':Ev)(b:Bool)(d:D):Out (Bool×D×D):=match sl with
 |.own _ _::_=>match E' with
  |.own true d'::_=>.ok (b,d,d')
  |_=>.bad
 |_=>.ok (b,d,.non)
noncomputable def zF4(n:Nat)(gb:GS):Mr:=λsl=>(gb (sl++List.replicate (n-sl.length) .no)).bind λr=>match r with
 |.rt b d E'=>fin sl E' b d
 |.nx E'=>fin sl E' false .non
 |_=>.bad
def Shp(sl:Ev):Prop:=∀(i:Nat) t d,sl[i]?=some (.own t d)->i=0/\t=true
def yA4(K:PySem.W.Frag)(H F' H':Hp)(ow:Addr->Prop):Bool->V->D->Prop
 |false,v,d=>Rep K F' v d
 |true,v,d=>∃a,v=.ref a/\F' a=none/\OwnAt K F' H' a d/\H a=none/\¬ow a
def spV(K:PySem.W.Frag)(np:Nat)(m:Mr):Sp:=λvs H Q _=>vs.length=np/\∃τ F sl b d d',Sim K H τ F H (vs.map some) sl/\Shp sl/\m sl=.ok (b,d,d') /\
 ∀v F' H',Stp (owA (vs.map some) sl) F H F' H' (owA (vs.map some) (zQV sl d'))->Sim K H τ F' H' (vs.map some) (zQV sl d')->yA4 K H F' H' (owA (vs.map some) (zQV sl d')) b v d->Q v H'
theorem zWX{sl E':Ev}{b b':Bool}{d d0 d':D}(h:fin sl E' b d=.ok (b',d0,d')):b'=b/\d0=d/\∀t x r,sl=.own t x::r->∃r',E'=.own true d'::r':=by
 unfold fin at h
 split at h
 ·split at h
  ·cases h
   exact⟨rfl,rfl,λ_ _ _ _=>⟨_,rfl⟩⟩
  ·cases h
 ·rename_i hn
  cases h
  refine⟨rfl,rfl,λt x r e=>?_⟩
  exact absurd e (by intro z;exact hn t x r z)
section
variable{P:Program}{w:World}{K:PySem.W.Frag}{mg:Str->Option Value}{base:Heap}
theorem Fun.okC{x qual:Str}{st:Stmt}{f:Addr}{fd:FuncData}{N ps:List Str}{k:Nat}{sp:Sp}(F:Fun K x qual st f fd)(S:FnScope N ps (zAM st))(len:∀vs H Q E,sp vs H Q E->vs.length=ps.length)
  (hbody:∀(cdv:Value) (A:Around) (outer:List Env) (s:Shared) (H:Hp) (vs:List V) (Q:VK) (E:XK),cdv=fd.code->Room k (A.deeper (envOfC qual (zAM st) s.heap.objs.size f cdv))->sp vs H Q E ->
   ∃t,PSs (zR3 CX0 P w K mg base N qual (zAM st) f cdv A outer s H E).nox (zA0 st) t/\t { nx:=λ_ H'=>Q .non H',rt:=Q } (zDG N vs) H):FnOk P w K mg base CX0 (k+1) f fd ps sp:=by
 obtain⟨oc,od,kV,doc,pm,an,cdv,ct,osl,rfl,lk,hcd⟩:=F.ex
 refine zYQ lk hcd S len λA outer s H vs Q E hr hsp=>?_
 obtain⟨t,h,q⟩:=hbody cdv A outer s H vs Q E rfl hr hsp
 exact⟨t,h.nox,q⟩
theorem zY2{x qual:Str}{st:Stmt}{f:Addr}{fd:FuncData}{N ps:List Str}{k:Nat}{gb:GS}(Fn:Fun K x qual st f fd)(S:FnScope N ps (zAM st))
  (hbody:∀(cdv:Value) (A:Around) (outer:List Env) (s:Shared) (H:Hp) (E:XK),cdv=fd.code->Room k (A.deeper (envOfC qual (zAM st) s.heap.objs.size f cdv)) ->
   VSs (zR3 CX0 P w K mg base N qual (zAM st) f cdv A outer s H E).nox (zA0 st) gb):FnOk P w K mg base CX0 (k+1) f fd ps (spV K ps.length (zF4 N.length gb)):=by
 refine Fn.okC S (λvs H Q E h=>h.1) λcdv A outer s H vs Q E hcc hr h=>⟨_,hbody cdv A outer s H E hcc hr,?_⟩
 obtain⟨hl,τ,F,sl,b,d,d',Sm,sh,hm,k⟩:=h
 unfold zF4 at hm
 obtain⟨r,e1,hm⟩:=Out.bind_ok hm
 have lsl:sl.length=vs.length:=by rw[Sm.len,List.length_map]
 have own0:∀(i:Nat) t d,(sl++List.replicate (N.length-sl.length) Sl.no)[i]?=some (.own t d)->sl[i]?=some (.own t d):=λi t d q=>by
  by_cases hi:i<sl.length
  ·rw[List.getElem?_append_left hi] at q;exact q
  ·rw[List.getElem?_append_right (by omega),List.getElem?_replicate] at q
   split at q<;>cases q
 have val0:∀(i:Nat) d,(sl++List.replicate (N.length-sl.length) Sl.no)[i]?=some (.val d)->sl[i]?=some (.val d):=λi d q=>by
  by_cases hi:i<sl.length
  ·rw[List.getElem?_append_left hi] at q;exact q
  ·rw[List.getElem?_append_right (by omega),List.getElem?_replicate] at q
   split at q<;>cases q
 have st0:∀(i:Nat),i<sl.length->(zDG N vs)[i]?=(vs.map some)[i]?:=λi hi=>by
  unfold zDG
  rw[List.getElem?_append_left (by rw[List.length_map];omega)]
 have Sm0:Sim K H τ F H (zDG N vs) (sl++List.replicate (N.length-sl.length) .no):=by
  refine⟨Sm.sub,?_,λi d q=>?_,λi t d q=>?_,λi j t u d d2 a q1 q2 z1 z2=>?_⟩
  ·unfold zDG
   rw[List.length_append,List.length_append,List.length_replicate,List.length_replicate,List.length_map,lsl]
  ·have q:=val0 i d q
   rw[st0 i (List.getElem?_eq_some_iff.mp q).1];exact Sm.val i d q
  ·have q:=own0 i t d q
   rw[st0 i (List.getElem?_eq_some_iff.mp q).1];exact Sm.own i t d q
  ·have q1:=own0 i _ _ q1
   have q2:=own0 j _ _ q2
   rw[st0 i (List.getElem?_eq_some_iff.mp q1).1] at z1
   rw[st0 j (List.getElem?_eq_some_iff.mp q2).1] at z2
   exact Sm.inj i j t u d d2 a q1 q2 z1 z2
 have ow0:∀a,owA (zDG N vs) (sl++List.replicate (N.length-sl.length) .no) a↔owA (vs.map some) sl a:=λa=>by
  constructor
  ·rintro⟨i,t,d,q1,q2⟩
   have q:=own0 i t d q1
   rw[st0 i (List.getElem?_eq_some_iff.mp q).1] at q2
   exact⟨i,t,d,q,q2⟩
  ·rintro⟨i,t,d,q1,q2⟩
   have hi:=(List.getElem?_eq_some_iff.mp q1).1
   exact⟨i,t,d,by rw[List.getElem?_append_left hi];exact q1,by rw[st0 i hi];exact q2⟩
 -- the end,from what the body ends with
 have theEnd:∀{E':Ev} {b0:Bool} {d0:D},fin sl E' b0 d0=.ok (b,d,d')->∀σ' v F' H',Stp (owA (zDG N vs) (sl++List.replicate (N.length-sl.length) .no)) F H F' H' (owA σ' E')->Sim K H τ F' H' σ' E' ->
   RetR K (owA (zDG N vs) (sl++List.replicate (N.length-sl.length) .no)) H F' H' σ' E' b0 v d0->Q v H':=by
  intro E' b0 d0 hf σ' v F' H' s1 S1 rr
  obtain⟨rfl,rfl,h3⟩:=zWX hf
  have p0:∀(i:Nat) t x,(zQV sl d')[i]?=some (.own t x)->i=0/\t=true/\x=d'/\∃x0 r,sl=.own true x0::r:=λi t x q=>by
   cases sl with
   |nil=>simp[zQV] at q
   |cons y r =>
    have other:(∀t0 x0,y≠.own t0 x0)->(y::r)[i]?=some (.own t x)->False:=λhn q=>by
     obtain⟨h0,ht⟩:=sh i t x q
     subst h0
     simp at q
     exact hn _ _ q
    cases y with
    |no=>exact(other (λ_ _ z=>Sl.noConfusion z) q).elim
    |val _=>exact(other (λ_ _ z=>Sl.noConfusion z) q).elim
    |own t0 x0 =>
     cases i with
     |zero =>
      obtain⟨_,ht⟩:=sh 0 t0 x0 rfl
      subst ht
      have q:some (Sl.own true d')=some (.own t x):=q
      cases q
      exact⟨rfl,rfl,rfl,x0,r,rfl⟩
     |succ i =>
      have:=(sh (i+1) t x q).1
      omega
  have pv:∀(i:Nat) x,(zQV sl d')[i]?=some (.val x)->sl[i]?=some (.val x):=λi x q=>by
   unfold zQV at q
   split at q
   ·cases i with
    |zero=>simp at q
    |succ i=>simpa using q
   ·exact q
  have own1:∀x0 r,sl=.own true x0::r->∃a,(vs.map some)[0]?=some (some (.ref a))/\τ=a/\σ'[0]?=some (some (.ref a))/\F' a=none/\OwnAt K F' H' a d'/\(∀o u,H a≠some (.frz o u))/\E'[0]?=some (.own true d'):=λx0 r e=>by
   obtain⟨r',e'⟩:=h3 true x0 r e
   have q0:E'[0]?=some (.own true d'):=by rw[e'];rfl
   obtain⟨a,a1,a2,a3,a4,a5⟩:=S1.own 0 true d' q0
   obtain⟨c,c1,c2,c3,c4,c5⟩:=Sm.own 0 true x0 (by rw[e];rfl)
   have:a=c:=by rw[<-a5 rfl,<-c5 rfl]
   subst this
   exact⟨a,c1,c5 rfl,a1,a2,a3,a4,q0⟩
  refine k v F' H' ⟨λa o e hw n ho=>s1.keep a o e hw n λz=>ho ((ow0 a).mp z),s1.dom,s1.le,λa o e=>(s1.new a o e).imp_right λz=>z.imp_right (ow0 a).mp,λa ⟨i,t,x,q1,q2⟩=>?_⟩
   ⟨S1.sub,?_,λi x q=>?_,λi t x q=>?_,λi j t u x y a q1 q2 _ _=>by rw[(p0 i t x q1).1,(p0 j u y q2).1]⟩ ?_
  ·obtain⟨rfl,rfl,rfl,x0,r,e⟩:=p0 i t x q1
   exact .inl ⟨0,true,x0,by rw[e];rfl,q2⟩
  ·have:(zQV sl d').length=sl.length:=by
    unfold zQV
    split<;>rfl
   rw[this];exact Sm.len
  ·obtain⟨v,h1,h2⟩:=Sm.val i x (pv i x q)
   exact⟨v,h1,h2.le s1.le⟩
  ·obtain⟨rfl,rfl,rfl,x0,r,e⟩:=p0 i t x q
   obtain⟨a,a1,a2,a3,a4,a5,a6,_⟩:=own1 x0 r e
   exact⟨a,a1,a4,a5,a6,λ_=>a2⟩
  ·cases b with
   |false=>exact rr
   |true =>
    obtain⟨a,r1,r2,r3,r4,r5⟩:=rr
    have no:¬owA (vs.map some) sl a:=by
     rintro⟨i,t,x,q1,q2⟩
     obtain⟨rfl,rfl⟩:=sh i t x q1
     cases sl with
     |nil=>simp at q1
     |cons y r =>
      simp at q1
      subst q1
      obtain⟨c,c1,c2,c3,c4,c5,c6,c7⟩:=own1 x r rfl
      rw[q2] at c1;cases c1
      exact r5 0 d' c7 c3
    refine⟨a,r1,r2,r3,r4.elim (λz=>absurd ((ow0 a).mp z) no) id,?_⟩
    rintro⟨i,t,x,q1,q2⟩
    obtain⟨rfl,rfl,rfl,x0,r,e⟩:=p0 i t x q1
    exact no ⟨0,true,x0,by rw[e];rfl,q2⟩
 refine⟨τ,F,_,r,Sm0,e1,?_⟩
 cases r with
 |rt b0 d0 E'=>exact theEnd hm
 |nx E'=>exact λσ' F' H' s1 S1=>theEnd hm σ' .non F' H' s1 S1 .non
 |bk E'=>cases hm
 |ct E'=>cases hm
theorem zI6{x qual:Str}{st:Stmt}{f:Addr}{fd:FuncData}{N ps:List Str}{k:Nat}{gb:GS}(Fn:Fun K x qual st f fd)(S:FnScope N ps (zAM st))
  (hbody:∀(cdv:Value) (A:Around) (outer:List Env) (s:Shared) (H:Hp) (E:XK),Room k (A.deeper (envOfC qual (zAM st) s.heap.objs.size f cdv)) ->
   VSs (zR3 CX0 P w K mg base N qual (zAM st) f cdv A outer s H E).nox (zA0 st) gb):FnOk P w K mg base CX0 (k+1) f fd ps (spV K ps.length (zF4 N.length gb)) :=
 zY2 Fn S λcdv A outer s H E _ hr=>hbody cdv A outer s H E hr
end
section
variable{X:Cx}{K:PySem.W.Frag}{H₀ F H F1 H1 F2 H2:Hp}{τ:Addr}{pos p:Pos}{e:Expr}{es:List Expr}{ge:G}{gs:List G}{x:Str}{k np:Nat}{m:Mr}
def Cal(P:Program)(w:World)(K:PySem.W.Frag)(mg:Str->Option Value)(base:Heap)(x:Str)(k np:Nat)(m:Mr):Prop :=
 ∃(f:Addr) (fd:FuncData) (ps:List Str),FnOk P w K mg base CX0 k f fd ps (spV K np m)/\mg x=some (.ref f)/\PySem.W.keepIn K (.ref f)=true/\Binds K fd ps []
theorem zWY{σ:St}{ds:List D}(a:Addr):¬owA σ (ds.map Sl.val) a:=λ⟨i,t,d,e,_⟩=>by
 rw[List.getElem?_map] at e
 cases q:ds[i]? with
 |none=>rw[q] at e;cases e
 |some d'=>rw[q] at e;cases e
theorem Sim.args{vs:List V}{ds:List D}(s:Sub F H)(r:Reps K F vs ds):Sim K H₀ τ F H (vs.map some) (ds.map Sl.val):=by
 have no:∀(i:Nat) t d,(ds.map Sl.val)[i]?≠some (.own t d):=λi t d e=>by
  rw[List.getElem?_map] at e
  cases q:ds[i]? with
  |none=>rw[q] at e;cases e
  |some d'=>rw[q] at e;cases e
 refine⟨s,by rw[List.length_map,List.length_map,r.length],λi d e=>?_,λi t d e=>absurd e (no i t d),λi j t u d d' a e=>absurd e (no i t d)⟩
 rw[List.getElem?_map] at e
 cases q:ds[i]? with
 |none=>rw[q] at e;cases e
 |some d' =>
  rw[q] at e;cases e
  obtain⟨v,h1,h2⟩:=r.get q
  exact⟨v,by rw[List.getElem?_map,h1];rfl,h2⟩
theorem zHK(ds:List D):Shp (ds.map Sl.val):=λi t d e=>by
 rw[List.getElem?_map] at e
 cases q:ds[i]? with
 |none=>rw[q] at e;cases e
 |some d'=>rw[q] at e;cases e
theorem New.share{a:Addr}{o:HO}(n:New F1 H1 F2 H2)(h:H1 a=none)(ho:H2 a=some o)(hf:F2 a=none):New F1 H1 (upd F2 a o) H2:=by
 refine⟨⟨n.1.keep,n.1.dom,n.1.le.trans (.of_gr (Gr.new hf)),λb u e=>?_,λ_ z=>z.elim⟩,λb u e=>?_⟩
 ·by_cases hb:b=a
  ·subst hb;exact .inr (.inl (.none h))
  ·rw[zAL hb] at e;exact n.1.new b u e
 ·by_cases hb:b=a
  ·subst hb;rw[zAN] at e;rw[ho];exact e
  ·rw[zAL hb] at e;exact n.2 b u e
noncomputable def zBV(m:Mr)(gs:List G):G:=λE=>(zCM gs E).bind λp=>(m (p.1.map Sl.val)).bind λq=>.ok (q.2.1,p.2)
noncomputable def zGP(m:Mr)(gs:List G):G:=λE=>(zCM gs E).bind λp=>(m (p.1.map Sl.val)).bind λq=>if q.1=true then .ok (q.2.1,p.2) else .bad
theorem zEL:∀{gs:List G} {E:Ev} {q:List D×Ev},zCM gs E=.ok q->q.1.length=gs.length
 |[],_,_,h=>by rw[zCM] at h;cases h;rfl
 |g::gs,E,q,h=>by
  rw[zCM] at h
  obtain⟨p,_,h⟩:=Out.bind_ok h
  obtain⟨r,e2,h⟩:=Out.bind_ok h
  cases h
  rw[List.length_cons,List.length_cons,zEL e2]
theorem zTU(hn:gs.length=np){σ:St}{Q:VK}(h:tV K H₀ (zBV m gs) σ H Q):zP4 (spV K np m) [] E0 (tAr K H₀ gs) σ H Q:=by
 obtain⟨τ,F,E,d,E',S,hg,k⟩:=h
 obtain⟨p,e1,hg⟩:=Out.bind_ok hg
 obtain⟨q,e2,hg⟩:=Out.bind_ok hg
 cases hg
 refine⟨τ,F,E,p.1,p.2,S,e1,λvs F1 H1 s1 S1 r1=>?_⟩
 dsimp only
 rw[List.append_nil]
 refine⟨by rw[r1.length,zEL e1,hn],0,F1,_,q.1,q.2.1,q.2.2,Sim.args S1.sub r1,zHK _,e2,λv F2 H2 s2 S2 rr=>?_⟩
 have n:New F1 H1 F2 H2:=⟨(s2.toF λa=>zWY a).weak λ_ z=>z.elim,S2.sub⟩
 cases hb:q.1 with
 |false =>
  rw[hb] at rr
  exact k v F2 H2 (s1.trans n.stp) (S1.new n) rr
 |true =>
  rw[hb] at rr
  obtain⟨a,rfl,h1,h2,h3,h4⟩:=rr
  obtain⟨o,ho,_⟩:=h2.ho
  have n':=n.share h3 ho h1
  exact k _ _ H2 (s1.trans n'.stp) (S1.new n') (h2.rep h1 ho)
theorem zQW(hn:gs.length=np){σ:St}{Q:VK}(h:tF K H₀ (zGP m gs) σ H Q):zP4 (spV K np m) [] E0 (tAr K H₀ gs) σ H Q:=by
 obtain⟨τ,F,E,d,E',S,hg,k⟩:=h
 obtain⟨p,e1,hg⟩:=Out.bind_ok hg
 obtain⟨q,e2,hg⟩:=Out.bind_ok hg
 split at hg
 ·rename_i hb
  cases hg
  refine⟨τ,F,E,p.1,p.2,S,e1,λvs F1 H1 s1 S1 r1=>?_⟩
  dsimp only
  rw[List.append_nil]
  refine⟨by rw[r1.length,zEL e1,hn],0,F1,_,q.1,q.2.1,q.2.2,Sim.args S1.sub r1,zHK _,e2,λv F2 H2 s2 S2 rr=>?_⟩
  have n:New F1 H1 F2 H2:=⟨(s2.toF λa=>zWY a).weak λ_ z=>z.elim,S2.sub⟩
  rw[hb] at rr
  obtain⟨a,rfl,h1,h2,h3,h4⟩:=rr
  exact k a F2 H2 (s1.trans n.stp) (S1.new n) h1 (s1.dom a h3) h2 (S1.fresh h3)
 ·cases hg
theorem zC7(C:Cal X.prog X.w X.K X.mg X.base x k np m)(hr:Room k X.A)(ha:VA X (e::es) gs)(hn:gs.length=np:=by rfl)(hg:Gl X x:=by rfl)(hdb:(x==("__debug__":Str))=false:=by decide)
  (he:starEach (e::es) X.env=(false,eval e X.env)::starEach es X.env:=by rfl) (hpl:(backTo pos (starEach es X.env)).any (·.1)=false:=by rfl):VE X (.Call (.Name x p) (e::es) [] pos) (zBV m gs):=by
 obtain⟨f,fd,ps,Fn,hm,hk,hb⟩:=C
 exact(zJX Fn hr hg hm hk hb .nil zTC ha hdb he hpl).imp λ_ _ _ h=>zTU hn h
theorem zWZ(C:Cal X.prog X.w X.K X.mg X.base x k np m)(hr:Room k X.A)(ha:VA X (e::es) gs)(hn:gs.length=np:=by rfl)(hg:Gl X x:=by rfl)(hdb:(x==("__debug__":Str))=false:=by decide)
  (he:starEach (e::es) X.env=(false,eval e X.env)::starEach es X.env:=by rfl) (hpl:(backTo pos (starEach es X.env)).any (·.1)=false:=by rfl):FE X (.Call (.Name x p) (e::es) [] pos) (zGP m gs):=by
 obtain⟨f,fd,ps,Fn,hm,hk,hb⟩:=C
 exact(zJX Fn hr hg hm hk hb .nil zTC ha hdb he hpl).imp λ_ _ _ h=>zQW hn h
noncomputable def zAI(m:Mr)(i:Nat)(gs:List G):G:=λE=>match E[i]? with
 |some (.own _ _)=>(zCM gs E).bind λp=>match p.2[i]? with
  |some (.own t d)=>(m (.own true d::p.1.map Sl.val)).bind λq=>.ok (q.2.1,p.2.set i (.own t q.2.2))
  |_=>.bad
 |_=>.bad
theorem Sim.argsR{vs:List V}{ds:List D}{a:Addr}{d:D}(s:Sub F H)(r:Reps K F vs ds)(h1:F a=none)(h2:OwnAt K F H a d):Sim K H a F H ((V.ref a::vs).map some) (.own true d::ds.map Sl.val):=by
 have S:=Sim.args (K:=K) (H₀:=H) (τ:=a) s r
 have no:∀(i:Nat) t d',(Sl.own true d::ds.map Sl.val)[i]?=some (.own t d')->i=0/\t=true/\d'=d:=λi t d' e=>by
  cases i with
  |zero=>cases e;exact⟨rfl,rfl,rfl⟩
  |succ i =>
   have e:(ds.map Sl.val)[i]?=some (.own t d'):=by simpa using e
   rw[List.getElem?_map] at e
   cases q:ds[i]? with
   |none=>rw[q] at e;cases e
   |some d'=>rw[q] at e;cases e
 refine⟨s,by rw[List.length_map,List.length_cons,List.length_cons,List.length_map,r.length],λi d' e=>?_,λi t d' e=>?_,λi j t u d1 d2 b e1 e2 _ _=>by rw[(no i _ _ e1).1,(no j _ _ e2).1]⟩
 ·cases i with
  |zero=>cases e
  |succ i=>simpa using S.val i d' (by simpa using e)
 ·obtain⟨rfl,rfl,rfl⟩:=no i t d' e
  obtain⟨o,ho,hw⟩:=h2.ho
  exact⟨a,rfl,h1,h2,λob u z=>by rw[ho] at z;cases z;exact hw,λ_=>rfl⟩
theorem zZ9{ds:List D}{d:D}:Shp (.own true d::ds.map Sl.val):=λi t d' e=>by
 cases i with
 |zero=>cases e;exact⟨rfl,rfl⟩
 |succ i =>
  have e:(ds.map Sl.val)[i]?=some (.own t d'):=by simpa using e
  exact absurd (zHK ds i t d' e) (by
   rw[List.getElem?_map] at e
   cases q:ds[i]? with
   |none=>rw[q] at e;cases e
   |some d'=>rw[q] at e;cases e)
theorem owR{vs:List V}{ds:List D}{a b:Addr}{d:D}(h:owA ((V.ref a::vs).map some) (.own true d::ds.map Sl.val) b):b=a:=by
 obtain⟨i,t,d',e1,e2⟩:=h
 obtain⟨rfl,_⟩:=zZ9 i t d' e1
 cases e2
 rfl
theorem zQX {i : Nat} (hn : gs.length + 1 = np) {σ : St} {Q : VK} (h : tV K H₀ (zAI m i gs) σ H Q) : zP4 (spV K np m) [] E0 (zS4 (zX9 i) (tAr K H₀ gs)) σ H Q := by
  obtain ⟨τ, F, E, d, E', S, hg, k⟩ := h
  unfold zAI at hg
  split at hg
  · rename_i t0 d0 e0
    obtain ⟨p, e1, hg⟩ := Out.bind_ok hg
    split at hg
    · rename_i t d1 e3
      obtain ⟨q, e2, hg⟩ := Out.bind_ok hg
      cases hg
      obtain ⟨a, a1, _⟩ := S.own i _ _ e0
      refine ⟨_, a1, τ, F, E, p.1, p.2, S, e1, fun vs F1 H1 s1 S1 r1 => ?_⟩
      dsimp only
      rw [List.append_nil]
      obtain ⟨a', b1, b2, b3, b4, b5⟩ := S1.own i _ _ e3
      rw [a1] at b1; cases b1
      refine ⟨by rw [List.length_cons, r1.length, zEL e1, hn], a, F1, _, q.1, q.2.1, q.2.2, Sim.argsR S1.sub r1 b2 b3, zZ9, e2, fun v F2 H2 s2 S2 rr => ?_⟩
      have s2 : Stp (owA ((V.ref a :: vs).map some) (.own true d1 :: p.1.map Sl.val)) F1 H1 F2 H2 (owA ((V.ref a :: vs).map some) (.own true q.2.2 :: p.1.map Sl.val)) := s2
      have S2 : Sim K H1 a F2 H2 ((V.ref a :: vs).map some) (.own true q.2.2 :: p.1.map Sl.val) := S2
      have hi : i < p.2.length := (List.getElem?_eq_some_iff.mp e3).1
      have old : ∀ (j : Nat) t' d', (p.2.set i (.own t q.2.2))[j]? = some (.own t' d') → (j = i ∧ t' = t ∧ d' = q.2.2) ∨ (j ≠ i ∧ p.2[j]? = some (.own t' d')) := fun j t' d' z => by
        by_cases hj : i = j
        · subst hj; rw [List.getElem?_set_self hi] at z; cases z; exact .inl ⟨rfl, rfl, rfl⟩
        · rw [List.getElem?_set_ne hj] at z; exact .inr ⟨Ne.symm hj, z⟩
      have oin : ∀ b, owA σ (p.2.set i (.own t q.2.2)) b → owA σ p.2 b := fun b ⟨j, t', d', z1, z2⟩ => by
        rcases old j t' d' z1 with ⟨rfl, _, _⟩ | ⟨_, z1⟩
        · exact ⟨_, _, _, e3, z2⟩
        · exact ⟨j, t', d', z1, z2⟩
      have ina : owA σ p.2 a := ⟨i, t, d1, e3, a1⟩
      have st3 : Stp (owA σ p.2) F1 H1 F2 H2 (owA σ (p.2.set i (.own t q.2.2))) := ⟨fun b o z hw n ho => s2.keep b o z hw n fun y => ho (by rw [owR y]; exact ina), s2.dom, s2.le, fun b o z => (s2.new b o z).imp_right fun y => y.imp_right fun y => by rw [owR y]; exact ina, fun b z => .inl (oin b z)⟩
      have Sm : Sim K H₀ τ F2 H2 σ (p.2.set i (.own t q.2.2)) := by
        refine ⟨S2.sub, by rw [List.length_set]; exact S1.len, fun j d' z => ?_, fun j t' d' z => ?_, fun j l t1 t2 x y b z1 z2 y1 y2 => ?_⟩
        · by_cases hj : i = j
          · subst hj; rw [List.getElem?_set_self hi] at z; cases z
          · rw [List.getElem?_set_ne hj] at z
            obtain ⟨v, h1, h2⟩ := S1.val j d' z
            exact ⟨v, h1, h2.le s2.le⟩
        · rcases old j t' d' z with ⟨rfl, rfl, rfl⟩ | ⟨hj, z⟩
          · obtain ⟨c, c1, c2, c3, _⟩ := S2.own 0 true q.2.2 rfl
            cases c1
            exact ⟨a, a1, c2, c3, b4, b5⟩
          · obtain ⟨c, c1, c2, c3, c4⟩ := S1.own j t' d' z
            obtain ⟨o, ho, hw⟩ := c3.ho
            have hca : c ≠ a := fun y => hj (S1.inj j i t' t d' d1 a z e3 (by rw [c1, y]) a1)
            refine ⟨c, c1, ?_, c3.mono s2.le ((s2.keep c o ho hw c2 fun y => hca (owR y)).trans ho.symm), c4⟩
            cases y : F2 c with
            | none => rfl
            | some u => rcases s2.new c u y with y | y | y
                        · exact absurd c2 y
                        · exact absurd hw (y o ho)
                        · exact absurd (owR y) hca
        · have f : ∀ (j : Nat) t' d', (p.2.set i (.own t q.2.2))[j]? = some (.own t' d') → ∃ t'' d'', p.2[j]? = some (.own t'' d'') := fun j t' d' z => by
            rcases old j t' d' z with ⟨rfl, _, _⟩ | ⟨_, z⟩
            · exact ⟨_, _, e3⟩
            · exact ⟨_, _, z⟩
          obtain ⟨_, _, w1⟩ := f j _ _ z1
          obtain ⟨_, _, w2⟩ := f l _ _ z2
          exact S1.inj j l _ _ _ _ b w1 w2 y1 y2
      cases hb : q.1 with
      | false =>
        rw [hb] at rr
        exact k v F2 H2 (s1.trans st3) Sm rr
      | true =>
        rw [hb] at rr
        obtain ⟨c, rfl, h1, h2, h3, h4⟩ := rr
        obtain ⟨o, ho, _⟩ := h2.ho
        have nc : ∀ b, owA σ (p.2.set i (.own t q.2.2)) b → b ≠ c := fun b z y => by
          subst y
          exact S1.fresh h3 (oin b z)
        refine k _ (upd F2 c o) H2 (s1.trans ⟨st3.keep, st3.dom, st3.le.trans (.of_gr (Gr.new h1)), fun b u z => ?_, st3.own⟩) ⟨fun b u z => ?_, Sm.len, fun j d' z => ?_, fun j t' d' z => ?_, Sm.inj⟩ (h2.rep h1 ho)
        · by_cases hb : b = c
          · subst hb; exact .inr (.inl (.none h3))
          · rw [zAL hb] at z; exact st3.new b u z
        · by_cases hb : b = c
          · subst hb; rw [zAN] at z; rw [ho]; exact z
          · rw [zAL hb] at z; exact Sm.sub b u z
        · obtain ⟨v, y1, y2⟩ := Sm.val j d' z
          exact ⟨v, y1, y2.le (.of_gr (Gr.new h1))⟩
        · obtain ⟨b, y1, y2, y3, y4⟩ := Sm.own j t' d' z
          exact ⟨b, y1, by rw [zAL (nc b ⟨j, t', d', z, y1⟩)]; exact y2, y3.mono (.of_gr (Gr.new h1)) rfl, y4⟩
    · cases hg
  · cases hg
theorem zAR{xn:Str}{q:Pos}(i:Nat)(C:Cal X.prog X.w X.K X.mg X.base x k np m)(hr:Room k X.A)(ha:VA X es gs)(hn:gs.length+1=np:=by rfl)(hg:Gl X x:=by rfl)(hdb:(x==("__debug__":Str))=false:=by decide)
  (he:starEach (.Name xn q::es) X.env=(false,eval (.Name xn q) X.env)::starEach es X.env:=by rfl) (hpl:(backTo pos (starEach es X.env)).any (·.1)=false:=by rfl)
  (hN:X.N[i]?=some xn:=by rfl) (hv:Vis X.env.scope xn:=by first|exact Or.inl rfl|exact Or.inr (Or.inl rfl)|exact Or.inr (Or.inr rfl)) (hd:(xn==("__debug__":Str))=false:=by decide)
  (hcd:(xn==("__classdict__":Str))=false:=by decide):VE X (.Call (.Name x p) (.Name xn q::es) [] pos) (zAI m i gs):=by
 obtain⟨f,fd,ps,Fn,hm,hk,hb⟩:=C
 exact(zJX Fn hr hg hm hk hb .nil zTC (zCS (zGE hN hv hd hcd) ha he) hdb he hpl).imp λ_ _ _ h=>zQX hn h
end
theorem PTs.imp{X:Cx}{es:List Expr}{t t':TT}(h:PTs X es t)(hi:∀σ H Q,t' σ H Q->t σ H Q):PTs X es t':=λpins s σ H Q I q=>h pins s σ H Q I (hi σ H Q q)
abbrev VTs(X:Cx)(es:List Expr)(g:Ev->Out (Bool×Ev)):Prop:=PTs X es (tT X.K X.H₀ g)
noncomputable def zI7:Ev->Out (Bool×Ev):=λE=>.ok (true,E)
theorem zFL{X:Cx}:VTs X [] zI7:=pts_nil.imp λσ H Q h=>by
 obtain⟨τ,F,E,d,E',S,hg,k⟩:=h
 cases hg
 exact k F H .refl S
theorem zTV{X:Cx}{c:Expr}{t:Ev->Out (Bool×Ev)}(h:VT X c t):VTs X [c] t:=zTF h
theorem zOH{l:List Nat}(h:l.Nodup){i j x:Nat}(hi:l[i]?=some x)(hj:l[j]?=some x):i=j:=by
 obtain⟨a1,a2⟩:=List.getElem?_eq_some_iff.mp hi
 obtain⟨b1,b2⟩:=List.getElem?_eq_some_iff.mp hj
 have p:=List.pairwise_iff_getElem.mp h
 rcases Nat.lt_trichotomy i j with z|z|z
 ·exact absurd (a2.trans b2.symm) (p i j a1 b1 z)
 ·exact z
 ·exact absurd (b2.trans a2.symm) (p j i b1 a1 z)
noncomputable def zLC(k:Nat)(js:List Nat)(E:Ev):Ev:=List.replicate k .no++js.map λj=>(E[j]?).getD .no
noncomputable def zKB(j:Nat):List Nat->Nat->Option Nat
 |[],_=>none
 |x::xs,n=>if x=j then some n else zKB j xs (n+1)
theorem zGQ{j:Nat}:∀{js:List Nat} {n0 n:Nat},zKB j js n0=some n->∃m,n=n0+m/\js[m]?=some j
 |[],_,_,h=>by cases h
 |x::xs,n0,n,h=>by
  rw[zKB] at h
  split at h
  ·rename_i hx;cases h;exact⟨0,rfl,by simp[hx]⟩
  ·obtain⟨m,h1,h2⟩:=zGQ h;exact⟨m+1,by lia,by simpa using h2⟩
theorem zGR{j:Nat}:∀{js:List Nat} {n0:Nat},zKB j js n0=none->j∉js
 |[],_,_=>by simp
 |x::xs,n0,h=>by
  rw[zKB] at h
  split at h
  ·cases h
  ·rename_i hx
   have:=zGR h
   simp only[List.mem_cons,not_or]
   exact⟨λz=>hx z.symm,this⟩
noncomputable def zSC(Ec:Ev)(k:Nat)(js:List Nat)(j:Nat):Sl->Sl
 |.own t d=>match zKB j js 0 with
  |some n=>(Ec[k+n]?).getD .no
  |none=>.own t d
 |s=>s
noncomputable def zOI(Ec:Ev)(k:Nat)(js:List Nat):Nat->Ev->Ev
 |_,[]=>[]
 |j,s::E=>zSC Ec k js j s::zOI Ec k js (j+1) E
noncomputable abbrev bck(E Ec:Ev)(k:Nat)(js:List Nat):Ev:=zOI Ec k js 0 E
theorem zLD(Ec:Ev)(k:Nat)(js:List Nat):∀(E:Ev) (j0 j:Nat),(zOI Ec k js j0 E)[j]?=(E[j]?).map (zSC Ec k js (j0+j))
 |[],_,_=>by simp[zOI]
 |s::E,j0,0=>by simp[zOI]
 |s::E,j0,j+1=>by
  show(zOI Ec k js (j0+1) E)[j]?=_
  rw[zLD Ec k js E (j0+1) j,List.getElem?_cons_succ,show j0+1+j=j0+(j+1) by lia]
theorem zLE(Ec:Ev)(k:Nat)(js:List Nat):∀(E:Ev) (j0:Nat),(zOI Ec k js j0 E).length=E.length
 |[],_=>rfl
 |s::E,j0=>by rw[zOI,List.length_cons,List.length_cons,zLE Ec k js E (j0+1)]
theorem zHL{E Ec:Ev}{k:Nat}{js:List Nat}{j:Nat}{s:Sl}(h:(bck E Ec k js)[j]?=some s):(E[j]?=some s/\((∃t d,s=.own t d)->j∉js))\/∃t d n,E[j]?=some (.own t d)/\js[n]?=some j/\s=(Ec[k+n]?).getD .no:=by
 rw[zLD,Nat.zero_add] at h
 cases q:E[j]? with
 |none=>rw[q] at h;cases h
 |some s0 =>
  rw[q] at h
  have h:zSC Ec k js j s0=s:=Option.some.inj h
  cases s0 with
  |no=>cases h;exact .inl ⟨rfl,λ⟨_,_,z⟩=>by cases z⟩
  |val d=>cases h;exact .inl ⟨rfl,λ⟨_,_,z⟩=>by cases z⟩
  |own t d =>
   cases f:zKB j js 0 with
   |none =>
    have:zSC Ec k js j (.own t d)=.own t d:=by unfold zSC;rw[f]
    rw[this] at h
    exact .inl ⟨by rw[h],λ_=>zGR f⟩
   |some n =>
    obtain⟨m,h1,h2⟩:=zGQ f
    have:zSC Ec k js j (.own t d)=(Ec[k+n]?).getD .no:=by unfold zSC;rw[f]
    rw[this] at h
    exact .inr ⟨t,d,m,rfl,h2,by rw[<-h];congr 2;lia⟩
theorem zFM{k:Nat}{js:List Nat}{E:Ev}{i:Nat}{s:Sl}(h:(zLC k js E)[i]?=some s)(hs:s≠.no):∃n j,i=k+n/\js[n]?=some j/\E[j]?=some s:=by
 unfold zLC at h
 by_cases hi:i<k
 ·rw[List.getElem?_append_left (by rw[List.length_replicate];exact hi),List.getElem?_replicate,if_pos hi] at h
  exact absurd (Option.some.inj h).symm hs
 ·rw[List.getElem?_append_right (by rw[List.length_replicate];lia),List.length_replicate,List.getElem?_map] at h
  cases q:js[i-k]? with
  |none=>rw[q] at h;cases h
  |some j =>
   rw[q] at h
   have h:(E[j]?).getD .no=s:=Option.some.inj h
   refine⟨i-k,j,by lia,q,?_⟩
   cases z:E[j]? with
   |none=>rw[z] at h;exact absurd h.symm hs
   |some s'=>rw[z] at h;rw[<-h];rfl
theorem zC8{k:Nat}{js:List Nat}{σ:St}{n j:Nat}(h:js[n]?=some j):(zDQ k js σ)[k+n]?=some ((σ[j]?).getD none):=by
 unfold zDQ
 rw[List.getElem?_append_right (by rw[List.length_replicate];lia),List.length_replicate,List.getElem?_map,show k+n-k=n by lia,h]
 rfl
section
variable{K:PySem.W.Frag}{H₀ F H F1 H1 F2 H2:Hp}{τ:Addr}{σ σ2:St}{E E1 E2:Ev}{k:Nat}{js:List Nat}{acc:Addr}{o:HO}
theorem Sim.off(S:Sim K H₀ τ F H σ E)(hf:F acc=none)(no:¬owA σ E acc):Sim K H₀ τ F (upd H acc o) σ E:=by
 refine⟨λa u e=>?_,S.len,S.val,λi t d e=>?_,S.inj⟩
 ·have:a≠acc:=λz=>by rw[z,hf] at e;cases e
  rw[zAL this];exact S.sub a u e
 ·obtain⟨a,h1,h2,h3,h4⟩:=S.own i t d e
  have:a≠acc:=λz=>no ⟨i,t,d,e,by rw[<-z];exact h1⟩
  exact⟨a,h1,h2,h3.mono (.refl _) (zAL this),h4⟩
theorem Sim.notF(S:Sub F H)(h:H acc=none):F acc=none:=by
 cases e:F acc with
 |none=>rfl
 |some u=>rw[S acc u e] at h;cases h
theorem zOJ{a:Addr}(h:owA (zDQ k js σ) (zLC k js E) a):∃(n j:Nat) (t:Bool) (d:D),js[n]?=some j/\E[j]?=some (.own t d)/\σ[j]?=some (some (.ref a)):=by
 obtain⟨i,t,d,e1,e2⟩:=h
 obtain⟨n,j,rfl,h1,h2⟩:=zFM e1 (by intro z;cases z)
 rw[zC8 h1] at e2
 refine⟨n,j,t,d,h1,h2,?_⟩
 cases q:σ[j]? with
 |none=>rw[q] at e2;cases e2
 |some z=>rw[q] at e2;cases e2;rfl
theorem Sim.enter(S:Sim K H₀ τ F H σ E)(k:Nat)(hj:js.Nodup)(ha:H acc=none):Sim K (upd H acc o) τ F (upd H acc o) (zDQ k js σ) (zLC k js E):=by
 have hf:=Sim.notF S.sub ha
 refine⟨λa u e=>?_,by unfold zLC zDQ;simp,λi d e=>?_,λi t d e=>?_,λi j t u d d' a e1 e2 z1 z2=>?_⟩
 ·have:a≠acc:=λz=>by rw[z,hf] at e;cases e
  rw[zAL this];exact S.sub a u e
 ·obtain⟨n,j,rfl,h1,h2⟩:=zFM e (by intro z;cases z)
  obtain⟨v,h3,h4⟩:=S.val j d h2
  exact⟨v,by rw[zC8 h1,h3];rfl,h4⟩
 ·obtain⟨n,j,rfl,h1,h2⟩:=zFM e (by intro z;cases z)
  obtain⟨a,h3,h4,h5,h6,h7⟩:=S.own j t d h2
  obtain⟨ob,ho,hw⟩:=h5.ho
  have:a≠acc:=λz=>by rw[z,ha] at ho;cases ho
  exact⟨a,by rw[zC8 h1,h3];rfl,h4,h5.mono (.refl _) (zAL this),λw u z=>by rw[zAL this,ho] at z;cases z;exact hw,h7⟩
 ·obtain⟨n,l,rfl,h1,h2⟩:=zFM e1 (by intro z;cases z)
  obtain⟨n',l',rfl,h1',h2'⟩:=zFM e2 (by intro z;cases z)
  rw[zC8 h1] at z1
  rw[zC8 h1'] at z2
  have w1:σ[l]?=some (some (.ref a)):=by
   cases q:σ[l]? with
   |none=>rw[q] at z1;cases z1
   |some z=>rw[q] at z1;cases z1;rfl
  have w2:σ[l']?=some (some (.ref a)):=by
   cases q:σ[l']? with
   |none=>rw[q] at z2;cases z2
   |some z=>rw[q] at z2;cases z2;rfl
  have:=S.inj l l' t u d d' a h2 h2' w1 w2
  subst this
  rw[zOH hj h1 h1']
theorem Sim.leave (S : Sim K H₀ τ F1 H1 σ E1) (ha : H1 acc = none) (s : Stp (fun a => owA (zDQ k js σ) (zLC k js E1) a ∨ a = acc) F1 (upd H1 acc o) F2 H2 (owA σ2 E2))
    (S2 : Sim K (upd H1 acc o) τ F2 H2 σ2 E2) (hs : ∀ j : Nat, k ≤ j → σ2[j]? = (zDQ k js σ)[j]?) :
    Sim K H₀ τ F2 H2 σ (bck E1 E2 k js) ∧ Stp (owA σ E1) F1 H1 F2 H2 (owA σ (bck E1 E2 k js)) := by
  have cow : ∀ a, owA (zDQ k js σ) (zLC k js E1) a → owA σ E1 a := fun a h => let ⟨n, j, t, d, _, h2, h3⟩ := zOJ h; ⟨j, t, d, h2, h3⟩
  have ne : ∀ a u, H1 a = some u → a ≠ acc := fun a u e z => by rw [z, ha] at e; cases e
  have slot : ∀ (n j : Nat), js[n]? = some j → σ2[k + n]? = some ((σ[j]?).getD none) := fun n j h => by rw [hs (k + n) (by lia), zC8 h]
  have inown : ∀ (j : Nat) t d, (bck E1 E2 k js)[j]? = some (.own t d) → ∃ t' d', E1[j]? = some (.own t' d') := fun j t d e => by
    rcases zHL e with ⟨h, _⟩ | ⟨t', d', n, h, _⟩
    · exact ⟨t, d, h⟩
    · exact ⟨t', d', h⟩
  have st : Stp (owA σ E1) F1 H1 F2 H2 (owA σ (bck E1 E2 k js)) := by
    refine ⟨fun a u e hw n ho => s.keep a u (by rw [zAL (ne a u e)]; exact e) hw n fun z => z.elim (fun z => ho (cow a z)) (ne a u e), fun a e => ?_, s.le, fun a u e => ?_, fun a ⟨j, t, d, e1, e2⟩ => ?_⟩
    · have := s.dom a e
      by_cases h : a = acc
      · rw [h]; exact ha
      · rw [zAL h] at this; exact this
    · rcases s.new a u e with z | z | z | z
      · exact .inl z
      · by_cases h : a = acc
        · rw [h]; exact .inr (.inl (.none ha))
        · exact .inr (.inl fun o' e' => z o' (by rw [zAL h]; exact e'))
      · exact .inr (.inr (cow a z))
      · rw [z]; exact .inr (.inl (.none ha))
    · obtain ⟨t', d', h⟩ := inown j t d e1
      exact .inl ⟨j, t', d', h, e2⟩
  refine ⟨⟨S2.sub, by rw [zLE]; exact S.len, fun j d e => ?_, fun j t d e => ?_, fun i j t u d d' a e1 e2 z1 z2 => ?_⟩, st⟩
  · rcases zHL e with ⟨h, _⟩ | ⟨t', d', n, h, h1, h2⟩
    · obtain ⟨v, h1, h2⟩ := S.val j d h
      exact ⟨v, h1, h2.le s.le⟩
    · have e2 : E2[k + n]? = some (.val d) := by
        cases q : E2[k + n]? with
        | none => rw [q] at h2; cases h2
        | some z => rw [q] at h2; rw [h2]; rfl
      obtain ⟨v, h3, h4⟩ := S2.val _ d e2
      rw [slot n j h1] at h3
      refine ⟨v, ?_, h4⟩
      cases q : σ[j]? with
      | none => rw [q] at h3; cases h3
      | some z => rw [q] at h3; cases h3; rfl
  · rcases zHL e with ⟨h, h'⟩ | ⟨t', d', n, h, h1, h2⟩
    · have hj := h' ⟨t, d, rfl⟩
      obtain ⟨a, c1, c2, c3, c4⟩ := S.own j t d h
      obtain ⟨ob, ho, hw⟩ := c3.ho
      have nc : ¬ (owA (zDQ k js σ) (zLC k js E1) a ∨ a = acc) := fun z => by
        rcases z with z | z
        · obtain ⟨n, l, t2, d2, y1, y2, y3⟩ := zOJ z
          have := S.inj j l t t2 d d2 a h y2 c1 y3
          subst this
          exact hj (List.mem_of_getElem? y1)
        · exact ne a ob ho z
      refine ⟨a, c1, ?_, c3.mono s.le ((s.keep a ob (by rw [zAL (ne a ob ho)]; exact ho) hw c2 nc).trans ho.symm), c4⟩
      cases y : F2 a with
      | none => rfl
      | some u => rcases s.new a u y with y | y | y
                  · exact absurd c2 y
                  · exact absurd hw (y ob (by rw [zAL (ne a ob ho)]; exact ho))
                  · exact absurd y nc
    · have e2 : E2[k + n]? = some (.own t d) := by
        cases q : E2[k + n]? with
        | none => rw [q] at h2; cases h2
        | some z => rw [q] at h2; rw [h2]; rfl
      obtain ⟨a, h3, h4, h5, h6, h7⟩ := S2.own _ t d e2
      rw [slot n j h1] at h3
      obtain ⟨a', c1, c2, c3, c4, c5⟩ := S.own j t' d' h
      rw [c1] at h3
      cases h3
      exact ⟨a, c1, h4, h5, c4, h7⟩
  · obtain ⟨_, _, h1⟩ := inown i t d e1
    obtain ⟨_, _, h2⟩ := inown j u d' e2
    exact S.inj i j _ _ _ _ a h1 h2 z1 z2
end
section
variable{X:Cx}{scope:Scope}{cl:List (Str×Addr)}{own caps:List Str}{js:List Nat}{K:PySem.W.Frag}{H₀:Hp}
end
abbrev GM:=D->Ev->Out (D×Ev)
theorem Stp.more{ow ow1:Addr->Prop}{F H F1 H1:Hp}{acc:Addr}(x:Stp ow F H F1 H1 ow1):Stp (λa=>ow a\/a=acc) F H F1 H1 (λa=>ow1 a\/a=acc) :=
 ⟨λa o e w f n=>x.keep a o e w f λz=>n (.inl z),x.dom,x.le,λa o e=>(x.new a o e).imp id λz=>z.imp id .inl,λa q=>q.elim (λz=>(x.own a z).imp .inl id) λz=>.inl (.inr z)⟩
def tMA(K:PySem.W.Frag)(H₀:Hp)(acc:Addr)(k:Nat)(g:GM):TM:=λσ H N=>∃τ F E d d' E',Sim K H₀ τ F H σ E/\F acc=none/\¬owA σ E acc/\OwnAt K F H acc d/\g d E=.ok (d',E') /\
 ∀σ' F' H',Stp (λa=>owA σ E a\/a=acc) F H F' H' (λa=>owA σ' E' a\/a=acc)->Sim K H₀ τ F' H' σ' E'->F' acc=none->¬owA σ' E' acc->OwnAt K F' H' acc d'->(∀j:Nat,k<=j->σ'[j]?=σ[j]?)->N σ' H'
noncomputable def zMK(t:Tg)(tt:Ev->Out (Bool×Ev))(gm:GM):List D->GM
 |[],d,E=>.ok (d,E)
 |x::xs,d,E=>(gTg t x E).bind λE1=>(tt E1).bind λb=>if b.1=true then(gm d b.2).bind λq=>zMK t tt gm xs q.1 q.2 else zMK t tt gm xs d b.2
section
variable{X:Cx}{K:PySem.W.Frag}{H₀ F H F1 H1:Hp}{τ:Addr}{σ:St}{E:Ev}{acc:Addr}{k:Nat}{pos:Pos}
theorem zTW {σ' : St} {Ea Eb : Ev} {Fa Ha Fb Hb : Hp} {d : D} (st : Stp (owA σ' Ea) Fa Ha Fb Hb (owA σ' Eb)) (a1 : Fa acc = none) (a2 : ¬ owA σ' Ea acc) (a3 : OwnAt K Fa Ha acc d) : Fb acc = none ∧ ¬ owA σ' Eb acc ∧ OwnAt K Fb Hb acc d := by
  obtain ⟨o, ho, hw⟩ := a3.ho
  have hb := st.keep acc o ho hw a1 a2
  refine ⟨?_, fun z => (st.own acc z).elim a2 fun z => by (rw [ho] at z; cases z), a3.mono st.le (hb.trans ho.symm)⟩
  cases z : Fb acc with
  | none => rfl
  | some u => rcases st.new acc u z with z | z | z
              · exact absurd a1 z
              · exact absurd hw (z _ ho)
              · exact absurd z a2
theorem zY3{J:It}{t:Tg}{tt:Ev->Out (Bool×Ev)}{gm:GM}{ds:List D}(hlt:t.ltn k=true){N:St->Hp->Prop}{d d':D}{E':Ev}(S:Sim K H₀ τ F H σ E)(hf:F acc=none)(no:¬owA σ E acc)(ho:OwnAt K F H acc d)(hw:Walks K J F ds)
  (hg:zMK t tt gm ds d E=.ok (d',E'))
  (hN:∀σ' F' H',Stp (λa=>owA σ E a\/a=acc) F H F' H' (λa=>owA σ' E' a\/a=acc)->Sim K H₀ τ F' H' σ' E'->F' acc=none->¬owA σ' E' acc->OwnAt K F' H' acc d'->(∀j:Nat,k<=j->σ'[j]?=σ[j]?)->N σ' H') :
  tWalkC J (tG K H₀ t) (tT K H₀ tt) (tMA K H₀ acc k gm) σ H N:=by
 refine⟨λi m σ2 H2=>m=ds.length-i/\i<=ds.length/\∃F2 E2 d2,Sim K H₀ τ F2 H2 σ2 E2/\Stp (λa=>owA σ E a\/a=acc) F H F2 H2 (λa=>owA σ2 E2 a\/a=acc) /\
   F2 acc=none/\¬owA σ2 E2 acc/\OwnAt K F2 H2 acc d2/\(∀j:Nat,k<=j->σ2[j]?=σ[j]?)/\zMK t tt gm (ds.drop i) d2 E2=.ok (d',E'),
  ⟨_,rfl,Nat.zero_le _,F,E,d,S,Stp.refl,hf,no,ho,λ_ _=>rfl,by rw[List.drop_zero];exact hg⟩,?_⟩
 rintro i m σ2 H2 ⟨rfl,hil,F2,E2,d2,S2,s2,f2,n2,o2,hs2,g2⟩
 obtain⟨w2,w3,w4⟩:=hw i F2 H2 s2.le S2.sub
 by_cases hi:i<ds.length
 ·obtain⟨x,hd⟩:∃d,ds[i]?=some d:=⟨ds[i],by simp[hi]⟩
  have hdr:ds.drop i=x::ds.drop (i+1):=by
   rw[List.drop_eq_getElem_cons hi]
   have:ds[i]=x:=by rw[List.getElem?_eq_getElem hi] at hd;exact Option.some.inj hd
   rw[this]
  rw[hdr,zMK] at g2
  obtain⟨E3,e3,g2⟩:=Out.bind_ok g2
  obtain⟨b,e4,g2⟩:=Out.bind_ok g2
  refine .inr ⟨w2 hi,λy H' yl=>?_⟩
  obtain⟨F3,n3,r3⟩:=w4 y H' x hd yl
  obtain⟨f3,m3,o3⟩:=zTW (n3.stp (ow:=owA σ2 E2)) f2 n2 o2
  refine⟨τ,F3,E2,x,E3,S2.new n3,r3,e3,λσ4 S4 o4 b4=>?_⟩
  have m4:¬owA σ4 E3 acc:=λz=>n2 (o4 acc z)
  have hs4:∀j:Nat,k<=j->σ4[j]?=σ[j]?:=λj hj=>by rw[b4 k hlt j hj,hs2 j hj]
  have s4:Stp (λa=>owA σ E a\/a=acc) F H F3 H' (λa=>owA σ4 E3 a\/a=acc):=(s2.trans n3.stp).weak λa z=>z.imp (o4 a) id
  refine⟨τ,F3,E3,b.1,b.2,S4,e4,λF5 H5 s5 S5=>?_⟩
  obtain⟨f5,m5,o5⟩:=zTW s5 f3 m4 o3
  have s5':=s4.trans (s5.more (acc:=acc))
  dsimp only
  by_cases hb:b.1=true
  ·rw[if_pos hb] at g2 ⊢
   obtain⟨z,e6,g2⟩:=Out.bind_ok g2
   refine⟨τ,F5,b.2,d2,z.1,z.2,S5,f5,m5,o5,e6,λσ6 F6 H6 s6 S6 f6 m6 o6 hs6=>?_⟩
   exact⟨_,by lia,rfl,hi,F6,z.2,z.1,S6,s5'.trans s6,f6,m6,o6,λj hj=>by rw[hs6 j hj,hs4 j hj],g2⟩
  ·rw[if_neg hb] at g2 ⊢
   exact⟨_,by lia,rfl,hi,F5,b.2,d2,S5,s5',f5,m5,o5,hs4,g2⟩
 ·have hi:i=ds.length:=by lia
  rw[List.drop_eq_nil_of_le (by lia),zMK] at g2
  cases g2
  exact .inl ⟨w3 hi,hN σ2 F2 H2 s2 S2 f2 n2 o2 hs2⟩
theorem zY4{σ':St}{E':Ev}{F6 H6:Hp}{o:HO}(s6:Stp (owA σ E) F H F6 H6 (owA σ' E')):Stp (λa=>owA σ E a\/a=acc) F H F6 (upd H6 acc o) (λa=>owA σ' E' a\/a=acc):=by
 have st:=s6.more (acc:=acc)
 refine⟨λa u e hw n ho=>by rw[zAL (λy=>ho (.inr y))];exact st.keep a u e hw n ho,λa e=>?_,st.le,st.new,st.own⟩
 by_cases hac:a=acc
 ·rw[hac,zAN] at e;cases e
 ·rw[zAL hac] at e;exact st.dom a e
noncomputable def zQY(ge:G):GM:=λd E=>(ge E).bind λp=>match d with|.lst ds=>few ds.length (.ok (.lst (ds++[p.1]),p.2))|_=>.bad
theorem zQZ{ge:G}{N:St->Hp->Prop}(h:tMA K H₀ acc k (zQY ge) σ H N):zJ2 acc (tV K H₀ ge) σ H N:=by
 obtain⟨τ,F,E,d,d',E',S,f,n,o,hg,k⟩:=h
 obtain⟨p,e1,hg⟩:=Out.bind_ok hg
 split at hg
 ·rename_i ds
  obtain⟨hz,hg⟩:=zDN hg
  cases hg
  refine⟨τ,F,E,p.1,p.2,S,e1,λy F6 H6 s6 S6 r6=>?_⟩
  obtain⟨f6,m6,ys,h6,r2⟩:=zTW s6 f n o
  exact⟨ys,h6,by rw[r2.length];exact zFK hz,k σ F6 _ (zY4 s6) (S6.off f6 m6) f6 m6 ⟨_,zAN,r2.append (.cons r6 .nil)⟩ λ_ _=>rfl⟩
 ·cases hg
noncomputable def zLF(gi:GI)(k:Nat)(js:List Nat)(d0:D)(t:Tg)(tt:Ev->Out (Bool×Ev))(gm:GM):G:=λE=>(gi E).bind λp=>(zMK t tt gm p.1 d0 (zLC k js p.2)).bind λq=>.ok (q.1,bck p.2 q.2 k js)
theorem zQ0{gi:GI}{k:Nat}{js:List Nat}{d0:D}{o:HO}{t:Tg}{tt:Ev->Out (Bool×Ev)}{gm:GM}(hd0:∀(F H:Hp) (a:Addr),OwnAt K F (upd H a o) a d0)(hlt:t.ltn k=true)(hj:js.Nodup){σ:St}{H:Hp}{Q:VK}(h:tF K H₀ (zLF gi k js d0 t tt gm) σ H Q) :
  zIQ (tI K H₀ gi) k js o (λH=>tG K H t) (λH=>tT K H tt) (λH acc=>tMA K H acc k gm) σ H Q:=by
 obtain⟨τ,F,E,d,E',S,hg,kq⟩:=h
 obtain⟨p,e1,hg⟩:=Out.bind_ok hg
 obtain⟨q,e2,hg⟩:=Out.bind_ok hg
 cases hg
 refine⟨τ,F,E,p.1,p.2,S,e1,λJ F1 H1 s1 S1 w1 acc ha=>?_⟩
 have hf:=Sim.notF S1.sub ha
 have S0:=S1.enter (o:=o) k hj ha
 have no:¬owA (zDQ k js σ) (zLC k js p.2) acc:=λz=>by
  obtain⟨n,j,t',d',_,z2,z3⟩:=zOJ z
  exact S1.fresh ha ⟨j,t',d',z2,z3⟩
 refine zY3 hlt S0 hf no (hd0 _ _ _) w1 e2 λσ2 F2 H2 s2 S2 f2 n2 o2 hs2=>?_
 have s2':Stp (λa=>owA (zDQ k js σ) (zLC k js p.2) a\/a=acc) F1 (upd H1 acc o) F2 H2 (owA σ2 q.2):=s2.weak λa z=>.inl z
 obtain⟨S9,s9⟩:=S1.leave ha s2' S2 hs2
 refine kq acc F2 H2 (s1.trans s9) S9 f2 (s1.dom acc ha) o2 λz=>?_
 exact(s9.own acc z).elim (λy=>S1.fresh ha y) λy=>S1.fresh ha (by
   obtain⟨j,t',d',z1,z2⟩:=z
   rcases zHL z1 with⟨h,_⟩|⟨t'',d'',n,h,_⟩
   ·exact⟨j,t',d',h,z2⟩
   ·exact⟨j,t'',d'',h,z2⟩)
theorem tWalkC.imp{J:It}{g:TG}{tt:TT}{tm tm':TM}(hi:∀σ H N,tm σ H N->tm' σ H N){N:St->Hp->Prop}(mt:∀(σ:St) (H:Hp) (P P':Bool->Hp->Prop),(∀b H2,P b H2->P' b H2)->tt σ H P->tt σ H P')(mg:∀(x:V) (σ:St) (H:Hp) (P P':St->Hp->Prop),(∀σ2 H2,P σ2 H2->P' σ2 H2)->g x σ H P->g x σ H P')(h:tWalkC J g tt tm σ H N):tWalkC J g tt tm' σ H N:=by
 obtain⟨W,w0,turn⟩:=h
 refine⟨W,w0,λi m σ H w=>(turn i m σ H w).imp id λ⟨go,st⟩=>⟨go,λx H' y=>mg _ _ _ _ _ (λσ2 H2 q=>mt _ _ _ _ (λb H3 q=>?_) q) (st x H' y)⟩⟩
 cases b with
 |true=>rw[if_pos rfl] at q ⊢;exact hi _ _ _ q
 |false=>rw[if_neg Bool.false_ne_true] at q ⊢;exact q
theorem zTX{tt:Ev->Out (Bool×Ev)}(σ:St)(H:Hp)(P P':Bool->Hp->Prop)(hp:∀b H2,P b H2->P' b H2)(h:tT K H₀ tt σ H P):tT K H₀ tt σ H P' :=
 let ⟨τ,F,E,b,E',S,hg,k⟩:=h;⟨τ,F,E,b,E',S,hg,λF' H' s S'=>hp _ _ (k F' H' s S')⟩
theorem zTY{t:Tg}(x:V)(σ:St)(H:Hp)(P P':St->Hp->Prop)(hp:∀b H2,P b H2->P' b H2)(h:tG K H₀ t x σ H P):tG K H₀ t x σ H P' :=
 let ⟨τ,F,E,d,E',S,r,hg,k⟩:=h;⟨τ,F,E,d,E',S,r,hg,λσ' a b c=>hp _ _ (k σ' a b c)⟩
variable{scope:Scope}{cl:List (Str×Addr)}{own caps:List Str}{js:List Nat}
theorem zTZ{gi:GI}{R R':It->Hp->Prop}(hp:∀J H2,R J H2->R' J H2)(h:tI K H₀ gi σ H R):tI K H₀ gi σ H R' :=
 let ⟨τ,F,E,ds,E',S,hg,k⟩:=h;⟨τ,F,E,ds,E',S,hg,λJ F' H' a b c=>hp _ _ (k J F' H' a b c)⟩
noncomputable def zC9(gi:GI)(k:Nat)(js:List Nat)(t:Tg)(tt:Ev->Out (Bool×Ev))(ge:G):G:=zLF gi k js (.lst []) t tt (zQY ge)
theorem zOK{gi:GI}{k:Nat}{t:Tg}{tt:Ev->Out (Bool×Ev)}{ge:G}(hlt:t.ltn k=true)(hj:js.Nodup){σ:St}{H:Hp}{Q:VK}(h:tF K H₀ (zC9 gi k js t tt ge) σ H Q) :
  zIQ (tI K H₀ gi) k js (.lst []) (λH=>tG K H t) (λH=>tT K H tt) (λH acc=>zJ2 acc (tV K H ge)) σ H Q :=
 zTZ (λJ H2 q acc ha=>tWalkC.imp (λ_ _ _ z=>zQZ z) (λσ H=>zTX σ H) (λx σ H=>zTY x σ H) (q acc ha)) (zQ0 (o:=.lst []) (d0:=.lst []) (λF H a=>⟨[],zAN,.nil⟩) hlt hj h)
theorem zLG{elt tg iter:Expr}{ifs:List Expr}{pos:Pos}{gi:GI}{t:Tg}{tt:Ev->Out (Bool×Ev)}{ge:G}(n:CompNm X scope cl own caps js)(hc:X.calm=true)(hi:VI X tg iter gi)
  (hg:∀C s H fp,VG (zBC X scope cl (own++caps) C s H fp) tg t) (ht:∀C s H fp,VTs (zBC X scope cl (own++caps) C s H fp) ifs tt) (he:∀C s H fp,VE (zBC X scope cl (own++caps) C s H fp) elt ge)
  (hlt:t.ltn own.length=true:=by rfl) (hj:js.Nodup:=by decide) (hs:∀x,foldedSetIterable iter X.env x=pure x:=by intro _;rfl):FE X (.ListComp elt [⟨tg,iter,ifs,0⟩] scope pos) (zC9 gi own.length js t tt ge) :=
 (zTH (g:=λH=>tG X.K H t) (tt:=λH=>tT X.K H tt) (te:=λH=>tV X.K H ge) n hc hi hg ht he hs).imp λ_ _ _ h=>zOK hlt hj h
end
mutual
noncomputable def D.py:D->Option PyData
 |.non=>some .none
 |.bl b=>some (.bool b)
 |.int i=>some (.int i)
 |.str x=>if PyData.canLay0 (.str x)=true then some (.str x) else none
 |.tup xs=>(D.pys xs).map .tuple
 |.lst xs=>(D.pys xs).map .list
 |.dk _=>none
 |.dt _=>none
noncomputable def D.pys:List D->Option (List PyData)
 |[]=>some []
 |d::ds=>match d.py,D.pys ds with
  |some p,some ps=>some (p::ps)
  |_,_=>none
end
section
variable{K:PySem.W.Frag}{F H:Hp}
mutual
theorem Rep.dv(s:Sub F H):∀(d:D) {v:V} {p:PyData},Rep K F v d->d.py=some p->DV K H v p
 |.non,_,_,.non,e=>by rw[D.py] at e;cases e;exact .non
 |.bl b,_,_,.bl _,e=>by rw[D.py] at e;cases e;exact .bl b
 |.int i,_,_,.int _,e=>by rw[D.py] at e;cases e;exact .int i
 |.str x,_,_,.str _,e=>by
  rw[D.py] at e
  split at e
  ·rename_i h;cases e;exact .str x h
  ·cases e
 |.tup xs,_,_,r,e=>by
  rw[D.py] at e
  obtain⟨ps,h1,h2⟩:=Option.map_eq_some_iff.mp e
  subst h2
  obtain⟨a,vs,rfl,r,sq⟩:=r.tupSq
  exact .tup (sq F H (.refl _) s) (Reps.dv s xs r h1)
 |.lst xs,_,_,.lst h r,e=>by
  rw[D.py] at e
  obtain⟨ps,h1,h2⟩:=Option.map_eq_some_iff.mp e
  subst h2
  exact .lst (h.imp s.rd id) (Reps.dv s xs r h1)
 |.dk _,_,_,_,e=>by rw[D.py] at e;cases e
 |.dt _,_,_,_,e=>by rw[D.py] at e;cases e
theorem Reps.dv(s:Sub F H):∀(d:List D) {v:List V} {p:List PyData},Reps K F v d->D.pys d=some p->DVs K H v p
 |[],_,_,.nil,e=>by rw[D.pys] at e;cases e;exact .nil
 |d::ds,_,_,.cons h r,e=>by
  rw[D.pys] at e
  split at e
  ·rename_i p ps e1 e2
   cases e
   exact .cons (Rep.dv s d h e1) (Reps.dv s ds r e2)
  ·cases e
end
end
noncomputable def eqD(x y:D):Out D:=match x.py,y.py with
 |some p,some q=>if min p.depth q.depth<=60 then .ok (.bl (PyData.eqv p q)) else .bad
 |_,_=>.bad
noncomputable def neD(x y:D):Out D:=match x.py,y.py with
 |some p,some q=>if min p.depth q.depth<=60 then .ok (.bl (!PyData.eqv p q)) else .bad
 |_,_=>.bad
section
variable{X:Cx}{K:PySem.W.Frag}{F H:Hp}{a b c e:Expr}{ga gb ge:G}{pos:Pos}
theorem zSD:OpS K (zX3 K false) eqD:=λv u x y F H d Q s r1 r2 hf k=>by
 unfold eqD at hf
 split at hf
 ·rename_i p q e1 e2
  split at hf
  ·rename_i hm
   cases hf
   exact⟨p,q,r1.dv s _ e1,r2.dv s _ e2,hm,k _ F H (.refl s) (.bl _)⟩
  ·cases hf
 ·cases hf
theorem zSE:OpS K (zX3 K true) neD:=λv u x y F H d Q s r1 r2 hf k=>by
 unfold neD at hf
 split at hf
 ·rename_i p q e1 e2
  split at hf
  ·rename_i hm
   cases hf
   exact⟨p,q,r1.dv s _ e1,r2.dv s _ e2,hm,k _ F H (.refl s) (.bl _)⟩
  ·cases hf
 ·cases hf
theorem zHM(hu:X.A.units+64<cLine)(ha:VE X a ga)(hb:VE X b gb)(hm:behindInMarks .Eq b=false:=by with_unfolding_all rfl):VT X (.Compare a [.Eq] [b] pos) (gB (g2 eqD ga gb)):=zGN (zR9 hu) zSD ha hb hm
theorem zHN(hu:X.A.units+64<cLine)(ha:VE X a ga)(hb:VE X b gb)(hm:behindInMarks .NotEq b=false:=by with_unfolding_all rfl):VT X (.Compare a [.NotEq] [b] pos) (gB (g2 neD ga gb)):=zGN (zSA hu) zSE ha hb hm
theorem yA5(hu:X.A.units+64<cLine)(ha:VE X a ga)(hb:VE X b gb)(hm:behindInMarks .Eq b=false:=by with_unfolding_all rfl):VE X (.Compare a [.Eq] [b] pos) (g2 eqD ga gb):=zTP (zR9 hu) zSD ha hb hm
theorem yA6(hu:X.A.units+64<cLine)(ha:VE X a ga)(hb:VE X b gb)(hm:behindInMarks .NotEq b=false:=by with_unfolding_all rfl):VE X (.Compare a [.NotEq] [b] pos) (g2 neD ga gb):=zTP (zSA hu) zSE ha hb hm
end
section
variable{κ:Type}[DecidableEq κ]
noncomputable def zJS(kvs:List (κ×D))(k:κ):Option D:=(kvs.find? λkv=>decide (kv.1=k)).map (·.2)
noncomputable def zLH(kvs:List (κ×D))(k:κ)(v:D):List (κ×D) :=
 if(kvs.any λkv=>decide (kv.1=k))=true then kvs.map (λkv=>if kv.1=k then(kv.1,v) else kv) else kvs++[(k,v)]
end
noncomputable def zQ1:D->Option Key
 |.int i=>some (.inl i)
 |.str x=>some (.inr x)
 |_=>none
noncomputable def zBD:List D->Option (List Int)
 |[]=>some []
 |.int i::ds=>(zBD ds).map (i::·)
 |_::_=>none
theorem zDU:∀{ds:List D} {ns:List Int},zBD ds=some ns->ds=ns.map D.int
 |[],_,h=>by rw[zBD] at h;cases h;rfl
 |.int i::ds,_,h=>by
  rw[zBD] at h
  obtain⟨r,h1,h2⟩:=Option.map_eq_some_iff.mp h
  subst h2
  rw[zDU h1];rfl
 |.non::_,_,h=>by simp[zBD] at h
 |.bl _::_,_,h=>by simp[zBD] at h
 |.str _::_,_,h=>by simp[zBD] at h
 |.tup _::_,_,h=>by simp[zBD] at h
 |.lst _::_,_,h=>by simp[zBD] at h
 |.dk _::_,_,h=>by simp[zBD] at h
 |.dt _::_,_,h=>by simp[zBD] at h
theorem zHO:∀{a b:List Int},a.map (Sum.inl:Int->Key)=b.map Sum.inl->a=b
 |[],[],_=>rfl
 |[],_::_,h=>by simp at h
 |_::_,[],h=>by simp at h
 |x::a,y::b,h=>by
  rw[List.map_cons,List.map_cons] at h
  injection h with h1 h2
  injection h1 with h1
  rw[h1,zHO h2]
section
variable{K:PySem.W.Frag}{F H:Hp}
theorem RepK.length:∀{vs:List (Key×V)} {ds:List (Key×D)},RepK K F vs ds->vs.length=ds.length
 |_,_,.nil=>rfl
 |_,_,.cons _ r=>by rw[List.length_cons,List.length_cons,r.length]
theorem RepT.length:∀{vs:List (List Key×V)} {ds:List (List Int×D)},RepT K F vs ds->vs.length=ds.length
 |_,_,.nil=>rfl
 |_,_,.cons _ r=>by rw[List.length_cons,List.length_cons,r.length]
def OpR1(K:PySem.W.Frag)(F:Hp):Option V->Option D->Prop
 |some v,some d=>Rep K F v d
 |none,none=>True
 |_,_=>False
theorem RepK.get(k:Key):∀{vs:List (Key×V)} {ds:List (Key×D)},RepK K F vs ds->OpR1 K F (zF3 vs k) (zJS ds k)
 |_,_,.nil=>trivial
 |_,_,.cons (k:=k') (v:=v) (d:=d) (vs:=vs) (ds:=ds) h r=>by
  by_cases e:k'=k
  ·have e1:zF3 ((k',v)::vs) k=some v:=by simp[zF3,e]
   have e2:zJS ((k',d)::ds) k=some d:=by simp[zJS,e]
   rw[e1,e2];exact h
  ·have e1:zF3 ((k',v)::vs) k=zF3 vs k:=by simp[zF3,e]
   have e2:zJS ((k',d)::ds) k=zJS ds k:=by simp[zJS,e]
   rw[e1,e2];exact RepK.get k r
theorem RepT.get(k:List Int):∀{vs:List (List Key×V)} {ds:List (List Int×D)},RepT K F vs ds->OpR1 K F (zF3 vs (k.map Sum.inl)) (zJS ds k)
 |_,_,.nil=>trivial
 |_,_,.cons (k:=k') (v:=v) (d:=d) (vs:=vs) (ds:=ds) h r=>by
  by_cases e:k'=k
  ·have e1:zF3 ((k'.map Sum.inl,v)::vs) (k.map Sum.inl)=some v:=by simp[zF3,e]
   have e2:zJS ((k',d)::ds) k=some d:=by simp[zJS,e]
   rw[e1,e2];exact h
  ·have e':¬k'.map (Sum.inl:Int->Key)=k.map Sum.inl:=λz=>e (zHO z)
   have e1:zF3 ((k'.map Sum.inl,v)::vs) (k.map Sum.inl)=zF3 vs (k.map Sum.inl):=by simp[zF3,e']
   have e2:zJS ((k',d)::ds) k=zJS ds k:=by simp[zJS,e]
   rw[e1,e2];exact RepT.get k r
theorem OpR1.some_of{o:Option V}{d:D}(h:OpR1 K F o (some d)):∃v,o=some v/\Rep K F v d:=by
 cases o with
 |none=>exact h.elim
 |some v=>exact⟨v,rfl,h⟩
noncomputable def zQ2:D->D->Option (Option D)
 |.dk kvs,k=>(zQ1 k).map (zJS kvs)
 |.dt kvs,.tup ks=>(zBD ks).map (zJS kvs)
 |_,_=>none
theorem Rep.dget{v u:V}{x y:D}{o:Option D}(s:Sub F H)(r1:Rep K F v x)(r2:Rep K F u y)(h:zQ2 x y=some o):∃a ov,v=.ref a/\zX1 H a u ov/\OpR1 K F ov o:=by
 cases x with
 |dk kvs =>
  obtain⟨k,h1,h2⟩:=Option.map_eq_some_iff.mp (show(zQ1 y).map (zJS kvs)=some o from h)
  subst h2
  cases r1 with
  |dk hr r =>
   refine⟨_,_,rfl,.inl ⟨_,k,s.rd hr,?_,rfl⟩,r.get k⟩
   cases y<;>first|cases h1|skip
   ·(first|obtain rfl:=r2.vI|obtain rfl:=r2.vB|obtain rfl:=r2.vS|obtain rfl:=r2.vN|cases r2);rfl
   ·(first|obtain rfl:=r2.vI|obtain rfl:=r2.vB|obtain rfl:=r2.vS|obtain rfl:=r2.vN|cases r2);rfl
 |dt kvs =>
  cases y with
  |tup ks =>
   obtain⟨ns,h1,h2⟩:=Option.map_eq_some_iff.mp (show(zBD ks).map (zJS kvs)=some o from h)
   subst h2
   have:=zDU h1
   subst this
   cases r1 with
   |dt hr r =>
    generalize hk:ns.map D.int=kk at r2
    cases r2 with
    |tup hb rb =>
     subst hk
     have:=rb.vint
     subst this
     refine⟨_,_,rfl,.inr ⟨_,ns.map Sum.inl,_,s.rd hr,rfl,?_,rfl⟩,r.get ns⟩
     rw[List.map_map]
     exact s _ _ hb
    |@tupK a xs hb nb =>
     cases xs with
     |nil=>exact absurd rfl nb
     |cons x xs =>
      cases ns with
      |nil=>cases hk
      |cons n ns=>cases hk
  |_=>cases h
 |_=>cases h
end
noncomputable def inD(x y:D):Out D:=match y with
 |.lst ds=>match D.pys ds,x.py with
  |some ps,some p=>if p.depth<=60 then .ok (.bl (ps.any λd=>PyData.eqv d p)) else .bad
  |_,_=>.bad
 |.tup ds=>match D.pys ds,x.py with
  |some ps,some p=>if p.depth<=60 then .ok (.bl (ps.any λd=>PyData.eqv d p)) else .bad
  |_,_=>.bad
 |y=>match zQ2 y x with
  |some o=>.ok (.bl o.isSome)
  |none=>.bad
noncomputable def yAA(x y:D):Out D:=(inD x y).bind λd=>match d with|.bl b=>.ok (.bl (!b))|_=>.bad
section
variable{X:Cx}{K:PySem.W.Frag}{F H:Hp}{a b c e:Expr}{ga gb ge:G}{pos:Pos}
noncomputable def ltD(x y:D):Out D:=match x,y with
 |.int i,.int j=>.ok (.bl (decide (i<j)))
 |.tup xs,.tup ys=>match zBD xs,zBD ys with
  |some ns,some ms=>.ok (.bl (HT.lexLt ns ms))
  |_,_=>.bad
 |_,_=>.bad
theorem Rep.intsT{v:V}{ds:List D}{ns:List Int}(s:Sub F H)(r:Rep K F v (.tup ds))(h:zBD ds=some ns):∃a,v=.ref a/\SqT K H a (ns.map V.int):=by
 have:=zDU h
 subst this
 obtain⟨a,vs,rfl,rr,sq⟩:=r.tupSq
 have:=rr.vint
 subst this
 exact⟨a,rfl,sq F H (.refl _) s⟩
theorem zOL:OpS K (λx y H Q=>rI0 (λi j=>.bl (decide (i<j))) x y H Q\/zYS K x y H Q) ltD:=λv u x y F H d Q s r1 r2 hf k=>by
 unfold ltD at hf
 split at hf
 ·cases hf;(first|obtain rfl:=r1.vI|obtain rfl:=r1.vB|obtain rfl:=r1.vS|obtain rfl:=r1.vN|cases r1);(first|obtain rfl:=r2.vI|obtain rfl:=r2.vB|obtain rfl:=r2.vS|obtain rfl:=r2.vN|cases r2)
  exact .inl ⟨_,_,rfl,rfl,k _ F H (.refl s) (.bl _)⟩
 ·split at hf
  ·rename_i e1 e2
   cases hf
   obtain⟨a,rfl,h1⟩:=r1.intsT s e1
   obtain⟨b,rfl,h2⟩:=r2.intsT s e2
   exact .inr ⟨a,b,_,_,rfl,rfl,h1,h2,k _ F H (.refl s) (.bl _)⟩
  ·cases hf
 ·cases hf
noncomputable def zW0(p:Int->Int->Bool)(x y:D):Out D:=match x,y with
 |.int i,.int j=>.ok (.bl (p i j))
 |_,_=>.bad
theorem zEA(p:Int->Int->Bool):OpS K (rI0 λi j=>.bl (p i j)) (zW0 p):=λv u x y F H d Q s r1 r2 hf k=>by
 unfold zW0 at hf
 split at hf
 ·cases hf;(first|obtain rfl:=r1.vI|obtain rfl:=r1.vB|obtain rfl:=r1.vS|obtain rfl:=r1.vN|cases r1);(first|obtain rfl:=r2.vI|obtain rfl:=r2.vB|obtain rfl:=r2.vS|obtain rfl:=r2.vN|cases r2)
  exact⟨_,_,rfl,rfl,k _ F H (.refl s) (.bl _)⟩
 ·cases hf
noncomputable abbrev leD:=zW0 λi j=>decide (i<=j)
noncomputable abbrev gtD:=zW0 λi j=>decide (j<i)
noncomputable abbrev geD:=zW0 λi j=>decide (j<=i)
theorem zKC(hu:X.A.units+64<cLine)(ha:VE X a ga)(hb:VE X b gb)(hm:behindInMarks .Lt b=false:=by with_unfolding_all rfl):VT X (.Compare a [.Lt] [b] pos) (gB (g2 ltD ga gb)):=zGN (op_lt.or (zNJ (by lia))) zOL ha hb hm
theorem yA7(hu:X.A.units+64<cLine)(ha:VE X a ga)(hb:VE X b gb)(hm:behindInMarks .Lt b=false:=by with_unfolding_all rfl):VE X (.Compare a [.Lt] [b] pos) (g2 ltD ga gb):=zTP (op_lt.or (zNJ (by lia))) zOL ha hb hm
theorem zT0(ha:VE X a ga)(hb:VE X b gb)(hm:behindInMarks .Gt b=false:=by with_unfolding_all rfl):VT X (.Compare a [.Gt] [b] pos) (gB (g2 gtD ga gb)):=zGN zYO (zEA _) ha hb hm
theorem zW1(ha:VE X a ga)(hb:VE X b gb)(hm:behindInMarks .GtE b=false:=by with_unfolding_all rfl):VT X (.Compare a [.GtE] [b] pos) (gB (g2 geD ga gb)):=zGN zYP (zEA _) ha hb hm
noncomputable def zDV(f f':D->D->Out D)(ga gb gc:G):G:=λE=>(ga E).bind λp=>(gb p.2).bind λq=>(f p.1 q.1).bind λd=>match d with
 |.bl true=>(gc q.2).bind λr=>(f' q.1 r.1).bind λd'=>.ok (d',r.2)
 |.bl false=>.ok (.bl false,q.2)
 |_=>.bad
end
section
variable{prog:Program}{w:World}{A:Around}{E:Value->Shared->Prop}{s:Shared}
end
section
variable{X:Cx}{tg:Expr}
end
section
variable{X:Cx}{K:PySem.W.Frag}{H₀ F H:Hp}{a b c e:Expr}{es:List Expr}{ga gb gc ge:G}{gs:List G}{pos p:Pos}{x:Str}{id T:String}
theorem zLI{r r':R2}{f f':D->D->Out D}(h1:OpS K r f)(h2:OpS K r' f'){σ:St}{Q:VK}(h:tV K H₀ (zDV f f' ga gb gc) σ H Q):zNC r r' (tV K H₀ ga) (tV K H₀ gb) (tV K H₀ gc) σ H Q:=by
 obtain⟨τ,F,E,d,E',S,hg,k⟩:=h
 obtain⟨p,ea,hg⟩:=Out.bind_ok hg
 obtain⟨q,eb,hg⟩:=Out.bind_ok hg
 obtain⟨z,ef,hg⟩:=Out.bind_ok hg
 refine⟨τ,F,E,p.1,p.2,S,ea,λv F1 H1 st1 S1 r1=>⟨τ,F1,p.2,q.1,q.2,S1,eb,λu F2 H2 st2 S2 r2=>?_⟩⟩
 refine h1 v u p.1 q.1 F2 H2 z _ S2.sub (r1.le st2.le) r2 ef λy F3 H3 n r3=>?_
 have S3:=S2.new n
 have st3:=(st1.trans st2).trans (n.stp (ow:=owA _ q.2))
 split at hg
 ·(first|obtain rfl:=r3.vI|obtain rfl:=r3.vB|obtain rfl:=r3.vS|obtain rfl:=r3.vN|cases r3)
  obtain⟨w,ec,hg⟩:=Out.bind_ok hg
  obtain⟨d',ef',hg⟩:=Out.bind_ok hg
  cases hg
  refine⟨true,rfl,zZZ ⟨τ,F3,q.2,w.1,w.2,S3,ec,λw' F4 H4 st4 S4 r4=>?_⟩⟩
  exact h2 u w' q.1 w.1 F4 H4 d Q S4.sub ((r2.le n.1.le).le st4.le) r4 ef' λy F5 H5 n5 r5=>k y F5 H5 ((st3.trans st4).trans n5.stp) (S4.new n5) r5
 ·(first|obtain rfl:=r3.vI|obtain rfl:=r3.vB|obtain rfl:=r3.vS|obtain rfl:=r3.vN|cases r3)
  cases hg
  exact⟨false,rfl,zZY (k _ F3 H3 st3 S3 (.bl false))⟩
 ·cases hg
theorem zT1{op op':CmpOp}{r r':R2}{f f':D->D->Out D}(ho:OpR X (compareOp op) r)(h1:OpS X.K r f)(ho':OpR X (compareOp op') r')(h2:OpS X.K r' f')(ha:VE X a ga)(hb:VE X b gb)(hc:VE X c gc)
  (hm:lastMarks [op,op'] [b,c]=false:=by with_unfolding_all rfl):VE X (.Compare a [op,op'] [b,c] pos) (zDV f f' ga gb gc):=(zP1 ho ho' ha hb hc hm).imp λ_ _ _ h=>zLI h1 h2 h
theorem zLJ{op op':CmpOp}{r r':R2}{f f':D->D->Out D}(ho:OpR X (compareOp op) r)(h1:OpS X.K r f)(ho':OpR X (compareOp op') r')(h2:OpS X.K r' f')(ha:VE X a ga)(hb:VE X b gb)(hc:VE X c gc)
  (hm:lastMarks [op,op'] [b,c]=false:=by with_unfolding_all rfl):VT X (.Compare a [op,op'] [b,c] pos) (gB (zDV f f' ga gb gc)):=(zP2 ho ho' ha hb hc hm).imp λσ H Q h=>by
 obtain⟨τ,F,E,b',E',S,hg,k⟩:=h
 obtain⟨p,ea,hg⟩:=Out.bind_ok hg
 refine zLI h1 h2 ⟨τ,F,E,p.1,p.2,S,ea,λv F1 H1 st1 S1 r1=>?_⟩
 split at hg
 ·rename_i b' eb
  cases hg
  rw[eb] at r1
  (first|obtain rfl:=r1.vI|obtain rfl:=r1.vB|obtain rfl:=r1.vS|obtain rfl:=r1.vN|cases r1)
  exact⟨_,rfl,k F1 H1 st1 S1⟩
 ·cases hg
def zW2(K:PySem.W.Frag):R2:=λx y H Q=>∃l b xs zs,x=.ref l/\y=.ref b/\SqL K H l xs/\SqL K H b zs/\xs.length+zs.length<=sizeLine/\∀p,H p=none->Q (.ref p) (upd H p (.lst (xs++zs)))
theorem op_catR:OpR X (binaryOp .Add) (zW2 X.K):=by
 intro pins s σ H x y v u Q I rx ry h
 obtain⟨l,b,xs,zs,rfl,rfl,hH,hB,hz,q⟩:=h
 cases rx
 cases ry
 obtain⟨its,r,pl,z⟩:=I.list hH
 obtain⟨its2,r2,pl2,z2⟩:=I.list hB
 obtain⟨⟨oc,od,oda,osl⟩,n,e,e1,e2,e3⟩:=pl
 obtain⟨⟨oc',od',oda',osl'⟩,n',e',e1',e2',e3'⟩:=pl2
 dsimp only at e1 e2 e3 e1' e2' e3'
 subst e1 e2 e3 e1' e2' e3'
 have hl:=r.length
 have hl2:=r2.length
 refine concat_meets ⟨_,e,rfl⟩ ⟨_,e',rfl⟩ noFill_list_add seq_list_add F.slot_list_add F.entry_list_add (F.args_list_add_2 _ _) (list_addW l b its.toArray its2.toArray n n' none none osl osl' (by rw[List.size_toArray,List.size_toArray];lia)) ⟨e,e',?_⟩
 have ea:its.toArray++its2.toArray=(its++its2).toArray:=by simp
 rw[ea]
 exact⟨.ref _,_,I.lnew (t':=s.toks) (r.append r2) (by rw[List.length_append];lia),rfl,q _ I.fresh⟩
def zW3(K:PySem.W.Frag):R2:=λx y H Q=>∃a b xs ys,x=.ref a/\y=.ref b/\SqT K H a xs/\SqT K H b ys/\xs.length+ys.length<=sizeLine/\(xs=[]->Q (.ref b) H)/\(ys=[]->Q (.ref a) H)/\∀p,H p=none->Q (.ref p) (upd H p (.tup (xs++ys)))
theorem op_catX:OpR X (binaryOp .Add) (zW3 X.K):=by
 intro pins s σ H x y v u Q I rx ry h
 obtain⟨a,b,xs,ys,rfl,rfl,ha,hb,hz,q1,q2,q3⟩:=h
 cases rx
 cases ry
 obtain⟨its,r1,p1,_⟩:=I.tuple ha
 obtain⟨its2,r2,p2,_⟩:=I.tuple hb
 refine zTK p1 p2 (λz=>⟨.ref b,H,I,rfl,q1 (r1.nil_iff.mp z)⟩) (λ_ z=>⟨.ref a,H,I,rfl,q2 (r2.nil_iff.mp z)⟩) (λ_ z=>?_) (by rw[<-r1.length,<-r2.length];exact hz)
 exact⟨.ref s.heap.objs.size,_,I.laid (t':=s.toks) (o:=.tup (xs++ys)) (λb ob q=>Heap.get?_push_of_some _ q) (Nat.le_refl _) ⟨by rw[List.length_append];exact hz,_,r1.append r2,IsTupP.new _ _⟩,rfl,q3 _ I.fresh⟩
theorem le4{n:Nat}(h:n<10000):n<=sizeLine:=Nat.le_of_lt (zFK h)
noncomputable def zBT(x y:D):Out D:=match x,y with
 |.int i,.int j=>.ok (.int (i+j))
 |.lst xs,.lst ys=>few (xs.length+ys.length) (.ok (.lst (xs++ys)))
 |.tup xs,.tup ys=>few (xs.length+ys.length) (.ok (.tup (xs++ys)))
 |.str s,.str t=>few (s.length+t.length) (.ok (.str (s++t)))
 |_,_=>.bad
abbrev zW4(K:PySem.W.Frag):R2:=λx y H Q=>rI0 (λi j=>.int (i+j)) x y H Q\/zW2 K x y H Q\/zW3 K x y H Q\/(∃i j,x=.str i/\y=.str j/\i.length+j.length<=sizeLine/\Q (.str (i++j)) H)
theorem zT2:OpR X (binaryOp .Add) (zW4 X.K):=op_add.or (op_catR.or (op_catX.or zMA))
theorem zT3:OpS K (zW4 K) zBT:=λv u x y F H d Q s r1 r2 hf k=>by
 unfold zBT at hf
 split at hf
 ·cases hf;(first|obtain rfl:=r1.vI|obtain rfl:=r1.vB|obtain rfl:=r1.vS|obtain rfl:=r1.vN|cases r1);(first|obtain rfl:=r2.vI|obtain rfl:=r2.vB|obtain rfl:=r2.vS|obtain rfl:=r2.vN|cases r2)
  exact .inl ⟨_,_,rfl,rfl,k _ F H (.refl s) (.int _)⟩
 ·obtain⟨hl,hf⟩:=zDN hf
  cases hf
  obtain⟨a,vs,rfl,h1,h2⟩:=r1.isRefL
  obtain⟨b,ws,rfl,h3,h4⟩:=r2.isRefL
  refine .inr (.inl ⟨a,b,vs,ws,rfl,rfl,h1.imp s.rd id,h3.imp s.rd id,by rw[h2.length,h4.length];exact le4 hl,λq hq=>?_⟩)
  have n:=New.laid (o:=.lst (vs++ws)) s hq
  exact k _ _ _ n (.lst (.inl (.inl zAN)) ((h2.append h4).le n.1.le))
 ·obtain⟨hl,hf⟩:=zDN hf
  cases hf
  obtain⟨a,vs,rfl,h2,h1⟩:=r1.tupSq
  obtain⟨b,ws,rfl,h4,h3⟩:=r2.tupSq
  refine .inr (.inr (.inl ⟨a,b,vs,ws,rfl,rfl,h1 F H (.refl _) s,h3 F H (.refl _) s,by rw[h2.length,h4.length];exact le4 hl,λz=>?_,λz=>?_,λq hq=>?_⟩))
  ·have:=h2.nil_iff.mp z
   subst this
   exact k _ F H (.refl s) r2
  ·have:=h4.nil_iff.mp z
   subst this
   rw[List.append_nil] at k
   exact k _ F H (.refl s) r1
  ·have n:=New.laid (o:=.tup (vs++ws)) s hq
   exact k _ _ _ n (.tup zAN ((h2.append h4).le n.1.le))
 ·obtain⟨hl,hf⟩:=zDN hf
  cases hf;(first|obtain rfl:=r1.vI|obtain rfl:=r1.vB|obtain rfl:=r1.vS|obtain rfl:=r1.vN|cases r1);(first|obtain rfl:=r2.vI|obtain rfl:=r2.vB|obtain rfl:=r2.vS|obtain rfl:=r2.vN|cases r2)
  exact .inr (.inr (.inr ⟨_,_,rfl,rfl,le4 hl,k _ F H (.refl s) (.str _)⟩))
 ·cases hf
theorem zBW(ha:VE X a ga)(hb:VE X b gb):VE X (.BinOp a .Add b pos) (g2 zBT ga gb):=zVE zT2 zT3 ha hb
noncomputable def zLK(x y:D):Out D:=match x,y with
 |.int i,.int j=>.ok (.int (i-j))
 |_,_=>.bad
theorem zT4:OpS K (rI0 λi j=>.int (i-j)) zLK:=λv u x y F H d Q s r1 r2 hf k=>by
 unfold zLK at hf
 split at hf
 ·cases hf;(first|obtain rfl:=r1.vI|obtain rfl:=r1.vB|obtain rfl:=r1.vS|obtain rfl:=r1.vN|cases r1);(first|obtain rfl:=r2.vI|obtain rfl:=r2.vB|obtain rfl:=r2.vS|obtain rfl:=r2.vN|cases r2)
  exact⟨_,_,rfl,rfl,k _ F H (.refl s) (.int _)⟩
 ·cases hf
theorem zOM(ha:VE X a ga)(hb:VE X b gb):VE X (.BinOp a .Sub b pos) (g2 zLK ga gb):=zVE zV0 zT4 ha hb
noncomputable def guard{α:Type}(c:Prop)[Decidable c](y:Out α):Out α:=if c then y else .bad
theorem zCW{α:Type}{c:Prop}[Decidable c]{y:Out α}{z:α}(h:guard c y=.ok z):c/\y=.ok z:=by
 unfold guard at h
 split at h
 ·exact⟨by assumption,h⟩
 ·cases h
def zEV(i:Int):Prop:=-(2 ^ 64)<i/\i<2 ^ 64
instance (i:Int):Decidable (zEV i):=inferInstanceAs (Decidable (_/\_))
noncomputable def zKD(x y:D):Out D:=match x,y with
 |.int i,.int j=>guard (zEV i\/zEV j) (.ok (.int (i * j)))
 |_,_=>.bad
theorem zT5:OpS K (rI CMul λi j=>.int (i * j)) zKD:=λv u x y F H d Q s r1 r2 hf k=>by
 unfold zKD at hf
 split at hf
 ·obtain⟨hc,hf⟩:=zCW hf
  cases hf;(first|obtain rfl:=r1.vI|obtain rfl:=r1.vB|obtain rfl:=r1.vS|obtain rfl:=r1.vN|cases r1);(first|obtain rfl:=r2.vI|obtain rfl:=r2.vB|obtain rfl:=r2.vS|obtain rfl:=r2.vN|cases r2)
  exact⟨_,_,rfl,rfl,hc,k _ F H (.refl s) (.int _)⟩
 ·cases hf
theorem zQ3(ha:VE X a ga)(hb:VE X b gb):VE X (.BinOp a .Mult b pos) (g2 zKD ga gb):=zVE zV1 zT5 ha hb
noncomputable def zEM(x y:D):Out D:=match x,y with
 |.int i,.int j=>guard (0<j/\j<2 ^ 200) (.ok (.int (i / j)))
 |_,_=>.bad
def zW5(_ j:Int):Prop:=0<j/\j<2 ^ 200
theorem zQ4:OpR X (binaryOp .FloorDiv) (rI zW5 λi j=>.int (i / j)):=opI λi j _ _ _ _ _ hc q=>by
 refine floordiv_int (by have:=hc.1;lia) (by rw[Int.fdiv_eq_ediv_of_nonneg _ (Int.le_of_lt hc.1)];exact q) (.inl (PyProof.noPylong_of_log2 ?_))
 have h1:=hc.1
 have h2:=hc.2
 refine Nat.lt_of_lt_of_le ((Nat.log2_lt (by lia)).mpr (show j.natAbs<2 ^ 200 by lia)) (by decide)
theorem zQ5:OpS K (rI zW5 λi j=>.int (i / j)) zEM:=λv u x y F H d Q s r1 r2 hf k=>by
 unfold zEM at hf
 split at hf
 ·obtain⟨hc,hf⟩:=zCW hf
  cases hf;(first|obtain rfl:=r1.vI|obtain rfl:=r1.vB|obtain rfl:=r1.vS|obtain rfl:=r1.vN|cases r1);(first|obtain rfl:=r2.vI|obtain rfl:=r2.vB|obtain rfl:=r2.vS|obtain rfl:=r2.vN|cases r2)
  exact⟨_,_,rfl,rfl,hc,k _ F H (.refl s) (.int _)⟩
 ·cases hf
theorem zLL(ha:VE X a ga)(hb:VE X b gb):VE X (.BinOp a .FloorDiv b pos) (g2 zEM ga gb):=zVE zQ4 zQ5 ha hb
noncomputable def zER(x y:D):Out D:=match x,y with
 |.int i,.int j=>guard (0<j) (.ok (.int (i % j)))
 |_,_=>.bad
theorem zT6:OpS K (rI (λ_ j=>0<j) λi j=>.int (i % j)) zER:=λv u x y F H d Q s r1 r2 hf k=>by
 unfold zER at hf
 split at hf
 ·obtain⟨hc,hf⟩:=zCW hf
  cases hf;(first|obtain rfl:=r1.vI|obtain rfl:=r1.vB|obtain rfl:=r1.vS|obtain rfl:=r1.vN|cases r1);(first|obtain rfl:=r2.vI|obtain rfl:=r2.vB|obtain rfl:=r2.vS|obtain rfl:=r2.vN|cases r2)
  exact⟨_,_,rfl,rfl,hc,k _ F H (.refl s) (.int _)⟩
 ·cases hf
theorem zFN(ha:VE X a ga)(hb:VE X b gb):VE X (.BinOp a .Mod b pos) (g2 zER ga gb):=zVE zV2 zT6 ha hb
noncomputable def zLM(x y:D):Out D:=match x,y with
 |.int i,.int j=>guard (0<=j/\j<=1000000/\i.natAbs<2 ^ 64) (.ok (.int (i ^ j.toNat)))
 |_,_=>.bad
theorem zT7:OpS K (rI zZR λi j=>.int (i ^ j.toNat)) zLM:=λv u x y F H d Q s r1 r2 hf k=>by
 unfold zLM at hf
 split at hf
 ·obtain⟨hc,hf⟩:=zCW hf
  cases hf;(first|obtain rfl:=r1.vI|obtain rfl:=r1.vB|obtain rfl:=r1.vS|obtain rfl:=r1.vN|cases r1);(first|obtain rfl:=r2.vI|obtain rfl:=r2.vB|obtain rfl:=r2.vS|obtain rfl:=r2.vN|cases r2)
  exact⟨_,_,rfl,rfl,hc,k _ F H (.refl s) (.int _)⟩
 ·cases hf
theorem zON(ha:VE X a ga)(hb:VE X b gb):VE X (.BinOp a .Pow b pos) (g2 zLM ga gb):=zVE zV3 zT7 ha hb
noncomputable def zJT(x:D):Out D:=match x with
 |.int i=>.ok (.int (-i))
 |_=>.bad
theorem zT8:UnS K (rU λi=>.int (-i)) zJT:=λv x F H d Q s r hf k=>by
 unfold zJT at hf
 split at hf
 ·cases hf;(first|obtain rfl:=r.vI|obtain rfl:=r.vB|obtain rfl:=r.vS|obtain rfl:=r.vN|cases r)
  exact⟨_,rfl,k _ F H (.refl s) (.int _)⟩
 ·cases hf
theorem zML(ha:VE X a ga):VE X (.UnaryOp .USub a pos) (g1 zJT ga):=yA2 zV4 zT8 ha
theorem Reps.atI{vs:List V}{ds:List D}{i:Int}{d:D}(r:Reps K F vs ds)(h:L2.atI ds i=some d):∃v,L2.atI vs i=some v/\Rep K F v d:=by
 unfold L2.atI at h ⊢
 rw[r.length]
 cases q:ixN ds.length i with
 |none=>rw[q] at h;cases h
 |some j =>
  rw[q] at h
  obtain⟨v,h1,h2⟩:=r.get (show ds[j]?=some d from h)
  exact⟨v,h1,h2⟩
noncomputable def ixD(x y:D):Out D:=match x,y with
 |.lst ds,.int i=>match L2.atI ds i with
  |some d=>.ok d
  |none=>.bad
 |.tup ds,.int i=>match L2.atI ds i with
  |some d=>.ok d
  |none=>.bad
 |.str z,.int i=>few z.length (match L2.atI z.cps.toList i with
  |some c=>.ok (.str ⟨#[c]⟩)
  |none=>.bad)
 |x,y=>match zQ2 x y with
  |some (some d)=>.ok d
  |_=>.bad
def zKE:R2:=λx y H Q=>∃a v,x=.ref a/\zX1 H a y (some v)/\Q v H
theorem zT9(hu:X.A.units+64<cLine):IxR X zKE:=by
 intro value slice pins s σ H x y v u Q I rx ry h hs
 obtain⟨a,w,rfl,g,q⟩:=h
 cases rx
 refine tail_any (zJ0 I g) PySem.F.slot_dict_getitem.lookup (zNP (A:=X.A) (by lia) I g ry λw' s3 I3 rw'=>⟨w,H,I3,rw',q⟩) hs
theorem zW6:OpS K (λx y H Q=>rIx K x y H Q\/zKE x y H Q) ixD:=λv u x y F H d Q s r1 r2 hf k=>by
 have dic:(match zQ2 x y with|some (some d)=>Out.ok d|_=>.bad)=.ok d->zKE v u H Q:=λhh=>by
  split at hh
  ·rename_i d' eo
   cases hh
   obtain⟨a,ov,rfl,g,ro⟩:=Rep.dget s r1 r2 eo
   obtain⟨w,rfl,rw'⟩:=ro.some_of
   exact⟨a,w,rfl,g,k _ F H (.refl s) rw'⟩
  ·cases hh
 unfold ixD at hf
 split at hf
 ·split at hf
  ·rename_i d' e
   cases hf
   obtain⟨a,vs,rfl,h1,h2⟩:=r1.isRefL
   obtain⟨w,h3,h4⟩:=h2.atI e
   (first|obtain rfl:=r2.vI|obtain rfl:=r2.vB|obtain rfl:=r2.vS|obtain rfl:=r2.vN|cases r2)
   exact .inl (.inl ⟨a,vs,_,w,rfl,rfl,h1.imp s.rd id,h3,k _ F H (.refl s) h4⟩)
  ·cases hf
 ·split at hf
  ·rename_i d' e
   cases hf
   obtain⟨a,vs,rfl,h2,h1⟩:=r1.tupSq
   obtain⟨w,h3,h4⟩:=h2.atI e
   (first|obtain rfl:=r2.vI|obtain rfl:=r2.vB|obtain rfl:=r2.vS|obtain rfl:=r2.vN|cases r2)
   exact .inl (.inr (.inl ⟨a,vs,_,w,rfl,rfl,h1 F H (.refl _) s,h3,k _ F H (.refl s) h4⟩))
  ·cases hf
 ·obtain⟨hl,hf⟩:=zDN hf
  split at hf
  ·rename_i c e
   cases hf
   (first|obtain rfl:=r1.vI|obtain rfl:=r1.vB|obtain rfl:=r1.vS|obtain rfl:=r1.vN|cases r1);(first|obtain rfl:=r2.vI|obtain rfl:=r2.vB|obtain rfl:=r2.vS|obtain rfl:=r2.vN|cases r2)
   exact .inl (.inr (.inr ⟨_,_,c,rfl,rfl,le4 hl,e,k _ F H (.refl s) (.str _)⟩))
  ·cases hf
 ·exact .inr (dic hf)
theorem zCX(hu:X.A.units+64<cLine)(ha:VE X a ga)(hb:VE X b gb)(hs:zNL b:=by intro _ _;rfl):VE X (.Subscript a b pos) (g2 ixD ga gb):=(zYT (ix_seq.or (zT9 hu)) ha hb hs).imp λ_ _ _ h=>zQP zW6 h
noncomputable def zDW{α:Type}(xs:List α)(lo hi:Option Int):List α:=(xs.drop (HT.sIx xs.length 0 lo)).take (HT.sIx xs.length xs.length hi-HT.sIx xs.length 0 lo)
theorem Reps.cut{vs:List V}{ds:List D}(r:Reps K F vs ds)(lo hi:Option Int):Reps K F (zK2 vs lo hi) (zDW ds lo hi):=by
 unfold zK2 zDW
 rw[r.length]
 exact(r.drop _).take _
def yA8(K:PySem.W.Frag):V->Option Int->Option Int->Hp->VK->Prop:=λx lo hi H Q=>∃a xs,x=.ref a/\SqT K H a xs/\(zK2 xs lo hi=xs->Q (.ref a) H)/\∀p,H p=none->Q (.ref p) (upd H p (.tup (zK2 xs lo hi)))
theorem sl_tupX:SlR X (yA8 X.K):=by
 intro pins s σ H x v vl vu lo hi sl Q I rx hs pl pu h
 obtain⟨a,xs,rfl,hx,q1,q2⟩:=h
 by_cases hw:HT.sIx xs.length 0 lo=0/\HT.sIx xs.length xs.length hi=xs.length
 ·cases rx
  obtain⟨its,r,ht,hz⟩:=I.tuple hx
  have hlen:its.toArray.size=xs.length:=by rw[List.size_toArray];exact r.length.symm
  refine⟨"tuple",_,PyProof.Rows.slot_tuple_getitem.lookup,ht.typeIs,?_⟩
  exact zD9 ht hs pl pu (by rw[hlen];exact hw) ⟨.ref a,H,I,rfl,q1 (zN2 hw)⟩
 ·exact zWC pins s σ H (.ref a) v vl vu lo hi sl Q I rx hs pl pu ⟨a,xs,rfl,hx,hw,q2⟩
noncomputable def zF8:Option G->Ev->Out (Option Int×Ev)
 |none,E=>.ok (none,E)
 |some g,E=>(g E).bind λp=>match p.1 with|.int i=>.ok (some i,p.2)|_=>.bad
def tPt(K:PySem.W.Frag)(H₀:Hp)(g:Option G):TO:=λσ H Q=>∃τ F E o E',Sim K H₀ τ F H σ E/\zF8 g E=.ok (o,E')/\∀F' H',Stp (owA σ E) F H F' H' (owA σ E')->Sim K H₀ τ F' H' σ E'->Q o H'
theorem PO.imp{oe:Option Expr}{t t':TO}(h:PO X oe t)(hi:∀σ H Q,t' σ H Q->t σ H Q):PO X oe t':=λpins s σ H Q I q=>h pins s σ H Q I (hi σ H Q q)
abbrev VO(X:Cx)(oe:Option Expr)(g:Option G):Prop:=PO X oe (tPt X.K X.H₀ g)
theorem zC2:VO X none none:=po_none.imp λσ H Q h=>by
 obtain⟨τ,F,E,o,E',S,hg,k⟩:=h
 cases hg
 exact k F H .refl S
theorem zBK(h:VE X e ge):VO X (some e) (some ge):=(zS6 h).imp λσ H Q h=>by
 obtain⟨τ,F,E,o,E',S,hg,k⟩:=h
 obtain⟨p,ea,hg⟩:=Out.bind_ok hg
 refine⟨τ,F,E,p.1,p.2,S,ea,λv F1 H1 s1 S1 r1=>?_⟩
 split at hg
 ·rename_i i ei
  cases hg
  rw[ei] at r1
  (first|obtain rfl:=r1.vI|obtain rfl:=r1.vB|obtain rfl:=r1.vS|obtain rfl:=r1.vN|cases r1)
  exact⟨i,rfl,k F1 H1 s1 S1⟩
 ·cases hg
noncomputable def yAB(x:D)(lo hi:Option Int):Out D:=match x with
 |.tup ds=>.ok (.tup (zDW ds lo hi))
 |.lst ds=>.ok (.lst (zDW ds lo hi))
 |_=>.bad
noncomputable def zBM(g:G)(lo hi:Option G):G:=λE=>(g E).bind λp=>(zF8 lo p.2).bind λq=>(zF8 hi q.2).bind λr=>(yAB p.1 q.1 r.1).bind λd=>.ok (d,r.2)
theorem zB1{lo hi:Option Expr}{gl gh:Option G}{p2:Pos}(he:VE X e ge)(hl:VO X lo gl)(hh:VO X hi gh):VE X (.Subscript e (.Slice lo hi none p2) pos) (zBM ge gl gh):=(zP7 (sl_tupX.or zS7) he hl hh).imp λσ H Q h=>by
 obtain⟨τ,F,E,d,E',S,hg,k⟩:=h
 obtain⟨p,e1,hg⟩:=Out.bind_ok hg
 obtain⟨q,e2,hg⟩:=Out.bind_ok hg
 obtain⟨r,e3,hg⟩:=Out.bind_ok hg
 obtain⟨z,e4,hg⟩:=Out.bind_ok hg
 cases hg
 refine⟨τ,F,E,p.1,p.2,S,e1,λv F1 H1 s1 S1 r1=>⟨τ,F1,p.2,q.1,q.2,S1,e2,λF2 H2 s2 S2=>⟨τ,F2,q.2,r.1,r.2,S2,e3,λF3 H3 s3 S3=>?_⟩⟩⟩
 have r1':=(r1.le s2.le).le s3.le
 have st:=(s1.trans s2).trans s3
 unfold yAB at e4
 split at e4
 ·rename_i ds ed
  cases e4
  rw[ed] at r1'
  obtain⟨a,vs,rfl,h2,h1⟩:=r1'.tupSq
  refine .inl ⟨a,vs,rfl,h1 F3 H3 (.refl _) S3.sub,λz=>k _ F3 H3 st S3 ?_,λq' hq=>?_⟩
  ·have:zDW ds q.1 r.1=ds:=by
    have h5:=h2.cut q.1 r.1
    rw[z] at h5
    have h6:=h5.length
    have h7:=h2.length
    have h8:(zDW ds q.1 r.1).Sublist ds:=(List.take_sublist _ _).trans (List.drop_sublist _ _)
    exact h8.eq_of_length (by lia)
   rw[this];exact r1'
  ·have n:=New.laid (o:=.tup (zK2 vs q.1 r.1)) S3.sub hq
   exact k _ _ _ (st.trans n.stp) (S3.new n) (.tup zAN ((h2.cut q.1 r.1).le n.1.le))
 ·rename_i ds ed
  cases e4
  rw[ed] at r1'
  obtain⟨a,vs,rfl,h1,h2⟩:=r1'.isRefL
  refine .inr ⟨a,vs,rfl,h1.imp S3.sub.rd id,λq' hq=>?_⟩
  have n:=New.laid (o:=.lst (zK2 vs q.1 r.1)) S3.sub hq
  exact k _ _ _ (st.trans n.stp) (S3.new n) (.lst (.inl (.inl zAN)) ((h2.cut q.1 r.1).le n.1.le))
 ·cases e4
noncomputable def gN(f:List D->Out D)(gs:List G):G:=λE=>(zCM gs E).bind λp=>(f p.1).bind λd=>.ok (d,p.2)
def zFO(K:PySem.W.Frag)(r:List V->Hp->VK->Prop)(f:List D->Out D):Prop:=∀vs xs F H d Q,Sub F H->Reps K F vs xs->f xs=.ok d->(∀z F' H',New F H F' H'->Rep K F' z d->Q z H')->r vs H Q
def zOO(K:PySem.W.Frag)(r:List V->Hp->VK->Prop)(f:List D->Out D):Prop:=∀vs xs F H d Q,Sub F H->Reps K F vs xs->f xs=.ok d->(∀a F' H',New F H F' H'->F' a=none->H a=none->OwnAt K F' H' a d->Q (.ref a) H')->r vs H Q
theorem zW7{r:List V->Hp->VK->Prop}{f:List D->Out D}(hs:zFO K r f){σ:St}{Q:VK}(h:tV K H₀ (gN f gs) σ H Q):tCB r (tAr K H₀ gs) σ H Q:=by
 obtain⟨τ,F,E,d,E',S,hg,k⟩:=h
 obtain⟨p,e1,hg⟩:=Out.bind_ok hg
 obtain⟨z,e2,hg⟩:=Out.bind_ok hg
 cases hg
 exact⟨τ,F,E,p.1,p.2,S,e1,λvs F1 H1 s1 S1 r1=>hs vs p.1 F1 H1 d Q S1.sub r1 e2 λz F2 H2 n r2=>k z F2 H2 (s1.trans n.stp) (S1.new n) r2⟩
theorem zW8{r:List V->Hp->VK->Prop}{f:List D->Out D}(hs:zOO K r f){σ:St}{Q:VK}(h:tF K H₀ (gN f gs) σ H Q):tCB r (tAr K H₀ gs) σ H Q:=by
 obtain⟨τ,F,E,d,E',S,hg,k⟩:=h
 obtain⟨p,e1,hg⟩:=Out.bind_ok hg
 obtain⟨z,e2,hg⟩:=Out.bind_ok hg
 cases hg
 exact⟨τ,F,E,p.1,p.2,S,e1,λvs F1 H1 s1 S1 r1=>hs vs p.1 F1 H1 d Q S1.sub r1 e2 λa F2 H2 n h1 h2 h3=>k a F2 H2 (s1.trans n.stp) (S1.new n) h1 (s1.dom a h2) h3 (S1.fresh h2)⟩
theorem zMM{r:List V->Hp->VK->Prop}{f:List D->Out D}(hc:CallR X (.builtin id) r)(hs:zFO X.K r f)(hm:X.mg x=none)(hv:bootBuiltins x=some (.builtin id))(ha:VA X (e::es) gs)(hg:Gl X x:=by rfl)(hn:x≠"__name__":=by decide)(hdb:(x==("__debug__":Str))=false:=by decide)
  (he:starEach (e::es) X.env=(false,eval e X.env)::starEach es X.env:=by rfl) (hpl:(backTo pos (starEach es X.env)).any (·.1)=false:=by rfl):VE X (.Call (.Name x p) (e::es) [] pos) (gN f gs):=(zG0 hc hg hm hv ha hn hdb he hpl).imp λ_ _ _ h=>zW7 hs h
theorem zY5{r:List V->Hp->VK->Prop}{f:List D->Out D}(hc:CallR X (.builtin id) r)(hs:zOO X.K r f)(hm:X.mg x=none)(hv:bootBuiltins x=some (.builtin id))(ha:VA X (e::es) gs)(hg:Gl X x:=by rfl)(hn:x≠"__name__":=by decide)(hdb:(x==("__debug__":Str))=false:=by decide)
  (he:starEach (e::es) X.env=(false,eval e X.env)::starEach es X.env:=by rfl) (hpl:(backTo pos (starEach es X.env)).any (·.1)=false:=by rfl):FE X (.Call (.Name x p) (e::es) [] pos) (gN f gs):=(zG0 hc hg hm hv ha hn hdb he hpl).imp λ_ _ _ h=>zW8 hs h
theorem yAC{r:List V->Hp->VK->Prop}{f:List D->Out D}(hc:CallR X (.type T) r)(hs:zFO X.K r f)(hm:X.mg x=none)(hv:bootBuiltins x=some (.type T))(ha:VA X (e::es) gs)(hg:Gl X x:=by rfl)(hn:x≠"__name__":=by decide)(hdb:(x==("__debug__":Str))=false:=by decide)
  (he:starEach (e::es) X.env=(false,eval e X.env)::starEach es X.env:=by rfl) (hpl:(backTo pos (starEach es X.env)).any (·.1)=false:=by rfl):VE X (.Call (.Name x p) (e::es) [] pos) (gN f gs):=(zEK hc hg hm hv ha hn hdb he hpl).imp λ_ _ _ h=>zW7 hs h
theorem yA9{r:List V->Hp->VK->Prop}{f:List D->Out D}(hc:CallR X (.type T) r)(hs:zOO X.K r f)(hm:X.mg x=none)(hv:bootBuiltins x=some (.type T))(ha:VA X (e::es) gs)(hg:Gl X x:=by rfl)(hn:x≠"__name__":=by decide)(hdb:(x==("__debug__":Str))=false:=by decide)
  (he:starEach (e::es) X.env=(false,eval e X.env)::starEach es X.env:=by rfl) (hpl:(backTo pos (starEach es X.env)).any (·.1)=false:=by rfl):FE X (.Call (.Name x p) (e::es) [] pos) (gN f gs):=(zEK hc hg hm hv ha hn hdb he hpl).imp λ_ _ _ h=>zW8 hs h
end
noncomputable def leI(a b:Int):Bool:=decide (a<=b)
noncomputable def zMN(ns:List Int):List Int:=ns.mergeSort leI
theorem zMO(ns:List Int):(zMN ns).Perm ns:=List.mergeSort_perm _ _
theorem zQ6(ns:List Int):(zMN ns).Pairwise (·<=·):=by
 have:=List.pairwise_mergeSort (le:=leI) (λa b c h1 h2=>decide_eq_true (Int.le_trans (of_decide_eq_true h1) (of_decide_eq_true h2)))
  (λa b=>by unfold leI;rcases Int.le_total a b with h|h<;>simp[h]) ns
 exact this.imp λh=>of_decide_eq_true h
theorem zQ7{ms ns:List Int}(p:ms.Perm ns)(h:ms.Pairwise (·<=·)):ms=zMN ns :=
 List.Perm.eq_of_pairwise (le:=λa b:Int=>decide (a<=b)=true) (λa b _ _ h1 h2=>Int.le_antisymm (of_decide_eq_true h1) (of_decide_eq_true h2)) (h.imp λh=>decide_eq_true h) ((zQ6 ns).imp λh=>decide_eq_true h) (p.trans (zMO ns).symm)
noncomputable def leP(a b:Int×Int):Bool:=!ltP b a
noncomputable def zEW(ps:List (Int×Int)):List (Int×Int):=ps.mergeSort leP
theorem zHP{a b:Int×Int}:leP a b=true↔a.1<b.1\/(a.1=b.1/\a.2<=b.2):=by
 unfold leP ltP
 simp only[Bool.not_eq_true',decide_eq_false_iff_not]
 lia
theorem zEX(ps:List (Int×Int)):(zEW ps).Perm ps:=List.mergeSort_perm _ _
theorem zLN(ps:List (Int×Int)):(zEW ps).Pairwise (λa b=>leP a b=true) :=
 List.pairwise_mergeSort (λa b c h1 h2=>by rw[zHP] at *;lia) (λa b=>by
  have:leP a b=true\/leP b a=true:=by rw[zHP,zHP];lia
  simpa using this) ps
theorem zQ8{ms ns:List (Int×Int)}(p:ms.Perm ns)(h:ms.Pairwise (λa b=>leP a b=true)):ms=zEW ns :=
 List.Perm.eq_of_pairwise (le:=λa b=>leP a b=true) (λa b _ _ h1 h2=>by
  rw[zHP] at h1 h2
  exact Prod.ext (by lia) (by lia)) h (zLN ns) (p.trans (zEX ns).symm)
noncomputable def zBF(p:Int×Int):D:=.tup [.int p.1,.int p.2]
noncomputable def zEB:List D->Option (List (Int×Int))
 |[]=>some []
 |.tup [.int a,.int b]::ds=>(zEB ds).map ((a,b)::·)
 |_::_=>none
theorem zMP:∀{ds:List D} {ps:List (Int×Int)},zEB ds=some ps->ds=ps.map zBF:=by
 intro ds
 induction ds with
 |nil=>intro ps h;rw[zEB] at h;cases h;rfl
 |cons d ds ih =>
  intro ps h
  unfold zEB at h
  split at h
  ·rename_i e;cases e
  ·rename_i a b r e
   cases e
   obtain⟨q,h1,h2⟩:=Option.map_eq_some_iff.mp h
   subst h2
   rw[ih h1];rfl
  ·cases h
theorem zFP:∀ps:List (Int×Int),zEB (ps.map zBF)=some ps
 |[]=>rfl
 |p::ps=>by
  show(zEB (ps.map zBF)).map (λr=>(p.1,p.2)::r)=_
  rw[zFP ps];rfl
section
variable{X:Cx}{K:PySem.W.Frag}{H₀ F H:Hp}{a b c e tg:Expr}{es:List Expr}{ga gb gc ge:G}{gs:List G}{pos p:Pos}{x:Str}
theorem Reps.perm{zs ys:List V}(pm:zs.Perm ys):∀{ds:List D},Reps K F ys ds->∃es,es.Perm ds/\Reps K F zs es:=by
 induction pm with
 |nil=>intro ds r;(first|obtain rfl:=r.vI|obtain rfl:=r.vB|obtain rfl:=r.vS|obtain rfl:=r.vN|cases r);exact⟨[],List.Perm.refl _,.nil⟩
 |cons a _ ih =>
  intro ds r
  cases r with
  |cons h t =>
   obtain⟨qs,q,r'⟩:=ih t
   exact⟨_::qs,q.cons _,.cons h r'⟩
 |swap a b l =>
  intro ds r
  cases r with
  |cons h t =>
   cases t with
   |cons h' t'=>exact⟨_::_::_,List.Perm.swap _ _ _,.cons h' (.cons h t')⟩
 |trans _ _ ih1 ih2 =>
  intro ds r
  obtain⟨qs,q,r'⟩:=ih2 r
  obtain⟨us,q',r''⟩:=ih1 r'
  exact⟨us,q'.trans q,r''⟩
theorem zQ9{α β:Type}{f:α->β}:∀{l1 l2:List β} (p:l1.Perm l2) (ns:List α),l2=ns.map f->∃ms:List α,l1=ms.map f/\ms.Perm ns:=by
 intro l1 l2 p
 induction p with
 |nil=>intro ns e;cases ns with|nil=>exact⟨[],rfl,List.Perm.refl _⟩|cons _ _=>cases e
 |cons a _ ih =>
  intro ns e
  cases ns with
  |nil=>cases e
  |cons n ns =>
   injection e with e1 e2
   obtain⟨ms,h1,h2⟩:=ih ns e2
   exact⟨n::ms,by rw[List.map_cons,e1,h1],h2.cons n⟩
 |swap a b l =>
  intro ns e
  match ns,e with
  |c::d::ns,e =>
   injection e with e1 e2
   injection e2 with e2 e3
   exact⟨d::c::ns,by rw[List.map_cons,List.map_cons,e1,e2,e3],List.Perm.swap _ _ _⟩
 |trans _ _ ih1 ih2 =>
  intro ns e
  obtain⟨ms,h1,h2⟩:=ih2 ns e
  obtain⟨ks,h3,h4⟩:=ih1 ms h1
  exact⟨ks,h3,h4.trans h2⟩
theorem Reps.prs(s:Sub F H):∀{ps:List (Int×Int)} {ys:List V},Reps K F ys (ps.map zBF)->Prs H ys ps
 |[],_,.nil=>.nil
 |p::ps,_,.cons h r=>by
  refine .cons ?_ (Reps.prs s r)
  have h:Rep K F _ (.tup [.int p.1,.int p.2]):=h
  generalize hk:[D.int p.1,.int p.2]=kk at h
  cases h with
  |tup hb rb =>
   subst hk
   cases rb with
   |cons h1 rb =>
    cases rb with
    |cons h2 rb =>
     (first|obtain rfl:=rb.vI|obtain rfl:=rb.vB|obtain rfl:=rb.vS|obtain rfl:=rb.vN|cases rb);cases h1;cases h2
     exact⟨_,rfl,s _ _ hb⟩
  |@tupK a xs hb nb =>
   cases xs with
   |nil=>cases hk
   |cons x xs=>cases hk
theorem zOP(s:Sub F H):∀{ps qs:List (Int×Int)} {ys:List V},Prs H ys ps->Prs H ys qs->ps=qs
 |_,_,_,.nil,.nil=>rfl
 |_,_,_,.cons ⟨a,e1,h1⟩ t1,.cons ⟨b,e2,h2⟩ t2=>by
  rw[e1] at e2;cases e2
  rw[h1] at h2
  simp only[Option.some.injEq,HO.tup.injEq,List.cons.injEq,V.int.injEq,and_true] at h2
  rw[zOP s t1 t2,Prod.ext h2.1 h2.2]
noncomputable def zKF:List D->Out D
 |[.lst ds]=>match zBD ds with
  |some ns=>.ok (.lst ((zMN ns).map D.int))
  |none=>match zEB ds with
   |some ps=>.ok (.lst ((zEW ps).map zBF))
   |none=>.bad
 |_=>.bad
abbrev zUA(K:PySem.W.Frag):List V->Hp->VK->Prop:=λxs H Q=>(∃(l:Addr) (ns:List Int),xs=[.ref l]/\SqL K H l (ns.map V.int)/\∀(ms:List Int) (q:Addr),ms.Perm ns->ms.Pairwise (·<=·)->H q=none->Q (.ref q) (upd H q (.lst (ms.map V.int)))) \/
 (∃(l:Addr) (ys:List V) (ps:List (Int×Int)),xs=[.ref l]/\SqL K H l ys/\Prs H ys ps/\∀(zs:List V) (qs:List (Int×Int)) (q:Addr),zs.Perm ys->Prs H zs qs->qs.Perm ps->(qs.Pairwise λa b=>ltP b a=false)->H q=none->Q (.ref q) (upd H q (.lst zs)))
theorem zOQ:zOO K (zUA K) zKF:=λvs xs F H d Q s r hf k=>by
 unfold zKF at hf
 split at hf
 ·rename_i ds
  cases r with
  |cons r rr =>
   cases rr
   obtain⟨l,ys,rfl,h1,h2⟩:=r.isRefL
   split at hf
   ·rename_i ns en
    cases hf
    have:=zDU en
    subst this
    have:=h2.vint
    subst this
    refine .inl ⟨l,ns,rfl,h1.imp s.rd id,λms q pm pw hq=>?_⟩
    rw[zQ7 pm pw]
    have n:=New.junk (H':=upd H q (.lst ((zMN ns).map V.int))) s (Gr.new hq)
    exact k q F _ n (Sim.notF s hq) hq ⟨_,zAN,Reps.ints _⟩
   ·split at hf
    ·rename_i ps ep
     cases hf
     have:=zMP ep
     subst this
     refine .inr ⟨l,ys,ps,rfl,h1.imp s.rd id,h2.prs s,λzs qs q pz hqs pq pw hq=>?_⟩
     obtain⟨es,pe,re⟩:=Reps.perm pz h2
     obtain⟨qs',rfl,pq'⟩:=zQ9 pe ps rfl
     have:=zOP s (re.prs s) hqs
     subst this
     have:qs'=zEW ps:=zQ8 pq (pw.imp λh=>by unfold leP;rw[h];rfl)
     subst this
     have n:=New.junk (H':=upd H q (.lst zs)) s (Gr.new hq)
     exact k q F _ n (Sim.notF s hq) hq ⟨_,zAN,re⟩
    ·cases hf
 ·cases hf
theorem zRA(hm:X.mg "sorted"=none)(ha:VA X (e::es) gs)(hg:Gl X "sorted":=by rfl)(he:starEach (e::es) X.env=(false,eval e X.env)::starEach es X.env:=by rfl)(hpl:(backTo pos (starEach es X.env)).any (·.1)=false:=by rfl) :
  FE X (.Call (.Name "sorted" p) (e::es) [] pos) (gN zKF gs):=zY5 (call_sortedIO.or zHD) zOQ hm (by decide +kernel) ha hg (by decide) (by decide) he hpl
theorem zMQ:CallR X (.builtin "len") (λxs H Q=>∃a kvs,xs=[V.ref a]/\Rd H a (.dT kvs)/\Q (.int kvs.length) H):=by
 intro pins s σ H xs us Q I r h
 obtain⟨a,kvs,rfl,ha,q⟩:=h
 obtain⟨u,rfl,ru⟩:=zD8 r
 cases ru
 obtain⟨es,ep,rw',e1,e2,_⟩:=zGI (ha.ok I.hok)
 have:=zE2
 refine zTI rw' (by rw[sizeLine_eq] at e2;lia) λt tk=>⟨.int kvs.length,H,I.tok tk,⟨t,by rw[e1]⟩,q⟩
theorem call_lenKR:CallR X (.builtin "len") (λxs H Q=>∃a kvs,xs=[V.ref a]/\Rd H a (.dK kvs)/\Q (.int kvs.length) H):=by
 intro pins s σ H xs us Q I r h
 obtain⟨a,kvs,rfl,ha,q⟩:=h
 obtain⟨u,rfl,ru⟩:=zD8 r
 cases ru
 exact zYX I ha λt s' I'=>⟨.int kvs.length,H,I',⟨t,rfl⟩,q⟩
noncomputable def zDS:List D->Out D
 |[.lst ds]=>.ok (.int ds.length)
 |[.tup ds]=>.ok (.int ds.length)
 |[.str z]=>few z.length (.ok (.int z.length))
 |[.dk kvs]=>.ok (.int kvs.length)
 |[.dt kvs]=>.ok (.int kvs.length)
 |_=>.bad
abbrev zY6(K:PySem.W.Frag):List V->Hp->VK->Prop:=λxs H Q=>(∃p ys,xs=[.ref p]/\(SqL K H p ys\/SqT K H p ys)/\Q (.int ys.length) H)\/(∃z,xs=[.str z]/\z.length<=sizeLine/\Q (.int z.length) H) \/
 (∃a kvs,xs=[V.ref a]/\Rd H a (.dK kvs)/\Q (.int kvs.length) H)\/(∃a kvs,xs=[V.ref a]/\Rd H a (.dT kvs)/\Q (.int kvs.length) H)
theorem zW9:zFO K (zY6 K) zDS:=λvs xs F H d Q s r hf k=>by
 unfold zDS at hf
 split at hf
 ·cases hf
  cases r with
  |cons r rr =>
   cases rr
   obtain⟨l,ys,rfl,h1,h2⟩:=r.isRefL
   exact .inl ⟨l,ys,rfl,.inl (h1.imp s.rd id),by rw[h2.length];exact k _ F H (.refl s) (.int _)⟩
 ·cases hf
  cases r with
  |cons r rr =>
   cases rr
   obtain⟨l,ys,rfl,h2,h1⟩:=r.tupSq
   exact .inl ⟨l,ys,rfl,.inr (h1 F H (.refl _) s),by rw[h2.length];exact k _ F H (.refl s) (.int _)⟩
 ·obtain⟨hl,hf⟩:=zDN hf
  cases hf
  cases r with
  |cons r rr =>
   cases rr;(first|obtain rfl:=r.vI|obtain rfl:=r.vB|obtain rfl:=r.vS|obtain rfl:=r.vN|cases r)
   exact .inr (.inl ⟨_,rfl,le4 hl,k _ F H (.refl s) (.int _)⟩)
 ·cases hf
  cases r with
  |cons r rr =>
   cases rr
   cases r with
   |dk h1 h2=>exact .inr (.inr (.inl ⟨_,_,rfl,s.rd h1,by rw[h2.length];exact k _ F H (.refl s) (.int _)⟩))
 ·cases hf
  cases r with
  |cons r rr =>
   cases rr
   cases r with
   |dt h1 h2=>exact .inr (.inr (.inr ⟨_,_,rfl,s.rd h1,by rw[h2.length];exact k _ F H (.refl s) (.int _)⟩))
 ·cases hf
theorem zE9(hm:X.mg "len"=none)(ha:VA X (e::es) gs)(hg:Gl X "len":=by rfl)(he:starEach (e::es) X.env=(false,eval e X.env)::starEach es X.env:=by rfl)(hpl:(backTo pos (starEach es X.env)).any (·.1)=false:=by rfl) :
  VE X (.Call (.Name "len" p) (e::es) [] pos) (gN zDS gs):=zMM (call_len_seq.or (call_len_str.or (call_lenKR.or zMQ))) zW9 hm (by decide +kernel) ha hg (by decide) (by decide) he hpl
def zSF:List V->Hp->VK->Prop:=λxs H Q=>∃(d:Addr) (kvs:List (Key×V)),xs=[.ref d]/\Rd H d (.dK kvs)/\∀q,H q=none->Q (.ref q) (upd H q (.lst (kvs.map λkv=>kV kv.1)))
theorem zI8:∀(ks:List Key) (us:List Value),us.length=ks.length->(∀(i:Nat) v,us[i]?=some v->∃k,ks[i]?=some k/\RelV (kV k) v)->Vals (ks.map kV) us
 |[],[],_,_=>.nil
 |k::ks,u::us,hl,h=>by
  obtain⟨n,e1,e2⟩:=h 0 u rfl
  have e3:k=n:=by simpa using e1
  subst e3
  exact .cons e2 (zI8 ks us (by simpa using hl) λi v hv=>h (i+1) v (by simpa using hv))
 |[],_::_,hl,_=>by simp at hl
 |_::_,[],hl,_=>by simp at hl
theorem zMR(hc:X.calm=true):CallR X (.type "list") zSF:=by
 intro pins s σ H xs us Q I r h
 obtain⟨d,kvs,rfl,hd,q⟩:=h
 obtain⟨u,rfl,ru⟩:=zD8 r
 cases ru
 obtain⟨z,lo,vs,rel,dd⟩:=zNN I.hok hd
 obtain⟨ep,da⟩:=dd.dictAt
 have hl0:kvs.length=vs.length:=rel.length
 refine PySem.W.kdl_call (PySem.W.kdl_dict (knd:=zBN X.prog X.w) (kvs:=vs) (ep:=ep) lo) (I.ok.hd hc) da (by lia) λh' tk acc c' hk hS hI=>?_
 obtain⟨hz,hi⟩:=hI
 have rv:Vals (kvs.map λkv=>kV kv.1) acc.toList:=by
  have:=zI8 (kvs.map (·.1)) acc.toList (by simp;lia) λi v hv=>by
   obtain⟨k,xx,e1,e2⟩:=hi i v (by rw[<-Array.getElem?_toList];exact hv)
   refine⟨k,by rw[rel.keys,List.getElem?_map,e1];rfl,?_⟩
   rw[zGD] at e2
   rcases zA2 e2 with⟨j,t,z1,z2⟩|⟨y,t,z1,z2⟩
   ·rw[z1,z2];exact⟨t,rfl⟩
   ·rw[z1,z2];exact⟨t,rfl⟩
  rw[List.map_map] at this
  exact this
 refine⟨.ref s.heap.objs.size,_,I.laid (o:=.lst (kvs.map λkv=>kV kv.1)) hk (Nat.le_refl _) ⟨?_,acc.toList,c',rv,by simpa using hS⟩,rfl,q _ I.fresh⟩
 rw[List.length_map];exact z
noncomputable def zVF:Key->D
 |.inl i=>.int i
 |.inr x=>.str x
theorem zOR(k:Key):Rep K F (kV k) (zVF k):=by
 cases k with
 |inl i=>exact .int i
 |inr x=>exact .str x
theorem RepK.keys:∀{vs:List (Key×V)} {ds:List (Key×D)},RepK K F vs ds->Reps K F (vs.map λkv=>kV kv.1) (ds.map λkv=>zVF kv.1)
 |_,_,.nil=>.nil
 |_,_,.cons (k:=k) _ r=>.cons (zOR k) (RepK.keys r)
noncomputable def zI9:List D->Out D
 |[.lst ds]=>.ok (.lst ds)
 |[.tup ds]=>.ok (.lst ds)
 |[.dk kvs]=>.ok (.lst (kvs.map λkv=>zVF kv.1))
 |_=>.bad
abbrev zXA(K:PySem.W.Frag):List V->Hp->VK->Prop:=λxs H Q=>(∃p ys,xs=[.ref p]/\(SqL K H p ys\/SqT K H p ys)/\∀l,H l=none->Q (.ref l) (upd H l (.lst ys)))\/zSF xs H Q
theorem zUB:zOO K (zXA K) zI9:=λvs xs F H d Q s r hf k=>by
 unfold zI9 at hf
 split at hf
 ·cases hf
  cases r with
  |cons r rr =>
   cases rr
   obtain⟨l,ys,rfl,h1,h2⟩:=r.isRefL
   exact .inl ⟨l,ys,rfl,.inl (h1.imp s.rd id),λq hq=>k q F _ (New.junk s (Gr.new hq)) (Sim.notF s hq) hq ⟨_,zAN,h2⟩⟩
 ·cases hf
  cases r with
  |cons r rr =>
   cases rr
   obtain⟨l,ys,rfl,h2,h1⟩:=r.tupSq
   exact .inl ⟨l,ys,rfl,.inr (h1 F H (.refl _) s),λq hq=>k q F _ (New.junk s (Gr.new hq)) (Sim.notF s hq) hq ⟨_,zAN,h2⟩⟩
 ·cases hf
  cases r with
  |cons r rr =>
   cases rr
   cases r with
   |dk h1 h2=>exact .inr ⟨_,_,rfl,s.rd h1,λq hq=>k q F _ (New.junk s (Gr.new hq)) (Sim.notF s hq) hq ⟨_,zAN,h2.keys⟩⟩
 ·cases hf
theorem zOS(hc:X.calm=true)(hm:X.mg "list"=none)(ha:VA X (e::es) gs)(hg:Gl X "list":=by rfl)(he:starEach (e::es) X.env=(false,eval e X.env)::starEach es X.env:=by rfl)(hpl:(backTo pos (starEach es X.env)).any (·.1)=false:=by rfl) :
  FE X (.Call (.Name "list" p) (e::es) [] pos) (gN zI9 gs):=yA9 (call_list_of.or (zMR hc)) zUB hm (by decide +kernel) ha hg (by decide) (by decide) he hpl
noncomputable def zVG:List D->Out D
 |[.lst ds]=>.ok (.tup ds)
 |[.tup ds]=>.ok (.tup ds)
 |_=>.bad
theorem zXB:zFO K (λxs H Q=>∃p ys,xs=[.ref p]/\((SqL K H p ys/\∀l,H l=none->Q (.ref l) (upd H l (.tup ys)))\/(SqT K H p ys/\Q (.ref p) H))) zVG:=λvs xs F H d Q s r hf k=>by
 unfold zVG at hf
 split at hf
 ·cases hf
  cases r with
  |cons r rr =>
   cases rr
   obtain⟨l,ys,rfl,h1,h2⟩:=r.isRefL
   refine⟨l,ys,rfl,.inl ⟨h1.imp s.rd id,λq hq=>?_⟩⟩
   have n:=New.laid (o:=.tup ys) s hq
   exact k _ _ _ n (.tup zAN (h2.le n.1.le))
 ·cases hf
  cases r with
  |cons r rr =>
   cases rr
   obtain⟨l,ys,rfl,h2,h1⟩:=r.tupSq
   exact⟨l,ys,rfl,.inr ⟨h1 F H (.refl _) s,k _ F H (.refl s) r⟩⟩
 ·cases hf
theorem zKG(hm:X.mg "tuple"=none)(ha:VA X (e::es) gs)(hg:Gl X "tuple":=by rfl)(he:starEach (e::es) X.env=(false,eval e X.env)::starEach es X.env:=by rfl)(hpl:(backTo pos (starEach es X.env)).any (·.1)=false:=by rfl) :
  VE X (.Call (.Name "tuple" p) (e::es) [] pos) (gN zVG gs):=yAC zG4 zXB hm (by decide +kernel) ha hg (by decide) (by decide) he hpl
noncomputable def zHQ:List D->Option (List Bool)
 |[]=>some []
 |.bl b::ds=>(zHQ ds).map (b::·)
 |_::_=>none
theorem zRB:∀{ds:List D} {bs:List Bool},zHQ ds=some bs->ds=bs.map D.bl:=by
 intro ds
 induction ds with
 |nil=>intro bs h;rw[zHQ] at h;cases h;rfl
 |cons d ds ih =>
  intro bs h
  cases d with
  |bl b =>
   rw[zHQ] at h
   obtain⟨r,h1,h2⟩:=Option.map_eq_some_iff.mp h
   subst h2
   rw[ih h1];rfl
  |_=>simp[zHQ] at h
theorem zJA:∀bs:List Bool,zHQ (bs.map D.bl)=some bs
 |[]=>rfl
 |b::bs=>by rw[List.map_cons,zHQ,zJA bs];rfl
noncomputable def zRC:List D->Out D
 |[.lst ds]=>match zHQ ds with
  |some bs=>.ok (.bl (bs.all id))
  |none=>.bad
 |_=>.bad
theorem zXC:zFO K (zZ0 K) zRC:=λvs xs F H d Q s r hf k=>by
 unfold zRC at hf
 split at hf
 ·split at hf
  ·rename_i bs eb
   cases hf
   have:=zRB eb
   subst this
   cases r with
   |cons r rr =>
    cases rr
    obtain⟨l,ys,rfl,h1,h2⟩:=r.isRefL
    have:=h2.vbl
    subst this
    exact⟨l,bs,rfl,h1.imp s.rd id,k _ F H (.refl s) (.bl _)⟩
  ·cases hf
 ·cases hf
theorem zUC(hc:X.calm=true)(hm:X.mg "all"=none)(ha:VA X (e::es) gs)(hg:Gl X "all":=by rfl)(he:starEach (e::es) X.env=(false,eval e X.env)::starEach es X.env:=by rfl)(hpl:(backTo pos (starEach es X.env)).any (·.1)=false:=by rfl) :
  VE X (.Call (.Name "all" p) (e::es) [] pos) (gN zRC gs):=zMM (zQK hc) zXC hm (by decide +kernel) ha hg (by decide) (by decide) he hpl
noncomputable def zHR:List D->Out D
 |[.int i,.int j]=>.ok (.int (if j<i then j else i))
 |_=>.bad
noncomputable def zKH:List D->Out D
 |[.int i,.int j]=>.ok (.int (if j>i then j else i))
 |_=>.bad
theorem zUD:zFO K (λxs H Q=>∃i j,xs=[.int i,.int j]/\Q (.int (if j<i then j else i)) H) zHR:=λvs xs F H d Q s r hf k=>by
 unfold zHR at hf
 split at hf
 ·cases hf
  cases r with
  |cons r rr=>cases rr with
   |cons r' rr=>cases rr;(first|obtain rfl:=r.vI|obtain rfl:=r.vB|obtain rfl:=r.vS|obtain rfl:=r.vN|cases r);(first|obtain rfl:=r'.vI|obtain rfl:=r'.vB|obtain rfl:=r'.vS|obtain rfl:=r'.vN|cases r');exact⟨_,_,rfl,k _ F H (.refl s) (.int _)⟩
 ·cases hf
theorem zUE:zFO K (λxs H Q=>∃i j,xs=[.int i,.int j]/\Q (.int (if j>i then j else i)) H) zKH:=λvs xs F H d Q s r hf k=>by
 unfold zKH at hf
 split at hf
 ·cases hf
  cases r with
  |cons r rr=>cases rr with
   |cons r' rr=>cases rr;(first|obtain rfl:=r.vI|obtain rfl:=r.vB|obtain rfl:=r.vS|obtain rfl:=r.vN|cases r);(first|obtain rfl:=r'.vI|obtain rfl:=r'.vB|obtain rfl:=r'.vS|obtain rfl:=r'.vN|cases r');exact⟨_,_,rfl,k _ F H (.refl s) (.int _)⟩
 ·cases hf
theorem zSG(hc:X.calm=true)(hm:X.mg "min"=none)(ha:VA X (e::es) gs)(hg:Gl X "min":=by rfl)(he:starEach (e::es) X.env=(false,eval e X.env)::starEach es X.env:=by rfl)(hpl:(backTo pos (starEach es X.env)).any (·.1)=false:=by rfl) :
  VE X (.Call (.Name "min" p) (e::es) [] pos) (gN zHR gs):=zMM (zNE hc) zUD hm (by decide +kernel) ha hg (by decide) (by decide) he hpl
theorem zXD(hc:X.calm=true)(hm:X.mg "max"=none)(ha:VA X (e::es) gs)(hg:Gl X "max":=by rfl)(he:starEach (e::es) X.env=(false,eval e X.env)::starEach es X.env:=by rfl)(hpl:(backTo pos (starEach es X.env)).any (·.1)=false:=by rfl) :
  VE X (.Call (.Name "max" p) (e::es) [] pos) (gN zKH gs):=zMM (zND hc) zUE hm (by decide +kernel) ha hg (by decide) (by decide) he hpl
end
section
variable{X:Cx}{K:PySem.W.Frag}{H₀ F H:Hp}{τ:Addr}{σ:St}{E:Ev}{a b c e tg:Expr}{es:List Expr}{ga gb gc ge:G}{gs:List G}{pos p:Pos}{x:Str}
theorem Sim.setO{i:Nat}{t:Bool}{d d':D}{ad:Addr}{o:HO}(S:Sim K H₀ τ F H σ E)(e:E[i]?=some (.own t d))(ea:σ[i]?=some (some (.ref ad)))(h:OwnAt K F (upd H ad o) ad d') :
  Sim K H₀ τ F (upd H ad o) σ (E.set i (.own t d'))/\Stp (owA σ E) F H F (upd H ad o) (owA σ (E.set i (.own t d'))):=by
 obtain⟨a',a1,a2,a3,a4,a5⟩:=S.own i t d e
 rw[ea] at a1;cases a1
 have hi:i<E.length:=(List.getElem?_eq_some_iff.mp e).1
 have ow:owA σ E ad:=⟨i,t,d,e,ea⟩
 have old:∀(j:Nat) t' x,(E.set i (.own t d'))[j]?=some (.own t' x)->(j=i/\t'=t/\x=d')\/(j≠i/\E[j]?=some (.own t' x)):=λj t' x z=>by
  by_cases hj:i=j
  ·subst hj;rw[List.getElem?_set_self hi] at z;cases z;exact .inl ⟨rfl,rfl,rfl⟩
  ·rw[List.getElem?_set_ne hj] at z;exact .inr ⟨Ne.symm hj,z⟩
 have inE:∀(j:Nat) t' x,(E.set i (.own t d'))[j]?=some (.own t' x)->∃t'' x',E[j]?=some (.own t'' x'):=λj t' x z=>by
  rcases old j t' x z with⟨rfl,_,_⟩|⟨_,z⟩
  ·exact⟨_,_,e⟩
  ·exact⟨_,_,z⟩
 refine⟨⟨λb u z=>?_,by rw[List.length_set];exact S.len,λj x z=>?_,λj t' x z=>?_,λj l t1 t2 x y b z1 z2=>?_⟩,⟨λb u z _ n ho=>?_,λb z=>?_,.refl _,λb u z=>.inl (by rw[z];exact nofun),λb ⟨j,t',x,z1,z2⟩=>?_⟩⟩
 ·have:b≠ad:=λy=>by rw[y,a2] at z;cases z
  rw[zAL this];exact S.sub b u z
 ·by_cases hj:i=j
  ·subst hj;rw[List.getElem?_set_self hi] at z;cases z
  ·rw[List.getElem?_set_ne hj] at z;exact S.val j x z
 ·rcases old j t' x z with⟨rfl,rfl,rfl⟩|⟨hj,z⟩
  ·exact⟨ad,ea,a2,h,a4,a5⟩
  ·obtain⟨c,c1,c2,c3,c4⟩:=S.own j t' x z
   have hc:c≠ad:=λy=>hj (S.inj j i t' t x d ad z e (by rw[c1,y]) ea)
   exact⟨c,c1,c2,c3.mono (.refl _) (zAL hc),c4⟩
 ·obtain⟨_,_,w1⟩:=inE j _ _ z1
  obtain⟨_,_,w2⟩:=inE l _ _ z2
  exact S.inj j l _ _ _ _ b w1 w2
 ·rw[zAL (λy=>ho (by rw[y];exact ow))];exact z
 ·by_cases hb:b=ad
  ·rw[hb,zAN] at z;cases z
  ·rw[zAL hb] at z;exact z
 ·obtain⟨t'',x',w⟩:=inE j t' x z1
  exact .inl ⟨j,t'',x',w,z2⟩
def zY7(K:PySem.W.Frag)(r:V->List V->Hp->VK->Prop)(f:List D->List D->Out (D×List D)):Prop:=∀(F H:Hp) (l:Addr) vs ds args xs d ds' Q,Sub F H->H l=some (.lst vs)->Reps K F vs ds->Reps K F args xs->f ds xs=.ok (d,ds') ->
 (∀y vs',Rep K F y d->Reps K F vs' ds'->Q y (upd H l (.lst vs')))->r (.ref l) args H Q
noncomputable def zFQ(i:Nat)(f:List D->List D->Out (D×List D))(gs:List G):G:=λE=>match E[i]? with
 |some (.own _ (.lst _))=>(zCM gs E).bind λp=>match p.2[i]? with
  |some (.own t (.lst ds))=>(f ds p.1).bind λq=>.ok (q.1,p.2.set i (.own t (.lst q.2)))
  |_=>.bad
 |_=>.bad
theorem zXE{i:Nat}{r:V->List V->Hp->VK->Prop}{f:List D->List D->Out (D×List D)}(hs:zY7 K r f){Q:VK}(h:tV K H₀ (zFQ i f gs) σ H Q) :
  ∃v,σ[i]?=some (some v)/\tyV K "list" v H/\tAr K H₀ gs σ H λxs H2=>r v xs H2 Q:=by
 obtain⟨τ,F,E,d,E',S,hg,k⟩:=h
 unfold zFQ at hg
 split at hg
 ·rename_i t0 ds0 e0
  obtain⟨p,e1,hg⟩:=Out.bind_ok hg
  split at hg
  ·rename_i t ds e2
   obtain⟨q,e3,hg⟩:=Out.bind_ok hg
   cases hg
   obtain⟨ad,a1,a2,⟨vs0,a3,_⟩,_⟩:=S.own i _ _ e0
   refine⟨_,a1,.inl ⟨rfl,vs0,SqL.of a3⟩,τ,F,E,p.1,p.2,S,e1,λargs F1 H1 s1 S1 r1=>?_⟩
   obtain⟨ad',b1,b2,⟨vs,b3,b4⟩,_⟩:=S1.own i _ _ e2
   rw[a1] at b1;cases b1
   refine hs F1 H1 ad vs ds args p.1 q.1 q.2 Q S1.sub b3 b4 r1 e3 λy vs' ry rvs=>?_
   obtain⟨S2,s2⟩:=S1.setO (o:=.lst vs') (d':=.lst q.2) e2 a1 ⟨vs',zAN,rvs⟩
   exact k y F1 _ (s1.trans s2) S2 ry
  ·cases hg
 ·cases hg
variable{apos cpos:Pos}{xn:Str}{q:Pos}
noncomputable def zUF(ds xs:List D):Out (D×List D):=match xs with
 |[d]=>few ds.length (.ok (.non,ds++[d]))
 |_=>.bad
theorem zOT:zY7 K zNM zUF:=λF H l vs ds args xs d ds' Q s h r ra hf k=>by
 unfold zUF at hf
 split at hf
 ·obtain⟨hl,hf⟩:=zDN hf
  cases hf
  cases ra with
  |cons r1 rr =>
   cases rr
   exact⟨l,vs,_,rfl,rfl,h,by rw[r.length];exact zFK hl,k _ _ .non (r.append (.cons r1 .nil))⟩
 ·cases hf
noncomputable def yBE(ds xs:List D):Out (D×List D):=match xs with
 |[]=>match ds[ds.length-1]? with
  |some d=>.ok (d,ds.dropLast)
  |none=>.bad
 |_=>.bad
noncomputable def zE5(ds xs:List D):Out (D×List D):=match xs with
 |[.int i]=>guard (0<=i/\i<ds.length/\ds.length<10000) (match ds[i.toNat]? with
  |some d=>.ok (d,ds.eraseIdx i.toNat)
  |none=>.bad)
 |_=>.bad
theorem zRD:zY7 K zR4 zE5:=λF H l vs ds args xs d ds' Q s h r ra hf k=>by
 unfold zE5 at hf
 split at hf
 ·rename_i i
  obtain⟨⟨g1,g2,g3⟩,hf⟩:=zCW hf
  split at hf
  ·rename_i d' e
   cases hf
   cases ra with
   |cons r1 rr =>
    cases rr;(first|obtain rfl:=r1.vI|obtain rfl:=r1.vB|obtain rfl:=r1.vS|obtain rfl:=r1.vN|cases r1)
    obtain⟨v,h1,h2⟩:=r.get e
    exact⟨l,vs,i,i.toNat,v,rfl,rfl,h,by omega,by omega,by rw[r.length];exact seqIndex_of g1 g2,h1,k _ _ h2 (r.eraseIdx _)⟩
  ·cases hf
 ·cases hf
theorem zRE(i:Nat)(ha:VA X [e] gs)(hN:X.N[i]?=some xn:=by rfl)(hv:Vis X.env.scope xn:=by first|exact Or.inl rfl|exact Or.inr (Or.inl rfl)|exact Or.inr (Or.inr rfl))(hd:(xn==("__debug__":Str))=false:=by decide)(hcd:(xn==("__classdict__":Str))=false:=by decide)
  (hbase:attributeBase (.Name xn q) "append" X.env (eval (.Name xn q) X.env)=eval (.Name xn q) X.env:=by rfl)
  (hfew:((backTo cpos (starEach [e] X.env)).all (λx=>!x.1)&&(backToKw cpos (keywordEach [] X.env)).all (λx=>x.1.isSome)
   && decide ([e].length+([]:List Keyword).length+(if([]:List Keyword).isEmpty then 0 else 1)<30))=true:=by rfl)
  (hline:(apos.endLine==cpos.line)=true:=by rfl) (hs:starEach [e] X.env=(false,eval e X.env)::starEach [] X.env:=by rfl) (hplain:(backTo cpos (starEach [] X.env)).any (·.1)=false:=by rfl) :
  VE X (.Call (.Attribute (.Name xn q) "append" apos) [e] [] cpos) (zFQ i zUF gs) :=
 (zWF PySem.F.plainAttrs_list PySem.F.slot_list_append PySem.F.type_list_append zIK (zGE hN hv hd hcd) ha hbase hfew hline hs hplain).imp λσ H Q h=>zXE zOT h
theorem zUG(i:Nat)(ha:VA X [e] gs)(hN:X.N[i]?=some xn:=by rfl)(hv:Vis X.env.scope xn:=by first|exact Or.inl rfl|exact Or.inr (Or.inl rfl)|exact Or.inr (Or.inr rfl))(hd:(xn==("__debug__":Str))=false:=by decide)(hcd:(xn==("__classdict__":Str))=false:=by decide)
  (hbase:attributeBase (.Name xn q) "pop" X.env (eval (.Name xn q) X.env)=eval (.Name xn q) X.env:=by rfl)
  (hfew:((backTo cpos (starEach [e] X.env)).all (λx=>!x.1)&&(backToKw cpos (keywordEach [] X.env)).all (λx=>x.1.isSome)
   && decide ([e].length+([]:List Keyword).length+(if([]:List Keyword).isEmpty then 0 else 1)<30))=true:=by rfl)
  (hline:(apos.endLine==cpos.line)=true:=by rfl) (hs:starEach [e] X.env=(false,eval e X.env)::starEach [] X.env:=by rfl) (hplain:(backTo cpos (starEach [] X.env)).any (·.1)=false:=by rfl) :
  VE X (.Call (.Attribute (.Name xn q) "pop" apos) [e] [] cpos) (zFQ i zE5 gs) :=
 (zWF PySem.F.plainAttrs_list PySem.F.slot_list_pop PySem.F.type_list_pop zP9 (zGE hN hv hd hcd) ha hbase hfew hline hs hplain).imp λσ H Q h=>zXE zRD h
theorem RepK.put(k:Key){v:V}{d:D}{vs:List (Key×V)}{ds:List (Key×D)}(r:RepK K F vs ds)(h:Rep K F v d):RepK K F (zJQ vs k v) (zLH ds k d):=by
 have any:∀{vs:List (Key×V)} {ds:List (Key×D)},RepK K F vs ds->(vs.any λkv=>decide (kv.1=k))=(ds.any λkv=>decide (kv.1=k)):=by
  intro vs ds r
  induction vs generalizing ds with
  |nil=>(first|obtain rfl:=r.vI|obtain rfl:=r.vB|obtain rfl:=r.vS|obtain rfl:=r.vN|cases r);rfl
  |cons x xs ih=>cases r with|cons h r=>rw[List.any_cons,List.any_cons,ih r]
 have mp:∀{vs:List (Key×V)} {ds:List (Key×D)},RepK K F vs ds->RepK K F (vs.map λkv=>if kv.1=k then(kv.1,v) else kv) (ds.map λkv=>if kv.1=k then(kv.1,d) else kv):=by
  intro vs ds r
  induction vs generalizing ds with
  |nil=>(first|obtain rfl:=r.vI|obtain rfl:=r.vB|obtain rfl:=r.vS|obtain rfl:=r.vN|cases r);exact .nil
  |cons x xs ih =>
   cases r with
   |@cons k' v' d' _ _ h' r =>
    rw[List.map_cons,List.map_cons]
    by_cases e:k'=k
    ·simp only[e,if_true];exact .cons h (ih r)
    ·simp only[e,if_false];exact .cons h' (ih r)
 have ap:∀{vs:List (Key×V)} {ds:List (Key×D)},RepK K F vs ds->RepK K F (vs++[(k,v)]) (ds++[(k,d)]):=by
  intro vs ds r
  induction vs generalizing ds with
  |nil=>(first|obtain rfl:=r.vI|obtain rfl:=r.vB|obtain rfl:=r.vS|obtain rfl:=r.vN|cases r);exact .cons h .nil
  |cons x xs ih=>cases r with|cons h' r=>exact .cons h' (ih r)
 unfold zJQ zLH
 rw[any r]
 split
 ·exact mp r
 ·exact ap r
theorem RepT.put(k:List Int){v:V}{d:D}{vs:List (List Key×V)}{ds:List (List Int×D)}(r:RepT K F vs ds)(h:Rep K F v d):RepT K F (zJQ vs (k.map Sum.inl) v) (zLH ds k d):=by
 have dec:∀k':List Int,decide (k'.map (Sum.inl:Int->Key)=k.map Sum.inl)=decide (k'=k):=λk'=>by
  by_cases e:k'=k
  ·simp[e]
  ·have e':¬k'.map (Sum.inl:Int->Key)=k.map Sum.inl:=λz=>e (zHO z)
   simp[e,e']
 have any:∀{vs:List (List Key×V)} {ds:List (List Int×D)},RepT K F vs ds->(vs.any λkv=>decide (kv.1=k.map Sum.inl))=(ds.any λkv=>decide (kv.1=k)):=by
  intro vs ds r
  induction vs generalizing ds with
  |nil=>(first|obtain rfl:=r.vI|obtain rfl:=r.vB|obtain rfl:=r.vS|obtain rfl:=r.vN|cases r);rfl
  |cons x xs ih=>cases r with|@cons k' _ _ _ _ h r=>rw[List.any_cons,List.any_cons,ih r];show(decide _||_)=(decide _||_);rw[dec k']
 have mp:∀{vs:List (List Key×V)} {ds:List (List Int×D)},RepT K F vs ds->RepT K F (vs.map λkv=>if kv.1=k.map Sum.inl then(kv.1,v) else kv) (ds.map λkv=>if kv.1=k then(kv.1,d) else kv):=by
  intro vs ds r
  induction vs generalizing ds with
  |nil=>(first|obtain rfl:=r.vI|obtain rfl:=r.vB|obtain rfl:=r.vS|obtain rfl:=r.vN|cases r);exact .nil
  |cons x xs ih =>
   cases r with
   |@cons k' v' d' _ _ h' r =>
    rw[List.map_cons,List.map_cons]
    by_cases e:k'=k
    ·simp only[e,if_true];exact .cons h (ih r)
    ·have e':¬k'.map (Sum.inl:Int->Key)=k.map Sum.inl:=λz=>e (zHO z)
     simp only[e,e',if_false];exact .cons h' (ih r)
 have ap:∀{vs:List (List Key×V)} {ds:List (List Int×D)},RepT K F vs ds->RepT K F (vs++[(k.map Sum.inl,v)]) (ds++[(k,d)]):=by
  intro vs ds r
  induction vs generalizing ds with
  |nil=>(first|obtain rfl:=r.vI|obtain rfl:=r.vB|obtain rfl:=r.vS|obtain rfl:=r.vN|cases r);exact .cons h .nil
  |cons x xs ih=>cases r with|cons h' r=>exact .cons h' (ih r)
 unfold zJQ zLH
 rw[any r]
 split
 ·exact mp r
 ·exact ap r
noncomputable def zY8(x k v:D):Out D:=match x,k with
 |.lst ds,.int i=>match ixN ds.length i with
  |some j=>.ok (.lst (ds.set j v))
  |none=>.bad
 |.dk kvs,k=>match zQ1 k with
  |some k=>few kvs.length (.ok (.dk (zLH kvs k v)))
  |none=>.bad
 |.dt kvs,.tup ks=>match zBD ks with
  |some ns=>few kvs.length (.ok (.dt (zLH kvs ns v)))
  |none=>.bad
 |_,_=>.bad
noncomputable def zB2(i:Nat)(gk gv:G):GS:=λE=>match E[i]? with
 |some (.own _ _)=>(gv E).bind λv=>(gk v.2).bind λk=>match k.2[i]? with
  |some (.own t d)=>(zY8 d k.1 v.1).bind λd'=>.ok (.nx (k.2.set i (.own t d')))
  |_=>.bad
 |_=>.bad
theorem zD0{gk gv:G}{kx value:Expr}{spos tpos:Pos}(i:Nat)(hu:X.A.units+64<cLine)(hk:VE X kx gk)(hvv:VE X value gv)
  (hN:X.N[i]?=some xn:=by rfl) (hv:Vis X.env.scope xn:=by first|exact Or.inl rfl|exact Or.inr (Or.inl rfl)|exact Or.inr (Or.inr rfl)) (hd:(xn==("__debug__":Str))=false:=by decide) (hcd:(xn==("__classdict__":Str))=false:=by decide)
  (hs:swapsWith value (some (.Subscript (.Name xn q) kx tpos)) spos.line X.env=pure false:=by rfl)
  (hs1:swapsWithSole [.Subscript (.Name xn q) kx tpos] value spos.line X.env=pure false:=by rfl) (hw:swappedStores [.Subscript (.Name xn q) kx tpos] value X.env=pure none:=by rfl)
  (h1:(assignEach [.Subscript (.Name xn q) kx tpos] X.env).map (·.2)=[assign (.Subscript (.Name xn q) kx tpos) X.env]:=by rfl)
  (ha:∀v,assign (.Subscript (.Name xn q) kx tpos) X.env v=(do
   let ov <-holding [v] (eval (.Name xn q) X.env)
   let iv <-holding [v,ov] (eval kx X.env)
   standAt tpos
   holding [v,ov,iv] (setItem ov iv v)
   release [v,ov,iv] []):=by intro _;rfl):VS X (.Assign [.Subscript (.Name xn q) kx tpos] value spos) (zB2 i gk gv):=λpins s σ H D' I h=>by
 obtain⟨τ,F,E,r,S,hg,k⟩:=h
 unfold zB2 at hg
 split at hg
 ·rename_i t0 d0 e0
  obtain⟨v,e1,hg⟩:=Out.bind_ok hg
  obtain⟨ky,e2,hg⟩:=Out.bind_ok hg
  split at hg
  ·rename_i t d e3
   obtain⟨d',e4,hg⟩:=Out.bind_ok hg
   cases hg
   obtain⟨ad,a1,_⟩:=S.own i _ _ e0
   have pn:=zGE (pos:=q) hN hv hd hcd
   have fin:∀{F2 H2:Hp} {o:HO},Stp (owA σ E) F H F2 H2 (owA σ ky.2)->Sim X.K X.H₀ τ F2 H2 σ ky.2->OwnAt X.K F2 (upd H2 ad o) ad d'->D'.nx σ (upd H2 ad o):=λ{F2 H2 o} s2 S2 ow=>by
    obtain⟨S3,s3⟩:=S2.setO (o:=o) (d':=d') e3 a1 ow
    exact k σ F2 _ (s2.trans s3) S3
   have own:∀{F2 H2:Hp},Sim X.K X.H₀ τ F2 H2 σ ky.2->OwnAt X.K F2 H2 ad d:=λ{F2 H2} S2=>by
    obtain⟨ad',b1,_,b3,_⟩:=S2.own i t d e3
    rw[a1] at b1;cases b1
    exact b3
   cases d with
   |lst ds =>
    refine zR1 hvv (zVV pn hk zP8 ha) hs1 hw h1 pins s σ H D' I ?_
    refine⟨τ,F,E,v.1,v.2,S,e1,λvv F1 H1 s1 S1 r1=>⟨_,a1,τ,F1,v.2,ky.1,ky.2,S1,e2,λkk F2 H2 s2 S2 r2=>?_⟩⟩
    obtain⟨vs,o1,o2⟩:=own S2
    generalize hy:ky.1=y at e4 r2
    cases y with
    |int ii =>
     have e4:(match ixN ds.length ii with|some j=>Out.ok (D.lst (ds.set j v.1))|none=>.bad)=.ok d':=e4
     (first|obtain rfl:=r2.vI|obtain rfl:=r2.vB|obtain rfl:=r2.vS|obtain rfl:=r2.vN|cases r2)
     split at e4
     ·rename_i j ej
      cases e4
      exact⟨ad,vs,ii,j,rfl,rfl,o1,by rw[o2.length];exact ej,fin (s1.trans s2) S2 ⟨_,zAN,o2.set j (r1.le s2.le)⟩⟩
     ·cases e4
    |_=>cases e4
   |dk kvs =>
    refine zNS (by omega) pn hk hvv hs pins s σ H D' I ?_
    refine⟨τ,F,E,v.1,v.2,S,e1,λvv F1 H1 s1 S1 r1=>⟨_,a1,τ,F1,v.2,ky.1,ky.2,S1,e2,λkk F2 H2 s2 S2 r2=>?_⟩⟩
    obtain⟨vs,o1,o2⟩:=own S2
    have e4:(match zQ1 ky.1 with|some k=>few kvs.length (Out.ok (D.dk (zLH kvs k v.1)))|none=>.bad)=.ok d':=e4
    split at e4
    ·rename_i k' ek
     obtain⟨hl,e4⟩:=zDN e4
     cases e4
     have ek':kk=kV k':=by
      generalize hy:ky.1=y at ek r2
      cases y<;>first|cases ek|skip
      ·(first|obtain rfl:=r2.vI|obtain rfl:=r2.vB|obtain rfl:=r2.vS|obtain rfl:=r2.vN|cases r2);rfl
      ·(first|obtain rfl:=r2.vI|obtain rfl:=r2.vB|obtain rfl:=r2.vS|obtain rfl:=r2.vN|cases r2);rfl
     subst ek'
     exact⟨ad,_,rfl,DPut.k o1 (by rw[o2.length];exact zFK hl),fin (s1.trans s2) S2 ⟨_,zAN,o2.put k' (r1.le s2.le)⟩⟩
    ·cases e4
   |dt kvs =>
    refine zNS (by omega) pn hk hvv hs pins s σ H D' I ?_
    refine⟨τ,F,E,v.1,v.2,S,e1,λvv F1 H1 s1 S1 r1=>⟨_,a1,τ,F1,v.2,ky.1,ky.2,S1,e2,λkk F2 H2 s2 S2 r2=>?_⟩⟩
    obtain⟨vs,o1,o2⟩:=own S2
    generalize hy:ky.1=y at e4 r2
    cases y with
    |tup ks =>
     have e4:(match zBD ks with|some ns=>few kvs.length (Out.ok (D.dt (zLH kvs ns v.1)))|none=>.bad)=.ok d':=e4
     split at e4
     ·rename_i ns ek
      obtain⟨hl,e4⟩:=zDN e4
      cases e4
      have:=zDU ek
      subst this
      generalize hk2:ns.map D.int=kk2 at r2
      cases r2 with
      |tup hb rb =>
       subst hk2
       have:=rb.vint
       subst this
       refine⟨ad,_,rfl,DPut.t (k:=ns.map Sum.inl) o1 ?_ (by rw[o2.length];exact zFK hl),fin (s1.trans s2) S2 ⟨_,zAN,o2.put ns (r1.le s2.le)⟩⟩
       rw[List.map_map]
       exact S2.sub _ _ hb
      |@tupK a xs hb nb =>
       cases xs with
       |nil=>exact absurd rfl nb
       |cons x xs =>
        cases ns with
        |nil=>cases hk2
        |cons n ns=>cases hk2
     ·cases e4
    |_=>cases e4
   |_=>cases e4
  ·cases hg
 ·cases hg
end
section
variable{X:Cx}{K:PySem.W.Frag}{H₀ F H:Hp}{τ:Addr}{σ:St}{E:Ev}{a b c e tg:Expr}{es:List Expr}{ga gb gc ge:G}{gs:List G}{pos p:Pos}{x:Str}
noncomputable def tyN:D->String
 |.non=>"NoneType"
 |.bl _=>"bool"
 |.int _=>"int"
 |.str _=>"str"
 |.tup _=>"tuple"
 |.lst _=>"list"
 |.dk _=>"dict"
 |.dt _=>"dict"
noncomputable def isB(t c:String):Bool:=t==c||(t=="bool"&&c=="int")
noncomputable def zB6(c:String)(g:G):G:=λE=>(g E).bind λp=>.ok (.bl (isB (tyN p.1) c),p.2)
theorem zRF{pins:List (Addr×Obj)}{s:Shared}{A:Around}{Ex:Value->Shared->Prop}{Q:Value->Shared->Prop}{cv:Value}{bb:Bool}(I:Inv X pins σ H s){ad:Addr}{vs:List V}(h:SqL X.K H ad vs)
  (e:PySem.W.kitOne X.K (.type "list") cv=some bb) (hq:∀tk,Q (.bool bb) { s with toks:=tk }):wpAny (model X.prog X.w) A (call (.builtin "isinstance") [.ref ad,cv]) Q Ex s:=by
 obtain⟨its,r,pl,z⟩:=I.list h
 obtain⟨o,h1,h2,_⟩:=pl.isList
 exact PySem.W.kia_one PySem.W.kitx_list I.kIn ⟨o,h1,h2⟩ e (λz=>nomatch z) hq
theorem zJB{pins:List (Addr×Obj)}{s:Shared}{A:Around}{Ex:Value->Shared->Prop}{Q:Value->Shared->Prop}{cv:Value}{bb:Bool}(I:Inv X pins σ H s){ad:Addr}(h:(∃kvs,Rd H ad (.dK kvs))\/∃kvs,Rd H ad (.dT kvs))
  (e:PySem.W.kitOne X.K (.type "dict") cv=some bb) (hq:∀tk,Q (.bool bb) { s with toks:=tk }):wpAny (model X.prog X.w) A (call (.builtin "isinstance") [.ref ad,cv]) Q Ex s:=by
 rcases h with⟨kvs,h⟩|⟨kvs,h⟩
 ·obtain⟨_,_,vs,_,o,es,ep,h1,h2,_⟩:=(show ObjOk X.prog X.w H s.heap ad (.dK kvs) from h.ok I.hok)
  exact PySem.W.kia_one PySem.W.kitx_dict I.kIn ⟨o,h1,h2.1⟩ e (λz=>nomatch z) hq
 ·obtain⟨_,_,xs,_,o,es,ep,h1,h2,_⟩:=(show ObjOk X.prog X.w H s.heap ad (.dT kvs) from h.ok I.hok)
  exact PySem.W.kia_one PySem.W.kitx_dict I.kIn ⟨o,h1,h2.1⟩ e (λz=>nomatch z) hq
structure IsC(c:String):Prop where
 k:∀(K:PySem.W.Frag) (t:String),t∈["NoneType","bool","int","str","tuple","list","dict"]->PySem.W.kitOne K (.type t) (.type c)=some (isB t c)
theorem zOU:IsC "int":=⟨λK t h=>by simp only[List.mem_cons,List.not_mem_nil,or_false] at h;rcases h with rfl|rfl|rfl|rfl|rfl|rfl|rfl<;>rfl⟩
theorem zHS:IsC "bool":=⟨λK t h=>by simp only[List.mem_cons,List.not_mem_nil,or_false] at h;rcases h with rfl|rfl|rfl|rfl|rfl|rfl|rfl<;>rfl⟩
theorem zB3:IsC "tuple":=⟨λK t h=>by simp only[List.mem_cons,List.not_mem_nil,or_false] at h;rcases h with rfl|rfl|rfl|rfl|rfl|rfl|rfl<;>rfl⟩
def zXF(K:PySem.W.Frag)(c:String):List V->Hp->VK->Prop:=λxs H Q=>∃v F d,xs=[v,.ty c]/\Sub F H/\Rep K F v d/\Q (.bl (isB (tyN d) c)) H
theorem zMS{cn:String}(ic:IsC cn):CallR X (.builtin "isinstance") (zXF X.K cn):=by
 intro pins s σ H xs us Q I r h
 obtain⟨v,F,d,rfl,sb,rd,q⟩:=h
 cases r with
 |cons r1 r2 =>
  cases r2 with
  |cons r2 r3 =>
   (first|obtain rfl:=r3.vI|obtain rfl:=r3.vB|obtain rfl:=r3.vS|obtain rfl:=r3.vN|cases r3)
   (first|obtain rfl:=r2.vI|obtain rfl:=r2.vB|obtain rfl:=r2.vS|obtain rfl:=r2.vN|cases r2)
   have fin:∀{bb:Bool} (tk:Nat),isB (tyN d) cn=bb->EP X pins σ Q (.bool bb) { s with toks:=tk }:=λtk e=>by subst e;exact⟨.bl _,H,I.tok tk,rfl,q⟩
   cases d with
   |non=>(first|obtain rfl:=rd.vI|obtain rfl:=rd.vB|obtain rfl:=rd.vS|obtain rfl:=rd.vN|cases rd);exact zEJ I r1 .non (ic.k _ _ (by simp)) λtk=>fin tk rfl
   |bl b=>(first|obtain rfl:=rd.vI|obtain rfl:=rd.vB|obtain rfl:=rd.vS|obtain rfl:=rd.vN|cases rd);exact zEJ I r1 (.bl _) (ic.k _ _ (by simp)) λtk=>fin tk rfl
   |int i=>(first|obtain rfl:=rd.vI|obtain rfl:=rd.vB|obtain rfl:=rd.vS|obtain rfl:=rd.vN|cases rd);exact zEJ I r1 (.int _) (ic.k _ _ (by simp)) λtk=>fin tk rfl
   |str i=>(first|obtain rfl:=rd.vI|obtain rfl:=rd.vB|obtain rfl:=rd.vS|obtain rfl:=rd.vN|cases rd);exact zEJ I r1 (.str _) (ic.k _ _ (by simp)) λtk=>fin tk rfl
   |lst ds =>
    obtain⟨l,ys,rfl,h1,h2⟩:=rd.isRefL
    (first|obtain rfl:=r1.vI|obtain rfl:=r1.vB|obtain rfl:=r1.vS|obtain rfl:=r1.vN|cases r1)
    exact zRF I (h1.imp sb.rd id) (ic.k _ _ (by simp)) λtk=>fin tk rfl
   |tup ds =>
    obtain⟨l,ys,rfl,h2,h1⟩:=rd.tupSq
    (first|obtain rfl:=r1.vI|obtain rfl:=r1.vB|obtain rfl:=r1.vS|obtain rfl:=r1.vN|cases r1)
    exact zQI I (h1 F H (.refl _) sb) (ic.k _ _ (by simp)) λtk=>fin tk rfl
   |dk kvs =>
    cases rd with
    |dk h1 _=>(first|obtain rfl:=r1.vI|obtain rfl:=r1.vB|obtain rfl:=r1.vS|obtain rfl:=r1.vN|cases r1);exact zJB I (.inl ⟨_,sb.rd h1⟩) (ic.k _ _ (by simp)) λtk=>fin tk rfl
   |dt kvs =>
    cases rd with
    |dt h1 _=>(first|obtain rfl:=r1.vI|obtain rfl:=r1.vB|obtain rfl:=r1.vS|obtain rfl:=r1.vN|cases r1);exact zJB I (.inr ⟨_,sb.rd h1⟩) (ic.k _ _ (by simp)) λtk=>fin tk rfl
theorem zCY{cn:String}{cx:Str}{cp:Pos}(ic:IsC cn)(hm:X.mg "isinstance"=none)(hmc:X.mg cx=none)(hvc:bootBuiltins cx=some (.type cn))(ha:VE X a ga)(hg:Gl X "isinstance":=by rfl)(hgc:Gl X cx:=by rfl)(hnc:cx≠"__name__":=by decide)(hdc:(cx==("__debug__":Str))=false:=by decide)
  (hs1:starEach [.Name cx cp] X.env=(false,eval (.Name cx cp) X.env)::starEach [] X.env:=by rfl)
  (he:starEach (a::[.Name cx cp]) X.env=(false,eval a X.env)::starEach [.Name cx cp] X.env:=by rfl) (hpl:(backTo pos (starEach [.Name cx cp] X.env)).any (·.1)=false:=by rfl) :
  VE X (.Call (.Name "isinstance" p) [a,.Name cx cp] [] pos) (zB6 cn ga) :=
 (zG0 (zMS ic) hg hm (by decide +kernel) (zCS ha (zCS (zSV (v:=.ty cn) hgc hmc hvc rfl hnc hdc) pa_nil hs1) he) (by decide) (by decide) he hpl).imp λσ H Q h=>by
  obtain⟨τ,F,E,d,E',S,hg,k⟩:=h
  obtain⟨q,e1,hg⟩:=Out.bind_ok hg
  cases hg
  exact⟨τ,F,E,q.1,q.2,S,e1,λv F1 H1 s1 S1 r1=>⟨v,F1,q.1,rfl,S1.sub,r1,k _ F1 H1 s1 S1 (.bl _)⟩⟩
theorem zUH:FE X (.Dict [] [] pos) (gC (.dt [])):=pe_dnewT.imp λσ H Q h q hq=>by
 obtain⟨τ,F,E,d,E',S,hg,k⟩:=h
 cases hg
 have n:=New.junk (H':=upd H q (.dT [])) S.sub (Gr.new hq)
 exact k q F _ n.stp (S.new n) (Sim.notF S.sub hq) hq ⟨_,zAN,.nil⟩ (S.fresh hq)
noncomputable def yAD:D->Out Bool
 |.non=>.ok false
 |.bl b=>.ok b
 |.int i=>.ok (i != 0)
 |.lst ds=>.ok (!ds.isEmpty)
 |.tup ds=>.ok (!ds.isEmpty)
 |.str z=>few z.length (.ok ((z.length:Int) != 0))
 |_=>.bad
noncomputable def zDO(g:G):Ev->Out (Bool×Ev):=λE=>(g E).bind λp=>(yAD p.1).bind λb=>.ok (b,p.2)
theorem Reps.isEmpty{vs:List V}{ds:List D}(r:Reps K F vs ds):vs.isEmpty=ds.isEmpty:=by (first|obtain rfl:=r.vI|obtain rfl:=r.vB|obtain rfl:=r.vS|obtain rfl:=r.vN|cases r)<;>rfl
theorem zBB(ha:VE X a ga)(he:∀whole,isTrue a X.env whole=(do let v <-whole;standAt a.pos;holding [v] (truthy v)):=by intro _;rfl):VT X a (zDO ga):=(zP3 ha he).imp λσ H Q h=>by
 obtain⟨τ,F,E,d,E',S,hg,k⟩:=h
 obtain⟨p,e1,hg⟩:=Out.bind_ok hg
 obtain⟨b,e2,hg⟩:=Out.bind_ok hg
 cases hg
 refine⟨τ,F,E,p.1,p.2,S,e1,λv F1 H1 s1 S1 r1=>⟨d,?_,k F1 H1 s1 S1⟩⟩
 generalize hy:p.1=y at e2 r1
 cases y with
 |non=>(first|obtain rfl:=r1.vI|obtain rfl:=r1.vB|obtain rfl:=r1.vS|obtain rfl:=r1.vN|cases r1);cases e2;rfl
 |bl b=>(first|obtain rfl:=r1.vI|obtain rfl:=r1.vB|obtain rfl:=r1.vS|obtain rfl:=r1.vN|cases r1);cases e2;rfl
 |int i=>(first|obtain rfl:=r1.vI|obtain rfl:=r1.vB|obtain rfl:=r1.vS|obtain rfl:=r1.vN|cases r1);cases e2;rfl
 |str z =>
  (first|obtain rfl:=r1.vI|obtain rfl:=r1.vB|obtain rfl:=r1.vS|obtain rfl:=r1.vN|cases r1)
  obtain⟨hl,e2⟩:=zDN e2
  cases e2
  exact⟨le4 hl,rfl⟩
 |lst ds =>
  cases e2
  obtain⟨l,ys,rfl,h1,h2⟩:=r1.isRefL
  exact .inl ⟨ys,h1.imp S1.sub.rd id,by rw[h2.isEmpty]⟩
 |tup ds =>
  cases e2
  obtain⟨l,ys,rfl,h2,h1⟩:=r1.tupSq
  exact .inr (.inl ⟨ys,h1 F1 H1 (.refl _) S1.sub,by rw[h2.isEmpty]⟩)
 |_=>cases e2
noncomputable def zFA(lo:Int)(n:Nat):List D:=(List.range n).map λi:Nat=>D.int (lo+(i:Int))
theorem zJC(lo:Int)(n:Nat):Walks K (Itr lo n) F (zFA lo n):=λi F1 H1 l s=>by
 have hl:(zFA lo n).length=n:=by simp[zFA]
 refine⟨λhi=>by rw[hl] at hi;exact hi,λhi=>by rw[hl] at hi;rw[hi];exact Nat.le_refl _,λx H' d e ⟨e1,y⟩=>?_⟩
 subst e1 y
 unfold zFA at e
 rw[List.getElem?_map] at e
 cases q:(List.range n)[i]? with
 |none=>rw[q] at e;cases e
 |some j =>
  rw[q] at e
  have:j=i:=by
   obtain⟨h1,h2⟩:=List.getElem?_eq_some_iff.mp q
   rw[List.getElem_range] at h2;exact h2.symm
  subst this
  cases e
  exact⟨F1,.refl s,.int _⟩
def zFR(i:Int):Prop:=-1000000<=i/\i<=1000000
instance (i:Int):Decidable (zFR i):=inferInstanceAs (Decidable (_/\_))
noncomputable def zEC(g:G):GI:=λE=>(g E).bind λp=>match p.1 with|.int j=>guard (zFR j) (.ok (zFA 0 j.toNat,p.2))|_=>.bad
noncomputable def zOV(g g':G):GI:=λE=>(g E).bind λp=>(g' p.2).bind λq=>match p.1,q.1 with|.int i,.int j=>guard (zFR i/\zFR j) (.ok (zFA i (j-i).toNat,q.2))|_,_=>.bad
theorem zEN(hm:X.mg "range"=none)(ha:VE X a ga)(hg:Gl X "range":=by rfl)(hs:starEach [a] X.env=[(false,eval a X.env)]:=by rfl)(hs0:starEach [a] X.env=(false,eval a X.env)::starEach [] X.env:=by rfl):VI X tg (.Call (.Name "range" p) [a] [] pos) (zEC ga):=(zM8 hg hm (zCS ha pa_nil hs0) hs).imp λσ H Q h=>by
 obtain⟨τ,F,E,ds,E',S,hg,k⟩:=h
 obtain⟨q,e1,hg⟩:=Out.bind_ok hg
 refine⟨τ,F,E,q.1,q.2,S,e1,λv F1 H1 s1 S1 r1=>?_⟩
 split at hg
 ·rename_i j ej
  obtain⟨⟨g1,g2⟩,hg⟩:=zCW hg
  cases hg
  rw[ej] at r1
  (first|obtain rfl:=r1.vI|obtain rfl:=r1.vB|obtain rfl:=r1.vS|obtain rfl:=r1.vN|cases r1)
  exact⟨j,rfl,by lia,by lia,k _ F1 H1 s1 S1 (zJC 0 _)⟩
 ·cases hg
theorem zOW(hm:X.mg "range"=none)(ha:VE X a ga)(hb:VE X b gb)(hg:Gl X "range":=by rfl)(hs:starEach [a,b] X.env=[(false,eval a X.env),(false,eval b X.env)]:=by rfl)(hs2:starEach [b] X.env=[(false,eval b X.env)]:=by rfl)
  (hs0:starEach [a,b] X.env=(false,eval a X.env)::starEach [b] X.env:=by rfl) (hs1:starEach [b] X.env=(false,eval b X.env)::starEach [] X.env:=by rfl):VI X tg (.Call (.Name "range" p) [a,b] [] pos) (zOV ga gb):=(zM9 hg hm (zCS ha (zCS hb pa_nil hs1) hs0) hs hs2).imp λσ H Q h=>by
 obtain⟨τ,F,E,ds,E',S,hg,k⟩:=h
 obtain⟨q,e1,hg⟩:=Out.bind_ok hg
 obtain⟨r,e2,hg⟩:=Out.bind_ok hg
 refine⟨τ,F,E,q.1,q.2,S,e1,λv F1 H1 s1 S1 r1=>⟨τ,F1,q.2,r.1,r.2,S1,e2,λu F2 H2 s2 S2 r2=>?_⟩⟩
 split at hg
 ·rename_i i j ei ej
  obtain⟨⟨⟨g1,g2⟩,g3,g4⟩,hg⟩:=zCW hg
  cases hg
  rw[ei] at r1
  rw[ej] at r2
  (first|obtain rfl:=r1.vI|obtain rfl:=r1.vB|obtain rfl:=r1.vS|obtain rfl:=r1.vN|cases r1);(first|obtain rfl:=r2.vI|obtain rfl:=r2.vB|obtain rfl:=r2.vS|obtain rfl:=r2.vN|cases r2)
  exact⟨i,j,rfl,⟨by lia,by lia,by lia,by lia⟩,k _ F2 H2 (s1.trans s2) S2 (zJC i _)⟩
 ·cases hg
noncomputable def zUI(ds es:List D):List D:=(ds.zip es).map λp=>.tup [p.1,p.2]
theorem zUJ{ds es:List D}{i:Nat}{d:D}(e:(zUI ds es)[i]?=some d):∃d0 d1,ds[i]?=some d0/\es[i]?=some d1/\d=.tup [d0,d1]:=by
 unfold zUI at e
 rw[List.getElem?_map] at e
 cases q:(ds.zip es)[i]? with
 |none=>rw[q] at e;cases e
 |some z =>
  rw[q] at e;cases e
  obtain⟨h1,h2⟩:=List.getElem?_zip_eq_some.mp q
  exact⟨_,_,h1,h2,rfl⟩
noncomputable def zX7(g g':G):GI:=λE=>(g E).bind λp=>(g' p.2).bind λq=>match p.1,q.1 with
 |.tup ds,.tup es=>.ok (zUI ds es,q.2)
 |_,_=>.bad
theorem zXG(hm:X.mg "zip"=none)(ha:VE X a ga)(hb:VE X b gb)(hg:Gl X "zip":=by rfl)(hs:starEach [a,b] X.env=[(false,eval a X.env),(false,eval b X.env)]:=by rfl)(hs2:starEach [b] X.env=[(false,eval b X.env)]:=by rfl)
  (hs0:starEach [a,b] X.env=(false,eval a X.env)::starEach [b] X.env:=by rfl) (hs1:starEach [b] X.env=(false,eval b X.env)::starEach [] X.env:=by rfl):VI X tg (.Call (.Name "zip" p) [a,b] [] pos) (zX7 ga gb):=(zWM hg hm (zCS ha (zCS hb pa_nil hs1) hs0) hs hs2).imp λσ H Q h=>by
 obtain⟨τ,F,E,ds,E',S,hg,k⟩:=h
 obtain⟨q,e1,hg⟩:=Out.bind_ok hg
 obtain⟨r,e2,hg⟩:=Out.bind_ok hg
 refine⟨τ,F,E,q.1,q.2,S,e1,λv F1 H1 s1 S1 r1=>⟨τ,F1,q.2,r.1,r.2,S1,e2,λu F2 H2 s2 S2 r2=>?_⟩⟩
 split at hg
 ·rename_i ds0 es0 ei ej
  cases hg
  rw[ei] at r1
  rw[ej] at r2
  obtain⟨l,ys,rfl,h2,h1⟩:=(r1.le s2.le).tupSq
  obtain⟨m,zs,rfl,h4,h3⟩:=r2.tupSq
  refine⟨l,m,rfl,⟨ys,h1 F2 H2 (.refl _) S2.sub⟩,⟨zs,h3 F2 H2 (.refl _) S2.sub⟩,k _ F2 H2 (s1.trans s2) S2 λi F3 H3 l3 s3=>?_⟩
  have sq:=h1 F3 H3 l3 s3
  have sq2:=h3 F3 H3 l3 s3
  have hl:(zUI ds0 es0).length=min ds0.length es0.length:=by simp[zUI]
  refine⟨λhi=>?_,λhi=>⟨ys,zs,sq,sq2,?_⟩,λx H' d e ⟨pp,xx,yy,ex,hp,eH,y1,y2⟩=>?_⟩
  ·rw[hl] at hi
   have hv:i<ys.length:=by rw[h2.length];lia
   have hw:i<zs.length:=by rw[h4.length];lia
   exact⟨ys,zs,ys[i],zs[i],sq,sq2,by simp[hv],by simp[hw]⟩
  ·rw[hl] at hi
   rw[h2.length,h4.length];lia
  ·subst ex eH
   obtain⟨d0,d1,z1,z2,z3⟩:=zUJ e
   subst z3
   obtain⟨w,w1,w2⟩:=h2.get z1
   obtain⟨w',w1',w2'⟩:=h4.get z2
   rw[y1 ys sq] at w1;cases w1
   rw[y2 zs sq2] at w1';cases w1'
   have n:=New.laid (o:=.tup [xx,yy]) s3 hp
   exact⟨_,n,.tup zAN (.cons ((w2.le l3).le n.1.le) (.cons ((w2'.le l3).le n.1.le) .nil))⟩
 ·cases hg
noncomputable def gLR(g:G):G:=λE=>(g E).bind λp=>match p.1 with|.int j=>guard (0<=j/\j<=1000) (.ok (.lst (zFA 0 j.toNat),p.2))|_=>.bad
theorem zKI{rp rpos:Pos}(hc:X.calm=true)(hm:X.mg "range"=none)(hml:X.mg "list"=none)(ha:VE X a ga)(hg:Gl X "range":=by rfl)(hgl:Gl X "list":=by rfl)
  (hs0:starEach [a] X.env=(false,eval a X.env)::starEach [] X.env:=by rfl) (hp0:(backTo rpos (starEach [] X.env)).any (·.1)=false:=by rfl)
  (he:starEach [.Call (.Name "range" rp) [a] [] rpos] X.env=(false,eval (.Call (.Name "range" rp) [a] [] rpos) X.env)::starEach [] X.env:=by rfl) (hpl:(backTo pos (starEach [] X.env)).any (·.1)=false:=by rfl) :
  FE X (.Call (.Name "list" p) [.Call (.Name "range" rp) [a] [] rpos] [] pos) (gLR ga) :=
 (zEK (zG8 hc) hgl hml (by decide +kernel) (zCS (zEK zQE hg hm (by decide +kernel) (zCS ha pa_nil hs0) (by decide) (by decide) hs0 hp0) pa_nil he) (by decide) (by decide) he hpl).imp λσ H Q h=>by
  obtain⟨τ,F,E,d,E',S,hg,k⟩:=h
  obtain⟨q,e1,hg⟩:=Out.bind_ok hg
  refine⟨τ,F,E,q.1,q.2,S,e1,λv F1 H1 s1 S1 r1=>?_⟩
  split at hg
  ·rename_i j ej
   obtain⟨⟨g1,g2⟩,hg⟩:=zCW hg
   cases hg
   rw[ej] at r1
   (first|obtain rfl:=r1.vI|obtain rfl:=r1.vB|obtain rfl:=r1.vS|obtain rfl:=r1.vN|cases r1)
   refine⟨j,rfl,λpp hp=>⟨pp,j.toNat,rfl,by rw[zAN,Int.toNat_of_nonneg g1],by lia,λl hl=>?_⟩⟩
   have n:=New.junk (H':=upd (upd H1 pp (.rng 0 j)) l (.lst ((List.range j.toNat).map λi:Nat=>V.int (i:Int)))) S1.sub ((Gr.new hp).trans (Gr.new hl))
   have hl1:H1 l=none:=(Gr.new hp).dom l hl
   refine k l F1 _ (s1.trans n.stp) (S1.new n) (Sim.notF S1.sub hl1) (s1.dom l hl1) ⟨_,zAN,?_⟩ (S1.fresh hl1)
   have:zFA 0 j.toNat=((List.range j.toNat).map λi:Nat=>(i:Int)).map D.int:=by unfold zFA;rw[List.map_map];congr 1;funext i;simp
   rw[this,show((List.range j.toNat).map λi:Nat=>V.int (i:Int))=((List.range j.toNat).map λi:Nat=>(i:Int)).map V.int by rw[List.map_map];rfl]
   exact Reps.ints _
  ·cases hg
end
section
variable{X:Cx}{K:PySem.W.Frag}{H₀ F H F' H':Hp}{τ:Addr}{σ:St}{E:Ev}{a b c e tg:Expr}{es:List Expr}{g ga gb gc ge:G}{gs:List G}{pos p:Pos}{x:Str}{k np:Nat}{m:Mr}
theorem zXH(hu:X.A.units+64<cLine):OpR X (compareOp .Lt) (λx y H Q=>rI0 (λi j=>.bl (decide (i<j))) x y H Q\/zYS X.K x y H Q):=op_lt.or (zNJ (by lia))
theorem zFS{scope:Scope}{cl:List (Str×Addr)}{own caps:List Str}{js:List Nat}{i:Nat}{elt iter:Expr}{ifs:List Expr}{pos' spos:Pos}{gi:GI}{t:Tg}{tt:Ev->Out (Bool×Ev)}{ge:G}(n:CompNm X scope cl own caps js)(hc:X.calm=true)(hi:VI X tg iter gi)
  (hg:∀C s H fp,VG (zBC X scope cl (own++caps) C s H fp) tg t) (ht:∀C s H fp,VTs (zBC X scope cl (own++caps) C s H fp) ifs tt) (he:∀C s H fp,VE (zBC X scope cl (own++caps) C s H fp) elt ge)
  (hN:X.N.Nodup) (hx:X.N[i]?=some x) (hl:X.env.scope.names.lookup x=some .local)
  (hsw:swapsWith (.ListComp elt [⟨tg,iter,ifs,0⟩] scope pos) (some (.Name x pos')) spos.line X.env=pure true)
  (hlt:t.ltn own.length=true:=by rfl) (hj:js.Nodup:=by decide) (hs:∀x,foldedSetIterable iter X.env x=pure x:=by intro _;rfl):VS X (.Assign [.Name x pos'] (.ListComp elt [⟨tg,iter,ifs,0⟩] scope pos) spos) (zBQ (.nm i) (zC9 gi own.length js t tt ge)) :=
 λpins s σ H D' I h=>by
  refine zMF (g:=λH=>tG X.K H t) (tt:=λH=>tT X.K H tt) (te:=λH=>tV X.K H ge) n hc hi hg ht he hN hx hl hsw hs pins s σ H D' I ?_
  refine zOK hlt hj (tF.toV ?_)
  obtain⟨τ,F,E,r,S,hg,k⟩:=h
  obtain⟨p,e1,hg⟩:=Out.bind_ok hg
  obtain⟨E1,e2,hg⟩:=Out.bind_ok hg
  cases hg
  rw[gTg] at e2
  cases e2
  refine⟨τ,F,E,p.1,p.2,S,e1,λv F1 H1 s1 S1 r1=>?_⟩
  obtain⟨S2,h2⟩:=S1.put (i:=i) r1
  exact k _ F1 H1 (s1.weak h2) S2
theorem Fun.cal{P:Program}{w:World}{mg:Str->Option Value}{base:Heap}{ps:List Str}{st:Stmt}{f:Addr}{fd:FuncData}(Fn:Fun K x x st f fd)(h:FnOk P w K mg base CX0 k f fd ps (spV K np m))(hm:mg x=some (.ref f))(hb:Binds K fd ps []):Cal P w K mg base x k np m:=⟨f,fd,ps,h,hm,Fn.kp,hb⟩
end
theorem zRG{α:Type}{Pr:α->Prop}:∀p∈([]:List α),Pr p:=λp hp=>nomatch hp
theorem al1{α:Type}{Pr:α->Prop}{a:α}(h:Pr a):∀p∈[a],Pr p:=λp hp=>by rw[List.mem_singleton.mp hp];exact h
theorem alc{α:Type}{Pr:α->Prop}{a:α}{l:List α}(h:Pr a)(t:∀p∈l,Pr p):∀p∈a::l,Pr p:=λp hp=>by
 rcases List.mem_cons.mp hp with rfl|hp
 ·exact h
 ·exact t p hp
theorem al2{α:Type}{Pr:α->Prop}{a b:α}(h1:Pr a)(h2:Pr b):∀p∈[a,b],Pr p:=alc h1 (al1 h2)
section
variable{X:Cx}{a b c:Expr}{ga gb:G}{pos:Pos}
end
section
variable{X:Cx}{K:PySem.W.Frag}{H₀ F H:Hp}{e tg:Expr}{ge:G}
theorem New.froze{a:Addr}{o:Obj}{u:HO}(s:Sub F H)(h:F a=some u)(hd:zOA u):New F H (upd F a (.frz o u)) (upd H a (.frz o u)):=by
 have hh:=s a u h
 refine⟨⟨λb v e _ n _=>?_,λb e=>?_,λb v e=>?_,λb v e=>?_,λ_ z=>z.elim⟩,λb v e=>?_⟩
 ·rw[zAL (λz=>by rw[z,h] at n;cases n)];exact e
 ·by_cases hb:b=a
  ·rw[hb,zAN] at e;cases e
  ·rw[zAL hb] at e;exact e
 ·by_cases hb:b=a
  ·subst hb;rw[h] at e;cases e;exact .inr (.inl ⟨hd,o,zAN⟩)
  ·exact .inl (by rw[zAL hb];exact e)
 ·by_cases hb:b=a
  ·subst hb;exact .inl (by rw[h];exact nofun)
  ·rw[zAL hb] at e;exact .inl (by rw[e];exact nofun)
 ·by_cases hb:b=a
  ·subst hb;rw[zAN] at e ⊢;exact e
  ·rw[zAL hb] at e ⊢;exact s b v e
theorem New.tup{p:Addr}{vs:List V}(s:Sub F H)(h:H p=some (.tup vs)):∃F',New F H F' H/\F' p=some (.tup vs):=by
 cases hf:F p with
 |some u =>
  have:=s p u hf
  rw[h] at this;cases this
  exact⟨F,.refl s,hf⟩
 |none =>
  refine⟨upd F p (.tup vs),⟨⟨λ_ _ e _ _ _=>e,λ_ e=>e,.of_gr (Gr.new hf),λb v e=>?_,λ_ z=>z.elim⟩,λb v e=>?_⟩,zAN⟩
  ·by_cases hb:b=p
   ·subst hb
    refine .inr (.inl λo e' hw=>?_)
    rw[h] at e';cases e';exact hw
   ·rw[zAL hb] at e;exact .inl (by rw[e];exact nofun)
  ·by_cases hb:b=p
   ·subst hb;rw[zAN] at e;rw[h];exact e
   ·rw[zAL hb] at e;exact s b v e
noncomputable def zXI(k:List Int):D:=.tup (k.map D.int)
theorem RepT.keysAt:∀{vs:List (List Key×V)} {ds:List (List Int×D)},RepT K F vs ds->vs.map (·.1)=ds.map λkv=>kv.1.map Sum.inl
 |_,_,.nil=>rfl
 |_,_,.cons _ r=>by rw[List.map_cons,List.map_cons,RepT.keysAt r]
theorem RepK.keysAt:∀{vs:List (Key×V)} {ds:List (Key×D)},RepK K F vs ds->vs.map (·.1)=ds.map (·.1)
 |_,_,.nil=>rfl
 |_,_,.cons _ r=>by rw[List.map_cons,List.map_cons,RepK.keysAt r]
theorem zFT{a:Addr}{o:Obj}{kvs:List (Key×V)}{ds:List (Key×D)}(h:F a=some (.frz o (.dK kvs)))(r:RepK K F kvs ds):Walks K (ItK a o kvs) F (ds.map λkv=>zVF kv.1):=λi F1 H1 l s=>by
 have hf:F1 a=some (.frz o (.dK kvs)):=by
  rcases l a _ h with z|⟨z,_⟩|⟨_,_,_,z,_⟩
  ·exact z
  ·exact z.elim
  ·cases z
 have hh:=s _ _ hf
 have hl:(ds.map λkv=>zVF kv.1).length=kvs.length:=by rw[List.length_map,r.length]
 refine⟨λhi=>⟨by lia,hh⟩,λhi=>⟨by lia,hh⟩,λx H' d e ⟨e1,k,ex,ek⟩=>?_⟩
 subst e1 ex
 rw[r.keysAt,List.getElem?_map] at ek
 rw[List.getElem?_map] at e
 cases q:ds[i]? with
 |none=>rw[q] at e;cases e
 |some kv =>
  rw[q] at e ek
  cases e;cases ek
  exact⟨F1,.refl s,zOR _⟩
theorem zFU{a:Addr}{o:Obj}{kvs:List (List Key×V)}{ds:List (List Int×D)}(h:F a=some (.frz o (.dT kvs)))(r:RepT K F kvs ds):Walks K (Itk a o kvs) F (ds.map λkv=>zXI kv.1):=λi F1 H1 l s=>by
 have hf:F1 a=some (.frz o (.dT kvs)):=by
  rcases l a _ h with z|⟨z,_⟩|⟨_,_,_,z,_⟩
  ·exact z
  ·exact z.elim
  ·cases z
 have hh:=s _ _ hf
 have hl:(ds.map λkv=>zXI kv.1).length=kvs.length:=by rw[List.length_map,r.length]
 refine⟨λhi=>⟨by lia,hh⟩,λhi=>⟨by lia,hh⟩,λx H' d e ⟨e1,p,k,ex,ek,ep⟩=>?_⟩
 subst e1 ex
 rw[r.keysAt,List.getElem?_map] at ek
 rw[List.getElem?_map] at e
 cases q:ds[i]? with
 |none=>rw[q] at e;cases e
 |some kv =>
  rw[q] at e ek
  cases e;cases ek
  obtain⟨F',n,hp⟩:=New.tup s ep
  refine⟨F',n,.tup hp ?_⟩
  rw[List.map_map]
  exact Reps.ints kv.1
noncomputable def zED(g:G):GI:=λE=>(g E).bind λp=>match p.1 with
 |.lst ds=>.ok (ds,p.2)
 |.tup ds=>.ok (ds,p.2)
 |.dk kvs=>.ok (kvs.map λkv=>zVF kv.1,p.2)
 |.dt kvs=>.ok (kvs.map λkv=>zXI kv.1,p.2)
 |_=>.bad
theorem zJD(h:VE X e ge):VI X tg e (zED ge):=λpins s σ H R I q=>by
 obtain⟨τ,F,E,ds,E',S,hg,k⟩:=q
 obtain⟨p,e1,hg⟩:=Out.bind_ok hg
 split at hg
 ·rename_i ds' ed
  cases hg
  exact zTS h pins s σ H R I ⟨τ,F,E,ds,p.2,S,by unfold gSq;rw[e1];show(match p.1 with|.lst ds=>Out.ok (ds,p.2)|_=>.bad)=_;rw[ed],k⟩
 ·rename_i ds' ed
  cases hg
  exact zWW h pins s σ H R I ⟨τ,F,E,ds,p.2,S,by unfold gTp;rw[e1];show(match p.1 with|.tup ds=>Out.ok (ds,p.2)|_=>.bad)=_;rw[ed],k⟩
 ·rename_i kvs ed
  cases hg
  -- which of both it is shows when the value is there
  refine thn (h pins s σ H (λx H1=>∃F1,Stp (owA σ E) F H F1 H1 (owA σ p.2)/\Sim X.K X.H₀ τ F1 H1 σ p.2/\Rep X.K F1 x (.dk kvs)) I ⟨τ,F,E,p.1,p.2,S,e1,λv F1 H1 s1 S1 r1=>⟨F1,s1,S1,by rw[<-ed];exact r1⟩⟩) λv s1 ⟨x,H1,I1,r1,F1,st,S1,rr⟩=>?_
  cases rr with
  |dk hr r =>
   rename_i a kv
   (first|obtain rfl:=r1.vI|obtain rfl:=r1.vB|obtain rfl:=r1.vS|obtain rfl:=r1.vN|cases r1)
   rcases hr with hr|⟨o,hr⟩
   ·have ha:=S1.sub _ _ hr
    obtain⟨o,ho,I2⟩:=I1.freezeK ha
    obtain⟨es,ep,rw',z1,z2,z3⟩:=zFJ (I1.hok a _ ha)
    obtain⟨o',q1,q2,q3⟩:=id rw'.ex
    rw[ho] at q1;(first|obtain rfl:=q1.vI|obtain rfl:=q1.vB|obtain rfl:=q1.vS|obtain rfl:=q1.vN|cases q1)
    have n:=New.froze (o:=o) S1.sub hr trivial
    refine zFD rw' λh' kk ki=>?_
    refine⟨s1.heap.objs.size,[s1.heap.objs.size],_,_,_,rfl,I2.kept (t':=s1.toks) kk,zGK a _ o kv es ep q3 z1,ki,λb hb=>?_,k _ _ _ (st.trans n.stp) (S1.new n) (zFT zAN (r.le n.1.le))⟩
    have e:b=s1.heap.objs.size:=by simpa using hb
    subst e
    exact I2.fpOk (Nat.le_refl _) (I2.hok.fresh (Nat.le_refl _))
   ·have ha:=S1.sub _ _ hr
    obtain⟨ho,hx⟩:=I1.hok a _ ha
    obtain⟨es,ep,rw',z1,z2,z3⟩:=zFJ hx
    obtain⟨o',q1,q2,q3⟩:=id rw'.ex
    rw[ho] at q1;(first|obtain rfl:=q1.vI|obtain rfl:=q1.vB|obtain rfl:=q1.vS|obtain rfl:=q1.vN|cases q1)
    refine zFD rw' λh' kk ki=>?_
    refine⟨s1.heap.objs.size,[s1.heap.objs.size],_,_,_,rfl,I1.kept (t':=s1.toks) kk,zGK a _ o kv es ep q3 z1,ki,λb hb=>?_,k _ _ _ st S1 (zFT hr r)⟩
    have e:b=s1.heap.objs.size:=by simpa using hb
    subst e
    exact I1.fpOk (Nat.le_refl _) (I1.hok.fresh (Nat.le_refl _))
 ·rename_i kvs ed
  cases hg
  refine thn (h pins s σ H (λx H1=>∃F1,Stp (owA σ E) F H F1 H1 (owA σ p.2)/\Sim X.K X.H₀ τ F1 H1 σ p.2/\Rep X.K F1 x (.dt kvs)) I ⟨τ,F,E,p.1,p.2,S,e1,λv F1 H1 s1 S1 r1=>⟨F1,s1,S1,by rw[<-ed];exact r1⟩⟩) λv s1 ⟨x,H1,I1,r1,F1,st,S1,rr⟩=>?_
  cases rr with
  |dt hr r =>
   rename_i a kv
   (first|obtain rfl:=r1.vI|obtain rfl:=r1.vB|obtain rfl:=r1.vS|obtain rfl:=r1.vN|cases r1)
   rcases hr with hr|⟨o,hr⟩
   ·have ha:=S1.sub _ _ hr
    obtain⟨o,ho,I2⟩:=I1.freeze ha
    obtain⟨es,ep,rw',z1,z2,z3⟩:=zGI (I1.hok a _ ha)
    obtain⟨o',q1,q2,q3⟩:=id rw'.ex
    rw[ho] at q1;(first|obtain rfl:=q1.vI|obtain rfl:=q1.vB|obtain rfl:=q1.vS|obtain rfl:=q1.vN|cases q1)
    have n:=New.froze (o:=o) S1.sub hr trivial
    refine zFD rw' λh' kk ki=>?_
    refine⟨s1.heap.objs.size,[s1.heap.objs.size],_,_,_,rfl,I2.kept (t':=s1.toks) kk,zIU a _ o kv es ep q3 z1,ki,λb hb=>?_,k _ _ _ (st.trans n.stp) (S1.new n) (zFU zAN (r.le n.1.le))⟩
    have e:b=s1.heap.objs.size:=by simpa using hb
    subst e
    exact I2.fpOk (Nat.le_refl _) (I2.hok.fresh (Nat.le_refl _))
   ·have ha:=S1.sub _ _ hr
    obtain⟨ho,hx⟩:=I1.hok a _ ha
    obtain⟨es,ep,rw',z1,z2,z3⟩:=zGI hx
    obtain⟨o',q1,q2,q3⟩:=id rw'.ex
    rw[ho] at q1;(first|obtain rfl:=q1.vI|obtain rfl:=q1.vB|obtain rfl:=q1.vS|obtain rfl:=q1.vN|cases q1)
    refine zFD rw' λh' kk ki=>?_
    refine⟨s1.heap.objs.size,[s1.heap.objs.size],_,_,_,rfl,I1.kept (t':=s1.toks) kk,zIU a _ o kv es ep q3 z1,ki,λb hb=>?_,k _ _ _ st S1 (zFU hr r)⟩
    have e:b=s1.heap.objs.size:=by simpa using hb
    subst e
    exact I1.fpOk (Nat.le_refl _) (I1.hok.fresh (Nat.le_refl _))
 ·cases hg
end
theorem walk_v{l:PySem.W.OpenLaw}{q:Program}{loose:List Str}{XP:(Str->Option Value)->Heap->Prop}{YP:World->Heap->Prop}{d:DefRec}{K:Params->PySem.W.Frag}{lv:Nat}{m:Mr}(hn:l.most=some 63)(hdf:d.params.defaults=[])(hr:Room lv callerA)
  (hY:∀(w:World) (h:Heap),YP w h->(K w.params).In h) (tK:∀w:World,Tabs (K w.params) q) (hm:∀ns:List Int,ns.length<=63->∃b d',m [.val (.lst (ns.map D.int))]=.ok (b,.bl true,d'))
  (F:∀(w:World) (mg:Str->Option Value) (fa:Addr) (h:Heap),(K w.params).In h->h.Ns mainGlobals mg->mg d.name=some (.ref fa) ->
   ∃fd:FuncData,(∀(s:Shared) (u:Value),BindsTo s fd ⟨[u],[]⟩ [("script",u)])/\∀base:Heap,(K w.params).In base->base.Ns mainGlobals mg->CB (K w.params) base->FnOk l.prog w (K w.params) mg base CX0 lv fa fd ["script"] (spV (K w.params) 1 m)) :
  PySem.W.WalkO q loose XP YP l.row.toRowW d [] (λf vs=>PySem.call f vs) :=
 L2.walk_of (n:=63) (k:=lv) (x:="script") (CX:=λ_=>CX0) (sp:=λw=>spV (K w.params) 1 m) hn (by decide) hdf hr hY tK F (λw H a ns hl _ hS=>by
  obtain⟨b,d',e⟩:=hm ns hl
  refine⟨rfl,0,H,_,b,_,d',⟨λ_ _ z=>z,rfl,λi d0 z=>?_,λi t d0 z=>?_,λi j t u d1 d2 a' z=>?_⟩,λi t d0 z=>?_,e,λv F' H' st S r=>?_⟩
  ·cases i with
   |zero=>cases z;exact⟨_,rfl,.lst hS (Reps.ints ns)⟩
   |succ i=>simp at z
  ·cases i with
   |zero=>cases z
   |succ i=>simp at z
  ·cases i with
   |zero=>cases z
   |succ i=>simp at z
  ·cases i with
   |zero=>cases z
   |succ i=>simp at z
  ·cases b with
   |false=>(first|obtain rfl:=r.vI|obtain rfl:=r.vB|obtain rfl:=r.vS|obtain rfl:=r.vN|cases r);rfl
   |true=>obtain⟨_,_,_,ow,_⟩:=r;exact ow.elim) λ_ _ _ _ _ z=>z
end L2
namespace L2
open PySem
theorem zXJ{P:Program}{w:World}{K:PySem.W.Frag}{mg:Str->Option Value}{base:Heap}{k np:Nat}{f:Addr}{fd:FuncData}{ps:List Str}:FnOk P w K mg base CX0 k f fd ps (spV K np λ_=>.bad) :=
 ⟨(λvs H Q E h=>by obtain⟨_,_,_,_,_,_,_,_,_,hm,_⟩:=h;cases hm),(λA outer s H args us vs Q E hr e b v h=>by obtain⟨_,_,_,_,_,_,_,_,_,hm,_⟩:=h;cases hm)⟩
end L2
namespace L2
open PySem PySem.Spec PyProof.Rows
section
variable{X:Cx}{K:PySem.W.Frag}{H₀ F H F1 H1:Hp}{τ:Addr}{σ:St}{E:Ev}{acc:Addr}{k:Nat}{pos:Pos}{scope:Scope}{cl:List (Str×Addr)}{own caps:List Str}{js:List Nat}
end
section
variable{X:Cx}{K:PySem.W.Frag}{H₀ F H F1 H1:Hp}{τ:Addr}{σ:St}{E:Ev}{e:Expr}{g:G}{xn:Str}{q apos cpos:Pos}
end
section
variable{X:Cx}{pins:List (Addr×Obj)}{σ:List (Option V)}{H:Hp}{s:Shared}
end
section
variable{X:Cx}{scope:Scope}{cl:List (Str×Addr)}{p:Str}{caps:List Str}{js:List Nat}{pins:List (Addr×Obj)}{σ:St}{H:Hp}{s:Shared}{A:Around}{q:Str}{f:Addr}{cd:Value}
end
end L2
namespace L2
open PySem PySem.Spec PyProof.Rows PySem.W
section
variable{X:Cx}{pins:List (Addr×Obj)}{σ:St}{H:Hp}{s:Shared}
end
section
variable{X:Cx}{pins:List (Addr×Obj)}{σ:St}{H:Hp}{s:Shared}{scope:Scope}{cl:List (Str×Addr)}{p:Str}{caps:List Str}{js:List Nat}{A:Around}{q:Str}{f:Addr}{params:Arguments}{body:Expr}{pm ctv:Value}{c':Addr}{t:Hp->TE}{o:Obj}
end
section
variable{X:Cx}{pins:List (Addr×Obj)}{σ:St}{H:Hp}{s:Shared}{scope:Scope}{cl:List (Str×Addr)}{p:Str}{caps:List Str}{js:List Nat}{A:Around}{q:Str}{f:Addr}{params:Arguments}{body:Expr}{pm ctv:Value}{c':Addr}{t:Hp->TE}{o:Obj}
end
section
variable{X:Cx}{pins:List (Addr×Obj)}{σ:St}{H:Hp}{s:Shared}{scope:Scope}{cl:List (Str×Addr)}{p:Str}{caps:List Str}{js:List Nat}{q:Str}{f:Addr}{params:Arguments}{body:Expr}{pm ctv:Value}{c':Addr}{t:Hp->TE}{o:Obj}
end
section
variable{X:Cx}{scope:Scope}{cl:List (Str×Addr)}{p:Str}{caps:List Str}{js:List Nat}{q:Str}{params:Arguments}{body:Expr}{t:Hp->TE}{c T:Addr}{l:Expr}{tl:TE}{p1 pos lpos kpos:Pos}
end
end L2
namespace L2
open PySem PySem.Spec PyProof.Rows
section
variable{K:PySem.W.Frag}{H₀:Hp}{τ:Addr}{F H F' H':Hp}{σ:St}{E:Ev}{js:List Nat}{T:Addr}{q:Str}
end
section
variable{X:Cx}{K:PySem.W.Frag}{H₀ F H F1 H1:Hp}{τ:Addr}{pos:Pos}{g:GS}
end
section
variable{X:Cx}{scope:Scope}{cl:List (Str×Addr)}{x:Str}{caps:List Str}{js:List Nat}{q:Str}{params:Arguments}{body:Expr}{c T:Addr}{l tg:Expr}{gl ge:G}{p1 pos lpos kpos:Pos}
end
theorem fm_range{α:Type}:∀l:List α,(List.range l.length).filterMap (λi=>l[i]?)=l
 |[]=>rfl
 |a::l=>by
  rw[List.length_cons,List.range_succ_eq_map,List.filterMap_cons]
  simp only[List.getElem?_cons_zero,List.filterMap_map]
  congr 1
  exact fm_range l
section
variable{X:Cx}{e st:Expr}{te ts:TE}{pos p2:Pos}
end
section
variable{X:Cx}{e st:Expr}{ge gs:G}{pos p2:Pos}
end
section
variable{K:PySem.W.Frag}{x:Str}{f c T:Addr}{oc oc':Value}{od od':Option Addr}{fd:FuncData}{sl sl':Array (Option Value)}{vs:Array Value}
theorem zRH(a:PySem.W.nsIn K mainGlobals x=some none):PySem.W.tabIn K x=none:=by
 unfold PySem.W.tabIn
 rw[a]
inductive TabE(K:PySem.W.Frag)(q:Program)(x:Str):Option Addr->Prop
 |no:PySem.W.nsIn K mainGlobals x=some none->TabE K q x none
 |tab {c T:Addr} {d:DefRec}:PySem.W.tabIn K x=some (c,T)->K.lookup T=none->(recsOf q).find? (λe=>e.name==x)=some d->TabE K q x (some T)
theorem Tabs.of {q : Program} {t1 t2 t3 t4 : Option Addr} (h1 : TabE K q "holders" t1) (h2 : TabE K q "_law_table" t2) (h3 : TabE K q "_law_back" t3) (h4 : TabE K q "_law_kept_right" t4)
    (ap : [t1, t2, t3, t4].Pairwise fun a b => a = none ∨ a ≠ b) : Tabs K q := by
  have g : ∀ {x : Str} {t : Option Addr}, TabE K q x t → ∀ c T, PySem.W.tabIn K x = some (c, T) → t = some T ∧ K.lookup T = none ∧ ∃ d, (recsOf q).find? (fun e => e.name == x) = some d := fun {x t} h c T e => by
    cases h with
    | no z => rw [zRH z] at e; cases e
    | tab z1 z2 z3 => rw [z1] at e; cases e; exact ⟨rfl, z2, _, z3⟩
  have all : ∀ x ∈ zCH, ∃ t, TabE K q x t := fun x hx => by
    unfold zCH at hx
    simp only [List.mem_cons, List.not_mem_nil, or_false] at hx
    rcases hx with rfl | rfl | rfl | rfl
    · exact ⟨_, h1⟩
    · exact ⟨_, h2⟩
    · exact ⟨_, h3⟩
    · exact ⟨_, h4⟩
  simp only [List.pairwise_cons, List.mem_cons, List.not_mem_nil, or_false, forall_eq_or_imp, forall_eq, false_implies, implies_true, and_true] at ap
  refine ⟨fun x hx c T e => let ⟨t, h⟩ := all x hx; (g h c T e).2.2, fun x hx c T e => let ⟨t, h⟩ := all x hx; (g h c T e).2.1, fun x hx y hy c c' T e e' => ?_⟩
  unfold zCH at hx hy
  simp only [List.mem_cons, List.not_mem_nil, or_false] at hx hy
  rcases hx with rfl | rfl | rfl | rfl <;> rcases hy with rfl | rfl | rfl | rfl
  all_goals first
    | rfl
    | (exfalso; simp_all [(g h1 _ _ ‹_›).1]; done)
    | (exfalso
       first
         | (have a := (g h1 _ _ e).1; have b := (g h2 _ _ e').1; subst a; subst b; simp at ap; done)
         | (have a := (g h1 _ _ e).1; have b := (g h3 _ _ e').1; subst a; subst b; simp at ap; done)
         | (have a := (g h1 _ _ e).1; have b := (g h4 _ _ e').1; subst a; subst b; simp at ap; done)
         | (have a := (g h2 _ _ e).1; have b := (g h1 _ _ e').1; subst a; subst b; simp at ap; done)
         | (have a := (g h2 _ _ e).1; have b := (g h3 _ _ e').1; subst a; subst b; simp at ap; done)
         | (have a := (g h2 _ _ e).1; have b := (g h4 _ _ e').1; subst a; subst b; simp at ap; done)
         | (have a := (g h3 _ _ e).1; have b := (g h1 _ _ e').1; subst a; subst b; simp at ap; done)
         | (have a := (g h3 _ _ e).1; have b := (g h2 _ _ e').1; subst a; subst b; simp at ap; done)
         | (have a := (g h3 _ _ e).1; have b := (g h4 _ _ e').1; subst a; subst b; simp at ap; done)
         | (have a := (g h4 _ _ e).1; have b := (g h1 _ _ e').1; subst a; subst b; simp at ap; done)
         | (have a := (g h4 _ _ e).1; have b := (g h2 _ _ e').1; subst a; subst b; simp at ap; done)
         | (have a := (g h4 _ _ e).1; have b := (g h3 _ _ e').1; subst a; subst b; simp at ap; done))
end
end L2
namespace HT
open PySem PySem.Spec PyProof.Rows
section
variable{prog:Program}{w:World}{A:Around}{E:Value->Shared->Prop}{s:Shared}
theorem places_rev(n:Nat):Builtin.Slice.slicePlaces ((n:Int)-1) (-1) (-1)=n:=by
 unfold Builtin.Slice.slicePlaces
 rw[if_neg (by decide)]
 split
 ·rw[show -(-1:Int)=1 from rfl,Int.ediv_one];lia
 ·lia
theorem zFB{sl:Addr}{t:Tok}{n:Nat}{Q:Int×Int×Nat->Shared->Prop}(hs:s.heap.IsSliceOf sl .none .none (.int (-1) t))
  (h:Q ((n:Int)-1,-1,n) s):wpAny (model prog w) A (Builtin.Slice.sliceApplied (.ref sl) (pure (n:Int))) Q E s:=by
 obtain⟨os,hos,hcs,hds⟩:=id hs
 unfold Builtin.Slice.sliceApplied Builtin.Slice.sliceFields
 refine wpAny_bind (wpAny_bind (wpAny_field hos hds (x:=.none) rfl (wpAny_bind (wpAny_field hos hds (x:=.none) rfl (wpAny_bind (wpAny_field hos hds (x:=.int (-1) t) rfl (wpAny_pure ?_)))))))
 refine wpAny_bind (slicePart_int ?_)
 show wpAny _ _ (if((-1:Int)==0)=true then _ else _) _ _ s
 rw[if_neg (by decide)]
 refine wpAny_bind (slicePart_none (wpAny_bind (slicePart_none (wpAny_bind (wpAny_pure ?_)))))
 show wpAny _ _ (pure ((n:Int)-1,(-1:Int),Builtin.Slice.slicePlaces ((n:Int)-1) (-1) (-1))) _ _ s
 rw[places_rev]
 exact wpAny_pure h
theorem zRI(its:List Value):((List.range its.length).filterMap λ(m:Nat)=>its.toArray[(((its.length:Int)-1)+(m:Int) * (-1)).toNat]?).toArray=its.reverse.toArray:=by
 congr 1
 have g:∀ks:List Nat,(∀k∈ks,k<its.length)->ks.filterMap (λ(m:Nat)=>its.toArray[(((its.length:Int)-1)+(m:Int) * (-1)).toNat]?)=ks.filterMap λi=>its.reverse[i]?:=by
  intro ks
  induction ks with
  |nil=>intro _;rfl
  |cons k ks ih =>
   intro hk
   have hkl:=hk k (.head _)
   have e:its.toArray[(((its.length:Int)-1)+(k:Int) * (-1)).toNat]?=its.reverse[k]?:=by
    rw[List.getElem?_reverse hkl,List.getElem?_toArray]
    congr 1;lia
   rw[List.filterMap_cons,List.filterMap_cons,e,ih λk hk'=>hk k (.tail _ hk')]
 refine(g _ λk hk=>List.mem_range.mp hk).trans ?_
 have:=L2.fm_range its.reverse
 rw[List.length_reverse] at this
 exact this
theorem getItem_tuple_rev{t sl:Addr}{its:List Value}{tk:Tok}{Q:Value->Shared->Prop}(ht:IsTup s.heap t its.toArray)(hs:s.heap.IsSliceOf sl .none .none (.int (-1) tk))
  (h:Q (.ref s.heap.objs.size) { s with heap:=s.heap.push { cls:=.type "tuple",data:=.seq its.reverse.toArray } })
  (hsz:its.length<=sizeLine):wpAny (model prog w) A (getItem (.ref t) (.ref sl)) Q E s:=by
 have htake:sizeOk (.seq its.reverse.toArray):=by
  show its.reverse.toArray.size<=sizeLine
  rw[List.size_toArray,List.length_reverse];exact hsz
 obtain⟨os,hos,hcs,hds⟩:=id hs
 have hTs:s.TypeIs (.ref sl) "slice":=⟨os,hos,hcs⟩
 unfold getItem
 try with_reducible refine wpAny_holding ?_
 first|refine wpAny_bind (wpAny_pure ?_)|skip
 refine wpAny_bind (wpAny_sequenceKey ht.typeIs (by decide) ?_)
 refine wpAny_bind (wpAny_callSpecial?_slot (name:=Str.ofString "__getitem__") ht.typeIs PyProof.Rows.slot_tuple_getitem
  (wpAny_call_entry PyProof.Rows.slot_tuple_getitem ht.typeIs entry_tuple_getitem ?_ (args_tuple_getitem _ _)))
 show wpAny _ _ (Builtin.Tuple.tupleItemsOf (.ref t) >>= _) _ _ s
 refine wpAny_bind (tupleItemsOf_ ht ?_)
 refine wpAny_bind (wpAny_typeOf hTs ?_)
 rw[if_pos (by decide)]
 have hz:its.toArray.size=its.length:=List.size_toArray
 rw[hz]
 refine wpAny_bind (zFB hs ?_)
 show wpAny _ _ (if((((its.length:Int)-1)==0&&(-1:Int)==1&&its.length==its.toArray.size)=true) then _ else _) _ _ s
 rw[if_neg (by simp),zRI]
 first
  |exact wpAny_bind (m:=Builtin.Tuple.tupleExact _) (wpAny_newObj_type (wpAny_pure ⟨_,rfl,wpAny_pure h⟩) htake)
  |exact wpAny_bind (m:=Builtin.Tuple.tupleExact _) (wpAny_newObj_type (wpAny_bind (wpAny_pure (wpAny_pure ⟨_,rfl,wpAny_pure h⟩))) htake)
  |exact wpAny_bind (wpAny_bind (m:=Builtin.Tuple.tupleExact _) (wpAny_newObj_type (wpAny_pure (wpAny_pure ⟨_,rfl,wpAny_pure h⟩)) htake))
  |exact wpAny_bind (wpAny_bind (m:=Builtin.Tuple.tupleExact _) (wpAny_newObj_type (wpAny_pure ⟨_,rfl,wpAny_pure h⟩) htake))
end
end HT
namespace L2
open PySem PySem.Spec PyProof.Rows
section
variable{X:Cx}{e st:Expr}{te ts:TE}{pos p2:Pos}
def zY9(K:PySem.W.Frag)(te ts:TE):TE:=λσ H Q=>te σ H λx H1=>ts σ H1 λy H2=>y=.int (-1)/\∃a xs,x=.ref a/\SqT K H2 a xs/\∀p,H2 p=none->Q (.ref p) (upd H2 p (.tup xs.reverse))
theorem zUK(he:PE X e te)(hs:PE X st ts):PE X (.Subscript e (.Slice none none (some st) p2) pos) (zY9 X.K te ts):=by
 intro pins s σ H Q I h
 refine Subscript_ (thn (he pins s σ H _ I h) λv s1 ⟨x,H1,I1,r1,q1⟩=>?_)
 refine wpAny_Slice ?_
 rw[evalPart_none]
 refine wpAny_pure (wpAny_pure ?_)
 rw[evalPart_some]
 refine thn (hs pins s1 σ H1 _ I1 q1) λu s3 ⟨y,H3,I3,r3,q3⟩=>?_
 obtain⟨rfl,a,xs,rfl,hx,q⟩:=q3
 obtain⟨t,rfl⟩:=r3
 cases r1
 have I4:Inv X pins σ H3 { s3 with heap:=s3.heap.push { cls:=.type "slice",data:=.fields #[.none,.none,.int (-1) t] } }:=I3.kept (t':=s3.toks) λb ob q=>Heap.get?_push_of_some _ q
 obtain⟨its,r,ht,hz⟩:=I4.tuple hx
 have hlen:=r.length
 show wpAny (model X.prog X.w) X.A (subscriptTail e (.Slice none none (some st) p2) (.ref a) (.ref s3.heap.objs.size)) (EP X pins σ Q) X.xe { s3 with heap:=s3.heap.push { cls:=.type "slice",data:=.fields #[.none,.none,.int (-1) t] } }
 refine tail_any (ops:=[.ref a,.ref s3.heap.objs.size]) ht.typeIs slot_tuple_getitem.lookup ?_ (by with_unfolding_all rfl)
 refine HT.getItem_tuple_rev ht (Heap.IsSliceOf.new ..) ?_ (by rw[<-hlen];exact hz)
 refine⟨.ref (s3.heap.push { cls:=.type "slice",data:=.fields #[.none,.none,.int (-1) t] }).objs.size,_,I4.laid (t':=s3.toks) (o:=.tup xs.reverse) (λb ob q=>Heap.get?_push_of_some _ q) (Nat.le_refl _) ?_,rfl,q _ (I4.hok.fresh (Nat.le_refl _))⟩
 exact⟨by rw[List.length_reverse];exact hz,its.reverse,Vals.reverse r,IsTupP.new _ _⟩
end
end L2
namespace HT
open PySem PySem.Spec PyProof.Rows
noncomputable def lexLe:List Int->List Int->Bool
 |[],_=>true
 |_::_,[]=>false
 |a::x,c::y=>if a=c then lexLe x y else decide (a<=c)
theorem zHT:lexLe [] []=true:=rfl
theorem zF9(c:Int)(y:List Int):lexLe [] (c::y)=true:=rfl
theorem zGA(a:Int)(x:List Int):lexLe (a::x) []=false:=rfl
theorem lexLe_cons(a c:Int)(x y:List Int):lexLe (a::x) (c::y)=if a=c then lexLe x y else decide (a<=c):=rfl
theorem zRJ(A:Around)(s:Shared)(a:Int)(t:Tok)(c:Int)(u:Tok)(prog:Program)(w:World)(E:Value->Shared->Prop)(Q:Value->Shared->Prop)(h:Q (.bool (decide (a<=c))) s) :
  wpAny (model prog w) A (richCompare .LtE (.int a t) (.int c u)) Q E s :=
 (PyProof.Rows.le_int h:wpAny (model prog w) A (compareOp .LtE (.int a t) (.int c u)) Q E s)
section
open PySem.SeqAt
open PySem.AutoSeq1 (wpAny_loadPart')
open PySem.MeetsSeq PySem.MeetsSeq2 PySem.MeetsSeq3
theorem zHU(l b:Addr)(items items2:Array Value)(n n2:Nat)(dd dd2:Option Addr)(sl sl2:Array (Option Value))(ns ms:List Int)(hi:IntsAre items.toList ns)(hj:IntsAre items2.toList ms) :
  Meets (Builtin.«tuple.__le__» ⟨[.ref l,.ref b],[]⟩)
   (λ_ R s=>s.heap.get? l=some { cls:=.type "tuple",dict:=dd,data:=.seq items n,slots:=sl }/\s.heap.get? b=some { cls:=.type "tuple",dict:=dd2,data:=.seq items2 n2,slots:=sl2 } /\
    R (.ok (.ret (.bool (lexLe ns ms)))) s) :=
 .of_wp λprog w A R s h=>by
  obtain⟨hp,g,d,tk,os⟩:=s;obtain⟨hl,hb,h⟩:=h
  have f2:=AutoSeq1.sub_tuple_tuple
  have z1:items.size=ns.length:=by rw[<-hi.length];simp
  have z2:items2.size=ms.length:=by rw[<-hj.length];simp
  wp_walk using wpAny_loadPart' hl,wpAny_loadPart' hb,wpAny_forIn_list _ (λrest b s'=>b.1=none/\s'=⟨hp,g,d,tk,os⟩/\∃(vs ws:List Value) (ns' ms':List Int),rest=vs.zip ws /\
   IntsAre vs ns'/\IntsAre ws ms'/\ns'.length+items2.size=ms'.length+items.size/\R (.ok (.ret (.bool (lexLe ns' ms')))) ⟨hp,g,d,tk,os⟩) _
  case turn =>
   rintro⟨y,x⟩ rest b s' ⟨hb',rfl,vs,ws,ns',ms',hz,hvi,hwi,hlen,hR⟩
   cases hvi with
   |nil=>rw[List.zip_nil_left] at hz;cases hz
   |cons a t hvi' =>
    cases hwi with
    |nil=>rw[List.zip_nil_right] at hz;cases hz
    |cons c u hwi' =>
     rw[List.zip_cons_cons] at hz
     injection hz with hyx hrest
     injection hyx with hy hx
     subst hy hx
     rw[lexLe_cons] at hR
     simp only[List.length_cons] at hlen
     obtain⟨e,he,hiff⟩:=zK1 A.in1 ⟨hp,g,d,tk,os⟩ a t c u
     refine wpAny_bind (he prog w _ _ ?_)
     cases e with
     |true =>
      rw[if_pos (hiff.mp rfl)] at hR
      wp_walk
      exact⟨rfl,rfl,_,_,_,_,hrest,hvi',hwi',by lia,hR⟩
     |false =>
      rw[if_neg (λq=>absurd (hiff.mpr q) Bool.false_ne_true)] at hR
      have hri:=zRJ A.in1 ⟨hp,g,d,tk,os⟩ a t c u prog w
      wp_walk using hri
      exact⟨_,rfl,by simpa using hR⟩
  case fin =>
   rintro⟨b1,b2⟩ s' ⟨hb',rfl,vs,ws,ns',ms',hz,hvi,hwi,hlen,hR⟩
   simp only at hb'
   subst hb'
   have hv:lexLe ns' ms'=decide (items.size<=items2.size):=by
    cases hvi with
    |nil =>
     cases hwi with
     |nil =>
      simp only[List.length_nil] at hlen
      rw[zHT]
      exact(decide_eq_true (by lia)).symm
     |cons c u hw =>
      simp only[List.length_nil,List.length_cons] at hlen
      rw[zF9]
      exact(decide_eq_true (by lia)).symm
    |cons a t hv =>
     cases hwi with
     |nil =>
      simp only[List.length_nil,List.length_cons] at hlen
      rw[zGA]
      exact(decide_eq_false (by lia)).symm
     |cons c u hw =>
      rw[List.zip_cons_cons] at hz
      cases hz
   rw[hv] at hR
   wp_walk
   exact⟨_,rfl,by simpa[Builtin.Tuple.tupleCompareSizes] using hR⟩
  case h =>
   exact⟨rfl,rfl,items.toList,items2.toList,ns,ms,rfl,hi,hj,by lia,h⟩
end
section
variable{prog:Program}{w:World}{A:Around}{E:Value->Shared->Prop}{s:Shared}
theorem le_tupInts{l b:Addr}{items items2:Array Value}{ns ms:List Int}{Q:Value->Shared->Prop}(hl:IsTup s.heap l items)(hb:IsTup s.heap b items2)(hi:IntsAre items.toList ns)(hj:IntsAre items2.toList ms)
  (hu:A.units<cLine) (h:Q (.bool (lexLe ns ms)) s):wpAny (model prog w) A (compareOp .LtE (.ref l) (.ref b)) Q E s:=by
 obtain⟨⟨cls,dd,data,sl⟩,ho,hc,n,hd⟩:=id hl
 obtain⟨⟨cls2,dd2,data2,sl2⟩,ho2,hc2,n2,hd2⟩:=id hb
 simp only at hc hd hc2 hd2
 subst hc hd hc2 hd2
 exact richCompare_meets_room (op:=.LtE) ⟨_,ho,rfl⟩ ⟨_,ho2,rfl⟩ PySem.F.slot_tuple_le PySem.F.entry_tuple_le (PySem.F.args_tuple_le_2 _ _) (zHU l b items items2 n n2 dd dd2 sl sl2 ns ms hi hj)
  ⟨ho,ho2,show Value.bool (lexLe ns ms)≠Value.notImplemented/\Q (.bool (lexLe ns ms)) s from⟨(λx=>nomatch x),h⟩⟩ hu
end
end HT
namespace L2
open PySem PySem.Spec PyProof.Rows
section
variable{X:Cx}
def yAE(K:PySem.W.Frag):R2:=λx y H Q=>∃a b ns ms,x=.ref a/\y=.ref b/\SqT K H a (ns.map V.int)/\SqT K H b (ms.map V.int)/\Q (.bl (HT.lexLe ns ms)) H
theorem zXK(hu:X.A.units<cLine):OpR X (compareOp .LtE) (yAE X.K):=by
 intro pins s σ H x y v u Q I rx ry h
 obtain⟨a,b,ns,ms,rfl,rfl,ha,hb,q⟩:=h
 cases rx
 cases ry
 obtain⟨its,r1,p1,_⟩:=I.tuple ha
 obtain⟨its2,r2,p2,_⟩:=I.tuple hb
 have i1:IntsAre its.toArray.toList ns:=zBJ r1
 have i2:IntsAre its2.toArray.toList ms:=zBJ r2
 exact HT.le_tupInts p1 p2 i1 i2 hu ⟨.bl (HT.lexLe ns ms),H,I,rfl,q⟩
end
section
variable{X:Cx}
theorem zOX(hc:X.calm=true):CallR X (.builtin "min") (λxs H Q=>∃(l:Addr) (ns:List Int),xs=[.ref l]/\SqT X.K H l (ns.map V.int)/\ns≠[]/\∀m,m∈ns->(∀x∈ns,m<=x)->Q (.int m) H):=by
 intro pins s σ H xs us Q I r h
 obtain⟨l,ns,rfl,hl,hne,q⟩:=h
 obtain⟨u,rfl,ru⟩:=zD8 r
 cases ru
 obtain⟨its,rv,pl,hz⟩:=I.tuple hl
 have pt:s.heap.IsTuple l its.toArray:=pl
 have hi:IntsAre its ns:=zBJ rv
 have hlen:=rv.length
 rw[List.length_map] at hlen
 have hpos:0<ns.length:=by cases ns with|nil=>exact absurd rfl hne|cons _ _=>simp
 have hlt:l<s.heap.objs.size:=by obtain⟨o,ho,_⟩:=id pl;exact Heap.lt_size ho
 refine call_min_walk (wpAny_pyIter_tuple pt ?_)
 refine⟨_,_,_,_,_,_,_,rfl,Walks.tuple (A:=X.A.in1) (by have:=I.ok.hd hc;simp[this]) _ l (Nat.ne_of_lt hlt) its.toArray,⟨⟨_,Heap.get?_push_size _ rfl,rfl,rfl⟩,pt.push _⟩,?_,by simp;lia,CmpOf.ints_lt (λi=>ns.getD i 0) (λi v hv=>IntsAre.int_at hi i v (by simpa using hv)),λv h' tk hP hk=>?_⟩
 ·intro b hb
  show b<(s.heap.push _).objs.size
  rw[Heap.size_push]
  rcases List.mem_cons.mp hb with rfl|hb
  ·exact Nat.lt_succ_self _
  ·rw[List.mem_singleton.mp hb]
   exact Nat.lt_succ_of_lt hlt
 ·obtain⟨b1,b2⟩:=argBest_lt (λi=>ns.getD i 0) (its.toArray.size-1)
  obtain⟨t,rfl⟩:=IntsAre.int_at hi _ v (List.getElem?_toArray.symm.trans hP)
  have hsz:its.toArray.size=ns.length:=by simpa using hlen.symm
  have hbl:argBest (λi j=>decide (ns.getD i 0<ns.getD j 0)) (its.toArray.size-1)<ns.length:=by lia
  have gd:∀j,(hj:j<ns.length)->ns.getD j 0=ns[j]:=λj hj=>by rw[List.getD_eq_getElem?_getD,List.getElem?_eq_getElem hj];rfl
  refine⟨.int _,H,I.kept (t':=tk) λb o e=>hk b o ?_ (Heap.get?_push_of_some _ e),⟨t,rfl⟩,q _ ?_ λx hx=>?_⟩
  ·simp only[List.mem_singleton]
   exact Nat.ne_of_lt (Heap.lt_size e)
  ·rw[gd _ hbl]
   exact List.getElem_mem hbl
  ·obtain⟨j,hj,rfl⟩:=List.mem_iff_getElem.mp hx
   have:=b2 j (by lia)
   rw[gd j hj] at this
   exact this
theorem zOY(hc:X.calm=true):CallR X (.builtin "max") (λxs H Q=>∃(l:Addr) (ns:List Int),xs=[.ref l]/\SqT X.K H l (ns.map V.int)/\ns≠[]/\∀m,m∈ns->(∀x∈ns,x<=m)->Q (.int m) H):=by
 intro pins s σ H xs us Q I r h
 obtain⟨l,ns,rfl,hl,hne,q⟩:=h
 obtain⟨u,rfl,ru⟩:=zD8 r
 cases ru
 obtain⟨its,rv,pl,hz⟩:=I.tuple hl
 have pt:s.heap.IsTuple l its.toArray:=pl
 have hi:IntsAre its ns:=zBJ rv
 have hlen:=rv.length
 rw[List.length_map] at hlen
 have hpos:0<ns.length:=by cases ns with|nil=>exact absurd rfl hne|cons _ _=>simp
 have hlt:l<s.heap.objs.size:=by obtain⟨o,ho,_⟩:=id pl;exact Heap.lt_size ho
 refine call_max_walk (wpAny_pyIter_tuple pt ?_)
 refine⟨_,_,_,_,_,_,_,rfl,Walks.tuple (A:=X.A.in1) (by have:=I.ok.hd hc;simp[this]) _ l (Nat.ne_of_lt hlt) its.toArray,⟨⟨_,Heap.get?_push_size _ rfl,rfl,rfl⟩,pt.push _⟩,?_,by simp;lia,CmpOf.ints_gt (λi=>ns.getD i 0) (λi v hv=>IntsAre.int_at hi i v (by simpa using hv)),λv h' tk hP hk=>?_⟩
 ·intro b hb
  show b<(s.heap.push _).objs.size
  rw[Heap.size_push]
  rcases List.mem_cons.mp hb with rfl|hb
  ·exact Nat.lt_succ_self _
  ·rw[List.mem_singleton.mp hb]
   exact Nat.lt_succ_of_lt hlt
 ·obtain⟨b1,b2⟩:=argBest_gt (λi=>ns.getD i 0) (its.toArray.size-1)
  obtain⟨t,rfl⟩:=IntsAre.int_at hi _ v (List.getElem?_toArray.symm.trans hP)
  have hsz:its.toArray.size=ns.length:=by simpa using hlen.symm
  have hbl:argBest (λi j=>decide (ns.getD i 0>ns.getD j 0)) (its.toArray.size-1)<ns.length:=by lia
  have gd:∀j,(hj:j<ns.length)->ns.getD j 0=ns[j]:=λj hj=>by rw[List.getD_eq_getElem?_getD,List.getElem?_eq_getElem hj];rfl
  refine⟨.int _,H,I.kept (t':=tk) λb o e=>hk b o ?_ (Heap.get?_push_of_some _ e),⟨t,rfl⟩,q _ ?_ λx hx=>?_⟩
  ·simp only[List.mem_singleton]
   exact Nat.ne_of_lt (Heap.lt_size e)
  ·rw[gd _ hbl]
   exact List.getElem_mem hbl
  ·obtain⟨j,hj,rfl⟩:=List.mem_iff_getElem.mp hx
   have:=b2 j (by lia)
   rw[gd j hj] at this
   exact this
end
noncomputable def zMY:PyData->Str
 |.str x=>x
 |.int i=>(toString i:String)
 |.bool b=>if b then "True" else "False"
 |.none=>"None"
 |d=>d.shown
section
variable{X:Cx}
theorem zOZ(hg:X.A.guards=some [])(hu:X.A.units+64<cLine):CallR X (.type "str") (λxs H Q=>∃v d,xs=[v]/\DV X.K H v d/\d.showable=true/\d.depth<=50/\(zMY d).length<=sizeLine/\Q (.str (zMY d)) H):=by
 intro pins s σ H xs us Q I r h
 obtain⟨v,d,rfl,hv,hs,hd,hl,q⟩:=h
 obtain⟨u,rfl,ru⟩:=zD8 r
 have seq:∀{a:Addr} {d:PyData},DV X.K H (.ref a) d->RelV (.ref a) u->d.showable=true->d.depth<=50->d.shown.length<=sizeLine->Q (.str d.shown) H->wpAny (model X.prog X.w) X.A (call (.type "str") [u]) (EP X pins σ Q) X.xe s:=λ{a d} hv ru hs hd hl q=>by
  obtain⟨as,rd⟩:=hv.reads I ru
  cases ru
  exact str_of_reads rd hs (PyData.noDict_hsm (PyData.hasDict_of_canLay _ hv.can)) hg (by lia) (λb o e=>e) (λh' tu tk hk=>⟨.str _,H,I.kept (t':=tk) hk,⟨tu,rfl⟩,q⟩) hl
 cases hv with
 |non=>cases ru;exact P.str_of_none ⟨.str _,H,I.tok _,⟨_,rfl⟩,q⟩
 |bl b=>cases ru;exact P.str_of_bool ⟨.str _,H,I.tok _,⟨_,rfl⟩,q⟩
 |int i=>obtain⟨t,rfl⟩:=ru;exact P.str_of_int (by simpa[PyData.showable] using hs) ⟨.str _,H,I.tok _,⟨_,rfl⟩,q⟩
 |str x hx=>obtain⟨t,rfl⟩:=ru;exact P.str_of_str ⟨.str _,H,I,⟨_,rfl⟩,q⟩
 |tup h1 h2=>exact seq (.tup h1 h2) ru hs hd hl q
 |lst h1 h2=>exact seq (.lst h1 h2) ru hs hd hl q
end
noncomputable def zMT(ge gs:G):G:=λE=>(ge E).bind λp=>(gs p.2).bind λq=>match p.1 with
 |.tup xs=>if q.1 matches .int (-1) then .ok (.tup xs.reverse,q.2) else .bad
 |_=>.bad
noncomputable def leT(x y:D):Out D:=match x,y with
 |.tup xs,.tup ys=>match zBD xs,zBD ys with
  |some ns,some ms=>.ok (.bl (HT.lexLe ns ms))
  |_,_=>.bad
 |_,_=>.bad
noncomputable def zVH:List D->Out D
 |[.tup ds]=>match zBD ds with
  |some (n::ns)=>.ok (.int (ns.foldl min n))
  |_=>.bad
 |_=>.bad
noncomputable def zVI:List D->Out D
 |[.tup ds]=>match zBD ds with
  |some (n::ns)=>.ok (.int (ns.foldl max n))
  |_=>.bad
 |_=>.bad
noncomputable def zSH:List D->Out D
 |[d]=>match d.py with
  |some p=>if p.showable=true/\p.depth<=50/\(zMY p).length<10000 then .ok (.str (zMY p)) else .bad
  |none=>.bad
 |_=>.bad
theorem zLO:∀(ns:List Int) (n:Int),ns.foldl min n∈n::ns/\∀x∈n::ns,ns.foldl min n<=x
 |[],n=>⟨List.mem_cons_self,λx hx=>by rw[List.mem_singleton.mp hx];exact Int.le_refl _⟩
 |m::ns,n=>by
  obtain⟨h1,h2⟩:=zLO ns (min n m)
  rw[List.foldl_cons]
  have h3:=h2 _ List.mem_cons_self
  refine⟨?_,λx hx=>?_⟩
  ·rcases List.mem_cons.mp h1 with e|h
   ·rw[e]
    rcases Int.le_total n m with z|z
    ·rw[Int.min_eq_left z];exact List.mem_cons_self
    ·rw[Int.min_eq_right z];exact List.mem_cons_of_mem _ List.mem_cons_self
   ·exact List.mem_cons_of_mem _ (List.mem_cons_of_mem _ h)
  ·rcases List.mem_cons.mp hx with e|hx
   ·rw[e];lia
   ·rcases List.mem_cons.mp hx with e|hx
    ·rw[e];lia
    ·exact h2 x (List.mem_cons_of_mem _ hx)
theorem zLP:∀(ns:List Int) (n:Int),ns.foldl max n∈n::ns/\∀x∈n::ns,x<=ns.foldl max n
 |[],n=>⟨List.mem_cons_self,λx hx=>by rw[List.mem_singleton.mp hx];exact Int.le_refl _⟩
 |m::ns,n=>by
  obtain⟨h1,h2⟩:=zLP ns (max n m)
  rw[List.foldl_cons]
  have h3:=h2 _ List.mem_cons_self
  refine⟨?_,λx hx=>?_⟩
  ·rcases List.mem_cons.mp h1 with e|h
   ·rw[e]
    rcases Int.le_total n m with z|z
    ·rw[Int.max_eq_right z];exact List.mem_cons_of_mem _ List.mem_cons_self
    ·rw[Int.max_eq_left z];exact List.mem_cons_self
   ·exact List.mem_cons_of_mem _ (List.mem_cons_of_mem _ h)
  ·rcases List.mem_cons.mp hx with e|hx
   ·rw[e];lia
   ·rcases List.mem_cons.mp hx with e|hx
    ·rw[e];lia
    ·exact h2 x (List.mem_cons_of_mem _ hx)
section
variable{X:Cx}{K:PySem.W.Frag}{a b e st:Expr}{ga gb ge gs:G}{es:List Expr}{gss:List G}{p pos p2:Pos}
theorem zSI(he:VE X e ge)(hs:VE X st gs):VE X (.Subscript e (.Slice none none (some st) p2) pos) (zMT ge gs):=(zUK he hs).imp λσ H Q h=>by
 obtain⟨τ,F,E,d,E',S,hg,k⟩:=h
 unfold zMT at hg
 obtain⟨p,e1,hg⟩:=Out.bind_ok hg
 obtain⟨q,e2,hg⟩:=Out.bind_ok hg
 refine⟨τ,F,E,p.1,p.2,S,e1,λv F1 H1 st1 S1 r1=>⟨τ,F1,p.2,q.1,q.2,S1,e2,λu F2 H2 st2 S2 r2=>?_⟩⟩
 obtain⟨pd,pE⟩:=p
 obtain⟨qd,qE⟩:=q
 cases pd with
 |tup xs =>
  dsimp only at hg r2 r1
  split at hg
  ·cases hg
   obtain rfl:=r2.vI
   obtain⟨a,vs,rfl,rs,sq⟩:=r1.tupSq
   refine⟨rfl,a,vs,rfl,sq F2 H2 st2.le S2.sub,λD hD=>?_⟩
   have n:=New.laid (o:=.tup vs.reverse) S2.sub hD
   exact k _ _ _ ((st1.trans st2).trans n.stp) (S2.new n) (.tup zAN ((rs.le st2.le).reverse.le n.1.le))
  ·cases hg
 |_=>cases hg
theorem zUL:OpS K (yAE K) leT:=λv u x y F H d Q s r1 r2 hf k=>by
 unfold leT at hf
 split at hf
 ·split at hf
  ·rename_i e1 e2
   cases hf
   obtain⟨a,rfl,h1⟩:=r1.intsT s e1
   obtain⟨b,rfl,h2⟩:=r2.intsT s e2
   exact⟨a,b,_,_,rfl,rfl,h1,h2,k _ F H (.refl s) (.bl _)⟩
  ·cases hf
 ·cases hf
theorem zXL(hu:X.A.units+64<cLine)(ha:VE X a ga)(hb:VE X b gb)(hm:behindInMarks .LtE b=false:=by with_unfolding_all rfl):VT X (.Compare a [.LtE] [b] pos) (gB (g2 leT ga gb)):=zGN (zXK (by lia)) zUL ha hb hm
theorem zKJ{F:Hp}{vs:List V}{d:D}(r:Reps K F vs [d]):∃v,vs=[v]/\Rep K F v d:=by
 cases r with
 |cons r rr=>cases rr;exact⟨_,rfl,r⟩
theorem zUM{xs:List D}{d:D}(h:zVH xs=.ok d):∃ds n ns,xs=[.tup ds]/\zBD ds=some (n::ns)/\d=.int (ns.foldl min n):=by
 unfold zVH at h
 split at h
 ·split at h
  ·rename_i e;cases h;exact⟨_,_,_,rfl,e,rfl⟩
  ·cases h
 ·cases h
theorem zUN{xs:List D}{d:D}(h:zVI xs=.ok d):∃ds n ns,xs=[.tup ds]/\zBD ds=some (n::ns)/\d=.int (ns.foldl max n):=by
 unfold zVI at h
 split at h
 ·split at h
  ·rename_i e;cases h;exact⟨_,_,_,rfl,e,rfl⟩
  ·cases h
 ·cases h
theorem zUO:zFO K (λxs H Q=>∃(l:Addr) (ns:List Int),xs=[.ref l]/\SqT K H l (ns.map V.int)/\ns≠[]/\∀m,m∈ns->(∀x∈ns,m<=x)->Q (.int m) H) zVH:=λvs xs F H d Q s r hf k=>by
 obtain⟨ds,n,ns,rfl,e,rfl⟩:=zUM hf
 obtain⟨v,rfl,r1⟩:=zKJ r
 obtain⟨a,rfl,h1⟩:=r1.intsT s e
 refine⟨a,_,rfl,h1,by simp,λm hm hl=>?_⟩
 obtain⟨f1,f2⟩:=zLO ns n
 rw[Int.le_antisymm (hl _ f1) (f2 m hm)]
 exact k _ F H (.refl s) (.int _)
theorem zUP:zFO K (λxs H Q=>∃(l:Addr) (ns:List Int),xs=[.ref l]/\SqT K H l (ns.map V.int)/\ns≠[]/\∀m,m∈ns->(∀x∈ns,x<=m)->Q (.int m) H) zVI:=λvs xs F H d Q s r hf k=>by
 obtain⟨ds,n,ns,rfl,e,rfl⟩:=zUN hf
 obtain⟨v,rfl,r1⟩:=zKJ r
 obtain⟨a,rfl,h1⟩:=r1.intsT s e
 refine⟨a,_,rfl,h1,by simp,λm hm hl=>?_⟩
 obtain⟨f1,f2⟩:=zLP ns n
 rw[Int.le_antisymm (f2 m hm) (hl _ f1)]
 exact k _ F H (.refl s) (.int _)
theorem zXM(hc:X.calm=true)(hm:X.mg "min"=none)(ha:VA X (e::es) gss)(hg:Gl X "min":=by rfl)(he:starEach (e::es) X.env=(false,eval e X.env)::starEach es X.env:=by rfl)(hpl:(backTo pos (starEach es X.env)).any (·.1)=false:=by rfl) :
  VE X (.Call (.Name "min" p) (e::es) [] pos) (gN zVH gss):=zMM (zOX hc) zUO hm (by decide +kernel) ha hg (by decide) (by decide) he hpl
theorem zXN(hc:X.calm=true)(hm:X.mg "max"=none)(ha:VA X (e::es) gss)(hg:Gl X "max":=by rfl)(he:starEach (e::es) X.env=(false,eval e X.env)::starEach es X.env:=by rfl)(hpl:(backTo pos (starEach es X.env)).any (·.1)=false:=by rfl) :
  VE X (.Call (.Name "max" p) (e::es) [] pos) (gN zVI gss):=zMM (zOY hc) zUP hm (by decide +kernel) ha hg (by decide) (by decide) he hpl
theorem zUQ{xs:List D}{d:D}(h:zSH xs=.ok d):∃x p,xs=[x]/\x.py=some p/\(p.showable=true/\p.depth<=50/\(zMY p).length<10000)/\d=.str (zMY p):=by
 unfold zSH at h
 split at h
 ·split at h
  ·rename_i e
   split at h
   ·rename_i q;cases h;exact⟨_,_,rfl,e,q,rfl⟩
   ·cases h
  ·cases h
 ·cases h
theorem zXO:zFO K (λxs H Q=>∃v d,xs=[v]/\DV K H v d/\d.showable=true/\d.depth<=50/\(zMY d).length<=sizeLine/\Q (.str (zMY d)) H) zSH:=λvs xs F H d Q s r hf k=>by
 obtain⟨x,p,rfl,e,⟨h1,h2,h3⟩,rfl⟩:=zUQ hf
 obtain⟨v,rfl,r1⟩:=zKJ r
 exact⟨v,p,rfl,Rep.dv s _ r1 e,h1,h2,le4 h3,k _ F H (.refl s) (.str _)⟩
theorem zXP(hgd:X.A.guards=some [])(hu:X.A.units+64<cLine)(hm:X.mg "str"=none)(ha:VA X (e::es) gss)(hg:Gl X "str":=by rfl)(he:starEach (e::es) X.env=(false,eval e X.env)::starEach es X.env:=by rfl)(hpl:(backTo pos (starEach es X.env)).any (·.1)=false:=by rfl) :
  VE X (.Call (.Name "str" p) (e::es) [] pos) (gN zSH gss):=yAC (zOZ hgd hu) zXO hm (by decide +kernel) ha hg (by decide) (by decide) he hpl
end
end L2
namespace My
open PySem L2
noncomputable def top(i:Nat):Stmt:=PySem.Challenge.pw_waymusts_k01_what_is_a_net.main.body.getD i (.Pass ⟨0,0,0,0⟩)
structure Bt(mg:Str->Option Value):Prop where
 b_all:mg "all"=none
 b_bool:mg "bool"=none
 b_int:mg "int"=none
 b_isinstance:mg "isinstance"=none
 b_len:mg "len"=none
 b_list:mg "list"=none
 b_max:mg "max"=none
 b_min:mg "min"=none
 b_range:mg "range"=none
 b_sorted:mg "sorted"=none
 b_str:mg "str"=none
 b_tuple:mg "tuple"=none
 b_zip:mg "zip"=none
 k_MOST_LANES:∃t,mg "MOST_LANES"=some (Value.int 120 t)
 k_MOST_PLACES:∃t,mg "MOST_PLACES"=some (Value.int 24 t)
noncomputable abbrev zCO:Stmt:=top 3
noncomputable abbrev zB8:Stmt:=top 8
noncomputable abbrev zB9:Stmt:=top 9
noncomputable abbrev zCA:Stmt:=top 10
noncomputable abbrev zBZ:Stmt:=top 14
noncomputable abbrev zCP:Stmt:=top 4
noncomputable abbrev zBE:Stmt:=top 11
noncomputable abbrev zBR:Stmt:=top 15
noncomputable abbrev zAZ:Stmt:=top 18
noncomputable abbrev zCB:Stmt:=top 19
noncomputable abbrev zDA:Stmt:=top 5
noncomputable abbrev zCQ:Stmt:=top 12
noncomputable abbrev zD1:Stmt:=top 6
noncomputable abbrev zCR:Stmt:=top 13
noncomputable abbrev zA5:Stmt:=top 16
noncomputable abbrev zCC:Stmt:=top 17
noncomputable abbrev zHV:Stmt:=top 20
noncomputable def zGS:GS :=
 (zC1 (zPT (zB6 "int" (zAC 0)) (zY1 (zB6 "bool" (zAC 0)))))
noncomputable def zCD:Mr:=zF4 1 zGS
theorem zMU:FnScope ["thing"] ["thing"] (zAM zCO):=⟨rfl,rfl,rfl,by decide +kernel,rfl,by decide +kernel,by decide +kernel⟩
theorem zKK{P:Program}{w:World}{K:PySem.W.Frag}{mg:Str->Option Value}{base:Heap}{f:Addr}{fd:FuncData}(Fn:Fun K "is_whole" "is_whole" zCO f fd)(T:Bt mg) :FnOk P w K mg base CX0 1 f fd ["thing"] (spV K 1 zCD) :=
 zI6 Fn zMU λcdv A outer s H E hr=>by
  have hu:=hr.units
  unfold zGS
  exact(zAP (zAY (zMI (zCY zOU T.b_isinstance T.b_int (by decide +kernel) (zAD 0)) (zOC (zWS (zCY zHS T.b_isinstance T.b_bool (by decide +kernel) (zAD 0)))))))
noncomputable def zFV:GS :=
 (zBA (zC6 (gB (g2 ltD (zAC 1) (gN zDS [(zAC 0)])))
 (zC1 (g2 ixD (zAC 0) (zAC 1)))
 gNx)
 (zC1 (gC (.int 0))))
noncomputable def zCE:Mr:=zF4 2 zFV
theorem zKL:FnScope ["script","k"] ["script","k"] (zAM zB8):=⟨rfl,rfl,rfl,by decide +kernel,rfl,by decide +kernel,by decide +kernel⟩
theorem zJE{P:Program}{w:World}{K:PySem.W.Frag}{mg:Str->Option Value}{base:Heap}{f:Addr}{fd:FuncData}(Fn:Fun K "_law_cell" "_law_cell" zB8 f fd)(T:Bt mg) :FnOk P w K mg base CX0 1 f fd ["script","k"] (spV K 2 zCE) :=
 zI6 Fn zKL λcdv A outer s H E hr=>by
  have hu:=hr.units
  unfold zFV
  exact(zAH (zCL (zKC hu (zAD 1) (zE9 T.b_len (zAA (zAD 0) zAE)))
   (zAP (zAY (zCX hu (zAD 0) (zAD 1))))
   zA1)
   (zAP (zAY zAJ)))
noncomputable def zFW:GS :=
 (zBA (zC6 (gB (g2 geD (zAC 0) (g2 zLM (gC (.int 10)) (gC (.int 18)))))
 (zQR (zDJ [(g2 zLK (zAC 0) (g2 zLM (gC (.int 10)) (gC (.int 18)))),(g2 zER (zAC 0) (gC (.int 2305843009213693951))),(zAC 1)]))
 gNx)
 (zQR (zDJ [(gC (.int 0)),(g2 zER (zAC 0) (gC (.int 2305843009213693951))),(zAC 1)])))
noncomputable def zCF:Mr:=zF4 2 zFW
theorem zKM:FnScope ["cell","turn"] ["cell","turn"] (zAM zB9):=⟨rfl,rfl,rfl,by decide +kernel,rfl,by decide +kernel,by decide +kernel⟩
theorem zJF{P:Program}{w:World}{K:PySem.W.Frag}{mg:Str->Option Value}{base:Heap}{f:Addr}{fd:FuncData}(Fn:Fun K "_law_well" "_law_well" zB9 f fd)(T:Bt mg) :FnOk P w K mg base CX0 1 f fd ["cell","turn"] (spV K 2 zCF) :=
 zI6 Fn zKM λcdv A outer s H E hr=>by
  have hu:=hr.units
  unfold zFW
  exact(zAH (zCL (zW1 (zAD 0) (zON zAJ zAJ))
   (zAP (zOE (zDK (zAA (zOM (zAD 0) (zON zAJ zAJ)) (zAA (zFN (zAD 0) zAJ) (zAA (zAD 1) zAE))))))
   zA1)
   (zAP (zOE (zDK (zAA zAJ (zAA (zFN (zAD 0) zAJ) (zAA (zAD 1) zAE)))))))
noncomputable def zFX:GS :=
 (zBA (zC6 (zHH [0] (gB (g2 gtD (g2 ixD (zAC 0) (gC (.int 0))) (gC (.int 0)))))
 (zBA (zBQ (.nm 2) (zJR [0] (g2 zER (g2 ixD (zAC 0) (gC (.int 0))) (zAC 1))))
 (zBA (zB2 0 (gC (.int 0)) (zJR [0] (g2 zEM (g2 ixD (zAC 0) (gC (.int 0))) (zAC 1))))
 (zC1 (zAC 2))))
 gNx)
 (zBA (zB2 0 (gC (.int 2)) (zJR [0] (g2 zBT (g2 ixD (zAC 0) (gC (.int 2))) (gC (.int 1)))))
 (zBA (zBQ (.nm 3) (gC (.int 2305843009213693951)))
 (zBA (zBQ (.nm 4) (zJR [0] (g2 zER (g2 zBT (g2 ixD (zAC 0) (gC (.int 1))) (g2 zKD (gC (.int 1000003)) (g2 ixD (zAC 0) (gC (.int 2))))) (zAC 3))))
 (zBA (zBQ (.nm 4) (zJR [0] (g2 zER (g2 zBT (g2 zBT (g2 zKD (zAC 4) (zAC 4)) (g2 zKD (gC (.int 7919)) (g2 zLM (g2 ixD (zAC 0) (gC (.int 2))) (gC (.int 2))))) (gC (.int 5))) (zAC 3))))
 (zC1 (g2 zER (g2 zEM (g2 zER (g2 zLM (zAC 4) (gC (.int 3))) (zAC 3)) (gC (.int 13))) (zAC 1))))))))
noncomputable def zAB:Mr:=zF4 5 zFX
theorem sc_law_take:FnScope ["bag","many","found","p","n"] ["bag","many"] (zAM zCA):=⟨rfl,rfl,rfl,by decide +kernel,rfl,by decide +kernel,by decide +kernel⟩
theorem zJG{P:Program}{w:World}{K:PySem.W.Frag}{mg:Str->Option Value}{base:Heap}{f:Addr}{fd:FuncData}(Fn:Fun K "_law_take" "_law_take" zCA f fd)(T:Bt mg) :FnOk P w K mg base CX0 1 f fd ["bag","many"] (spV K 2 zAB) :=
 zI6 Fn sc_law_take λcdv A outer s H E hr=>by
  have hu:=hr.units
  unfold zFX
  exact(zAH (zCL (zOD [0] (zT0 (zCX hu (zAD 0) zAJ) zAJ))
   (zAH (zBH (i:=2) sc_law_take.nd rfl (Or.inl rfl) (zKA [0] (zFN (zCX hu (zAD 0) zAJ) (zAD 1))))
   (zAH (zD0 0 hu zAJ (zKA [0] (zLL (zCX hu (zAD 0) zAJ) (zAD 1))))
   (zAP (zAY (zAD 2)))))
   zA1)
   (zAH (zD0 0 hu zAJ (zKA [0] (zBW (zCX hu (zAD 0) zAJ) zAJ)))
   (zAH (zBH (i:=3) sc_law_take.nd rfl (Or.inl rfl) zAJ)
   (zAH (zBH (i:=4) sc_law_take.nd rfl (Or.inl rfl) (zKA [0] (zFN (zBW (zCX hu (zAD 0) zAJ) (zQ3 zAJ (zCX hu (zAD 0) zAJ))) (zAD 3))))
   (zAH (zBH (i:=4) sc_law_take.nd rfl (Or.inl rfl) (zKA [0] (zFN (zBW (zBW (zQ3 (zAD 4) (zAD 4)) (zQ3 zAJ (zON (zCX hu (zAD 0) zAJ) zAJ))) zAJ) (zAD 3))))
   (zAP (zAY (zFN (zLL (zFN (zON (zAD 4) zAJ) (zAD 3)) zAJ) (zAD 1)))))))))
noncomputable def zE6:GS :=
 (zC1 (zPT (zB6 "int" (zAC 0)) (zY1 (zB6 "bool" (zAC 0)))))
noncomputable def zAW:Mr:=zF4 1 zE6
theorem zJH:FnScope ["thing"] ["thing"] (zAM zBZ):=⟨rfl,rfl,rfl,by decide +kernel,rfl,by decide +kernel,by decide +kernel⟩
theorem zHW{P:Program}{w:World}{K:PySem.W.Frag}{mg:Str->Option Value}{base:Heap}{f:Addr}{fd:FuncData}(Fn:Fun K "_law_whole" "_law_whole" zBZ f fd)(T:Bt mg) :FnOk P w K mg base CX0 1 f fd ["thing"] (spV K 1 zAW) :=
 zI6 Fn zJH λcdv A outer s H E hr=>by
  have hu:=hr.units
  unfold zE6
  exact(zAP (zAY (zMI (zCY zOU T.b_isinstance T.b_int (by decide +kernel) (zAD 0)) (zOC (zWS (zCY zHS T.b_isinstance T.b_bool (by decide +kernel) (zAD 0)))))))
noncomputable def zGT:GS :=
 (zC1 (zPT (zBV zCD [(zAC 1)]) (zDV leD ltD (gC (.int 0)) (zAC 1) (zAC 0))))
noncomputable def zDB:Mr:=zF4 2 zGT
theorem zMV:FnScope ["many","thing"] ["many","thing"] (zAM zCP):=⟨rfl,rfl,rfl,by decide +kernel,rfl,by decide +kernel,by decide +kernel⟩
theorem zKN{P:Program}{w:World}{K:PySem.W.Frag}{mg:Str->Option Value}{base:Heap}{f:Addr}{fd:FuncData}(Fn:Fun K "is_place" "is_place" zCP f fd)(T:Bt mg)(c_is_whole:Cal P w K mg base "is_whole" 1 1 zCD):FnOk P w K mg base CX0 2 f fd ["many","thing"] (spV K 2 zDB) :=
 zI6 Fn zMV λcdv A outer s H E hr=>by
  have hu:=hr.units
  unfold zGT
  exact(zAP (zAY (zMI (zC7 c_is_whole (hr.mono (by decide)) (zAA (zAD 1) zAE)) (zOC (zT1 zNB (zEA _) (zXH hu) zOL zAJ (zAD 1) (zAD 0))))))
noncomputable def zDX:GS :=
 (zBA (zHI 2 (gN zI9 [(zAC 1)]))
 (zBA (zHI 3 (zDJ []))
 (zBA (gWh (zHH [2] (gB (g2 neD (zAC 2) (zDJ []))))
 (zQT (zFQ 3 zUF [(zFQ 2 zE5 [(zAI zAB 0 [(zJR [2] (gN zDS [(zAC 2)]))])])])) 100000)
 (zC1 (zAC 3)))))
noncomputable def zBO:Mr:=zF4 4 zDX
theorem sc_law_shuffled:FnScope ["bag","some","left","found"] ["bag","some"] (zAM zBE):=⟨rfl,rfl,rfl,by decide +kernel,rfl,by decide +kernel,by decide +kernel⟩
theorem zFC{P:Program}{w:World}{K:PySem.W.Frag}{mg:Str->Option Value}{base:Heap}{f:Addr}{fd:FuncData}(Fn:Fun K "_law_shuffled" "_law_shuffled" zBE f fd)(T:Bt mg)(c__law_take:Cal P w K mg base "_law_take" 1 2 zAB):FnOk P w K mg base CX0 2 f fd ["bag","some"] (spV K 2 zBO) :=
 zI6 Fn sc_law_shuffled λcdv A outer s H E hr=>by
  have hu:=hr.units
  unfold zDX
  exact(zAH (zHJ (i:=2) sc_law_shuffled.nd rfl (Or.inl rfl) (zOS rfl T.b_list (zAA (zAD 1) zAE)))
   (zAH (zHJ (i:=3) sc_law_shuffled.nd rfl (Or.inl rfl) (zDK zAE))
   (zAH (zQU 100000 PassesOwn.never (zOD [2] (zHN hu (zAD 2) (FE.ve (zDK zAE))))
   (zAP (zTR (zRE 3 (zAA (zUG 2 (zAA (zAR 0 c__law_take (hr.mono (by decide)) (zAA (zKA [2] (zE9 T.b_len (zAA (zAD 2) zAE))) zAE)) zAE)) zAE)))))
   (zAP (zAY (zAD 3))))))
noncomputable def zEO:GS :=
 (zBA (zC6 (zCN (zBG (zDO (zB6 "tuple" (zAC 0)))) (zCN (gB (g2 neD (gN zDS [(zAC 0)]) (gC (.int 2)))) (zBG (zDO (zBV zAW [(g2 ixD (zAC 0) (gC (.int 0)))])))))
 (zC1 (gC (.bl false)))
 gNx)
 (zBA (zBQ (.tp [(.nm 1),(.nm 2)]) (zAC 0))
 (zBA (zC6 (zCN (zBG (gB (zDV leD leD (gC (.int 1)) (zAC 1) (gC (.int 24))))) (zCN (zBG (zDO (zB6 "tuple" (zAC 2)))) (gB (g2 gtD (gN zDS [(zAC 2)]) (gC (.int 120))))))
 (zC1 (gC (.bl false)))
 gNx)
 (zBA (zBQ (.nm 3) (zAX [(g1 zJT (gC (.int 1))),(g1 zJT (gC (.int 1)))]))
 (zBA (zMX (zED (zAC 2)) (.nm 4)
 (zBA (zC6 (zCN (zBG (zDO (zB6 "tuple" (zAC 4)))) (zCN (gB (g2 neD (gN zDS [(zAC 4)]) (gC (.int 2)))) (zCN (zBG (zDO (zBV zAW [(g2 ixD (zAC 4) (gC (.int 0)))]))) (zBG (zDO (zBV zAW [(g2 ixD (zAC 4) (gC (.int 1)))]))))))
 (zC1 (gC (.bl false)))
 gNx)
 (zBA (zC6 (zCN (gB (g2 ltD (gN zVH [(zAC 4)]) (gC (.int 0)))) (zCN (gB (g2 geD (gN zVI [(zAC 4)]) (zAC 1))) (zCN (gB (g2 eqD (g2 ixD (zAC 4) (gC (.int 0))) (g2 ixD (zAC 4) (gC (.int 1))))) (gB (g2 leT (zAC 4) (zAC 3))))))
 (zC1 (gC (.bl false)))
 gNx)
 (zBQ (.nm 3) (zAC 4)))))
 (zC1 (gC (.bl true))))))))
noncomputable def zB4:Mr:=zF4 5 zEO
theorem sc_law_is_net:FnScope ["thing","many","lanes","ahead","lane"] ["thing"] (zAM zBR):=⟨rfl,rfl,rfl,by decide +kernel,rfl,by decide +kernel,by decide +kernel⟩
theorem zGB{P:Program}{w:World}{K:PySem.W.Frag}{mg:Str->Option Value}{base:Heap}{f:Addr}{fd:FuncData}(Fn:Fun K "_law_is_net" "_law_is_net" zBR f fd)(T:Bt mg)(c__law_whole:Cal P w K mg base "_law_whole" 1 1 zAW):FnOk P w K mg base CX0 2 f fd ["thing"] (spV K 1 zB4) :=
 zI6 Fn sc_law_is_net λcdv A outer s H E hr=>by
  have hu:=hr.units
  unfold zEO
  exact(zAH (zCL (VW.t (zC5 (zCJ (zBB (zCY zB3 T.b_isinstance T.b_tuple (by decide +kernel) (zAD 0)))) (zC5 (zHN hu (zE9 T.b_len (zAA (zAD 0) zAE)) zAJ) (zDM (zCJ (zBB (zC7 c__law_whole (hr.mono (by decide)) (zAA (zCX hu (zAD 0) zAJ) zAE))))))))
   (zAP (zAY zHE))
   zA1)
   (zAH (zLB (zAD 0) (zGO rfl (zBU (zA8 (i:=1) sc_law_is_net.nd rfl (Or.inl rfl)) (zBU (zA8 (i:=2) sc_law_is_net.nd rfl (Or.inl rfl)) zEU))))
   (zAH (zCL (VW.t (zC5 (zCJ (zLJ zNB (zEA _) zNB (zEA _) zAJ (zAD 1) zAJ)) (zC5 (zCJ (zBB (zCY zB3 T.b_isinstance T.b_tuple (by decide +kernel) (zAD 2)))) (zDM (zT0 (zE9 T.b_len (zAA (zAD 2) zAE)) zAJ)))))
   (zAP (zAY zHE))
   zA1)
   (zAH (zBH (i:=3) sc_law_is_net.nd rfl (Or.inl rfl) (zB0 (zAA (zML zAJ) (zAA (zML zAJ) zAE))))
   (zAH (zI5 PassesOwn.never rfl (zJD (zAD 2)) (zA8 (i:=4) sc_law_is_net.nd rfl (Or.inl rfl))
   (zAH (zCL (VW.t (zC5 (zCJ (zBB (zCY zB3 T.b_isinstance T.b_tuple (by decide +kernel) (zAD 4)))) (zC5 (zHN hu (zE9 T.b_len (zAA (zAD 4) zAE)) zAJ) (zC5 (zCJ (zBB (zC7 c__law_whole (hr.mono (by decide)) (zAA (zCX hu (zAD 4) zAJ) zAE)))) (zDM (zCJ (zBB (zC7 c__law_whole (hr.mono (by decide)) (zAA (zCX hu (zAD 4) zAJ) zAE)))))))))
   (zAP (zAY zHE))
   zA1)
   (zAH (zCL (VW.t (zC5 (zKC hu (zXM rfl T.b_min (zAA (zAD 4) zAE)) zAJ) (zC5 (zW1 (zXN rfl T.b_max (zAA (zAD 4) zAE)) (zAD 1)) (zC5 (zHM hu (zCX hu (zAD 4) zAJ) (zCX hu (zAD 4) zAJ)) (zDM (zXL hu (zAD 4) (zAD 3)))))))
   (zAP (zAY zHE))
   zA1)
   (zAP (zBH (i:=3) sc_law_is_net.nd rfl (Or.inl rfl) (zAD 4))))))
   (zAP (zAY zHE)))))))
noncomputable def zCZ:GS :=
 (zBA (zC6 (zCN (zBG (zDO (zB6 "tuple" (zAC 0)))) (zCN (gB (g2 neD (gN zDS [(zAC 0)]) (gC (.int 2)))) (zCN (zBG (zDO (zBV zAW [(g2 ixD (zAC 0) (gC (.int 0)))]))) (gB (g2 ltD (g2 ixD (zAC 0) (gC (.int 0))) (gC (.int 1)))))))
 (zC1 (gC (.bl false)))
 gNx)
 (zBA (zC6 (zBG (zDO (zB6 "tuple" (g2 ixD (zAC 0) (gC (.int 1))))))
 (zC1 (gC (.bl false)))
 gNx)
 (zC1 (gN zRC [(zC9 (zED (g2 ixD (zAC 0) (gC (.int 1)))) 1 [] (.nm 0) zI7 (zPT (zB6 "tuple" (zAC 0)) (g2 eqD (gN zDS [(zAC 0)]) (gC (.int 2)))))]))))
noncomputable def zAU:Mr:=zF4 1 zCZ
theorem zEP:FnScope ["thing"] ["thing"] (zAM zAZ):=⟨rfl,rfl,rfl,by decide +kernel,rfl,by decide +kernel,by decide +kernel⟩
theorem zEE{P:Program}{w:World}{K:PySem.W.Frag}{mg:Str->Option Value}{base:Heap}{f:Addr}{fd:FuncData}(Fn:Fun K "_law_is_bendable" "_law_is_bendable" zAZ f fd)(T:Bt mg)(c__law_whole:Cal P w K mg base "_law_whole" 1 1 zAW):FnOk P w K mg base CX0 2 f fd ["thing"] (spV K 1 zAU) :=
 zI6 Fn zEP λcdv A outer s H E hr=>by
  have hu:=hr.units
  unfold zCZ
  exact(zAH (zCL (VW.t (zC5 (zCJ (zBB (zCY zB3 T.b_isinstance T.b_tuple (by decide +kernel) (zAD 0)))) (zC5 (zHN hu (zE9 T.b_len (zAA (zAD 0) zAE)) zAJ) (zC5 (zCJ (zBB (zC7 c__law_whole (hr.mono (by decide)) (zAA (zCX hu (zAD 0) zAJ) zAE)))) (zDM (zKC hu (zCX hu (zAD 0) zAJ) zAJ))))))
   (zAP (zAY zHE))
   zA1)
   (zAH (zCL (zCJ (zBB (zCY zB3 T.b_isinstance T.b_tuple (by decide +kernel) (zCX hu (zAD 0) zAJ))))
   (zAP (zAY zHE))
   zA1)
   (zAP (zAY (zUC rfl T.b_all (zAA (FE.ve (zLG (own:=["lane"]) (caps:=[]) (js:=[]) ⟨rfl,rfl,by decide +kernel,by decide +kernel,by decide +kernel,rfl,zRG,rfl,zRG,zRG,by decide +kernel,by decide +kernel⟩ rfl (zJD (zCX hu (zAD 0) zAJ)) (λC s H fp=>(zA8 (i:=0) (by decide +kernel:((["lane"]:List Str)++([]:List Str)).Nodup) rfl (Or.inl rfl) (Or.inr rfl))) (λC s H fp=>zFL) (λC s H fp=>(zMI (zCY zB3 T.b_isinstance T.b_tuple (by decide +kernel) (zAD 0)) (zOC (yA5 hu (zE9 T.b_len (zAA (zAD 0) zAE)) zAJ)))))) zAE))))))
@[irreducible] noncomputable def zEF:GS :=
 (zBA (zBQ (.nm 1) (zC9 (zEC (gC (.int 169))) 1 [] (.nm 0) (gB (g2 neD (g2 zEM (zAC 0) (gC (.int 13))) (g2 zER (zAC 0) (gC (.int 13))))) (zAX [(g2 zEM (zAC 0) (gC (.int 13))),(g2 zER (zAC 0) (gC (.int 13)))])))
 (zBA (zBQ (.nm 2) (zAI zAB 0 [(gC (.int 30))]))
 (zC1 (zAX [(g2 zBT (gC (.int 13)) (zAI zAB 0 [(gC (.int 12))])),(gN zVG [(zBM (zAC 1) (some (zAC 2)) (some (g2 zBT (g2 zBT (zAC 2) (gC (.int 119))) (zAI zAB 0 [(gC (.int 4))]))))])]))))
noncomputable def zBX:Mr:=zF4 3 zEF
theorem sc_law_full:FnScope ["bag","pairs","at"] ["bag"] (zAM zCB):=⟨rfl,rfl,rfl,by decide +kernel,rfl,by decide +kernel,by decide +kernel⟩
theorem zJI{P:Program}{w:World}{K:PySem.W.Frag}{mg:Str->Option Value}{base:Heap}{f:Addr}{fd:FuncData}(Fn:Fun K "_law_full" "_law_full" zCB f fd)(T:Bt mg)(c__law_take:Cal P w K mg base "_law_take" 1 2 zAB):FnOk P w K mg base CX0 2 f fd ["bag"] (spV K 1 zBX) :=
 zI6 Fn sc_law_full λcdv A outer s H E hr=>by
  have hu:=hr.units
  unfold zEF
  exact(zAH (zFS (i:=1) (own:=["k"]) (caps:=[]) (js:=[]) ⟨rfl,rfl,by decide +kernel,by decide +kernel,by decide +kernel,rfl,zRG,rfl,zRG,zRG,by decide +kernel,by decide +kernel⟩ rfl (zEN T.b_range zAJ) (λC s H fp=>(zA8 (i:=0) (by decide +kernel:((["k"]:List Str)++([]:List Str)).Nodup) rfl (Or.inl rfl) (Or.inr rfl))) (λC s H fp=>(zTV (zHN hu (zLL (zAD 0) zAJ) (zFN (zAD 0) zAJ)))) (λC s H fp=>(zB0 (zAA (zLL (zAD 0) zAJ) (zAA (zFN (zAD 0) zAJ) zAE)))) sc_law_full.nd rfl rfl rfl)
   (zAH (zBH (i:=2) sc_law_full.nd rfl (Or.inl rfl) (zAR 0 c__law_take (hr.mono (by decide)) (zAA zAJ zAE)))
   (zAP (zAY (zB0 (zAA (zBW zAJ (zAR 0 c__law_take (hr.mono (by decide)) (zAA zAJ zAE))) (zAA (zKG T.b_tuple (zAA (zB1 (zAD 1) (zBK (zAD 2)) (zBK (zBW (zBW (zAD 2) zAJ) (zAR 0 c__law_take (hr.mono (by decide)) (zAA zAJ zAE))))) zAE)) zAE)))))))
noncomputable def zJJ:GS :=
 (zBA (zC6 (zCN (zBG (zDO (zB6 "tuple" (zAC 1)))) (gB (g2 neD (gN zDS [(zAC 1)]) (gC (.int 2)))))
 (zC1 (gC (.bl false)))
 gNx)
 (zBA (zBQ (.tp [(.nm 2),(.nm 3)]) (zAC 1))
 (zC1 (zPT (zBV zDB [(zAC 0),(zAC 2)]) (zPT (zBV zDB [(zAC 0),(zAC 3)]) (g2 neD (zAC 2) (zAC 3)))))))
noncomputable def zDC:Mr:=zF4 4 zJJ
theorem scis_lane:FnScope ["many","thing","one","other"] ["many","thing"] (zAM zDA):=⟨rfl,rfl,rfl,by decide +kernel,rfl,by decide +kernel,by decide +kernel⟩
theorem zMW{P:Program}{w:World}{K:PySem.W.Frag}{mg:Str->Option Value}{base:Heap}{f:Addr}{fd:FuncData}(Fn:Fun K "is_lane" "is_lane" zDA f fd)(T:Bt mg)(c_is_place:Cal P w K mg base "is_place" 2 2 zDB):FnOk P w K mg base CX0 3 f fd ["many","thing"] (spV K 2 zDC) :=
 zI6 Fn scis_lane λcdv A outer s H E hr=>by
  have hu:=hr.units
  unfold zJJ
  exact(zAH (zCL (VW.t (zC5 (zCJ (zBB (zCY zB3 T.b_isinstance T.b_tuple (by decide +kernel) (zAD 1)))) (zDM (zHN hu (zE9 T.b_len (zAA (zAD 1) zAE)) zAJ))))
   (zAP (zAY zHE))
   zA1)
   (zAH (zLB (zAD 1) (zGO rfl (zBU (zA8 (i:=2) scis_lane.nd rfl (Or.inl rfl)) (zBU (zA8 (i:=3) scis_lane.nd rfl (Or.inl rfl)) zEU))))
   (zAP (zAY (zMI (zC7 c_is_place (hr.mono (by decide)) (zAA (zAD 0) (zAA (zAD 2) zAE))) (zMI (zC7 c_is_place (hr.mono (by decide)) (zAA (zAD 0) (zAA (zAD 3) zAE))) (zOC (yA6 hu (zAD 2) (zAD 3)))))))))
noncomputable def zGU:GS :=
 (zBA (zBQ (.nm 2) (g2 ixD (zDJ [(zAC 1),(g2 zBT (gC (.int 1)) (zAI zAB 0 [(zAC 1)])),(g2 zBT (gC (.int 1)) (zAI zAB 0 [(gN zHR [(gC (.int 7)),(zAC 1)])]))]) (zAI zAB 0 [(gC (.int 3))])))
 (zBA (zBQ (.nm 3) (zAI zAB 0 [(gC (.int 4))]))
 (zBA (zBQ (.nm 4) (g2 ixD (zDJ [(gC (.int 0)),(gC (.int 1)),(zAI zAB 0 [(g2 zBT (zAC 2) (gC (.int 1)))]),(g2 zBT (zAC 2) (zAI zAB 0 [(g2 zKD (gC (.int 5)) (zAC 2))])),(gC (.int 120))]) (zAI zAB 0 [(gC (.int 5))])))
 (zBA (zHI 5 (gC (.dt [])))
 (zBA (zMX (zOV (gC (.int 1)) (zAC 2)) (.nm 6)
 (zC6 (gB (g2 ltD (zAC 3) (gC (.int 3))))
 (zB2 5 (zAX [(g2 ixD (zDJ [(zAI zAB 0 [(zAC 6)]),(g2 zLK (g2 zLK (zAC 6) (gC (.int 1))) (zAI zAB 0 [(gN zHR [(zAC 6),(gC (.int 2))])])),(gC (.int 0))]) (zAC 3)),(zAC 6)]) (gC (.bl true)))
 gNx))
 (zBA (zMX (zEC (zAC 4)) (.nm 7)
 (zBA (zBQ (.nm 8) (zAI zAB 0 [(zAC 2)]))
 (zBA (zBQ (.nm 9) (g2 ixD (zDJ [(zAI zAB 0 [(zAC 2)]),(g2 zER (g2 zBT (g2 zBT (zAC 8) (gC (.int 1))) (zAI zAB 0 [(gC (.int 2))])) (zAC 2))]) (zAI zAB 0 [(gC (.int 2))])))
 (zC6 (zHH [5] (zOB (gB (g2 neD (zAC 8) (zAC 9))) (gB (g2 ltD (gN zDS [(zAC 5)]) (gC (.int 120))))))
 (zB2 5 (zAX [(zAC 8),(zAC 9)]) (gC (.bl true)))
 gNx))))
 (zBA (zBQ (.nm 10) (zAI zBO 0 [(gLR (zAC 2))]))
 (zBA (zBQ (.nm 11) (g2 ixD (zDJ [(g2 ixD (zAC 10) (gC (.int 0))),(g2 ixD (zAC 10) (gC (.int 0))),(zAI zAB 0 [(zAC 2)])]) (zAI zAB 0 [(gC (.int 3))])))
 (zC1 (zJR [5] (zAX [(zAX [(zAC 2),(gN zVG [(gN zKF [(zC9 (zED (zAC 5)) 2 [10] (.tp [(.nm 0),(.nm 1)]) zI7 (zAX [(g2 ixD (zAC 2) (zAC 0)),(g2 ixD (zAC 2) (zAC 1))]))])])]),(zAC 11)])))))))))))
noncomputable def zDD:Mr:=zF4 12 zGU
theorem sc_law_net:FnScope ["bag","most","many","way","more","lanes","k","turn","one","other","names","gate"] ["bag","most"] (zAM zCQ):=⟨rfl,rfl,rfl,by decide +kernel,rfl,by decide +kernel,by decide +kernel⟩
theorem zKO{P:Program}{w:World}{K:PySem.W.Frag}{mg:Str->Option Value}{base:Heap}{f:Addr}{fd:FuncData}(Fn:Fun K "_law_net" "_law_net" zCQ f fd)(T:Bt mg)(c__law_take:Cal P w K mg base "_law_take" 1 2 zAB)(c__law_shuffled:Cal P w K mg base "_law_shuffled" 2 2 zBO):FnOk P w K mg base CX0 3 f fd ["bag","most"] (spV K 2 zDD) :=
 zI6 Fn sc_law_net λcdv A outer s H E hr=>by
  have hu:=hr.units
  unfold zGU
  exact(zAH (zBH (i:=2) sc_law_net.nd rfl (Or.inl rfl) (zCX hu (FE.ve (zDK (zAA (zAD 1) (zAA (zBW zAJ (zAR 0 c__law_take (hr.mono (by decide)) (zAA (zAD 1) zAE))) (zAA (zBW zAJ (zAR 0 c__law_take (hr.mono (by decide)) (zAA (zSG rfl T.b_min (zAA zAJ (zAA (zAD 1) zAE))) zAE))) zAE))))) (zAR 0 c__law_take (hr.mono (by decide)) (zAA zAJ zAE))))
   (zAH (zBH (i:=3) sc_law_net.nd rfl (Or.inl rfl) (zAR 0 c__law_take (hr.mono (by decide)) (zAA zAJ zAE)))
   (zAH (zBH (i:=4) sc_law_net.nd rfl (Or.inl rfl) (zCX hu (FE.ve (zDK (zAA zAJ (zAA zAJ (zAA (zAR 0 c__law_take (hr.mono (by decide)) (zAA (zBW (zAD 2) zAJ) zAE)) (zAA (zBW (zAD 2) (zAR 0 c__law_take (hr.mono (by decide)) (zAA (zQ3 zAJ (zAD 2)) zAE))) (zAA zAJ zAE))))))) (zAR 0 c__law_take (hr.mono (by decide)) (zAA zAJ zAE))))
   (zAH (zHJ (i:=5) sc_law_net.nd rfl (Or.inl rfl) zUH)
   (zAH (zI5 PassesOwn.never rfl (zOW T.b_range zAJ (zAD 2)) (zA8 (i:=6) sc_law_net.nd rfl (Or.inl rfl))
   (zAP (zCL (zKC hu (zAD 3) zAJ)
   (zAP (zD0 5 hu (zB0 (zAA (zCX hu (FE.ve (zDK (zAA (zAR 0 c__law_take (hr.mono (by decide)) (zAA (zAD 6) zAE)) (zAA (zOM (zOM (zAD 6) zAJ) (zAR 0 c__law_take (hr.mono (by decide)) (zAA (zSG rfl T.b_min (zAA (zAD 6) (zAA zAJ zAE))) zAE))) (zAA zAJ zAE))))) (zAD 3)) (zAA (zAD 6) zAE))) zHE))
   zA1)))
   (zAH (zI5 PassesOwn.never rfl (zEN T.b_range (zAD 4)) (zA8 (i:=7) sc_law_net.nd rfl (Or.inl rfl))
   (zAH (zBH (i:=8) sc_law_net.nd rfl (Or.inl rfl) (zAR 0 c__law_take (hr.mono (by decide)) (zAA (zAD 2) zAE)))
   (zAH (zBH (i:=9) sc_law_net.nd rfl (Or.inl rfl) (zCX hu (FE.ve (zDK (zAA (zAR 0 c__law_take (hr.mono (by decide)) (zAA (zAD 2) zAE)) (zAA (zFN (zBW (zBW (zAD 8) zAJ) (zAR 0 c__law_take (hr.mono (by decide)) (zAA zAJ zAE))) (zAD 2)) zAE)))) (zAR 0 c__law_take (hr.mono (by decide)) (zAA zAJ zAE))))
   (zAP (zCL (zOD [5] (VW.t (zWR (zHN hu (zAD 8) (zAD 9)) (zTQ (zKC hu (zE9 T.b_len (zAA (zAD 5) zAE)) zAJ)))))
   (zAP (zD0 5 hu (zB0 (zAA (zAD 8) (zAA (zAD 9) zAE))) zHE))
   zA1)))))
   (zAH (zBH (i:=10) sc_law_net.nd rfl (Or.inr rfl) (zAR 0 c__law_shuffled (hr.mono (by decide)) (zAA (FE.ve (zKI rfl T.b_range T.b_list (zAD 2))) zAE)))
   (zAH (zBH (i:=11) sc_law_net.nd rfl (Or.inl rfl) (zCX hu (FE.ve (zDK (zAA (zCX hu (zAD 10) zAJ) (zAA (zCX hu (zAD 10) zAJ) (zAA (zAR 0 c__law_take (hr.mono (by decide)) (zAA (zAD 2) zAE)) zAE))))) (zAR 0 c__law_take (hr.mono (by decide)) (zAA zAJ zAE))))
   (zAP (zAY (zKA [5] (zB0 (zAA (zB0 (zAA (zAD 2) (zAA (zKG T.b_tuple (zAA (FE.ve (zRA T.b_sorted (zAA (FE.ve (zLG (own:=["one","other"]) (caps:=["names"]) (js:=[10]) ⟨rfl,rfl,by decide +kernel,by decide +kernel,by decide +kernel,rfl,(al1 rfl),rfl,(al1 (by first|exact Or.inl rfl|exact Or.inr rfl)),(al1 (by first|exact Or.inl rfl|exact Or.inr rfl)),by decide +kernel,by decide +kernel⟩ rfl (zJD (zAD 5)) (λC s H fp=>(zGO rfl (zBU (zA8 (i:=0) (by decide +kernel:((["one","other"]:List Str)++(["names"]:List Str)).Nodup) rfl (Or.inl rfl) (Or.inr rfl)) (zBU (zA8 (i:=1) (by decide +kernel:((["one","other"]:List Str)++(["names"]:List Str)).Nodup) rfl (Or.inl rfl) (Or.inr rfl)) zEU)))) (λC s H fp=>zFL) (λC s H fp=>(zB0 (zAA (zCX hu (zAD 2) (zAD 0)) (zAA (zCX hu (zAD 2) (zAD 1)) zAE)))))) zAE))) zAE)) zAE))) (zAA (zAD 11) zAE))))))))))))))
noncomputable def zLQ:GS :=
 (zBA (zC6 (zCN (zBG (zDO (zB6 "tuple" (zAC 0)))) (gB (g2 neD (gN zDS [(zAC 0)]) (gC (.int 2)))))
 (zC1 (gC (.bl false)))
 gNx)
 (zBA (zBQ (.tp [(.nm 1),(.nm 2)]) (zAC 0))
 (zBA (zC6 (zCN (zBG (zDO (zBV zCD [(zAC 1)]))) (zBG (gB (zDV leD leD (gC (.int 1)) (zAC 1) (gC (.int 24))))))
 (zC1 (gC (.bl false)))
 gNx)
 (zBA (zC6 (zCN (zBG (zDO (zB6 "tuple" (zAC 2)))) (gB (g2 gtD (gN zDS [(zAC 2)]) (gC (.int 120)))))
 (zC1 (gC (.bl false)))
 gNx)
 (zBA (zC6 (zBG (zDO (gN zRC [(zC9 (zED (zAC 2)) 1 [1] (.nm 0) zI7 (zBV zDC [(zAC 1),(zAC 0)]))])))
 (zC1 (gC (.bl false)))
 gNx)
 (zC1 (gN zRC [(zC9 (zX7 (zAC 2) (zBM (zAC 2) (some (gC (.int 1))) none)) 2 [] (.tp [(.nm 0),(.nm 1)]) zI7 (g2 ltD (zAC 0) (zAC 1)))])))))))
noncomputable def zD2:Mr:=zF4 3 zLQ
theorem scis_net:FnScope ["thing","many","lanes"] ["thing"] (zAM zD1):=⟨rfl,rfl,rfl,by decide +kernel,rfl,by decide +kernel,by decide +kernel⟩
theorem zO0{P:Program}{w:World}{K:PySem.W.Frag}{mg:Str->Option Value}{base:Heap}{f:Addr}{fd:FuncData}(Fn:Fun K "is_net" "is_net" zD1 f fd)(T:Bt mg)(c_is_whole:Cal P w K mg base "is_whole" 1 1 zCD)(c_is_lane:Cal P w K mg base "is_lane" 3 2 zDC):FnOk P w K mg base CX0 4 f fd ["thing"] (spV K 1 zD2) :=
 zI6 Fn scis_net λcdv A outer s H E hr=>by
  have hu:=hr.units
  unfold zLQ
  exact(zAH (zCL (VW.t (zC5 (zCJ (zBB (zCY zB3 T.b_isinstance T.b_tuple (by decide +kernel) (zAD 0)))) (zDM (zHN hu (zE9 T.b_len (zAA (zAD 0) zAE)) zAJ))))
   (zAP (zAY zHE))
   zA1)
   (zAH (zLB (zAD 0) (zGO rfl (zBU (zA8 (i:=1) scis_net.nd rfl (Or.inr rfl)) (zBU (zA8 (i:=2) scis_net.nd rfl (Or.inl rfl)) zEU))))
   (zAH (zCL (VW.t (zC5 (zCJ (zBB (zC7 c_is_whole (hr.mono (by decide)) (zAA (zAD 1) zAE)))) (zDM (zCJ (zLJ zNB (zEA _) zNB (zEA _) zAJ (zAD 1) (zSB (v:=.int 24) T.k_MOST_PLACES.choose_spec ⟨_,rfl⟩ (λ_=>.int 24)))))))
   (zAP (zAY zHE))
   zA1)
   (zAH (zCL (VW.t (zC5 (zCJ (zBB (zCY zB3 T.b_isinstance T.b_tuple (by decide +kernel) (zAD 2)))) (zDM (zT0 (zE9 T.b_len (zAA (zAD 2) zAE)) (zSB (v:=.int 120) T.k_MOST_LANES.choose_spec ⟨_,rfl⟩ (λ_=>.int 120))))))
   (zAP (zAY zHE))
   zA1)
   (zAH (zCL (zCJ (zBB (zUC rfl T.b_all (zAA (FE.ve (zLG (own:=["lane"]) (caps:=["many"]) (js:=[1]) ⟨rfl,rfl,by decide +kernel,by decide +kernel,by decide +kernel,rfl,(al1 rfl),rfl,(al1 (by first|exact Or.inl rfl|exact Or.inr rfl)),(al1 (by first|exact Or.inl rfl|exact Or.inr rfl)),by decide +kernel,by decide +kernel⟩ rfl (zJD (zAD 2)) (λC s H fp=>(zA8 (i:=0) (by decide +kernel:((["lane"]:List Str)++(["many"]:List Str)).Nodup) rfl (Or.inl rfl) (Or.inr rfl))) (λC s H fp=>zFL) (λC s H fp=>(zC7 c_is_lane (hr.mono (by decide)) (zAA (zAD 1) (zAA (zAD 0) zAE)))))) zAE))))
   (zAP (zAY zHE))
   zA1)
   (zAP (zAY (zUC rfl T.b_all (zAA (FE.ve (zLG (own:=["lane","later"]) (caps:=[]) (js:=[]) ⟨rfl,rfl,by decide +kernel,by decide +kernel,by decide +kernel,rfl,zRG,rfl,zRG,zRG,by decide +kernel,by decide +kernel⟩ rfl (zXG T.b_zip (zAD 2) (zB1 (zAD 2) (zBK zAJ) zC2)) (λC s H fp=>(zGO rfl (zBU (zA8 (i:=0) (by decide +kernel:((["lane","later"]:List Str)++([]:List Str)).Nodup) rfl (Or.inl rfl) (Or.inr rfl)) (zBU (zA8 (i:=1) (by decide +kernel:((["lane","later"]:List Str)++([]:List Str)).Nodup) rfl (Or.inl rfl) (Or.inr rfl)) zEU)))) (λC s H fp=>zFL) (λC s H fp=>(yA7 hu (zAD 0) (zAD 1))))) zAE)))))))))
noncomputable def zEY(zAT:Mr):GS :=
 (zBA (zBQ (.nm 2) (zDJ [(gC (.int 0)),(gC (.int 1)),(g1 zJT (gC (.int 1))),(gC (.int 24)),(gC (.int 25)),(gC (.bl true)),(gC .non),(gC (.str "")),(gC (.str "0")),(g2 zLM (gC (.int 10)) (gC (.int 59)))]))
 (zBA (zBQ (.nm 3) (zAI zAB 0 [(gC (.int 14))]))
 (zBA (zC6 (zCN (gB (g2 ltD (zAC 3) (gC (.int 10)))) (gB (g2 eqD (zAC 1) (gC (.int 0)))))
 (zC1 (g2 ixD (zAC 2) (g2 zER (zAC 3) (gC (.int 10)))))
 gNx)
 (zBA (zBQ (.nm 4) (zC9 (zEC (zAI zAB 0 [(gC (.int 4))])) 1 [1,0] (.nm 0) zI7 (zAI zAT 2 [(g2 zLK (zAC 1) (gC (.int 1)))])))
 (zC1 (gIf (gB (g2 ltD (zAC 3) (gC (.int 12)))) (zAC 4) (gN zVG [(zAC 4)])))))))
noncomputable def zAT:Nat->Mr
 |0=>λ_=>.bad
 |n+1=>zF4 5 (zEY (zAT n))
theorem sc_law_any:FnScope ["bag","deep","some","way","parts"] ["bag","deep"] (zAM zCR):=⟨rfl,rfl,rfl,by decide +kernel,rfl,by decide +kernel,by decide +kernel⟩
theorem zFY{P:Program}{w:World}{K:PySem.W.Frag}{mg:Str->Option Value}{base:Heap}{f:Addr}{fd:FuncData}(Fn:Fun K "_law_any" "_law_any" zCR f fd)(T:Bt mg)(hm:mg "_law_any"=some (.ref f))(hb:Binds K fd ["bag","deep"] [])(c__law_take:Cal P w K mg base "_law_take" 1 2 zAB):∀n:Nat,FnOk P w K mg base CX0 (n+1) f fd ["bag","deep"] (spV K 2 (zAT n))
 |0=>zXJ
 |n+1=>by
  have c__law_any:Cal P w K mg base "_law_any" (n+1) 2 (zAT n):=Fun.cal Fn (zFY Fn T hm hb c__law_take n) hm hb
  have hl:n+1+1=(n+1)+1:=by lia
  rw[hl]
  show FnOk P w K mg base CX0 ((n+1)+1) f fd ["bag","deep"] (spV K 2 (zF4 5 (zEY (zAT n))))
  exact zI6 Fn sc_law_any λcdv A outer s H E hr=>by
   have hu:=hr.units
   unfold zEY
   exact(zAH (zBH (i:=2) sc_law_any.nd rfl (Or.inl rfl) (FE.ve (zDK (zAA zAJ (zAA zAJ (zAA (zML zAJ) (zAA zAJ (zAA zAJ (zAA zHE (zAA zQO (zAA zWQ (zAA zWQ (zAA (zON zAJ zAJ) zAE)))))))))))))
   (zAH (zBH (i:=3) sc_law_any.nd rfl (Or.inl rfl) (zAR 0 c__law_take (hr.mono (by lia)) (zAA zAJ zAE)))
   (zAH (zCL (VW.t (zC5 (zKC hu (zAD 3) zAJ) (zDM (zHM hu (zAD 1) zAJ))))
   (zAP (zAY (zCX hu (zAD 2) (zFN (zAD 3) zAJ))))
   zA1)
   (zAH (zFS (i:=4) (own:=["k"]) (caps:=["deep","bag"]) (js:=[1,0]) ⟨rfl,rfl,by decide +kernel,by decide +kernel,by decide +kernel,rfl,(al2 rfl rfl),rfl,(al2 (by first|exact Or.inl rfl|exact Or.inr rfl) (by first|exact Or.inl rfl|exact Or.inr rfl)),(al2 (by first|exact Or.inl rfl|exact Or.inr rfl) (by first|exact Or.inl rfl|exact Or.inr rfl)),by decide +kernel,by decide +kernel⟩ rfl (zEN T.b_range (zAR 0 c__law_take (hr.mono (by lia)) (zAA zAJ zAE))) (λC s H fp=>(zA8 (i:=0) (by decide +kernel:((["k"]:List Str)++(["deep","bag"]:List Str)).Nodup) rfl (Or.inl rfl) (Or.inr rfl))) (λC s H fp=>zFL) (λC s H fp=>(zAR 2 c__law_any (hr.mono (by lia)) (zAA (zOM (zAD 1) zAJ) zAE))) sc_law_any.nd rfl rfl rfl)
   (zAP (zAY (yA3 (zKC hu (zAD 3) zAJ) (zAD 4) (zKG T.b_tuple (zAA (zAD 4) zAE)))))))))
noncomputable def zDP:GS :=
 (zBA (zBQ (.nm 3) (zDJ [(zMT (zAC 2) (g1 zJT (gC (.int 1)))),(zAX [(g2 ixD (zAC 2) (gC (.int 0))),(g2 ixD (zAC 2) (gC (.int 0)))]),(zAX [(g2 ixD (zAC 2) (gC (.int 0))),(zAC 1)]),(zAX [(g2 zBT (zAC 1) (gC (.int 3))),(g2 ixD (zAC 2) (gC (.int 1)))]),(zAX [(g2 ixD (zAC 2) (gC (.int 0))),(g1 zJT (gC (.int 1)))]),(gN zI9 [(zAC 2)])]))
 (zBA (zBQ (.nm 3) (g2 zBT (zAC 3) (zDJ [(g2 zBT (zAC 2) (zAX [(gC (.int 0))])),(zBM (zAC 2) none (some (gC (.int 1)))),(zAX [(gC (.bl true)),(g2 ixD (zAC 2) (gC (.int 1)))]),(zAX [(g2 ixD (zAC 2) (gC (.int 0))),(gC .non)]),(zAX [(gN zSH [(g2 ixD (zAC 2) (gC (.int 0)))]),(g2 ixD (zAC 2) (gC (.int 1)))]),(gC .non)])))
 (zC1 (g2 ixD (g2 zBT (zAC 3) (zDJ [(zAX [(g2 ixD (zAC 2) (gC (.int 0))),(zAI (zAT 5) 0 [(gC (.int 1))])]),(zAX [(zAI zAB 0 [(zAC 1)]),(zAI zAB 0 [(zAC 1)])])])) (zAI zAB 0 [(gC (.int 14))])))))
noncomputable def zBI:Mr:=zF4 4 zDP
theorem sc_law_lane_bent:FnScope ["bag","many","lane","some"] ["bag","many","lane"] (zAM zA5):=⟨rfl,rfl,rfl,by decide +kernel,rfl,by decide +kernel,by decide +kernel⟩
theorem zEZ{P:Program}{w:World}{K:PySem.W.Frag}{mg:Str->Option Value}{base:Heap}{f:Addr}{fd:FuncData}(Fn:Fun K "_law_lane_bent" "_law_lane_bent" zA5 f fd)(T:Bt mg)(c__law_take:Cal P w K mg base "_law_take" 1 2 zAB)(c__law_any:Cal P w K mg base "_law_any" 6 2 (zAT 5)):FnOk P w K mg base CX0 7 f fd ["bag","many","lane"] (spV K 3 zBI) :=
 zI6 Fn sc_law_lane_bent λcdv A outer s H E hr=>by
  have hu:=hr.units
  unfold zDP
  exact(zAH (zBH (i:=3) sc_law_lane_bent.nd rfl (Or.inl rfl) (FE.ve (zDK (zAA (zSI (zAD 2) (zML zAJ)) (zAA (zB0 (zAA (zCX hu (zAD 2) zAJ) (zAA (zCX hu (zAD 2) zAJ) zAE))) (zAA (zB0 (zAA (zCX hu (zAD 2) zAJ) (zAA (zAD 1) zAE))) (zAA (zB0 (zAA (zBW (zAD 1) zAJ) (zAA (zCX hu (zAD 2) zAJ) zAE))) (zAA (zB0 (zAA (zCX hu (zAD 2) zAJ) (zAA (zML zAJ) zAE))) (zAA (FE.ve (zOS rfl T.b_list (zAA (zAD 2) zAE))) zAE)))))))))
   (zAH (zBH (i:=3) sc_law_lane_bent.nd rfl (Or.inl rfl) (zBW (zAD 3) (FE.ve (zDK (zAA (zBW (zAD 2) (zB0 (zAA zAJ zAE))) (zAA (zB1 (zAD 2) zC2 (zBK zAJ)) (zAA (zB0 (zAA zHE (zAA (zCX hu (zAD 2) zAJ) zAE))) (zAA (zB0 (zAA (zCX hu (zAD 2) zAJ) (zAA zQO zAE))) (zAA (zB0 (zAA (zXP hr.gd hu T.b_str (zAA (zCX hu (zAD 2) zAJ) zAE)) (zAA (zCX hu (zAD 2) zAJ) zAE))) (zAA zQO zAE))))))))))
   (zAP (zAY (zCX hu (zBW (zAD 3) (FE.ve (zDK (zAA (zB0 (zAA (zCX hu (zAD 2) zAJ) (zAA (zAR 0 c__law_any (hr.mono (by decide)) (zAA zAJ zAE)) zAE))) (zAA (zB0 (zAA (zAR 0 c__law_take (hr.mono (by decide)) (zAA (zAD 1) zAE)) (zAA (zAR 0 c__law_take (hr.mono (by decide)) (zAA (zAD 1) zAE)) zAE))) zAE))))) (zAR 0 c__law_take (hr.mono (by decide)) (zAA zAJ zAE)))))))
noncomputable def zFZ:GS :=
 (zBA (zBQ (.tp [(.nm 2),(.nm 3)]) (zAC 1))
 (zBA (zBQ (.nm 4) (zAI zAB 0 [(gC (.int 9))]))
 (zBA (zBQ (.nm 5) (zAI zAB 0 [(gN zKH [(gC (.int 1)),(gN zDS [(zAC 3)])])]))
 (zBA (zC6 (gB (g2 eqD (zAC 4) (gC (.int 0))))
 (zC1 (zAX [(g2 ixD (zDJ [(g2 zBT (zAC 2) (gC (.int 1))),(g2 zLK (zAC 2) (gC (.int 1))),(gC (.int 0)),(gC (.int 25)),(gC (.bl true)),(gC .non),(zAI (zAT 5) 0 [(gC (.int 2))])]) (zAI zAB 0 [(gC (.int 7))])),(zAC 3)]))
 gNx)
 (zBA (zC6 (zCN (gB (g2 eqD (zAC 4) (gC (.int 1)))) (gB (g2 eqD (zAC 3) (zAX []))))
 (zC1 (g2 ixD (zDJ [(zAX [(zAC 2),(gN zI9 [(zAC 3)])]),(zDJ [(zAC 2),(zAC 3)]),(zAX [(zAC 2)]),(zAX [(zAC 2),(zAC 3),(zAX [])]),(zAX [(zAC 3),(zAC 2)])]) (zAI zAB 0 [(gC (.int 5))])))
 gNx)
 (zBA (zC6 (gB (g2 eqD (zAC 4) (gC (.int 2))))
 (zC1 (zAX [(zAC 2),(g2 zBT (zBM (zAC 3) none (some (zAC 5))) (zBM (zAC 3) (some (g2 zBT (zAC 5) (gC (.int 1)))) none))]))
 gNx)
 (zBA (zC6 (gB (g2 eqD (zAC 4) (gC (.int 3))))
 (zC1 (zAX [(zAC 2),(g2 zBT (g2 zBT (zBM (zAC 3) none (some (zAC 5))) (zBM (zAC 3) (some (zAC 5)) (some (g2 zBT (zAC 5) (gC (.int 1)))))) (zBM (zAC 3) (some (zAC 5)) none))]))
 gNx)
 (zBA (zC6 (gB (g2 eqD (zAC 4) (gC (.int 4))))
 (zC1 (zAX [(zAC 2),(g2 zBT (g2 zBT (zBM (zAC 3) none (some (zAC 5))) (zMT (zBM (zAC 3) (some (zAC 5)) (some (g2 zBT (zAC 5) (gC (.int 2))))) (g1 zJT (gC (.int 1))))) (zBM (zAC 3) (some (g2 zBT (zAC 5) (gC (.int 2)))) none))]))
 gNx)
 (zC1 (zAX [(zAC 2),(g2 zBT (g2 zBT (zBM (zAC 3) none (some (zAC 5))) (zAX [(zAI zBI 0 [(zAC 2),(g2 ixD (zAC 3) (zAC 5))])])) (zBM (zAC 3) (some (g2 zBT (zAC 5) (gC (.int 1)))) none))]))))))))))
noncomputable def zCG:Mr:=zF4 6 zFZ
theorem sc_law_bent:FnScope ["bag","thing","many","lanes","way","at"] ["bag","thing"] (zAM zCC):=⟨rfl,rfl,rfl,by decide +kernel,rfl,by decide +kernel,by decide +kernel⟩
theorem zJK{P:Program}{w:World}{K:PySem.W.Frag}{mg:Str->Option Value}{base:Heap}{f:Addr}{fd:FuncData}(Fn:Fun K "_law_bent" "_law_bent" zCC f fd)(T:Bt mg)(c__law_take:Cal P w K mg base "_law_take" 1 2 zAB)(c__law_any:Cal P w K mg base "_law_any" 6 2 (zAT 5))(c__law_lane_bent:Cal P w K mg base "_law_lane_bent" 7 3 zBI):FnOk P w K mg base CX0 8 f fd ["bag","thing"] (spV K 2 zCG) :=
 zI6 Fn sc_law_bent λcdv A outer s H E hr=>by
  have hu:=hr.units
  unfold zFZ
  exact(zAH (zLB (zAD 1) (zGO rfl (zBU (zA8 (i:=2) sc_law_bent.nd rfl (Or.inl rfl)) (zBU (zA8 (i:=3) sc_law_bent.nd rfl (Or.inl rfl)) zEU))))
   (zAH (zBH (i:=4) sc_law_bent.nd rfl (Or.inl rfl) (zAR 0 c__law_take (hr.mono (by decide)) (zAA zAJ zAE)))
   (zAH (zBH (i:=5) sc_law_bent.nd rfl (Or.inl rfl) (zAR 0 c__law_take (hr.mono (by decide)) (zAA (zXD rfl T.b_max (zAA zAJ (zAA (zE9 T.b_len (zAA (zAD 3) zAE)) zAE))) zAE)))
   (zAH (zCL (zHM hu (zAD 4) zAJ)
   (zAP (zAY (zB0 (zAA (zCX hu (FE.ve (zDK (zAA (zBW (zAD 2) zAJ) (zAA (zOM (zAD 2) zAJ) (zAA zAJ (zAA zAJ (zAA zHE (zAA zQO (zAA (zAR 0 c__law_any (hr.mono (by decide)) (zAA zAJ zAE)) zAE))))))))) (zAR 0 c__law_take (hr.mono (by decide)) (zAA zAJ zAE))) (zAA (zAD 3) zAE)))))
   zA1)
   (zAH (zCL (VW.t (zC5 (zHM hu (zAD 4) zAJ) (zDM (zHM hu (zAD 3) (zB0 zAE)))))
   (zAP (zAY (zCX hu (FE.ve (zDK (zAA (zB0 (zAA (zAD 2) (zAA (FE.ve (zOS rfl T.b_list (zAA (zAD 3) zAE))) zAE))) (zAA (FE.ve (zDK (zAA (zAD 2) (zAA (zAD 3) zAE)))) (zAA (zB0 (zAA (zAD 2) zAE)) (zAA (zB0 (zAA (zAD 2) (zAA (zAD 3) (zAA (zB0 zAE) zAE)))) (zAA (zB0 (zAA (zAD 3) (zAA (zAD 2) zAE))) zAE))))))) (zAR 0 c__law_take (hr.mono (by decide)) (zAA zAJ zAE)))))
   zA1)
   (zAH (zCL (zHM hu (zAD 4) zAJ)
   (zAP (zAY (zB0 (zAA (zAD 2) (zAA (zBW (zB1 (zAD 3) zC2 (zBK (zAD 5))) (zB1 (zAD 3) (zBK (zBW (zAD 5) zAJ)) zC2)) zAE)))))
   zA1)
   (zAH (zCL (zHM hu (zAD 4) zAJ)
   (zAP (zAY (zB0 (zAA (zAD 2) (zAA (zBW (zBW (zB1 (zAD 3) zC2 (zBK (zAD 5))) (zB1 (zAD 3) (zBK (zAD 5)) (zBK (zBW (zAD 5) zAJ)))) (zB1 (zAD 3) (zBK (zAD 5)) zC2)) zAE)))))
   zA1)
   (zAH (zCL (zHM hu (zAD 4) zAJ)
   (zAP (zAY (zB0 (zAA (zAD 2) (zAA (zBW (zBW (zB1 (zAD 3) zC2 (zBK (zAD 5))) (zSI (zB1 (zAD 3) (zBK (zAD 5)) (zBK (zBW (zAD 5) zAJ))) (zML zAJ))) (zB1 (zAD 3) (zBK (zBW (zAD 5) zAJ)) zC2)) zAE)))))
   zA1)
   (zAP (zAY (zB0 (zAA (zAD 2) (zAA (zBW (zBW (zB1 (zAD 3) zC2 (zBK (zAD 5))) (zB0 (zAA (zAR 0 c__law_lane_bent (hr.mono (by decide)) (zAA (zAD 2) (zAA (zCX hu (zAD 3) (zAD 5)) zAE))) zAE))) (zB1 (zAD 3) (zBK (zBW (zAD 5) zAJ)) zC2)) zAE)))))))))))))
noncomputable def zXQ:GS :=
 (zBA (zMX (zED (g2 zBT (zDJ [(zBV zCE [(zAC 0),(gC (.int 0))])]) (zBM (zAC 0) (some (gC (.int 1))) (some (gC (.int 16)))))) (.nm 1)
 (zBA (zHI 2 (zGP zCF [(zAC 1),(gC (.int 0))]))
 (zBA (zBQ (.nm 3) (g2 ixD (zDJ [(gC (.int 0)),(gC (.int 1)),(gC (.int 1)),(gC (.int 2))]) (zAI zAB 2 [(gC (.int 4))])))
 (zBA (zBQ (.nm 4) (g2 ixD (zAI zDD 2 [(gC (.int 24))]) (gC (.int 0))))
 (zBA (zC6 (gB (g2 eqD (zAI zAB 2 [(gC (.int 8))]) (gC (.int 0))))
 (zBQ (.nm 4) (g2 ixD (zDJ [(zAI zBX 2 []),(zAI (zAT 5) 2 [(gC (.int 4))])]) (zAI zAB 2 [(gC (.int 2))])))
 gNx)
 (zBA (zMX (zEC (zAC 3)) (.nm 5)
 (zC6 (zDO (zBV zAU [(zAC 4)]))
 (zBQ (.nm 4) (zAI zCG 2 [(zAC 4)]))
 gNx))
 (zBA (zBQ (.nm 6) (zBV zD2 [(zAC 4)]))
 (zC6 (zCN (zBG (zDO (zB6 "bool" (zAC 6)))) (gB (g2 neD (zAC 6) (zBV zB4 [(zAC 4)]))))
 (zC1 (gC (.bl false)))
 gNx))))))))
 (zC1 (gC (.bl true))))
noncomputable def m_law:Mr:=zF4 7 zXQ
theorem sclaw:FnScope ["script","cell","bag","bends","thing","turn","found"] ["script"] (zAM zHV):=⟨rfl,rfl,rfl,by decide +kernel,rfl,by decide +kernel,by decide +kernel⟩
theorem zXR{P:Program}{w:World}{K:PySem.W.Frag}{mg:Str->Option Value}{base:Heap}{f:Addr}{fd:FuncData}(Fn:Fun K "law" "law" zHV f fd)(T:Bt mg)(c__law_well:Cal P w K mg base "_law_well" 1 2 zCF)(c_is_net:Cal P w K mg base "is_net" 4 1 zD2)(c__law_cell:Cal P w K mg base "_law_cell" 1 2 zCE)(c__law_take:Cal P w K mg base "_law_take" 1 2 zAB)(c__law_net:Cal P w K mg base "_law_net" 3 2 zDD)(c__law_is_bendable:Cal P w K mg base "_law_is_bendable" 2 1 zAU)(c__law_bent:Cal P w K mg base "_law_bent" 8 2 zCG)(c__law_is_net:Cal P w K mg base "_law_is_net" 2 1 zB4)(c__law_full:Cal P w K mg base "_law_full" 2 1 zBX)(c__law_any:Cal P w K mg base "_law_any" 6 2 (zAT 5)):FnOk P w K mg base CX0 9 f fd ["script"] (spV K 1 m_law) :=
 zI6 Fn sclaw λcdv A outer s H E hr=>by
  have hu:=hr.units
  unfold zXQ
  exact(zAH (zI5 PassesOwn.never rfl (zJD (zBW (FE.ve (zDK (zAA (zC7 c__law_cell (hr.mono (by decide)) (zAA (zAD 0) (zAA zAJ zAE))) zAE))) (zB1 (zAD 0) (zBK zAJ) (zBK zAJ)))) (zA8 (i:=1) sclaw.nd rfl (Or.inl rfl))
   (zAH (zHJ (i:=2) sclaw.nd rfl (Or.inl rfl) (zWZ c__law_well (hr.mono (by decide)) (zAA (zAD 1) (zAA zAJ zAE))))
   (zAH (zBH (i:=3) sclaw.nd rfl (Or.inl rfl) (zCX hu (FE.ve (zDK (zAA zAJ (zAA zAJ (zAA zAJ (zAA zAJ zAE)))))) (zAR 2 c__law_take (hr.mono (by decide)) (zAA zAJ zAE))))
   (zAH (zBH (i:=4) sclaw.nd rfl (Or.inl rfl) (zCX hu (zAR 2 c__law_net (hr.mono (by decide)) (zAA zAJ zAE)) zAJ))
   (zAH (zCL (zHM hu (zAR 2 c__law_take (hr.mono (by decide)) (zAA zAJ zAE)) zAJ)
   (zAP (zBH (i:=4) sclaw.nd rfl (Or.inl rfl) (zCX hu (FE.ve (zDK (zAA (zAR 2 c__law_full (hr.mono (by decide)) zAE) (zAA (zAR 2 c__law_any (hr.mono (by decide)) (zAA zAJ zAE)) zAE)))) (zAR 2 c__law_take (hr.mono (by decide)) (zAA zAJ zAE)))))
   zA1)
   (zAH (zI5 PassesOwn.never rfl (zEN T.b_range (zAD 3)) (zA8 (i:=5) sclaw.nd rfl (Or.inl rfl))
   (zAP (zCL (zBB (zC7 c__law_is_bendable (hr.mono (by decide)) (zAA (zAD 4) zAE)))
   (zAP (zBH (i:=4) sclaw.nd rfl (Or.inl rfl) (zAR 2 c__law_bent (hr.mono (by decide)) (zAA (zAD 4) zAE))))
   zA1)))
   (zAH (zBH (i:=6) sclaw.nd rfl (Or.inl rfl) (zC7 c_is_net (hr.mono (by decide)) (zAA (zAD 4) zAE)))
   (zAP (zCL (VW.t (zC5 (zCJ (zBB (zCY zHS T.b_isinstance T.b_bool (by decide +kernel) (zAD 6)))) (zDM (zHN hu (zAD 6) (zC7 c__law_is_net (hr.mono (by decide)) (zAA (zAD 4) zAE))))))
   (zAP (zAY zHE))
   zA1)))))))))
   (zAP (zAY zHE)))
end My
namespace L2
open PySem
theorem zAG{α β:Type}{x:Out α}{a:α}{f:α->Out β}{r:Out β}(h:x=.ok a)(h2:f a=r):x.bind f=r:=by rw[h];exact h2
theorem zAK{g g':GS}{E E1:Ev}{r:Out Fl}(h:g E=.ok (.nx E1))(h2:g' E1=r):zBA g g' E=r:=by
 unfold zBA;rw[h];exact h2
theorem zA6{g g':GS}{E E1:Ev}{b:Bool}{d:D}(h:g E=.ok (.rt b d E1)):zBA g g' E=.ok (.rt b d E1):=by
 unfold zBA;rw[h];rfl
theorem zD5{t:Ev->Out (Bool×Ev)}{g g':GS}{E E1:Ev}{r:Out Fl}(h:t E=.ok (true,E1))(h2:g E1=r):zC6 t g g' E=r:=by
 unfold zC6;rw[h];exact h2
theorem zDE{t:Ev->Out (Bool×Ev)}{g g':GS}{E E1:Ev}{r:Out Fl}(h:t E=.ok (false,E1))(h2:g' E1=r):zC6 t g g' E=r:=by
 unfold zC6;rw[h];exact h2
theorem zLR{t:Tg}{g:GS}(P:Nat->Ev->Prop):∀{ds:List D} {E:Ev} (o:Nat),P o E ->
  (∀i d E,ds[i]?=some d->P (o+i) E->∃E1,gTg t d E=.ok E1/\∃E2,g E1=.ok (.nx E2)/\P (o+(i+1)) E2)->∃E',zDL t g ds E=.ok (.nx E')/\P (o+ds.length) E'
 |[],E,o,h0,_=>⟨E,rfl,h0⟩
 |d::ds,E,o,h0,hs=>by
  obtain⟨E1,e1,E2,e2,p2⟩:=hs 0 d E rfl h0
  obtain⟨E',e',p'⟩:=zLR P (ds:=ds) (E:=E2) (o+1) p2 λi d' E3 hd hp=>by
   have:=hs (i+1) d' E3 (by simpa using hd) (by rw[show o+(i+1)=o+1+i by lia];exact hp)
   rw[show o+(i+1+1)=o+1+(i+1) by lia] at this
   exact this
  refine⟨E',?_,?_⟩
  ·unfold zDL;rw[e1];simp only[Out.bind];rw[e2];exact e'
  ·rw[List.length_cons,show o+(ds.length+1)=o+1+ds.length by lia];exact p'
theorem zHX{gi:GI}{t:Tg}{g:GS}{E E1:Ev}{ds:List D}(P:Nat->Ev->Prop)(hi:gi E=.ok (ds,E1))(h0:P 0 E1)
  (hs:∀i d E,ds[i]?=some d->P i E->∃E1,gTg t d E=.ok E1/\∃E2,g E1=.ok (.nx E2)/\P (i+1) E2):∃E',zMX gi t g E=.ok (.nx E')/\P ds.length E':=by
 obtain⟨E',e,p⟩:=zLR (t:=t) (g:=g) P (ds:=ds) (E:=E1) 0 h0 (λi d E hd hp=>by
  rw[Nat.zero_add] at hp ⊢;exact hs i d E hd hp)
 refine⟨E',?_,by simpa using p⟩
 unfold zMX;rw[hi];exact e
theorem zSJ{t:Ev->Out (Bool×Ev)}{g:GS}(P:Nat->Ev->Prop)(Q:Ev->Prop)
  (hs:∀n E,P n E->(∃E1,t E=.ok (false,E1)/\Q E1)\/(∃E1 E2 m,t E=.ok (true,E1)/\g E1=.ok (.nx E2)/\m<n/\P m E2)) :
  ∀(fuel n:Nat) (E:Ev),n<fuel->P n E->∃E',gWh t g fuel E=.ok (.nx E')/\Q E'
 |0,n,E,hn,_=>by lia
 |fuel+1,n,E,hn,h=>by
  rcases hs n E h with⟨E1,e1,q⟩|⟨E1,E2,m,e1,e2,hm,p⟩
  ·refine⟨E1,?_,q⟩
   unfold gWh;rw[e1];rfl
  ·obtain⟨E',e',q⟩:=zSJ P Q hs fuel m E2 (by lia) p
   refine⟨E',?_,q⟩
   unfold gWh;rw[e1];simp only[Out.bind,if_true];rw[e2];exact e'
theorem zKP{n:Nat}{α:Type}{x:Out α}(h:n<10000):few n x=x:=if_pos h
theorem zO1{t:Tg}{tt:Ev->Out (Bool×Ev)}{gm:GM}(f:D->List D)(M:Nat)(P:Ev->Prop):∀{ds acc:List D} {E:Ev},P E->acc.length+ds.length * M<10000->(∀d∈ds,(f d).length<=M) ->
  (∀d∈ds,∀(acc:List D) (E:Ev),acc.length+M<10000->P E->∃E1,gTg t d E=.ok E1/\∃b E2,tt E1=.ok (b,E2)/\((b=true/\∃E3,gm (.lst acc) E2=.ok (.lst (acc++f d),E3)/\P E3)\/(b=false/\f d=[]/\P E2))) ->
  ∃E',zMK t tt gm ds (.lst acc) E=.ok (.lst (acc++ds.flatMap f),E')/\P E'
 |[],acc,E,h0,_,_,_=>⟨E,by simp[zMK],h0⟩
 |d::ds,acc,E,h0,hl,hM,hs=>by
  rw[List.length_cons,Nat.succ_mul] at hl
  obtain⟨E1,e1,b,E2,e2,h⟩:=hs d List.mem_cons_self acc E (by lia) h0
  have hd:=hM d List.mem_cons_self
  rcases h with⟨rfl,E3,e3,p⟩|⟨rfl,ef,p⟩
  ·obtain⟨E',e',p'⟩:=zO1 f M P (ds:=ds) (acc:=acc++f d) (E:=E3) p (by rw[List.length_append];lia) (λd hd=>hM d (List.mem_cons_of_mem _ hd)) λd hd=>hs d (List.mem_cons_of_mem _ hd)
   refine⟨E',?_,p'⟩
   unfold zMK;rw[e1];simp only[Out.bind];rw[e2];simp only[if_true];rw[e3];simp only;rw[e',List.flatMap_cons,List.append_assoc]
  ·obtain⟨E',e',p'⟩:=zO1 f M P (ds:=ds) (acc:=acc) (E:=E2) p (by lia) (λd hd=>hM d (List.mem_cons_of_mem _ hd)) λd hd=>hs d (List.mem_cons_of_mem _ hd)
   refine⟨E',?_,p'⟩
   unfold zMK;rw[e1];simp only[Out.bind];rw[e2];simp only[if_false,Bool.false_eq_true];rw[e',List.flatMap_cons,ef,List.nil_append]
theorem zO2{ge:G}{acc:List D}{E E':Ev}{x:D}(h:ge E=.ok (x,E'))(hl:acc.length<10000):zQY ge (.lst acc) E=.ok (.lst (acc++[x]),E'):=zAG h (zKP hl)
theorem zRK{gi:GI}{k:Nat}{js:List Nat}{t:Tg}{tt:Ev->Out (Bool×Ev)}{gm:GM}{E E1:Ev}{ds:List D}(f:D->List D)(M:Nat)(P:Ev->Prop)(hi:gi E=.ok (ds,E1))(h0:P (zLC k js E1))(hl:ds.length * M<10000)(hM:∀d∈ds,(f d).length<=M)
  (hs:∀d∈ds,∀(acc:List D) (E:Ev),acc.length+M<10000->P E->∃E1,gTg t d E=.ok E1/\∃b E2,tt E1=.ok (b,E2)/\((b=true/\∃E3,gm (.lst acc) E2=.ok (.lst (acc++f d),E3)/\P E3)\/(b=false/\f d=[]/\P E2)))
  (hb:∀Ec,P Ec->bck E1 Ec k js=E1):zLF gi k js (.lst []) t tt gm E=.ok (.lst (ds.flatMap f),E1):=by
 obtain⟨E',e',p'⟩:=zO1 f M P (ds:=ds) (acc:=[]) h0 (by simpa using hl) hM hs
 unfold zLF;rw[hi];simp only[Out.bind];rw[e'];simp only[Out.bind,List.nil_append];rw[hb _ p']
theorem zKQ{gi:GI}{k:Nat}{js:List Nat}{t:Tg}{tt:Ev->Out (Bool×Ev)}{ge:G}{E E1:Ev}{ds:List D}(f:D->List D)(P:Ev->Prop)(hi:gi E=.ok (ds,E1))(h0:P (zLC k js E1))(hl:ds.length<10000)
  (hs:∀d∈ds,∀E,P E->∃E1,gTg t d E=.ok E1/\∃b E2,tt E1=.ok (b,E2)/\((b=true/\∃x E3,ge E2=.ok (x,E3)/\f d=[x]/\P E3)\/(b=false/\f d=[]/\P E2)))
  (hb:∀Ec,P Ec->bck E1 Ec k js=E1):zC9 gi k js t tt ge E=.ok (.lst (ds.flatMap f),E1):=by
 by_cases hP:∀d∈ds,∃E,P E
 ·refine zRK f 1 P hi h0 (by lia) (λd hd=>?_) (λd hd acc E hacc hE=>?_) hb
  ·obtain⟨E,hE⟩:=hP d hd
   obtain⟨_,_,_,_,_,⟨_,x,_,_,ef,_⟩|⟨_,ef,_⟩⟩:=hs d hd E hE
   ·rw[ef];exact Nat.le_refl _
   ·rw[ef];exact Nat.zero_le _
  ·obtain⟨E1,e1,b,E2,e2,⟨hb,x,E3,e3,ef,p⟩|h⟩:=hs d hd E hE
   ·exact⟨E1,e1,b,E2,e2,.inl ⟨hb,E3,by rw[ef];exact zO2 e3 (by lia),p⟩⟩
   ·exact⟨E1,e1,b,E2,e2,.inr h⟩
 ·exact absurd (λd hd=>⟨_,h0⟩) hP
def Pl(n:Nat)(d:D):Prop:=∃p,d.py=some p/\p.depth<=n/\p.canLay0=true
def Pls(n:Nat)(ds:List D):Prop:=∃ps,D.pys ds=some ps/\PyData.depthAll ps<=n/\PyData.canLayAll0 ps=true
theorem Pl.int(n:Nat)(i:Int):Pl n (.int i):=⟨_,rfl,Nat.zero_le _,rfl⟩
theorem Pls.nil(n:Nat):Pls n []:=⟨_,rfl,Nat.zero_le _,rfl⟩
theorem Pls.cons{n:Nat}{d:D}{ds:List D}(h:Pl n d)(t:Pls n ds):Pls n (d::ds):=by
 obtain⟨p,e,a,b⟩:=h
 obtain⟨ps,e2,a2,b2⟩:=t
 exact⟨p::ps,by simp[D.pys,e,e2],by simp only[PyData.depthAll];lia,by simp[PyData.canLayAll0,b,b2]⟩
theorem Pls.of{α:Type}{n:Nat}{f:α->D}:∀{xs:List α},(∀x∈xs,Pl n (f x))->Pls n (xs.map f)
 |[],_=>.nil n
 |x::xs,h=>.cons (h x List.mem_cons_self) (Pls.of λy hy=>h y (List.mem_cons_of_mem _ hy))
theorem Pls.ints(n:Nat)(ns:List Int):Pls n (ns.map D.int):=Pls.of λ_ _=>.int _ _
theorem zF0(a b:Int):eqD (.int a) (.int b)=.ok (.bl (decide (a=b))):=by
 simp only[eqD,D.py,PyData.depth,PyData.eqv]
 by_cases h:a=b<;>simp[h]
theorem zHY(a b:Int):neD (.int a) (.int b)=.ok (.bl (decide (a≠b))):=by
 simp only[neD,D.py,PyData.depth,PyData.eqv]
 by_cases h:a=b<;>simp[h]
theorem zUR{n:Nat}{ds:List D}(h:Pls n ds):neD (.lst ds) (.lst [])=.ok (.bl (!ds.isEmpty)):=by
 obtain⟨ps,e2,a2,b2⟩:=h
 have e0:D.pys []=some []:=by simp[D.pys]
 unfold neD
 simp only[D.py,e2,e0,Option.map]
 rw[if_pos (by simp only[PyData.depth,PyData.depthAll];lia),PyData.eqv]
 cases ds with
 |nil=>rw[e0] at e2;cases e2;rfl
 |cons d ds =>
  cases ps with
  |nil =>
   simp only[D.pys] at e2
   split at e2<;>simp at e2
  |cons p ps=>rfl
theorem zKR(ps:List (Int×Int)):zKF [.lst (ps.map zBF)]=.ok (.lst ((zEW ps).map zBF)):=by
 cases ps with
 |nil=>simp[zKF,zBD,zMN,zEW]
 |cons p ps =>
  have:=zFP (p::ps)
  simp only[zKF]
  rw[this,show zBD ((p::ps).map zBF)=none from rfl]
theorem zGV{α:Type}{xs:List α}{i:Int}{x:α}(h0:0<=i)(h:xs[i.toNat]?=some x):atI xs i=some x:=by
 have:=zJZ (xs:=xs) (j:=i.toNat) h
 rwa [show((i.toNat:Nat):Int)=i by lia] at this
section
variable{κ:Type}[DecidableEq κ]
theorem zLS(kvs:List (κ×D))(k:κ)(v:D):(zLH kvs k v).length<=kvs.length+1:=by
 unfold zLH;split
 ·simp
 ·simp
end
theorem zBP{m:Mr}{gs:List G}{E E':Ev}{ds:List D}{b:Bool}{d d':D}(h1:zCM gs E=.ok (ds,E'))(h2:m (ds.map Sl.val)=.ok (b,d,d')):zBV m gs E=.ok (d,E'):=zAG h1 (zAG h2 rfl)
theorem zLT{E:Ev}:zCM [] E=.ok ([],E):=rfl
theorem zAF{g:G}{gs:List G}{E E1 E2:Ev}{d:D}{ds:List D}(h1:g E=.ok (d,E1))(h2:zCM gs E1=.ok (ds,E2)):zCM (g::gs) E=.ok (d::ds,E2):=zAG h1 (zAG h2 rfl)
theorem zAS{g:G}{E E1:Ev}{d:D}(h1:g E=.ok (d,E1)):zCM [g] E=.ok ([d],E1):=zAF h1 zLT
theorem zDF{f:List D->Out D}{gs:List G}{E E':Ev}{ds:List D}{d:D}(h1:zCM gs E=.ok (ds,E'))(h2:f ds=.ok d):gN f gs E=.ok (d,E'):=zAG h1 (zAG h2 rfl)
theorem zA9{gs:List G}{E E':Ev}{ds:List D}(h1:zCM gs E=.ok (ds,E'))(h2:ds.length<10000):zAX gs E=.ok (.tup ds,E'):=zAG h1 (zKP h2)
theorem zCU{gs:List G}{E E':Ev}{ds:List D}(h1:zCM gs E=.ok (ds,E'))(h2:ds.length<10000):zDJ gs E=.ok (.lst ds,E'):=zAG h1 (zKP h2)
theorem zAV{g:G}{E E':Ev}{d:D}(h:g E=.ok (d,E')):zC1 g E=.ok (.rt false d E'):=zAG h rfl
theorem zO3{g:G}{E E':Ev}{d:D}(h:g E=.ok (d,E')):zQR g E=.ok (.rt true d E'):=zAG h rfl
theorem zA3{g:G}{t:Tg}{E E' E2:Ev}{d:D}(h:g E=.ok (d,E'))(h2:gTg t d E'=.ok E2):zBQ t g E=.ok (.nx E2):=zAG h (zAG h2 rfl)
theorem zHZ{g:G}{i:Nat}{E E':Ev}{d:D}(h:g E=.ok (d,E')):zHI i g E=.ok (.nx (E'.set i (.own false d))):=zAG h rfl
theorem zUS{g:G}{E E':Ev}{d:D}(h:g E=.ok (d,E')):zQT g E=.ok (.nx E'):=zAG h rfl
theorem zAO{f:D->D->Out D}{ga gb:G}{E E1 E2:Ev}{x y d:D}(h1:ga E=.ok (x,E1))(h2:gb E1=.ok (y,E2))(h3:f x y=.ok d):g2 f ga gb E=.ok (d,E2):=zAG h1 (zAG h2 (zAG h3 rfl))
theorem zCK{g:G}{E E':Ev}{b:Bool}(h:g E=.ok (.bl b,E')):gB g E=.ok (b,E'):=zAG h rfl
theorem zEG{g:G}{E E':Ev}{d:D}{b:Bool}(h:g E=.ok (d,E'))(h2:yAD d=.ok b):zDO g E=.ok (b,E'):=zAG h (zAG h2 rfl)
theorem zBL{t:Ev->Out (Bool×Ev)}{E E':Ev}{b:Bool}(h:t E=.ok (b,E')):zBG t E=.ok (!b,E'):=zAG h rfl
theorem zE0{t u:Ev->Out (Bool×Ev)}{E E':Ev}{r:Out (Bool×Ev)}(h:t E=.ok (false,E'))(h2:u E'=r):zCN t u E=r:=zAG h h2
theorem zJL{t u:Ev->Out (Bool×Ev)}{E E':Ev}(h:t E=.ok (true,E')):zCN t u E=.ok (true,E'):=zAG h rfl
theorem zSK{t u:Ev->Out (Bool×Ev)}{E E':Ev}{r:Out (Bool×Ev)}(h:t E=.ok (true,E'))(h2:u E'=r):zOB t u E=r:=zAG h h2
theorem zXS{t u:Ev->Out (Bool×Ev)}{E E':Ev}(h:t E=.ok (false,E')):zOB t u E=.ok (false,E'):=zAG h rfl
theorem zF1{is:List Nat}{g:G}{E E':Ev}{d:D}(h:g (zHG is E)=.ok (d,E'))(h2:zI4 is E d=true):zJR is g E=.ok (d,E):=zAG h (if_pos h2)
theorem zF2{is:List Nat}{g:Ev->Out (Bool×Ev)}{E E':Ev}{d:Bool}(h:g (zHG is E)=.ok (d,E')):zHH is g E=.ok (d,E):=zAG h rfl
theorem zA7{n:Nat}{gb:GS}{sl E':Ev}{b:Bool}{d:D}{r:Out (Bool×D×D)}(h:gb (sl++List.replicate (n-sl.length) .no)=.ok (.rt b d E'))(h2:fin sl E' b d=r):zF4 n gb sl=r:=zAG h h2
theorem zEH{c:String}{g:G}{E E':Ev}{d:D}(h:g E=.ok (d,E')):zB6 c g E=.ok (.bl (isB (tyN d) c),E'):=zAG h rfl
theorem zH0{g:G}{E E':Ev}{j:Int}(h:g E=.ok (.int j,E'))(h2:zFR j):zEC g E=.ok (zFA 0 j.toNat,E'):=zAG h (if_pos h2)
theorem zUT{g g':G}{E E1 E':Ev}{i j:Int}(h:g E=.ok (.int i,E1))(h1:g' E1=.ok (.int j,E'))(h2:zFR i/\zFR j):zOV g g' E=.ok (zFA i (j-i).toNat,E'):=zAG h (zAG h1 (if_pos h2))
theorem zUU{g:G}{E E':Ev}{ds:List D}(h:g E=.ok (.lst ds,E')):zED g E=.ok (ds,E'):=zAG h rfl
theorem zO4{g:G}{E E':Ev}{ds:List D}(h:g E=.ok (.tup ds,E')):zED g E=.ok (ds,E'):=zAG h rfl
theorem zD3{i:Nat}{gk gv:G}{E E1 E2:Ev}{t t2:Bool}{d0 d v k d':D}(h0:E[i]?=some (.own t2 d0))(h1:gv E=.ok (v,E1))(h2:gk E1=.ok (k,E2))(h3:E2[i]?=some (.own t d))(h4:zY8 d k v=.ok d'):zB2 i gk gv E=.ok (.nx (E2.set i (.own t d'))):=by
 unfold zB2;rw[h0];simp only;rw[h1];simp only[Out.bind];rw[h2];simp only[h3];rw[h4]
theorem zB5{m:Mr}{i:Nat}{gs:List G}{E E1:Ev}{t t2:Bool}{d0 d x d':D}{ds:List D}{b:Bool}(h0:E[i]?=some (.own t2 d0))(h1:zCM gs E=.ok (ds,E1))(h2:E1[i]?=some (.own t d))(h3:m (.own true d::ds.map Sl.val)=.ok (b,x,d')):zAI m i gs E=.ok (x,E1.set i (.own t d')):=by
 unfold zAI;rw[h0];simp only;rw[h1];simp only[Out.bind,h2];rw[h3]
theorem zO5{i:Nat}{f:List D->List D->Out (D×List D)}{gs:List G}{E E1:Ev}{t t2:Bool}{xs0 xs:List D}{ds ds':List D}{x:D}(h0:E[i]?=some (.own t2 (.lst xs0)))(h1:zCM gs E=.ok (ds,E1))(h2:E1[i]?=some (.own t (.lst xs)))(h3:f xs ds=.ok (x,ds')):zFQ i f gs E=.ok (x,E1.set i (.own t (.lst ds'))):=by
 unfold zFQ;rw[h0];simp only;rw[h1];simp only[Out.bind,h2];rw[h3]
theorem zRL{m:Mr}{gs:List G}{E E':Ev}{ds:List D}{d d':D}(h1:zCM gs E=.ok (ds,E'))(h2:m (ds.map Sl.val)=.ok (true,d,d')):zGP m gs E=.ok (d,E'):=zAG h1 (zAG h2 rfl)
theorem zRM{ga gb:G}{E E1:Ev}{r:Out (D×Ev)}(h:ga E=.ok (.bl true,E1))(h2:gb E1=r):zPT ga gb E=r:=zAG h h2
theorem zRN{ga gb:G}{E E1:Ev}(h:ga E=.ok (.bl false,E1)):zPT ga gb E=.ok (.bl false,E1):=zAG h rfl
theorem zO6{f f':D->D->Out D}{ga gb gc:G}{E E1 E2 E3:Ev}{x y z d:D}(h1:ga E=.ok (x,E1))(h2:gb E1=.ok (y,E2))(h3:f x y=.ok (.bl true))(h4:gc E2=.ok (z,E3))(h5:f' y z=.ok d):zDV f f' ga gb gc E=.ok (d,E3):=zAG h1 (zAG h2 (zAG h3 (zAG h4 (zAG h5 rfl))))
theorem zO7{f f':D->D->Out D}{ga gb gc:G}{E E1 E2:Ev}{x y:D}(h1:ga E=.ok (x,E1))(h2:gb E1=.ok (y,E2))(h3:f x y=.ok (.bl false)):zDV f f' ga gb gc E=.ok (.bl false,E2):=zAG h1 (zAG h2 (zAG h3 rfl))
theorem blT{p:Prop}[Decidable p](h:p):(Out.ok (D.bl (decide p)):Out D)=.ok (.bl true):=by rw[decide_eq_true h]
theorem blF{p:Prop}[Decidable p](h:¬p):(Out.ok (D.bl (decide p)):Out D)=.ok (.bl false):=by rw[decide_eq_false h]
theorem zZA{ds:List D}{n:Nat}(h:ds.length=n):zDS [.lst ds]=.ok (.int n):=by subst h;rfl
theorem zUV{a b c:List D}(h:a.length+b.length<10000)(e:a++b=c):zBT (.lst a) (.lst b)=.ok (.lst c):=by subst e;exact zKP h
theorem zSL{o:Option D}{d:D}(h:o=some d):(match o with|some d=>Out.ok d|none=>.bad)=.ok d:=by subst h;rfl
theorem zXT{ds:List D}{i:Int}{d:D}(h:atI ds i=some d):ixD (.lst ds) (.int i)=.ok d:=zSL h
theorem zZB{ds:List D}{i:Int}{d:D}(h:atI ds i=some d):ixD (.tup ds) (.int i)=.ok d:=zSL h
end L2
namespace My
open PySem L2
theorem zJM{i j:Int}(h:0<j):zER (.int i) (.int j)=.ok (.int (i % j)):=if_pos h
theorem zO8{i j:Int}(h:0<j/\j<2 ^ 200):zEM (.int i) (.int j)=.ok (.int (i / j)):=if_pos h
theorem zUW{i j:Int}(h:zEV i\/zEV j):zKD (.int i) (.int j)=.ok (.int (i * j)):=if_pos h
theorem zUX{i j:Int}(h:0<=j/\j<=1000000/\i.natAbs<2 ^ 64):zLM (.int i) (.int j)=.ok (.int (i ^ j.toNat)):=if_pos h
noncomputable def zH6(a b c n:Int)(u2 u3 u4:Sl):Ev:=[.own true (.lst [.int a,.int b,.int c]),.val (.int n),u2,u3,u4]
theorem zSM{a b c n:Int}{u2 u3 u4:Sl}:zHH [0] (gB (g2 gtD (g2 ixD (zAC 0) (gC (.int 0))) (gC (.int 0)))) (zH6 a b c n u2 u3 u4)=.ok (decide (0<a),zH6 a b c n u2 u3 u4) :=
 zF2 (zCK (zAO (zAO (x:=.lst [.int a,.int b,.int c]) (y:=.int 0) rfl rfl (d:=.int a) rfl) (y:=.int 0) rfl rfl))
theorem zRO{a b c n:Int}(ha:0<a)(hn:1<=n)(hn2:n<2 ^ 200) :
  zAB [.own true (.lst [.int a,.int b,.int c]),.val (.int n)]=.ok (false,.int (a % n),.lst [.int (a / n),.int b,.int c]):=by
 have h1:0<n:=by lia
 have t:=zSM (a:=a) (b:=b) (c:=c) (n:=n) (u2:=.no) (u3:=.no) (u4:=.no)
 rw[decide_eq_true ha] at t
 exact zA7 (zA6 (zD5 t (zAK (E1:=zH6 a b c n (.val (.int (a % n))) .no .no) (zA3 (zF1 (zAO (zAO (x:=.lst [.int a,.int b,.int c]) (y:=.int 0) rfl rfl (d:=.int a) rfl) (y:=.int n) rfl (zJM h1)) rfl) rfl)
  (zAK (E1:=zH6 (a / n) b c n (.val (.int (a % n))) .no .no) (zD3 (i:=0) (E1:=zH6 a b c n (.val (.int (a % n))) .no .no) (E2:=zH6 a b c n (.val (.int (a % n))) .no .no) (t:=true) (d:=.lst [.int a,.int b,.int c]) (k:=.int 0) (d':=.lst [.int (a / n),.int b,.int c]) rfl (zF1 (zAO (zAO (x:=.lst [.int a,.int b,.int c]) (y:=.int 0) rfl rfl (d:=.int a) rfl) (y:=.int n) rfl (zO8 ⟨h1,hn2⟩)) rfl) rfl rfl rfl) (zAV (d:=.int (a % n)) rfl))))) rfl
noncomputable def zRP(b c:Int):Int:=(b+1000003 * c) % 2305843009213693951
noncomputable def zRQ(b c:Int):Int:=(zRP b c * zRP b c+7919 * c ^ 2+5) % 2305843009213693951
theorem s64{i:Int}(h0:0<=i)(h:i<2305843009213693951):zEV i:=⟨by lia,by lia⟩
theorem zRR{a b c n:Int}(ha:¬0<a)(hc:0<=c)(hc2:c<1000000)(hn:1<=n)(hn2:n<2 ^ 200) :
  zAB [.own true (.lst [.int a,.int b,.int c]),.val (.int n)]=.ok (false,.int (zRQ b (c+1) ^ 3 % 2305843009213693951 / 13 % n),.lst [.int a,.int b,.int (c+1)]):=by
 have h1:0<n:=by lia
 have m1:0<=zRP b (c+1):=Int.emod_nonneg _ (by decide)
 have m2:zRP b (c+1)<2305843009213693951:=Int.emod_lt_of_pos _ (by decide)
 have m3:0<=zRQ b (c+1):=Int.emod_nonneg _ (by decide)
 have m4:zRQ b (c+1)<2305843009213693951:=Int.emod_lt_of_pos _ (by decide)
 have t:=zSM (a:=a) (b:=b) (c:=c) (n:=n) (u2:=.no) (u3:=.no) (u4:=.no)
 rw[decide_eq_false ha] at t
 have hp:(0:Int)<2305843009213693951:=by decide
 have bag:zAC 0 (zHG [0] (zH6 a b (c+1) n .no .no .no))=.ok (.lst [.int a,.int b,.int (c+1)],zHG [0] (zH6 a b (c+1) n .no .no .no)):=rfl
 have s1:zB2 0 (gC (.int 2)) (zJR [0] (g2 zBT (g2 ixD (zAC 0) (gC (.int 2))) (gC (.int 1)))) (zH6 a b c n .no .no .no)=.ok (.nx (zH6 a b (c+1) n .no .no .no)) :=
  zD3 (i:=0) (E1:=zH6 a b c n .no .no .no) (E2:=zH6 a b c n .no .no .no) (t:=true) (d:=.lst [.int a,.int b,.int c]) (k:=.int 2) (d':=.lst [.int a,.int b,.int (c+1)]) rfl (zF1 (zAO (zAO (x:=.lst [.int a,.int b,.int c]) (y:=.int 2) rfl rfl (d:=.int c) rfl) (y:=.int 1) rfl rfl) rfl) rfl rfl rfl
 have s3:zBQ (.nm 4) (zJR [0] (g2 zER (g2 zBT (g2 ixD (zAC 0) (gC (.int 1))) (g2 zKD (gC (.int 1000003)) (g2 ixD (zAC 0) (gC (.int 2))))) (zAC 3))) (zH6 a b (c+1) n .no (.val (.int 2305843009213693951)) .no)=.ok (.nx (zH6 a b (c+1) n .no (.val (.int 2305843009213693951)) (.val (.int (zRP b (c+1)))))) :=
  zA3 (zF1 (d:=.int (zRP b (c+1))) (zAO (zAO (zAO (x:=.lst [.int a,.int b,.int (c+1)]) (y:=.int 1) rfl rfl (d:=.int b) rfl) (zAO (x:=.int 1000003) rfl (zAO (x:=.lst [.int a,.int b,.int (c+1)]) (y:=.int 2) rfl rfl (d:=.int (c+1)) rfl) (zUW (.inl ⟨by decide,by decide⟩))) rfl) (y:=.int 2305843009213693951) rfl (zJM hp)) rfl) rfl
 have s4:zBQ (.nm 4) (zJR [0] (g2 zER (g2 zBT (g2 zBT (g2 zKD (zAC 4) (zAC 4)) (g2 zKD (gC (.int 7919)) (g2 zLM (g2 ixD (zAC 0) (gC (.int 2))) (gC (.int 2))))) (gC (.int 5))) (zAC 3))) (zH6 a b (c+1) n .no (.val (.int 2305843009213693951)) (.val (.int (zRP b (c+1)))))=.ok (.nx (zH6 a b (c+1) n .no (.val (.int 2305843009213693951)) (.val (.int (zRQ b (c+1)))))) :=
  zA3 (zF1 (d:=.int (zRQ b (c+1))) (zAO (zAO (zAO (zAO (x:=.int (zRP b (c+1))) (y:=.int (zRP b (c+1))) rfl rfl (zUW (.inl (s64 m1 m2)))) (zAO (x:=.int 7919) rfl (zAO (zAO (x:=.lst [.int a,.int b,.int (c+1)]) (y:=.int 2) rfl rfl (d:=.int (c+1)) rfl) (y:=.int 2) rfl (zUX ⟨by decide,by decide,by lia⟩)) (zUW (.inl ⟨by decide,by decide⟩))) rfl) (y:=.int 5) rfl rfl) (y:=.int 2305843009213693951) rfl (zJM hp)) rfl) rfl
 have s5:zC1 (g2 zER (g2 zEM (g2 zER (g2 zLM (zAC 4) (gC (.int 3))) (zAC 3)) (gC (.int 13))) (zAC 1)) (zH6 a b (c+1) n .no (.val (.int 2305843009213693951)) (.val (.int (zRQ b (c+1)))))=.ok (.rt false (.int (zRQ b (c+1) ^ 3 % 2305843009213693951 / 13 % n)) (zH6 a b (c+1) n .no (.val (.int 2305843009213693951)) (.val (.int (zRQ b (c+1)))))) :=
  zAV (zAO (zAO (zAO (zAO (x:=.int (zRQ b (c+1))) (y:=.int 3) rfl rfl (zUX ⟨by decide,by decide,by lia⟩)) (y:=.int 2305843009213693951) rfl (zJM hp)) (y:=.int 13) rfl (zO8 ⟨by decide,by decide⟩)) (y:=.int n) rfl (zJM h1))
 exact zA7 (zAK (zDE t rfl) (zAK s1 (zAK (E1:=zH6 a b (c+1) n .no (.val (.int 2305843009213693951)) .no) rfl (zAK s3 (zAK s4 s5))))) rfl
def Bag(k:Nat)(d:D):Prop:=∃a b c:Int,d=.lst [.int a,.int b,.int c]/\0<=c/\c<=k
theorem Bag.mono{k k':Nat}{d:D}(h:Bag k d)(l:k<=k'):Bag k' d:=by
 obtain⟨a,b,c,e,h0,h1⟩:=h
 exact⟨a,b,c,e,h0,by lia⟩
theorem zO9{k:Nat}{d:D}{n:Int}(B:Bag k d)(hk:k<900000)(hn:1<=n)(hn2:n<2 ^ 200) :
  ∃r d',zAB [.own true d,.val (.int n)]=.ok (false,.int r,d')/\0<=r/\r<n/\Bag (k+1) d':=by
 obtain⟨a,b,c,rfl,h0,h1⟩:=B
 by_cases ha:0<a
 ·exact⟨_,_,zRO ha hn hn2,Int.emod_nonneg _ (by lia),Int.emod_lt_of_pos _ (by lia),_,_,_,rfl,h0,by lia⟩
 ·exact⟨_,_,zRR ha h0 (by lia) hn hn2,Int.emod_nonneg _ (by lia),Int.emod_lt_of_pos _ (by lia),_,_,_,rfl,by lia,by lia⟩
theorem zUY(n:Int):∃d,zCF [.val (.int n),.val (.int 0)]=.ok (true,d,.non)/\Bag 0 d:=by
 have hp:(0:Int)<2305843009213693951:=by decide
 have pw:∀E:Ev,g2 zLM (gC (.int 10)) (gC (.int 18)) E=.ok (.int 1000000000000000000,E):=λE=>zAO (x:=.int 10) (y:=.int 18) rfl rfl (zUX ⟨by decide,by decide,by decide⟩)
 have t:gB (g2 geD (zAC 0) (g2 zLM (gC (.int 10)) (gC (.int 18)))) [.val (.int n),.val (.int 0)]=.ok (decide (1000000000000000000<=n),[.val (.int n),.val (.int 0)]):=zCK (zAO (x:=.int n) rfl (pw _) rfl)
 by_cases h:1000000000000000000<=n
 ·rw[decide_eq_true h] at t
  exact⟨.lst [.int (n-1000000000000000000),.int (n % 2305843009213693951),.int 0],zA7 (zA6 (zD5 t (zO3 (zCU (zAF (zAO (x:=.int n) rfl (pw _) (d:=.int (n-1000000000000000000)) rfl) (zAF (zAO (x:=.int n) (y:=.int 2305843009213693951) rfl rfl (zJM hp)) (zAS (d:=.int 0) rfl))) (show 3<10000 by decide))))) rfl,_,_,_,rfl,by decide,by decide⟩
 ·rw[decide_eq_false h] at t
  exact⟨.lst [.int 0,.int (n % 2305843009213693951),.int 0],zA7 (zAK (zDE t rfl) (zO3 (zCU (zAF (d:=.int 0) rfl (zAF (zAO (x:=.int n) (y:=.int 2305843009213693951) rfl rfl (zJM hp)) (zAS (d:=.int 0) rfl))) (show 3<10000 by decide)))) rfl,_,_,_,rfl,by decide,by decide⟩
noncomputable def zVJ(many:Int)(ps:List (Int×Int)):D:=.tup [.int many,.tup (ps.map zBF)]
noncomputable def zZC(p:Int×Int):Int×Int:=(p.2,p.1)
structure Net(many:Int)(ps:List (Int×Int)):Prop where
 m1:1<=many
 m2:many<=24
 len:ps.length<=120
 rg:∀p∈ps,0<=p.1/\p.1<many/\0<=p.2/\p.2<many/\p.1≠p.2
 pw:ps.Pairwise λa b=>ltP a b=true
noncomputable def back(ps:List (Int×Int)):List (Int×Int):=zEW (ps.map zZC)
theorem zH7(Ec:Ev)(k:Nat):∀(j:Nat) (E:Ev),zOI Ec k [] j E=E
 |_,[]=>rfl
 |j,s::E=>by
  rw[zOI,zH7 Ec k (j+1) E]
  cases s<;>rfl
theorem zXU{E:Ev}(h:E.length=2):∃x y,E=[x,y]:=by
 match E,h with
 |[x,y],_=>exact⟨x,y,rfl⟩
theorem yBA{ps:List (Int×Int)}(h:ps.Pairwise λa b=>ltP a b=true):ps.Pairwise λa b=>leP a b=true :=
 h.imp λ{a b} e=>by
  simp only[leP,ltP,decide_eq_true_eq,Bool.not_eq_true',decide_eq_false_iff_not] at *
  lia
theorem zKS{a b:Int×Int}(h:leP a b=true)(hn:a≠b):ltP a b=true:=by
 obtain⟨a1,a2⟩:=a
 obtain⟨b1,b2⟩:=b
 simp only[leP,ltP,decide_eq_true_eq,Bool.not_eq_true',decide_eq_false_iff_not] at *
 have:¬(a1=b1/\a2=b2):=λ⟨x,y⟩=>hn (by rw[x,y])
 lia
theorem zRS{ps:List (Int×Int)}(h:ps.Nodup):(zEW ps).Pairwise λa b=>ltP a b=true:=by
 have h2:(zEW ps).Nodup:=(zEX ps).nodup_iff.mpr h
 exact((zLN ps).and h2).imp λ{a b} e=>zKS e.1 e.2
section
end
theorem yBB{α:Type}(xs:List α):zDW xs (some 1) none=xs.drop 1:=by
 unfold zDW HT.sIx
 cases xs with
 |nil=>simp
 |cons x xs=>simp
theorem tk{g:G}{E:Ev}{d:D}{k:Nat}{n:Int}(h0:E[0]?=some (.own true d))(B:Bag k d)(hk:k<900000)(hg:g E=.ok (.int n,E))(hn:1<=n)(hn2:n<2 ^ 200) :
  ∃r d',zAI zAB 0 [g] E=.ok (.int r,E.set 0 (.own true d'))/\0<=r/\r<n/\Bag (k+1) d':=by
 obtain⟨r,d',e,a,b,B'⟩:=zO9 B hk hn hn2
 exact⟨r,d',zB5 h0 (zAS hg) h0 e,a,b,B'⟩
theorem zJN{α β:Type}(f:α->β):∀(l:List α) (i:Nat),(l.map f).eraseIdx i=(l.eraseIdx i).map f
 |[],_=>rfl
 |_::_,0=>rfl
 |a::l,i+1=>by simp[zJN f l i]
theorem zGW{α:Type}:∀{l:List α} {i:Nat} (h:i<l.length),(l[i]::l.eraseIdx i).Perm l
 |a::l,0,_=>.refl _
 |a::l,i+1,h=>by
  have:=zGW (l:=l) (i:=i) (by simpa using h)
  simp only[List.getElem_cons_succ,List.eraseIdx_cons_succ]
  exact(List.Perm.swap _ _ _).trans (this.cons a)
theorem zUZ{d:D}{k:Nat}{xs:List Int}(B:Bag k d)(hx:xs.length<=1000)(hk:k<800000) :
  ∃(ys:List Int) (d':D),zBO [.own true d,.val (.lst (xs.map D.int))]=.ok (false,.lst (ys.map D.int),d')/\ys.Perm xs/\Bag (k+xs.length) d':=by
 obtain⟨E',e,ys,d',rfl,hp,B'⟩:=zSJ (t:=zHH [2] (gB (g2 neD (zAC 2) (zDJ [])))) (g:=zQT (zFQ 3 zUF [(zFQ 2 zE5 [(zAI zAB 0 [(zJR [2] (gN zDS [(zAC 2)]))])])]))
  (λn E=>∃(rest found:List Int) (d:D),E=[.own true d,.val (.lst (xs.map D.int)),.own false (.lst (rest.map D.int)),.own false (.lst (found.map D.int))]/\(found++rest).Perm xs/\Bag (k+found.length) d/\n=rest.length)
  (λE=>∃(found:List Int) (d:D),E=[.own true d,.val (.lst (xs.map D.int)),.own false (.lst []),.own false (.lst (found.map D.int))]/\found.Perm xs/\Bag (k+xs.length) d)
  (λn E hP=>by
   obtain⟨rest,found,d,hE,hp,B,hn⟩:=hP
   subst hE
   have hlen:=hp.length_eq
   rw[List.length_append] at hlen
   have tw:zHH [2] (gB (g2 neD (zAC 2) (zDJ []))) [.own true d,.val (.lst (xs.map D.int)),.own false (.lst (rest.map D.int)),.own false (.lst (found.map D.int))]=.ok (!(rest.map D.int).isEmpty,[.own true d,.val (.lst (xs.map D.int)),.own false (.lst (rest.map D.int)),.own false (.lst (found.map D.int))]) :=
    zF2 (zCK (zAO (x:=.lst (rest.map D.int)) (y:=.lst []) rfl rfl (zUR (Pls.ints 0 rest))))
   by_cases hr:rest=[]
   ·subst hr
    rw[List.append_nil] at hp
    exact .inl ⟨_,tw,found,d,rfl,hp,by rw[<-hp.length_eq];exact B⟩
   ·have hpos:0<rest.length:=List.length_pos_iff.mpr hr
    have hg:zJR [2] (gN zDS [(zAC 2)]) [.own true d,.val (.lst (xs.map D.int)),.own false (.lst (rest.map D.int)),.own false (.lst (found.map D.int))]=.ok (.int (rest.length:Int),[.own true d,.val (.lst (xs.map D.int)),.own false (.lst (rest.map D.int)),.own false (.lst (found.map D.int))]) :=
     zF1 (zDF (zAS (d:=.lst (rest.map D.int)) rfl) (zZA (List.length_map _))) rfl
    obtain⟨r,d',et,r0,r1,B'⟩:=tk (g:=zJR [2] (gN zDS [(zAC 2)])) (E:=[.own true d,.val (.lst (xs.map D.int)),.own false (.lst (rest.map D.int)),.own false (.lst (found.map D.int))]) rfl B (by lia) hg (by lia) (by lia)
    have hrl:r.toNat<rest.length:=by lia
    have hpop:zFQ 2 zE5 [(zAI zAB 0 [(zJR [2] (gN zDS [(zAC 2)]))])] [.own true d,.val (.lst (xs.map D.int)),.own false (.lst (rest.map D.int)),.own false (.lst (found.map D.int))]=.ok (.int rest[r.toNat],[.own true d',.val (.lst (xs.map D.int)),.own false (.lst ((rest.eraseIdx r.toNat).map D.int)),.own false (.lst (found.map D.int))]) :=
     zO5 (i:=2) (f:=zE5) (t:=false) (xs:=rest.map D.int) (ds:=[.int r]) (x:=.int rest[r.toNat]) (ds':=(rest.eraseIdx r.toNat).map D.int) rfl (zAS et) rfl (by
      simp only[zE5,List.length_map,L2.guard]
      rw[if_pos ⟨r0,by lia,by lia⟩,List.getElem?_map,List.getElem?_eq_getElem hrl]
      simp[zJN])
    refine .inr ⟨_,_,(rest.eraseIdx r.toNat).length,?_,zUS (zO5 (i:=3) (f:=zUF) (t:=false) (xs:=found.map D.int) (ds:=[.int rest[r.toNat]]) (x:=.non) (ds':=(found++[rest[r.toNat]]).map D.int) rfl (zAS hpop) rfl (by
      simp only[zUF,List.length_map]
      rw[zKP (by lia)];simp)),?_,rest.eraseIdx r.toNat,found++[rest[r.toNat]],d',rfl,?_,?_,rfl⟩
    ·rw[tw]
     cases rest with
     |nil=>exact absurd rfl hr
     |cons a l=>rfl
    ·rw[List.length_eraseIdx_of_lt hrl];lia
    ·rw[List.append_assoc]
     exact((zGW hrl).append_left found).trans hp
    ·rw[List.length_append,List.length_singleton,<-Nat.add_assoc];exact B') 100000 xs.length [.own true d,.val (.lst (xs.map D.int)),.own false (.lst (xs.map D.int)),.own false (.lst [])] (by lia)
  ⟨xs,[],d,rfl,List.Perm.refl _,B,rfl⟩
 exact⟨ys,d',zA7 (zAK (zHZ (d:=.lst (xs.map D.int)) rfl) (zAK (zHZ (d:=.lst []) rfl) (zAK e (zAV (d:=.lst (ys.map D.int)) rfl)))) rfl,hp,B'⟩
noncomputable def zH8(d:D)(most:Int)(u2 u3 u4 u5 u6 u7 u8 u9 u10 u11:Sl):Ev:=[.own true d,.val (.int most),u2,u3,u4,u5,u6,u7,u8,u9,u10,u11]
theorem zRT{xs:List Int}{ds:List D}{x:D}{i:Int}(h0:0<=i)(h:ds[i.toNat]?=some x):ixD (.lst ds) (.int i)=.ok x:=by
 exact zXT (zGV h0 h)
theorem yBC{d:D}{k:Nat}{most:Int}(B:Bag k d)(hk:k<800000)(h1:1<=most)(h2:most<=24) :
  ∃many d',zBQ (.nm 2) (g2 ixD (zDJ [(zAC 1),(g2 zBT (gC (.int 1)) (zAI zAB 0 [(zAC 1)])),(g2 zBT (gC (.int 1)) (zAI zAB 0 [(gN zHR [(gC (.int 7)),(zAC 1)])]))]) (zAI zAB 0 [(gC (.int 3))]))
   (zH8 d most .no .no .no .no .no .no .no .no .no .no)=.ok (.nx (zH8 d' most (.val (.int many)) .no .no .no .no .no .no .no .no .no))/\1<=many/\many<=most/\Bag (k+3) d':=by
 obtain⟨a,d1,e1,a0,a1,B1⟩:=tk (g:=zAC 1) (E:=zH8 d most .no .no .no .no .no .no .no .no .no .no) rfl B (by lia) rfl h1 (by lia)
 obtain⟨b,d2,e2,b0,b1,B2⟩:=tk (g:=gN zHR [(gC (.int 7)),(zAC 1)]) (E:=zH8 d1 most .no .no .no .no .no .no .no .no .no .no) (n:=if most<7 then most else 7) rfl B1 (by lia) rfl (by split<;>lia) (by split<;>lia)
 obtain⟨c,d3,e3,c0,c1,B3⟩:=tk (g:=gC (.int 3)) (E:=zH8 d2 most .no .no .no .no .no .no .no .no .no .no) rfl B2 (by lia) rfl (by lia) (by lia)
 have hb:b<most:=by split at b1<;>lia
 have key:∃many:Int,([D.int most,.int (1+a),.int (1+b)])[c.toNat]?=some (.int many)/\1<=many/\many<=most:=by
  have:c=0\/c=1\/c=2:=by lia
  rcases this with rfl|rfl|rfl
  ·exact⟨most,rfl,h1,Int.le_refl _⟩
  ·exact⟨1+a,rfl,by lia,by lia⟩
  ·exact⟨1+b,rfl,by lia,by lia⟩
 obtain⟨many,hm,m0,m1⟩:=key
 refine⟨many,d3,zA3 (zAO (zCU (zAF (d:=.int most) rfl (zAF (zAO (x:=.int 1) rfl e1 (d:=.int (1+a)) rfl) (zAS (zAO (x:=.int 1) rfl e2 (d:=.int (1+b)) rfl)))) (show 3<10000 by decide)) e3 (zRT (xs:=[]) c0 hm)) rfl,m0,m1,B3⟩
theorem yBD{d:D}{k:Nat}{most many kind:Int}(B:Bag k d)(hk:k<800000)(h1:1<=many)(h2:many<=24) :
  ∃wanted d',zBQ (.nm 4) (g2 ixD (zDJ [(gC (.int 0)),(gC (.int 1)),(zAI zAB 0 [(g2 zBT (zAC 2) (gC (.int 1)))]),(g2 zBT (zAC 2) (zAI zAB 0 [(g2 zKD (gC (.int 5)) (zAC 2))])),(gC (.int 120))]) (zAI zAB 0 [(gC (.int 5))]))
   (zH8 d most (.val (.int many)) (.val (.int kind)) .no .no .no .no .no .no .no .no)=.ok (.nx (zH8 d' most (.val (.int many)) (.val (.int kind)) (.val (.int wanted)) .no .no .no .no .no .no .no))/\0<=wanted/\wanted<=200/\Bag (k+3) d':=by
 obtain⟨a,d1,e1,a0,a1,B1⟩:=tk (g:=g2 zBT (zAC 2) (gC (.int 1))) (E:=zH8 d most (.val (.int many)) (.val (.int kind)) .no .no .no .no .no .no .no .no) rfl B (by lia) rfl (by lia) (by lia)
 have hmul:zKD (.int 5) (.int many)=.ok (.int (5 * many)):=by
  simp only[zKD,L2.guard];rw[if_pos (.inl ⟨by decide,by decide⟩)]
 obtain⟨b,d2,e2,b0,b1,B2⟩:=tk (g:=g2 zKD (gC (.int 5)) (zAC 2)) (E:=zH8 d1 most (.val (.int many)) (.val (.int kind)) .no .no .no .no .no .no .no .no) rfl B1 (by lia) (zAO (x:=.int 5) (y:=.int many) rfl rfl hmul) (by lia) (by lia)
 obtain⟨c,d3,e3,c0,c1,B3⟩:=tk (g:=gC (.int 5)) (E:=zH8 d2 most (.val (.int many)) (.val (.int kind)) .no .no .no .no .no .no .no .no) rfl B2 (by lia) rfl (by lia) (by lia)
 have key:∃w:Int,([D.int 0,.int 1,.int a,.int (many+b),.int 120])[c.toNat]?=some (.int w)/\0<=w/\w<=200:=by
  have:c=0\/c=1\/c=2\/c=3\/c=4:=by lia
  rcases this with rfl|rfl|rfl|rfl|rfl
  ·exact⟨0,rfl,by decide,by decide⟩
  ·exact⟨1,rfl,by decide,by decide⟩
  ·exact⟨a,rfl,by lia,by lia⟩
  ·exact⟨many+b,rfl,by lia,by lia⟩
  ·exact⟨120,rfl,by decide,by decide⟩
 obtain⟨w,hw,w0,w1⟩:=key
 exact⟨w,d3,zA3 (zAO (zCU (zAF (d:=.int 0) rfl (zAF (d:=.int 1) rfl (zAF e1 (zAF (zAO (x:=.int many) rfl e2 (d:=.int (many+b)) rfl) (zAS (d:=.int 120) rfl))))) (show 5<10000 by decide)) e3 (zRT (xs:=[]) c0 hw)) rfl,w0,w1,B3⟩
structure Ln(many:Int)(kvs:List (List Int×D)):Prop where
 nd:(kvs.map (·.1)).Nodup
 rg:∀k∈kvs.map (·.1),∃a b:Int,k=[a,b]/\0<=a/\a<many/\0<=b/\b<many/\a≠b
theorem zJO(kvs:List (List Int×D))(k:List Int)(v:D):(zLH kvs k v).map (·.1)=if k∈kvs.map (·.1) then kvs.map (·.1) else kvs.map (·.1)++[k]:=by
 unfold zLH
 by_cases h:k∈kvs.map (·.1)
 ·rw[if_pos h,if_pos]
  ·rw[List.map_map]
   refine List.map_congr_left λkv _=>?_
   simp only[Function.comp]
   split<;>rfl
  ·obtain⟨kv,hkv,e⟩:=List.mem_map.mp h
   exact List.any_eq_true.mpr ⟨kv,hkv,decide_eq_true e⟩
 ·rw[if_neg h,if_neg]
  ·simp
  ·intro z
   obtain⟨kv,hkv,e⟩:=List.any_eq_true.mp z
   exact h (List.mem_map.mpr ⟨kv,hkv,of_decide_eq_true e⟩)
theorem Ln.put{many:Int}{kvs:List (List Int×D)}(L:Ln many kvs){a b:Int}(h:0<=a/\a<many/\0<=b/\b<many/\a≠b)(v:D):Ln many (zLH kvs [a,b] v):=by
 constructor
 ·rw[zJO]
  split
  ·exact L.nd
  ·rename_i hn
   rw[List.nodup_append]
   exact⟨L.nd,List.nodup_cons.mpr ⟨by simp,List.nodup_nil⟩,λp hp q hq=>by rw[List.mem_singleton.mp hq];exact λz=>hn (z▸hp)⟩
 ·rw[zJO]
  split
  ·exact L.rg
  ·intro k hk
   rcases List.mem_append.mp hk with h'|h'
   ·exact L.rg k h'
   ·exact⟨a,b,List.mem_singleton.mp h',h⟩
theorem zSN{kvs:List (List Int×D)}{a b:Int}(h:kvs.length<10000):zY8 (.dt kvs) (.tup [.int a,.int b]) (.bl true)=.ok (.dt (zLH kvs [a,b] (.bl true))):=by
 exact zKP h
noncomputable abbrev l1B:GS:=zC6 (gB (g2 ltD (zAC 3) (gC (.int 3))))
 (zB2 5 (zAX [(g2 ixD (zDJ [(zAI zAB 0 [(zAC 6)]),(g2 zLK (g2 zLK (zAC 6) (gC (.int 1))) (zAI zAB 0 [(gN zHR [(zAC 6),(gC (.int 2))])])),(gC (.int 0))]) (zAC 3)),(zAC 6)]) (gC (.bl true)))
 gNx
section
variable{most many kind wanted:Int}
noncomputable abbrev ne1(d:D)(most many kind wanted:Int)(kvs:List (List Int×D))(u6 u7 u8 u9:Sl):Ev:=zH8 d most (.val (.int many)) (.val (.int kind)) (.val (.int wanted)) (.own false (.dt kvs)) u6 u7 u8 u9 .no .no
theorem zZD{d:D}{k:Nat}(B:Bag k d)(hk:k<800000)(h1:1<=many)(h2:many<=24)(hk0:0<=kind) :
  ∃(d':D) (kvs:List (List Int×D)) (u6:Sl),zMX (zOV (gC (.int 1)) (zAC 2)) (.nm 6) l1B (ne1 d most many kind wanted [] .no .no .no .no)=.ok (.nx (ne1 d' most many kind wanted kvs u6 .no .no .no))/\Bag (k+48) d'/\Ln many kvs/\kvs.length<=24:=by
 obtain⟨E',e,d',kvs,u6,rfl,B',L,hl⟩:=zHX (gi:=zOV (gC (.int 1)) (zAC 2)) (t:=.nm 6) (g:=l1B) (E:=ne1 d most many kind wanted [] .no .no .no .no)
  (λi E=>∃(d':D) (kvs:List (List Int×D)) (u6:Sl),E=ne1 d' most many kind wanted kvs u6 .no .no .no/\Bag (k+2 * i) d'/\Ln many kvs/\kvs.length<=i) (zUT (i:=1) (j:=many) rfl rfl ⟨⟨by decide,by decide⟩,by lia,by lia⟩) ⟨d,[],.no,rfl,B,⟨List.nodup_nil,λ_ h=>by simp at h⟩,Nat.le_refl _⟩
  (λi x E hx hP=>by
   obtain⟨d,kvs,u6,hE,B,L,hl⟩:=hP
   subst hE
   have hi:=(List.getElem?_eq_some_iff.mp hx).1
   simp only[zFA,List.length_map,List.length_range] at hi
   simp only[zFA] at hx
   rw[List.getElem?_map,List.getElem?_range hi] at hx
   obtain rfl:=Option.some.inj hx
   obtain⟨p,hp⟩:∃p:Int,p=1+(i:Int):=⟨_,rfl⟩
   show ∃E1,gTg (Tg.nm 6) (.int (1+(i:Int))) (ne1 d most many kind wanted kvs u6 Sl.no Sl.no Sl.no)=Out.ok E1/\_
   rw[<-hp]
   refine⟨_,rfl,?_⟩
   by_cases hk3:kind<3
   ·obtain⟨a,d1,e1,a0,a1,B1⟩:=tk (g:=zAC 6) (E:=ne1 d most many kind wanted kvs (.val (.int p)) .no .no .no) (n:=p) rfl B (by lia) rfl (by lia) (by lia)
    obtain⟨b,d2,e2,b0,b1,B2⟩:=tk (g:=gN zHR [(zAC 6),(gC (.int 2))]) (E:=ne1 d1 most many kind wanted kvs (.val (.int p)) .no .no .no) (n:=if 2<p then 2 else p) rfl B1 (by lia) rfl (by split<;>lia) (by split<;>lia)
    have key:∃v:Int,([D.int a,.int (p-1-b),.int 0])[kind.toNat]?=some (.int v)/\0<=v/\v<p:=by
     have:kind=0\/kind=1\/kind=2:=by lia
     rcases this with h|h|h
     ·exact⟨a,by rw[h];rfl,a0,a1⟩
     ·exact⟨p-1-b,by rw[h];rfl,by split at b1<;>lia,by lia⟩
     ·exact⟨0,by rw[h];rfl,by lia,by lia⟩
    obtain⟨v,hv,v0,v1⟩:=key
    refine⟨_,zD5 (zCK (zAO (x:=.int kind) (y:=.int 3) rfl rfl (d:=.bl true) (by simp only[ltD];rw[decide_eq_true hk3]))) (zD3 (i:=5) (E1:=ne1 d most many kind wanted kvs (.val (.int p)) .no .no .no) (E2:=ne1 d2 most many kind wanted kvs (.val (.int p)) .no .no .no) (t:=false) (d:=.dt kvs) (v:=.bl true) rfl rfl (zA9 (zAF (zAO (zCU (zAF e1 (zAF (zAO (x:=.int (p-1)) rfl e2 (d:=.int (p-1-b)) rfl) (zAS (d:=.int 0) rfl))) (show 3<10000 by decide)) (y:=.int kind) rfl (zRT (xs:=[]) hk0 hv)) (zAS (d:=.int p) rfl)) (show 2<10000 by decide)) rfl (zSN (by lia))),d2,_,_,rfl,B2.mono (by lia),L.put ⟨v0,by lia,by lia,by lia,by lia⟩ _,Nat.le_trans (zLS _ _ _) (by lia)⟩
   ·exact⟨_,zDE (zCK (zAO (x:=.int kind) (y:=.int 3) rfl rfl (d:=.bl false) (by simp only[ltD];rw[decide_eq_false hk3]))) rfl,d,kvs,_,rfl,B.mono (by lia),L,by lia⟩)
 simp only[zFA,List.length_map,List.length_range] at B' hl
 exact⟨d',kvs,u6,e,B'.mono (by lia),L,by lia⟩
noncomputable abbrev l2B:GS:=(zBA (zBQ (.nm 8) (zAI zAB 0 [(zAC 2)]))
 (zBA (zBQ (.nm 9) (g2 ixD (zDJ [(zAI zAB 0 [(zAC 2)]),(g2 zER (g2 zBT (g2 zBT (zAC 8) (gC (.int 1))) (zAI zAB 0 [(gC (.int 2))])) (zAC 2))]) (zAI zAB 0 [(gC (.int 2))])))
 (zC6 (zHH [5] (zOB (gB (g2 neD (zAC 8) (zAC 9))) (gB (g2 ltD (gN zDS [(zAC 5)]) (gC (.int 120))))))
 (zB2 5 (zAX [(zAC 8),(zAC 9)]) (gC (.bl true)))
 gNx)))
theorem zZE{d:D}{k:Nat}{u6:Sl}{kvs:List (List Int×D)}(B:Bag k d)(hk:k<800000)(h1:1<=many)(h2:many<=24)(hw0:0<=wanted)(hw1:wanted<=200)(L:Ln many kvs)(hl:kvs.length<=120) :
  ∃(d':D) (kvs':List (List Int×D)) (u7 u8 u9:Sl),zMX (zEC (zAC 4)) (.nm 7) l2B (ne1 d most many kind wanted kvs u6 .no .no .no)=.ok (.nx (ne1 d' most many kind wanted kvs' u6 u7 u8 u9))/\Bag (k+800) d'/\Ln many kvs'/\kvs'.length<=120:=by
 obtain⟨E',e,d',kvs',u7,u8,u9,rfl,B',L',hl'⟩:=zHX (gi:=zEC (zAC 4)) (t:=.nm 7) (g:=l2B) (E:=ne1 d most many kind wanted kvs u6 .no .no .no)
  (λi E=>∃(d':D) (kvs:List (List Int×D)) (u7 u8 u9:Sl),E=ne1 d' most many kind wanted kvs u6 u7 u8 u9/\Bag (k+4 * i) d'/\Ln many kvs/\kvs.length<=120) (zH0 (j:=wanted) rfl ⟨by lia,by lia⟩) ⟨d,kvs,.no,.no,.no,rfl,B,L,hl⟩
  (λi x E hx hP=>by
   obtain⟨d,kvs,u7,u8,u9,hE,B,L,hl⟩:=hP
   subst hE
   have hi:=(List.getElem?_eq_some_iff.mp hx).1
   simp only[zFA,List.length_map,List.length_range] at hi
   obtain⟨a,d1,e1,a0,a1,B1⟩:=tk (g:=zAC 2) (E:=ne1 d most many kind wanted kvs u6 (.val x) u8 u9) (n:=many) rfl B (by lia) rfl (by lia) (by lia)
   obtain⟨b,d2,e2,b0,b1,B2⟩:=tk (g:=zAC 2) (E:=ne1 d1 most many kind wanted kvs u6 (.val x) (.val (.int a)) u9) (n:=many) rfl B1 (by lia) rfl (by lia) (by lia)
   obtain⟨c,d3,e3,c0,c1,B3⟩:=tk (g:=gC (.int 2)) (E:=ne1 d2 most many kind wanted kvs u6 (.val x) (.val (.int a)) u9) (n:=2) rfl B2 (by lia) rfl (by lia) (by lia)
   obtain⟨f,d4,e4,f0,f1,B4⟩:=tk (g:=gC (.int 2)) (E:=ne1 d3 most many kind wanted kvs u6 (.val x) (.val (.int a)) u9) (n:=2) rfl B3 (by lia) rfl (by lia) (by lia)
   have m0:0<=(a+1+c) % many:=Int.emod_nonneg _ (by lia)
   have m1:(a+1+c) % many<many:=Int.emod_lt_of_pos _ (by lia)
   have hmod:zER (.int (a+1+c)) (.int many)=.ok (.int ((a+1+c) % many)):=by
    simp only[zER,L2.guard];rw[if_pos (by lia)]
   have key:∃v:Int,([D.int b,.int ((a+1+c) % many)])[f.toNat]?=some (.int v)/\0<=v/\v<many:=by
    have:f=0\/f=1:=by lia
    rcases this with h|h
    ·exact⟨b,by rw[h];rfl,b0,b1⟩
    ·exact⟨(a+1+c) % many,by rw[h];rfl,m0,m1⟩
   obtain⟨v,hv,v0,v1⟩:=key
   refine⟨_,rfl,?_⟩
   have s1:zBQ (.nm 8) (zAI zAB 0 [(zAC 2)]) (ne1 d most many kind wanted kvs u6 (.val x) u8 u9)=.ok (.nx (ne1 d1 most many kind wanted kvs u6 (.val x) (.val (.int a)) u9)):=zA3 e1 rfl
   have s2:zBQ (.nm 9) (g2 ixD (zDJ [(zAI zAB 0 [(zAC 2)]),(g2 zER (g2 zBT (g2 zBT (zAC 8) (gC (.int 1))) (zAI zAB 0 [(gC (.int 2))])) (zAC 2))]) (zAI zAB 0 [(gC (.int 2))])) (ne1 d1 most many kind wanted kvs u6 (.val x) (.val (.int a)) u9)=.ok (.nx (ne1 d4 most many kind wanted kvs u6 (.val x) (.val (.int a)) (.val (.int v)))) :=
    zA3 (zAO (zCU (zAF e2 (zAS (zAO (zAO (x:=.int (a+1)) rfl e3 (d:=.int (a+1+c)) rfl) (y:=.int many) rfl hmod))) (show 2<10000 by decide)) e4 (zRT (xs:=[]) f0 hv)) rfl
   have t1:gB (g2 neD (zAC 8) (zAC 9)) (zHG [5] (ne1 d4 most many kind wanted kvs u6 (.val x) (.val (.int a)) (.val (.int v))))=.ok (decide (a≠v),zHG [5] (ne1 d4 most many kind wanted kvs u6 (.val x) (.val (.int a)) (.val (.int v)))) :=
    zCK (zAO (x:=.int a) (y:=.int v) rfl rfl (zHY _ _))
   have t2:gB (g2 ltD (gN zDS [(zAC 5)]) (gC (.int 120))) (zHG [5] (ne1 d4 most many kind wanted kvs u6 (.val x) (.val (.int a)) (.val (.int v))))=.ok (decide ((kvs.length:Int)<120),zHG [5] (ne1 d4 most many kind wanted kvs u6 (.val x) (.val (.int a)) (.val (.int v)))) :=
    zCK (zAO (x:=.int kvs.length) (zDF (zAS (d:=.dt kvs) rfl) rfl) (y:=.int 120) rfl rfl)
   by_cases hav:a=v
   ·rw[decide_eq_false (λz=>z hav)] at t1
    exact⟨_,zAK s1 (zAK s2 (zDE (zF2 (zXS t1)) rfl)),d4,kvs,_,_,_,rfl,B4.mono (by lia),L,hl⟩
   rw[decide_eq_true hav] at t1
   by_cases hfull:(kvs.length:Int)<120
   ·rw[decide_eq_true hfull] at t2
    exact⟨_,zAK s1 (zAK s2 (zD5 (zF2 (zSK t1 t2)) (zD3 (i:=5) (E1:=ne1 d4 most many kind wanted kvs u6 (.val x) (.val (.int a)) (.val (.int v))) (E2:=ne1 d4 most many kind wanted kvs u6 (.val x) (.val (.int a)) (.val (.int v))) (t:=false) (d:=.dt kvs) (v:=.bl true) (k:=.tup [.int a,.int v]) rfl rfl rfl rfl (zSN (by lia))))),d4,_,_,_,_,rfl,B4.mono (by lia),L.put ⟨a0,a1,v0,v1,hav⟩ _,Nat.le_trans (zLS _ _ _) (by lia)⟩
   ·rw[decide_eq_false hfull] at t2
    exact⟨_,zAK s1 (zAK s2 (zDE (zF2 (zSK t1 t2)) rfl)),d4,kvs,_,_,_,rfl,B4.mono (by lia),L,hl⟩)
 simp only[zFA,List.length_map,List.length_range] at B'
 exact⟨d',kvs',u7,u8,u9,e,B'.mono (by lia),L',hl'⟩
end
noncomputable def ri(n:Nat):List Int:=(List.range n).map λ(j:Nat)=>(0:Int)+(j:Int)
theorem zPA(n:Nat):zFA 0 n=(ri n).map D.int:=by simp[zFA,ri]
theorem mem_ri{n:Nat}{x:Int}:x∈ri n↔0<=x/\x<n:=by
 unfold ri
 constructor
 ·intro h
  obtain⟨j,hj,rfl⟩:=List.mem_map.mp h
  have:=List.mem_range.mp hj
  lia
 ·rintro⟨a,b⟩
  exact List.mem_map.mpr ⟨x.toNat,List.mem_range.mpr (by lia),by lia⟩
theorem zZF(n:Nat):(ri n).Nodup:=List.Pairwise.map _ (λa b h z=>h (by lia)) List.nodup_range
theorem zGX(n:Nat):(ri n).length=n:=by simp[ri]
noncomputable def nmI(ys:List Int)(a:Int):Int:=ys.getD a.toNat 0
noncomputable def pk(ys:List Int)(k:List Int):Int×Int:=match k with
 |[a,b]=>(nmI ys a,nmI ys b)
 |_=>(0,0)
theorem zRU{ys:List Int}{a:Int}(h0:0<=a)(h:a.toNat<ys.length):ixD (.lst (ys.map D.int)) (.int a)=.ok (.int (nmI ys a)):=by
 refine zRT (xs:=[]) h0 ?_
 rw[List.getElem?_map,List.getElem?_eq_getElem h]
 simp[nmI,h]
theorem zPB{ys:List Int}{a:Int}(h:a.toNat<ys.length):nmI ys a∈ys:=by
 have:nmI ys a=ys[a.toNat]:=by simp[nmI,h]
 rw[this];exact List.getElem_mem h
theorem zPC{ys:List Int}(hn:ys.Nodup){a b:Int}(a0:0<=a)(b0:0<=b)(ha:a.toNat<ys.length)(hb:b.toNat<ys.length)(e:nmI ys a=nmI ys b):a=b:=by
 have e1:nmI ys a=ys[a.toNat]:=by simp[nmI,ha]
 have e2:nmI ys b=ys[b.toNat]:=by simp[nmI,hb]
 rw[e1,e2] at e
 rcases Nat.lt_trichotomy a.toNat b.toNat with h|h|h
 ·exact absurd e (List.pairwise_iff_getElem.mp hn _ _ ha hb h)
 ·lia
 ·exact absurd e.symm (List.pairwise_iff_getElem.mp hn _ _ hb ha h)
theorem zGY:∀ps:List (Int×Int),D.nods (ps.map zBF)=true
 |[]=>by simp[D.nods]
 |p::ps=>by simp[D.nods,D.nod,zBF,zGY ps]
section
variable{most many kind wanted:Int}
noncomputable def zPD(ys:List Int)(d:D):List D:=match d with
 |.tup [.int a,.int b]=>[zBF (nmI ys a,nmI ys b)]
 |_=>[]
theorem zLU{ys:List Int}:∀{ks:List (List Int)},(∀k∈ks,∃a b:Int,k=[a,b]/\0<=a/\a<many/\0<=b/\b<many/\a≠b)->(ks.map zXI).flatMap (zPD ys)=(ks.map (pk ys)).map zBF
 |[],_=>rfl
 |k::ks,h=>by
  obtain⟨a,b,rfl,_⟩:=h k List.mem_cons_self
  simp only[List.map_cons,List.flatMap_cons,zLU λk hk=>h k (List.mem_cons_of_mem _ hk)]
  rfl
theorem zD6{x many:Int}{n:Nat}(h:n=many.toNat)(h0:0<=x)(h1:x<many):x.toNat<n:=by lia
theorem zU0{d:D}{k:Nat}(B:Bag k d)(hk:k<700000)(h1:1<=most)(h2:most<=24) :
  ∃(many:Int) (ps:List (Int×Int)) (gate:Int) (d':D),zDD [.own true d,.val (.int most)]=.ok (false,.tup [zVJ many ps,.int gate],d')/\Net many ps/\many<=most/\0<=gate/\gate<many/\Bag (k+1000) d':=by
 obtain⟨many,d1,e1,m1,m2,B1⟩:=yBC B (by lia) h1 h2
 obtain⟨kind,d2,e2,k0,k1,B2⟩:=tk (g:=gC (.int 4)) (E:=zH8 d1 most (.val (.int many)) .no .no .no .no .no .no .no .no .no) rfl B1 (by lia) rfl (by lia) (by lia)
 obtain⟨wanted,d3,e3,w0,w1,B3⟩:=yBD (most:=most) (many:=many) (kind:=kind) B2 (by lia) m1 (by lia)
 obtain⟨d4,kvs,u6,e4,B4,L4,l4⟩:=zZD (most:=most) (many:=many) (kind:=kind) (wanted:=wanted) B3 (by lia) m1 (by lia) k0
 obtain⟨d5,kvs,u7,u8,u9,e5,B5,L5,l5⟩:=zZE (most:=most) (many:=many) (kind:=kind) (wanted:=wanted) (u6:=u6) B4 (by lia) m1 (by lia) w0 w1 L4 (by lia)
 obtain⟨ys,d6,e6,hp,B6⟩:=zUZ (xs:=ri many.toNat) B5 (by rw[zGX];lia) (by lia)
 have hyl:ys.length=many.toNat:=by rw[hp.length_eq,zGX]
 have hyn:ys.Nodup:=hp.nodup_iff.mpr (zZF _)
 have hym:∀x,x∈ys->0<=x/\x<many:=λx hx=>by have:=mem_ri.mp (hp.mem_iff.mp hx);lia
 rw[zGX] at B6
 have s6:zBQ (.nm 10) (zAI zBO 0 [(gLR (zAC 2))]) (ne1 d5 most many kind wanted kvs u6 u7 u8 u9)=.ok (.nx (zH8 d6 most (.val (.int many)) (.val (.int kind)) (.val (.int wanted)) (.own false (.dt kvs)) u6 u7 u8 u9 (.val (.lst (ys.map D.int))) .no)):=by
  refine zA3 (zB5 (ds:=[.lst ((ri many.toNat).map D.int)]) (E1:=ne1 d5 most many kind wanted kvs u6 u7 u8 u9) (t:=true) (d:=d5) rfl (zAS (zAG (a:=(.int many,ne1 d5 most many kind wanted kvs u6 u7 u8 u9)) rfl ?_)) rfl e6) rfl
  simp only[L2.guard]
  rw[if_pos ⟨by lia,by lia⟩,zPA]
 obtain⟨a,d7,e7,a0,a1,B7⟩:=tk (g:=zAC 2) (E:=zH8 d6 most (.val (.int many)) (.val (.int kind)) (.val (.int wanted)) (.own false (.dt kvs)) u6 u7 u8 u9 (.val (.lst (ys.map D.int))) .no) (n:=many) rfl B6 (by lia) rfl (by lia) (by lia)
 obtain⟨c,d8,e8,c0,c1,B8⟩:=tk (g:=gC (.int 3)) (E:=zH8 d7 most (.val (.int many)) (.val (.int kind)) (.val (.int wanted)) (.own false (.dt kvs)) u6 u7 u8 u9 (.val (.lst (ys.map D.int))) .no) (n:=3) rfl B7 (by lia) rfl (by lia) (by lia)
 have hz:(0:Int).toNat<ys.length:=by rw[hyl];lia
 have hz2:=hym _ (zPB (ys:=ys) (a:=0) hz)
 have key:∃g:Int,([D.int (nmI ys 0),.int (nmI ys 0),.int a])[c.toNat]?=some (.int g)/\0<=g/\g<many:=by
  have:c=0\/c=1\/c=2:=by lia
  rcases this with h|h|h
  ·exact⟨_,by rw[h];rfl,hz2.1,hz2.2⟩
  ·exact⟨_,by rw[h];rfl,hz2.1,hz2.2⟩
  ·exact⟨a,by rw[h];rfl,a0,a1⟩
 obtain⟨gate,hg,g0,g1⟩:=key
 obtain⟨E9,hE9⟩:∃E9,E9=zH8 d8 most (.val (.int many)) (.val (.int kind)) (.val (.int wanted)) (.own false (.dt kvs)) u6 u7 u8 u9 (.val (.lst (ys.map D.int))) (.val (.int gate)):=⟨_,rfl⟩
 have s7:zBQ (.nm 11) (g2 ixD (zDJ [(g2 ixD (zAC 10) (gC (.int 0))),(g2 ixD (zAC 10) (gC (.int 0))),(zAI zAB 0 [(zAC 2)])]) (zAI zAB 0 [(gC (.int 3))])) (zH8 d6 most (.val (.int many)) (.val (.int kind)) (.val (.int wanted)) (.own false (.dt kvs)) u6 u7 u8 u9 (.val (.lst (ys.map D.int))) .no)=.ok (.nx E9):=by
  rw[hE9]
  exact zA3 (zAO (zCU (zAF (zAO (x:=.lst (ys.map D.int)) (y:=.int 0) rfl rfl (zRU (by decide) hz)) (zAF (zAO (x:=.lst (ys.map D.int)) (y:=.int 0) rfl rfl (zRU (by decide) hz)) (zAS e7))) (show 3<10000 by decide)) e8 (zRT (xs:=[]) c0 hg)) rfl
 obtain⟨qs,hqs⟩:∃qs,qs=(kvs.map (·.1)).map (pk ys):=⟨_,rfl⟩
 have hcomp:zC9 (zED (zAC 5)) 2 [10] (.tp [(.nm 0),(.nm 1)]) zI7 (zAX [(g2 ixD (zAC 2) (zAC 0)),(g2 ixD (zAC 2) (zAC 1))]) (zHG [5] E9)=.ok (.lst (qs.map zBF),zHG [5] E9):=by
  have:=zKQ (gi:=zED (zAC 5)) (k:=2) (js:=[10]) (t:=.tp [(.nm 0),(.nm 1)]) (tt:=zI7) (ge:=zAX [(g2 ixD (zAC 2) (zAC 0)),(g2 ixD (zAC 2) (zAC 1))]) (E:=zHG [5] E9) (E1:=zHG [5] E9) (ds:=(kvs.map (·.1)).map zXI) (zPD ys) (λE=>∃x y,E=[x,y,.val (.lst (ys.map D.int))]) (by rw[List.map_map,hE9];rfl) (by rw[hE9];exact⟨_,_,rfl⟩) (by rw[List.length_map,List.length_map];lia) (λx hx E hE=>by
   obtain⟨ky,hky,rfl⟩:=List.mem_map.mp hx
   obtain⟨p,q,rfl⟩:=hE
   obtain⟨a,b,rfl,a0,a1,b0,b1,_⟩:=L5.rg ky hky
   exact⟨_,rfl,true,_,rfl,.inl ⟨rfl,_,_,zA9 (zAF (zAO (x:=.lst (ys.map D.int)) (y:=.int a) rfl rfl (zRU a0 (zD6 hyl a0 a1))) (zAS (zAO (x:=.lst (ys.map D.int)) (y:=.int b) rfl rfl (zRU b0 (zD6 hyl b0 b1))))) (show 2<10000 by decide),rfl,_,_,rfl⟩⟩) (λEc hEc=>by
   rw[hE9]
   have:∀(u:Sl) (j:Nat),j≠10->zSC Ec 2 [10] j (zE8 [5] j u)=zE8 [5] j u:=λu j hj=>by
    cases u with
    |no=>rfl
    |val d=>rfl
    |own t d =>
     simp only[zE8]
     split<;>rfl
   simp only[bck,zHG,zH8,zHF,zOI,Nat.zero_add,Nat.reduceAdd]
   rw[this u6 6 (by decide),this u7 7 (by decide),this u8 8 (by decide),this u9 9 (by decide)]
   rfl)
  rw[this,zLU L5.rg,hqs]
 have hnet:Net many (zEW qs):=by
  have pm:=zEX qs
  refine⟨m1,by lia,by rw[pm.length_eq,hqs,List.length_map,List.length_map];exact l5,λp hp=>?_,zRS ?_⟩
  ·have hp:=pm.mem_iff.mp hp
   rw[hqs] at hp
   obtain⟨ky,hky,rfl⟩:=List.mem_map.mp hp
   obtain⟨a,b,rfl,a0,a1,b0,b1,ab⟩:=L5.rg ky hky
   have ha:=hym _ (zPB (ys:=ys) (a:=a) (zD6 hyl a0 a1))
   have hb:=hym _ (zPB (ys:=ys) (a:=b) (zD6 hyl b0 b1))
   exact⟨ha.1,ha.2,hb.1,hb.2,λz=>ab (zPC hyn a0 b0 (zD6 hyl a0 a1) (zD6 hyl b0 b1) z)⟩
  ·rw[hqs]
   refine List.pairwise_map.mpr (List.Pairwise.imp_of_mem ?_ L5.nd)
   intro x y hx hy hxy z
   obtain⟨a,b,rfl,a0,a1,b0,b1,ab⟩:=L5.rg x hx
   obtain⟨a',b',rfl,a0',a1',b0',b1',ab'⟩:=L5.rg y hy
   simp only[pk,Prod.mk.injEq] at z
   exact hxy (by rw[zPC hyn a0 a0' (zD6 hyl a0 a1) (zD6 hyl a0' a1') z.1,zPC hyn b0 b0' (zD6 hyl b0 b1) (zD6 hyl b0' b1') z.2])
 refine⟨many,zEW qs,gate,d8,zA7 (E':=E9) (zAK e1 (zAK (zA3 e2 rfl) (zAK e3 (zAK (zHZ (d:=.dt []) rfl) (zAK e4 (zAK e5 (zAK s6 (zAK s7 (zAV (zF1 (d:=.tup [zVJ many (zEW qs),.int gate]) (zA9 (zAF (zA9 (zAF (d:=.int many) (by rw[hE9];rfl) (zAS (zDF (zAS (zDF (zAS hcomp) (zKR qs))) rfl))) (show 2<10000 by decide)) (zAS (d:=.int gate) (by rw[hE9];rfl))) (show 2<10000 by decide)) ?_)))))))))) (by rw[hE9];rfl),hnet,m2,g0,g1,B8.mono (by lia)⟩
 rw[hE9]
 simp only[zI4,zH8,zVJ,D.flat,D.flats,D.nod,D.nods,zGY]
 rfl
end
noncomputable def isI:D->Bool
 |.int _=>true
 |_=>false
theorem zLV(d:D):zCD [.val d]=.ok (false,.bl (isI d),.non):=by cases d<;>rfl
theorem zEQ(d:D):zAW [.val d]=.ok (false,.bl (isI d),.non):=by cases d<;>rfl
noncomputable def plB(many:Int):D->Bool
 |.int x=>decide (0<=x)&&decide (x<many)
 |_=>false
theorem zLW(many:Int)(d:D):zDB [.val (.int many),.val d]=.ok (false,.bl (plB many d),.non):=by
 have w:=zLV d
 cases d with
 |int x =>
  refine zA7 (E':=[.val (.int many),.val (.int x)]) (zAV (zRM (E1:=[.val (.int many),.val (.int x)]) (zBP (ds:=[.int x]) rfl w) ?_)) rfl
  by_cases h:0<=x
  ·rw[plB,decide_eq_true h,Bool.true_and]
   exact zO6 (x:=.int 0) (y:=.int x) rfl rfl (blT h) (z:=.int many) rfl rfl
  ·rw[plB,decide_eq_false h,Bool.false_and]
   exact zO7 (x:=.int 0) (y:=.int x) rfl rfl (blF h)
 |_=>exact zA7 (zAV (zRN (zBP (ds:=[_]) rfl w))) rfl
noncomputable def lnP(many:Int):D->Option (Int×Int)
 |.tup [.int a,.int b]=>if(plB many (.int a)&&(plB many (.int b)&&decide (a≠b)))=true then some (a,b) else none
 |_=>none
theorem zGZ(ds:List D):(∃x y,ds=[x,y])\/ds.length≠2:=by
 match ds with
 |[]=>exact .inr (by simp)
 |[_]=>exact .inr (by simp)
 |[x,y]=>exact .inl ⟨x,y,rfl⟩
 |_::_::_::_=>exact .inr (by simp)
theorem zPE{many:Int}{ds:List D}(h:ds.length≠2):lnP many (.tup ds)=none:=by
 match ds,h with
 |[],_=>rfl
 |[x],_=>cases x<;>rfl
 |[x,y],h=>exact absurd rfl h
 |x::y::z::w,_=>cases x<;>first|rfl|(cases y<;>rfl)
theorem zLX{many:Int}{d:D}{p:Int×Int}(h:lnP many d=some p):d=zBF p/\0<=p.1/\p.1<many/\0<=p.2/\p.2<many/\p.1≠p.2:=by
 unfold lnP at h
 split at h
 ·split at h
  ·rename_i e
   cases h
   simp only[plB,Bool.and_eq_true,decide_eq_true_eq] at e
   exact⟨rfl,e.1.1,e.1.2,e.2.1.1,e.2.1.2,e.2.2⟩
  ·cases h
 ·cases h
theorem zH9{d:D}(h:∀ds,d≠.tup ds):isB (tyN d) "tuple"=false:=by
 cases d<;>first|rfl|exact absurd rfl (h _)
theorem zMZ(d:D):(∃ds,d=.tup ds)\/∀ds,d≠.tup ds:=by
 cases d<;>first|exact .inl ⟨_,rfl⟩|exact .inr (λ_ z=>by cases z)
theorem zSO{many:Int}{d:D}(h:∀ds,d≠.tup ds):lnP many d=none:=by
 cases d<;>first|rfl|exact absurd rfl (h _)
theorem zKT{i:Nat}{E:Ev}{d:D}(hv:zAC i E=.ok (d,E))(h:∀ds,d≠.tup ds){u:Ev->Out (Bool×Ev)}:zCN (zBG (zDO (zB6 "tuple" (zAC i)))) u E=.ok (true,E):=by
 refine zJL (zBL (b:=false) (zEG (zEH hv) ?_))
 rw[zH9 h];rfl
theorem zD7{i:Nat}{E:Ev}{ds:List D}(hv:zAC i E=.ok (.tup ds,E)):gB (g2 neD (gN zDS [(zAC i)]) (gC (.int 2))) E=.ok (decide (ds.length≠2),E):=by
 refine zCK (zAO (x:=.int ds.length) (zDF (zAS hv) rfl) (y:=.int 2) rfl ?_)
 rw[zHY];congr 2;exact decide_eq_decide.mpr (by lia)
theorem zC0{i:Nat}{E:Ev}{ds:List D}(hv:zAC i E=.ok (.tup ds,E)){u:Ev->Out (Bool×Ev)}{r:Out (Bool×Ev)}(h:u E=r):zCN (zBG (zDO (zB6 "tuple" (zAC i)))) u E=r :=
 zE0 (zBL (b:=true) (zEG (zEH hv) rfl)) h
theorem zU1(many:Int)(d:D):zDC [.val (.int many),.val d]=.ok (false,.bl (lnP many d).isSome,.non):=by
 rcases zMZ d with⟨ds,rfl⟩|h
 ·rcases zGZ ds with⟨x,y,rfl⟩|hl
  ·have t1:zCN (zBG (zDO (zB6 "tuple" (zAC 1)))) (gB (g2 neD (gN zDS [(zAC 1)]) (gC (.int 2)))) [.val (.int many),.val (.tup [x,y]),.no,.no]=.ok (false,[.val (.int many),.val (.tup [x,y]),.no,.no]):=zC0 (ds:=[x,y]) rfl ((zD7 (i:=1) (ds:=[x,y]) rfl).trans rfl)
   have px:=zLW many x
   have py:=zLW many y
   refine zA7 (zAK (zDE t1 rfl) (zAK (E1:=[.val (.int many),.val (.tup [x,y]),.val x,.val y]) (zA3 (d:=.tup [x,y]) rfl rfl) (zAV (d:=.bl (lnP many (.tup [x,y])).isSome) (E':=[.val (.int many),.val (.tup [x,y]),.val x,.val y]) ?_))) rfl
   cases hx:plB many x with
   |false =>
    rw[hx] at px
    have:lnP many (.tup [x,y])=none:=by
     cases x<;>first|rfl|(cases y<;>first|rfl|(simp only[lnP,hx,Bool.false_and];rfl))
    rw[this]
    exact zRN (zBP (ds:=[.int many,x]) rfl px)
   |true =>
    rw[hx] at px
    refine zRM (zBP (ds:=[.int many,x]) rfl px) ?_
    cases hy:plB many y with
    |false =>
     rw[hy] at py
     have:lnP many (.tup [x,y])=none:=by
      cases x<;>first|rfl|(cases y<;>first|rfl|(simp only[lnP,hx,hy,Bool.false_and,Bool.true_and];rfl))
     rw[this]
     exact zRN (zBP (ds:=[.int many,y]) rfl py)
    |true =>
     rw[hy] at py
     refine zRM (zBP (ds:=[.int many,y]) rfl py) ?_
     cases x with
     |int a =>
      cases y with
      |int b =>
       refine zAO (x:=.int a) (y:=.int b) rfl rfl ?_
       rw[zHY]
       simp only[lnP,hx,hy,Bool.true_and]
       by_cases e:a=b
       ·simp[e]
       ·simp[e]
      |_=>cases hy
     |_=>cases hx
  ·rw[zPE hl]
   refine zA7 (zA6 (E1:=[.val (.int many),.val (.tup ds),.no,.no]) (zD5 (zC0 (i:=1) rfl ((zD7 rfl).trans ?_)) (zAV (d:=.bl false) rfl))) rfl
   rw[decide_eq_true hl];rfl
 ·rw[zSO h]
  exact zA7 (zA6 (E1:=[.val (.int many),.val d,.no,.no]) (zD5 (zKT (i:=1) rfl h) (zAV (d:=.bl false) rfl))) rfl
theorem zIA{gi:GI}{k:Nat}{js:List Nat}{t:Tg}{ge:G}{E E1:Ev}{ds:List D}(f:D->D)(P:Ev->Prop)(hi:gi E=.ok (ds,E1))(h0:P (zLC k js E1))(hl:ds.length<10000)
  (hs:∀d∈ds,∀E,P E->∃E1,gTg t d E=.ok E1/\∃E3,ge E1=.ok (f d,E3)/\P E3)
  (hb:∀Ec,P Ec->bck E1 Ec k js=E1):zC9 gi k js t zI7 ge E=.ok (.lst (ds.map f),E1):=by
 have:=zKQ (t:=t) (tt:=zI7) (ge:=ge) (λd=>[f d]) P hi h0 hl (λd hd E hE=>by
  obtain⟨E1,e1,E3,e3,p⟩:=hs d hd E hE
  exact⟨E1,e1,true,E1,rfl,.inl ⟨rfl,_,_,e3,rfl,p⟩⟩) hb
 rw[this]
 congr 3
 clear this hi hl hs
 induction ds with
 |nil=>rfl
 |cons p ps ih=>simp only[List.map_cons,List.flatMap_cons,ih];rfl
theorem zKU{α:Type}(p:α->Bool)(ds:List α):zRC [.lst (ds.map λd=>.bl (p d))]=.ok (.bl (ds.all p)):=by
 have:zHQ (ds.map λd=>D.bl (p d))=some (ds.map p):=by
  have:=zJA (ds.map p)
  rw[List.map_map] at this;exact this
 simp[zRC,this]
noncomputable def chk(many:Int):Int×Int->List D->Bool
 |_,[]=>true
 |q,d::ds=>match lnP many d with
  |none=>false
  |some p=>HT.lexLt [q.1,q.2] [p.1,p.2]&&chk many p ds
noncomputable def zM0:D->Bool
 |.tup [.int m,.tup ls]=>decide (1<=m/\m<=24)&&(decide (ls.length<=120)&&chk m (-1,-1) ls)
 |_=>false
noncomputable def zPF(ps:List (Int×Int)):Bool:=(ps.zip (ps.drop 1)).all λz=>HT.lexLt [z.1.1,z.1.2] [z.2.1,z.2.2]
theorem zPG{many:Int}:∀{ds:List D} {q:Int×Int},chk many q ds=true->(ds.all λd=>(lnP many d).isSome)=true
 |[],_,_=>rfl
 |d::ds,q,h=>by
  rw[chk] at h
  cases e:lnP many d with
  |none=>rw[e] at h;cases h
  |some p =>
   rw[e] at h
   simp only[Bool.and_eq_true] at h
   rw[List.all_cons,e,zPG h.2];rfl
theorem zSP{many:Int}:∀{ds:List D},(ds.all λd=>(lnP many d).isSome)=true->∃ps:List (Int×Int),ds=ps.map zBF/\∀p∈ps,lnP many (zBF p)=some p
 |[],_=>⟨[],rfl,λp h=>by simp at h⟩
 |d::ds,h=>by
  rw[List.all_cons,Bool.and_eq_true] at h
  obtain⟨ps,e,hp⟩:=zSP h.2
  obtain⟨p,ep⟩:=Option.isSome_iff_exists.mp h.1
  have:=(zLX ep).1
  refine⟨p::ps,by rw[List.map_cons,<-e,this],λq hq=>?_⟩
  rcases List.mem_cons.mp hq with e|hq
  ·rw[e,<-this];exact ep
  ·exact hp q hq
theorem zLY{many:Int}:∀{ps:List (Int×Int)} (q:Int×Int),(∀p∈ps,lnP many (zBF p)=some p)->chk many q (ps.map zBF)=zPF (q::ps)
 |[],q,_=>rfl
 |p::ps,q,h=>by
  rw[List.map_cons,chk,h p List.mem_cons_self]
  show(HT.lexLt [q.1,q.2] [p.1,p.2]&&chk many p (ps.map zBF))=_
  rw[zLY p λr hr=>h r (List.mem_cons_of_mem _ hr)]
  unfold zPF
  simp[List.zip_cons_cons]
theorem zKV{many:Int}{ps:List (Int×Int)}(h:∀p∈ps,lnP many (zBF p)=some p):zPF ((-1,-1)::ps)=zPF ps:=by
 cases ps with
 |nil=>rfl
 |cons p ps =>
  have:=(zLX (h p List.mem_cons_self)).2.1
  unfold zPF
  simp only[List.drop_succ_cons,List.drop_zero,List.zip_cons_cons,List.all_cons]
  have l:HT.lexLt [-1,-1] [p.1,p.2]=true:=by
   rw[HT.lexLt_cons,if_neg (by lia)];exact decide_eq_true (by lia)
  rw[l,Bool.true_and]
theorem zPH{d:D}(h:∀ds,d≠.tup ds):zM0 d=false:=by
 cases d<;>first|rfl|exact absurd rfl (h _)
theorem zLZ{ds:List D}(h:ds.length≠2):zM0 (.tup ds)=false:=by
 match ds,h with
 |[],_=>rfl
 |[x],_=>cases x<;>rfl
 |[x,y],h=>exact absurd rfl h
 |x::y::z::w,_=>cases x<;>first|rfl|(cases y<;>rfl)
theorem zL0{x y:D}(h:isI x=false):zM0 (.tup [x,y])=false:=by
 cases x<;>first|rfl|cases h
theorem zFE{m:Int}{y:D}(h:∀ds,y≠.tup ds):zM0 (.tup [.int m,y])=false:=by
 cases y<;>first|rfl|exact absurd rfl (h _)
theorem zPI{i:Nat}{E:Ev}{m:Int}(hv:zAC i E=.ok (.int m,E)):gB (zDV leD leD (gC (.int 1)) (zAC i) (gC (.int 24))) E=.ok (decide (1<=m/\m<=24),E):=by
 by_cases h:1<=m
 ·refine zCK ((zO6 (x:=.int 1) (y:=.int m) rfl hv (blT h) (z:=.int 24) rfl rfl).trans ?_)
  congr 3
  exact decide_eq_decide.mpr ⟨λz=>⟨h,z⟩,λz=>z.2⟩
 ·refine zCK ((zO7 (x:=.int 1) (y:=.int m) rfl hv (blF h)).trans ?_)
  rw[decide_eq_false (λz=>h z.1)]
theorem zXV{i:Nat}{E:Ev}{ls:List D}(hv:zAC i E=.ok (.tup ls,E)):gB (g2 gtD (gN zDS [(zAC i)]) (gC (.int 120))) E=.ok (!decide (ls.length<=120),E):=by
 refine zCK ((zAO (x:=.int ls.length) (zDF (zAS hv) rfl) (y:=.int 120) rfl rfl).trans ?_)
 congr 3
 by_cases h:ls.length<=120
 ·rw[decide_eq_true h];exact decide_eq_false (by lia)
 ·rw[decide_eq_false h];exact decide_eq_true (by lia)
theorem zXW(d:D):zD2 [.val d]=.ok (false,.bl (zM0 d),.non):=by
 rcases zMZ d with⟨ds,rfl⟩|h
 ·rcases zGZ ds with⟨x,y,rfl⟩|hl
  ·have t1:zCN (zBG (zDO (zB6 "tuple" (zAC 0)))) (gB (g2 neD (gN zDS [(zAC 0)]) (gC (.int 2)))) [.val (.tup [x,y]),.no,.no]=.ok (false,[.val (.tup [x,y]),.no,.no]):=zC0 (ds:=[x,y]) rfl ((zD7 (i:=0) (ds:=[x,y]) rfl).trans rfl)
   obtain⟨E2,hE2⟩:∃E2:Ev,E2=[.val (.tup [x,y]),.val x,.val y]:=⟨_,rfl⟩
   have v1:zAC 1 E2=.ok (x,E2):=by rw[hE2];rfl
   have v2:zAC 2 E2=.ok (y,E2):=by rw[hE2];rfl
   have s1:∀{g:GS} {r:Out Fl},g E2=r->zBA (zC6 (zCN (zBG (zDO (zB6 "tuple" (zAC 0)))) (gB (g2 neD (gN zDS [(zAC 0)]) (gC (.int 2))))) (zC1 (gC (.bl false))) gNx) (zBA (zBQ (.tp [(.nm 1),(.nm 2)]) (zAC 0)) g) [.val (.tup [x,y]),.no,.no]=r:=λh =>
    zAK (zDE t1 rfl) (zAK (E1:=E2) (zA3 (d:=.tup [x,y]) rfl (by rw[hE2];rfl)) h)
   have w:=zLV x
   cases hx:isI x with
   |false =>
    rw[zL0 hx]
    rw[hx] at w
    exact zA7 (E':=E2) (s1 (zA6 (zD5 (zJL (zBL (b:=false) (zEG (zBP (ds:=[x]) (zAS v1) w) rfl))) (zAV (d:=.bl false) rfl)))) rfl
   |true =>
    obtain⟨m,rfl⟩:∃m,x=.int m:=by cases x<;>first|exact⟨_,rfl⟩|cases hx
    have t2:zCN (zBG (zDO (zBV zCD [(zAC 1)]))) (zBG (gB (zDV leD leD (gC (.int 1)) (zAC 1) (gC (.int 24))))) E2=.ok (!decide (1<=m/\m<=24),E2) :=
     zE0 (zBL (b:=true) (zEG (zBP (ds:=[.int m]) (zAS v1) w) rfl)) (zBL (zPI v1))
    by_cases hm:1<=m/\m<=24
    ·rw[decide_eq_true hm] at t2
     rcases zMZ y with⟨ls,rfl⟩|hy
     ·have t3:zCN (zBG (zDO (zB6 "tuple" (zAC 2)))) (gB (g2 gtD (gN zDS [(zAC 2)]) (gC (.int 120)))) E2=.ok (!decide (ls.length<=120),E2):=zC0 v2 (zXV v2)
      show _=Out.ok (false,D.bl (decide (1<=m/\m<=24)&&(decide (ls.length<=120)&&chk m (-1,-1) ls)),D.non)
      rw[decide_eq_true hm,Bool.true_and]
      by_cases hl:ls.length<=120
      ·rw[decide_eq_true hl] at t3
       rw[decide_eq_true hl,Bool.true_and]
       have hc:zC9 (zED (zAC 2)) 1 [1] (.nm 0) zI7 (zBV zDC [(zAC 1),(zAC 0)]) E2=.ok (.lst (ls.map λl=>.bl (lnP m l).isSome),E2):=by
        refine zIA (λl=>.bl (lnP m l).isSome) (λE=>∃u,E=[u,.val (.int m)]) (zO4 v2) (by rw[hE2];exact⟨_,rfl⟩) (by lia) (λl _ E hE=>?_) (λEc ⟨u,e⟩=>by rw[hE2,e];rfl)
        obtain⟨u,rfl⟩:=hE
        exact⟨_,rfl,_,zBP (ds:=[.int m,l]) rfl (zU1 m l),_,rfl⟩
       have t4:zBG (zDO (gN zRC [(zC9 (zED (zAC 2)) 1 [1] (.nm 0) zI7 (zBV zDC [(zAC 1),(zAC 0)]))])) E2=.ok (!(ls.all λl=>(lnP m l).isSome),E2) :=
        zBL (zEG (zDF (zAS hc) (zKU _ _)) rfl)
       cases ha:ls.all λl=>(lnP m l).isSome with
       |false =>
        rw[ha] at t4
        have:chk m (-1,-1) ls=false:=by
         cases e:chk m (-1,-1) ls with
         |false=>rfl
         |true=>rw[zPG e] at ha;cases ha
        rw[this]
        exact zA7 (E':=E2) (s1 (zAK (zDE t2 rfl) (zAK (zDE t3 rfl) (zA6 (zD5 t4 (zAV (d:=.bl false) rfl)))))) rfl
       |true =>
        rw[ha] at t4
        obtain⟨ps,rfl,hp⟩:=zSP ha
        rw[zLY _ hp,zKV hp]
        have hz:zC9 (zX7 (zAC 2) (zBM (zAC 2) (some (gC (.int 1))) none)) 2 [] (.tp [(.nm 0),(.nm 1)]) zI7 (g2 ltD (zAC 0) (zAC 1)) E2=.ok (.lst ((ps.zip (ps.drop 1)).map λz=>.bl (HT.lexLt [z.1.1,z.1.2] [z.2.1,z.2.2])),E2):=by
         have sl:zBM (zAC 2) (some (gC (.int 1))) none E2=.ok (.tup ((ps.drop 1).map zBF),E2):=by
          refine zAG v2 (zAG (a:=(some 1,E2)) rfl (zAG (a:=(none,E2)) rfl ?_))
          show Out.ok (D.tup (zDW (ps.map zBF) (some 1) none),E2)=_
          rw[yBB,List.map_drop]
         have zi:zX7 (zAC 2) (zBM (zAC 2) (some (gC (.int 1))) none) E2=.ok ((ps.zip (ps.drop 1)).map λz=>.tup [zBF z.1,zBF z.2],E2):=by
          refine zAG v2 (zAG sl ?_)
          show Out.ok (zUI (ps.map zBF) ((ps.drop 1).map zBF),E2)=_
          unfold zUI
          rw[List.zip_map,List.map_map];rfl
         have:=zIA (k:=2) (js:=[]) (t:=.tp [(.nm 0),(.nm 1)]) (ge:=g2 ltD (zAC 0) (zAC 1)) (λd=>match d with|.tup [a,b]=>(match ltD a b with|.ok r=>r|_=>.non)|_=>.non) (λE=>E.length=2) zi rfl (by
           rw[List.length_map,List.length_zip];rw[List.length_map] at hl;lia) (λd hd E hE=>by
          obtain⟨z,_,rfl⟩:=List.mem_map.mp hd
          obtain⟨u,v,rfl⟩:=zXU hE
          exact⟨_,rfl,_,zAO (x:=zBF z.1) (y:=zBF z.2) rfl rfl rfl,rfl⟩) λEc _=>zH7 Ec 2 0 E2
         rw[this,List.map_map];rfl
        refine zA7 (E':=E2) (s1 (zAK (zDE t2 rfl) (zAK (zDE t3 rfl) (zAK (zDE t4 rfl) (zAV (zDF (zAS hz) ?_)))))) rfl
        exact zKU (λz:(Int×Int)×(Int×Int)=>HT.lexLt [z.1.1,z.1.2] [z.2.1,z.2.2]) _
      ·rw[decide_eq_false hl] at t3
       rw[decide_eq_false hl,Bool.false_and]
       exact zA7 (E':=E2) (s1 (zAK (zDE t2 rfl) (zA6 (zD5 t3 (zAV (d:=.bl false) rfl))))) rfl
     ·rw[zFE hy]
      exact zA7 (E':=E2) (s1 (zAK (zDE t2 rfl) (zA6 (zD5 (zKT v2 hy) (zAV (d:=.bl false) rfl))))) rfl
    ·rw[decide_eq_false hm] at t2
     have:zM0 (.tup [.int m,y])=false:=by
      rcases zMZ y with⟨ls,rfl⟩|hy
      ·show(decide (1<=m/\m<=24)&&_)=false
       rw[decide_eq_false hm];rfl
      ·exact zFE hy
     rw[this]
     exact zA7 (E':=E2) (s1 (zA6 (zD5 t2 (zAV (d:=.bl false) rfl)))) rfl
  ·rw[zLZ hl]
   refine zA7 (zA6 (E1:=[.val (.tup ds),.no,.no]) (zD5 (zC0 (i:=0) rfl ((zD7 rfl).trans ?_)) (zAV (d:=.bl false) rfl))) rfl
   rw[decide_eq_true hl];rfl
 ·rw[zPH h]
  exact zA7 (zA6 (E1:=[.val d,.no,.no]) (zD5 (zKT (i:=0) rfl h) (zAV (d:=.bl false) rfl))) rfl
theorem zE1{t u:Ev->Out (Bool×Ev)}{E:Ev}{b c:Bool}(h:t E=.ok (b,E))(h2:u E=.ok (c,E)):zCN t u E=.ok (b||c,E):=by
 cases b with
 |true=>exact zJL h
 |false=>exact zE0 h h2
theorem zZG(a b x y:Int):HT.lexLe [a,b] [x,y]=!HT.lexLt [x,y] [a,b]:=by
 rw[HT.lexLe_cons,HT.lexLt_cons]
 by_cases h:a=x
 ·rw[if_pos h,if_pos h.symm,HT.lexLe_cons,HT.lexLt_cons]
  by_cases h2:b=y
  ·rw[if_pos h2,if_pos h2.symm];rfl
  ·rw[if_neg h2,if_neg (λz=>h2 z.symm)]
   by_cases h3:b<=y
   ·rw[decide_eq_true h3,decide_eq_false (by lia)];rfl
   ·rw[decide_eq_false h3,decide_eq_true (by lia)];rfl
 ·rw[if_neg h,if_neg (λz=>h z.symm)]
  by_cases h3:a<=x
  ·rw[decide_eq_true h3,decide_eq_false (by lia)];rfl
  ·rw[decide_eq_false h3,decide_eq_true (by lia)];rfl
section
variable{d0:D}{m:Int}{ls0:List D}
noncomputable def cE(d0:D)(m:Int)(ls0:List D)(q:Int×Int)(u:Sl):Ev:=[.val d0,.val (.int m),.val (.tup ls0),.val (zBF q),u]
noncomputable abbrev cT1:Ev->Out (Bool×Ev):=(zCN (zBG (zDO (zB6 "tuple" (zAC 4)))) (zCN (gB (g2 neD (gN zDS [(zAC 4)]) (gC (.int 2)))) (zCN (zBG (zDO (zBV zAW [(g2 ixD (zAC 4) (gC (.int 0)))]))) (zBG (zDO (zBV zAW [(g2 ixD (zAC 4) (gC (.int 1)))]))))))
noncomputable abbrev cT2:Ev->Out (Bool×Ev):=(zCN (gB (g2 ltD (gN zVH [(zAC 4)]) (gC (.int 0)))) (zCN (gB (g2 geD (gN zVI [(zAC 4)]) (zAC 1))) (zCN (gB (g2 eqD (g2 ixD (zAC 4) (gC (.int 0))) (g2 ixD (zAC 4) (gC (.int 1))))) (gB (g2 leT (zAC 4) (zAC 3))))))
noncomputable abbrev cB:GS:=(zBA (zC6 cT1
 (zC1 (gC (.bl false)))
 gNx)
 (zBA (zC6 cT2
 (zC1 (gC (.bl false)))
 gNx)
 (zBQ (.nm 3) (zAC 4))))
theorem ix2{x y:D}:ixD (.tup [x,y]) (.int 0)=.ok x/\ixD (.tup [x,y]) (.int 1)=.ok y:=⟨zZB (zJZ (j:=0) rfl),zZB (zJZ (j:=1) rfl)⟩
theorem zU2{x y:D}{q:Int×Int}:cT1 (cE d0 m ls0 q (.val (.tup [x,y])))=.ok (!isI x||!isI y,cE d0 m ls0 q (.val (.tup [x,y]))):=by
 refine zC0 (ds:=[x,y]) rfl ((zE0 ((zD7 (i:=4) (ds:=[x,y]) rfl).trans rfl) ?_))
 exact zE1 (zBL (zEG (zBP (ds:=[x]) (zAS (zAO (x:=.tup [x,y]) (y:=.int 0) rfl rfl ix2.1)) (zEQ x)) rfl)) (zBL (zEG (zBP (ds:=[y]) (zAS (zAO (x:=.tup [x,y]) (y:=.int 1) rfl rfl ix2.2)) (zEQ y)) rfl))
theorem zU3{a b:Int}{q:Int×Int}:cT2 (cE d0 m ls0 q (.val (zBF (a,b))))=.ok (decide (min a b<0)||(decide (m<=max a b)||(decide (a=b)||HT.lexLe [a,b] [q.1,q.2])),cE d0 m ls0 q (.val (zBF (a,b)))):=by
 refine zE1 (zCK (zAO (x:=.int (min a b)) (zDF (zAS (d:=zBF (a,b)) rfl) rfl) (y:=.int 0) rfl rfl)) (zE1 (zCK (zAO (x:=.int (max a b)) (zDF (zAS (d:=zBF (a,b)) rfl) rfl) (y:=.int m) rfl rfl)) (zE1 (zCK (zAO (x:=.int a) (y:=.int b) (zAO (x:=zBF (a,b)) (y:=.int 0) rfl rfl ix2.1) (zAO (x:=zBF (a,b)) (y:=.int 1) rfl rfl ix2.2) (zF0 _ _))) (zCK (zAO (x:=zBF (a,b)) (y:=zBF q) rfl rfl rfl))))
theorem zL1:∀(ds:List D) (q:Int×Int) (u:Sl),
  (chk m q ds=true/\∃q' u',zDL (.nm 4) cB ds (cE d0 m ls0 q u)=.ok (.nx (cE d0 m ls0 q' u')))\/(chk m q ds=false/\∃E',zDL (.nm 4) cB ds (cE d0 m ls0 q u)=.ok (.rt false (.bl false) E'))
 |[],q,u=>.inl ⟨rfl,q,u,rfl⟩
 |d::ds,q,u=>by
  have tg:gTg (.nm 4) d (cE d0 m ls0 q u)=.ok (cE d0 m ls0 q (.val d)):=rfl
  have stop:lnP m d=none->cT1 (cE d0 m ls0 q (.val d))=.ok (true,cE d0 m ls0 q (.val d))->(chk m q (d::ds)=true/\∃q' u',zDL (.nm 4) cB (d::ds) (cE d0 m ls0 q u)=.ok (.nx (cE d0 m ls0 q' u')))\/(chk m q (d::ds)=false/\∃E',zDL (.nm 4) cB (d::ds) (cE d0 m ls0 q u)=.ok (.rt false (.bl false) E')):=λhn ht=>by
   refine .inr ⟨by rw[chk,hn],cE d0 m ls0 q (.val d),?_⟩
   rw[zDL]
   exact zAG tg (zAG (zA6 (zD5 ht (zAV (d:=.bl false) rfl))) rfl)
  rcases zMZ d with⟨es,rfl⟩|h
  ·rcases zGZ es with⟨x,y,rfl⟩|hl
   ·have t1:=zU2 (d0:=d0) (m:=m) (ls0:=ls0) (x:=x) (y:=y) (q:=q)
    cases hx:isI x with
    |false =>
     rw[hx] at t1
     exact stop (by cases x<;>first|rfl|cases hx) t1
    |true =>
     rw[hx] at t1
     cases hy:isI y with
     |false =>
      rw[hy] at t1
      exact stop (by cases x<;>first|rfl|(cases y<;>first|rfl|cases hy)) t1
     |true =>
      rw[hy] at t1
      obtain⟨a,rfl⟩:∃m,x=.int m:=by cases x<;>first|exact⟨_,rfl⟩|cases hx
      obtain⟨b,rfl⟩:∃m,y=.int m:=by cases y<;>first|exact⟨_,rfl⟩|cases hy
      have t2:=zU3 (d0:=d0) (m:=m) (ls0:=ls0) (a:=a) (b:=b) (q:=q)
      have key:chk m q (.tup [.int a,.int b]::ds)=(!(decide (min a b<0)||(decide (m<=max a b)||(decide (a=b)||HT.lexLe [a,b] [q.1,q.2])))&&chk m (a,b) ds):=by
       rw[chk,lnP]
       rw[zZG]
       by_cases c:0<=a/\a<m/\0<=b/\b<m/\a≠b
       ·obtain⟨c1,c2,c3,c4,c5⟩:=c
        rw[if_pos (by simp[plB,c1,c2,c3,c4,c5])]
        rw[decide_eq_false (by lia),decide_eq_false (by lia),decide_eq_false c5]
        simp
       ·rw[if_neg (by simp only[plB,Bool.and_eq_true,decide_eq_true_eq];intro z;exact c ⟨z.1.1,z.1.2,z.2.1.1,z.2.1.2,z.2.2⟩)]
        by_cases e1:min a b<0
        ·simp[e1]
        ·by_cases e2:m<=max a b
         ·simp[e2]
         ·by_cases e3:a=b
          ·simp[e3]
          ·exact absurd ⟨by lia,by lia,by lia,by lia,e3⟩ c
      cases hc:(decide (min a b<0)||(decide (m<=max a b)||(decide (a=b)||HT.lexLe [a,b] [q.1,q.2]))) with
      |true =>
       rw[hc] at t2 key
       refine .inr ⟨key,cE d0 m ls0 q (.val (.tup [.int a,.int b])),?_⟩
       rw[zDL]
       exact zAG tg (zAG (zAK (zDE t1 rfl) (zA6 (zD5 t2 (zAV (d:=.bl false) rfl)))) rfl)
      |false =>
       rw[hc] at t2 key
       have st:zDL (.nm 4) cB (.tup [.int a,.int b]::ds) (cE d0 m ls0 q u)=zDL (.nm 4) cB ds (cE d0 m ls0 (a,b) (.val (.tup [.int a,.int b]))):=by
        rw[zDL]
        exact zAG tg (zAG (zAK (zDE t1 rfl) (zAK (zDE t2 rfl) (zA3 (d:=.tup [.int a,.int b]) rfl rfl))) rfl)
       rw[st,key,Bool.not_false,Bool.true_and]
       exact zL1 ds (a,b) _
   ·refine stop (zPE hl) (zC0 (ds:=es) rfl (zJL ((zD7 (i:=4) rfl).trans ?_)))
    rw[decide_eq_true hl]
  ·exact stop (zSO h) (zKT (i:=4) rfl h)
end
theorem zRV(d:D):zB4 [.val d]=.ok (false,.bl (zM0 d),.non):=by
 rcases zMZ d with⟨ds,rfl⟩|h
 ·rcases zGZ ds with⟨x,y,rfl⟩|hl
  ·have t1:zCN (zBG (zDO (zB6 "tuple" (zAC 0)))) (zCN (gB (g2 neD (gN zDS [(zAC 0)]) (gC (.int 2)))) (zBG (zDO (zBV zAW [(g2 ixD (zAC 0) (gC (.int 0)))])))) [.val (.tup [x,y]),.no,.no,.no,.no]=.ok (!isI x,[.val (.tup [x,y]),.no,.no,.no,.no]) :=
    zC0 (ds:=[x,y]) rfl (zE0 ((zD7 (i:=0) (ds:=[x,y]) rfl).trans rfl) (zBL (zEG (zBP (ds:=[x]) (zAS (zAO (x:=.tup [x,y]) (y:=.int 0) rfl rfl ix2.1)) (zEQ x)) rfl)))
   cases hx:isI x with
   |false =>
    rw[hx] at t1
    rw[zL0 hx]
    exact zA7 (zA6 (zD5 t1 (zAV (d:=.bl false) rfl))) rfl
   |true =>
    rw[hx] at t1
    obtain⟨m,rfl⟩:∃m,x=.int m:=by cases x<;>first|exact⟨_,rfl⟩|cases hx
    obtain⟨E2,hE2⟩:∃E2:Ev,E2=[.val (.tup [.int m,y]),.val (.int m),.val y,.no,.no]:=⟨_,rfl⟩
    have v1:zAC 1 E2=.ok (.int m,E2):=by rw[hE2];rfl
    have v2:zAC 2 E2=.ok (y,E2):=by rw[hE2];rfl
    have s1:zBQ (.tp [(.nm 1),(.nm 2)]) (zAC 0) [.val (.tup [.int m,y]),.no,.no,.no,.no]=.ok (.nx E2):=zA3 (d:=.tup [.int m,y]) rfl (by rw[hE2];rfl)
    have c24:=zPI v1
    by_cases hm:1<=m/\m<=24
    ·rw[decide_eq_true hm] at c24
     rcases zMZ y with⟨ls,rfl⟩|hy
     ·have t3:zCN (zBG (gB (zDV leD leD (gC (.int 1)) (zAC 1) (gC (.int 24))))) (zCN (zBG (zDO (zB6 "tuple" (zAC 2)))) (gB (g2 gtD (gN zDS [(zAC 2)]) (gC (.int 120))))) E2=.ok (!decide (ls.length<=120),E2):=zE0 (zBL c24) (zC0 v2 (zXV v2))
      show _=Out.ok (false,D.bl (decide (1<=m/\m<=24)&&(decide (ls.length<=120)&&chk m (-1,-1) ls)),D.non)
      rw[decide_eq_true hm,Bool.true_and]
      by_cases hl:ls.length<=120
      ·rw[decide_eq_true hl] at t3
       rw[decide_eq_true hl,Bool.true_and]
       have s3:zBQ (.nm 3) (zAX [(g1 zJT (gC (.int 1))),(g1 zJT (gC (.int 1)))]) E2=.ok (.nx (cE (.tup [.int m,.tup ls]) m ls (-1,-1) .no)):=by
        refine zA3 (d:=.tup [.int (-1),.int (-1)]) (E':=E2) (zA9 (zAF (d:=.int (-1)) rfl (zAS (d:=.int (-1)) rfl)) (show 2<10000 by decide)) (by rw[hE2];rfl)
       have fo:zMX (zED (zAC 2)) (.nm 4) cB (cE (.tup [.int m,.tup ls]) m ls (-1,-1) .no)=zDL (.nm 4) cB ls (cE (.tup [.int m,.tup ls]) m ls (-1,-1) .no):=rfl
       rcases zL1 (d0:=.tup [.int m,.tup ls]) (m:=m) (ls0:=ls) ls (-1,-1) .no with⟨hc,q',u',e⟩|⟨hc,E',e⟩
       ·rw[hc]
        exact zA7 (zAK (zDE t1 rfl) (zAK s1 (zAK (zDE t3 rfl) (zAK s3 (zAK (fo.trans e) (zAV (d:=.bl true) rfl)))))) rfl
       ·rw[hc]
        exact zA7 (zAK (zDE t1 rfl) (zAK s1 (zAK (zDE t3 rfl) (zAK s3 (zA6 (fo.trans e)))))) rfl
      ·rw[decide_eq_false hl] at t3
       rw[decide_eq_false hl,Bool.false_and]
       exact zA7 (zAK (zDE t1 rfl) (zAK s1 (zA6 (zD5 t3 (zAV (d:=.bl false) rfl))))) rfl
     ·rw[zFE hy]
      exact zA7 (zAK (zDE t1 rfl) (zAK s1 (zA6 (zD5 (zE0 (zBL c24) (zKT v2 hy)) (zAV (d:=.bl false) rfl))))) rfl
    ·rw[decide_eq_false hm] at c24
     have:zM0 (.tup [.int m,y])=false:=by
      rcases zMZ y with⟨ls,rfl⟩|hy
      ·show(decide (1<=m/\m<=24)&&_)=false
       rw[decide_eq_false hm];rfl
      ·exact zFE hy
     rw[this]
     exact zA7 (zAK (zDE t1 rfl) (zAK s1 (zA6 (zD5 (zJL (zBL c24)) (zAV (d:=.bl false) rfl))))) rfl
  ·rw[zLZ hl]
   refine zA7 (zA6 (E1:=[.val (.tup ds),.no,.no,.no,.no]) (zD5 (zC0 (i:=0) rfl (zJL ((zD7 rfl).trans ?_))) (zAV (d:=.bl false) rfl))) rfl
   rw[decide_eq_true hl];rfl
 ·rw[zPH h]
  exact zA7 (zA6 (E1:=[.val d,.no,.no,.no,.no]) (zD5 (zKT (i:=0) rfl h) (zAV (d:=.bl false) rfl))) rfl
def okS(x:Str):Prop:=∀c∈x.cps.toList,c<0x110000
theorem zPJ(x:Str):PyData.canLay0 (.str x)=true↔okS x:=by
 show PyData.strOk x=true↔_
 unfold PyData.strOk okS
 rw[Array.all_eq_true']
 simp
theorem zB7(s:String):okS (Str.ofString s):=by
 unfold okS
 rw[Str.ofString_eq_toList]
 intro c hc
 obtain⟨ch,_,rfl⟩:=List.mem_map.mp (by simpa using hc)
 have:=ch.valid
 unfold UInt32.isValidChar Nat.isValidChar at this
 show ch.val.toNat<_
 lia
theorem zEI{a b:Str}(ha:okS a)(hb:okS b):okS (a++b):=by
 intro c hc
 have:c∈(a.cps++b.cps).toList:=hc
 rw[Array.toList_append,List.mem_append] at this
 exact this.elim (ha c) (hb c)
theorem zL2:∀(ts:List Str) (k:Nat) (acc:Str),okS acc->(∀t∈ts,okS t)->okS (textFrom k acc ts)
 |[],_,acc,h,_=>h
 |t::ts,k,acc,h,ht=>zL2 ts (k+1) _ (zEI (zEI h (zB7 _)) (ht t List.mem_cons_self)) λu hu=>ht u (List.mem_cons_of_mem _ hu)
theorem zRW{ts:List Str}(h:∀t∈ts,okS t):okS (listText ts):=zEI (zL2 ts 0 _ (zB7 _) h) (zB7 _)
theorem zL3:∀{ts:List Str},(∀t∈ts,okS t)->okS (Str.join ", " ts)
 |[],_=>λc hc=>by cases hc
 |[x],h=>h x List.mem_cons_self
 |x::y::r,h=>zEI (zEI (h x List.mem_cons_self) (zB7 _)) (zL3 λt ht=>h t (List.mem_cons_of_mem _ ht))
theorem zPK{ts:List Str}(h:∀t∈ts,okS t):okS (tupleText ts):=zEI (zEI (zB7 _) (zL3 h)) (zB7 _)
theorem zSQ(s:String):(Str.ofString s).length=s.length:=by
 rw[Str.ofString_eq_toList]
 show((s.toList.map Char.toNat).toArray).size=_
 rw[List.size_toArray,List.length_map,String.length_toList]
theorem zL4{x:Str}(h:okS x):(D.str x).py=some (.str x):=by rw[D.py,if_pos ((zPJ x).mpr h)]
structure PtP(p:PyData):Prop where
 sh:p.showable=true
 dp:p.depth<=3
 ok:okS (zMY p)
 ln:(zMY p).length<5000
def Pt(x:D):Prop:=∃p,x.py=some p/\PtP p
theorem Pt.str{x:D}(h:Pt x):∃s,zSH [x]=.ok (.str s)/\Pt (.str s):=by
 obtain⟨p,e,P⟩:=h
 refine⟨zMY p,?_,.str (zMY p),?_,rfl,Nat.zero_le _,P.ok,P.ln⟩
 ·unfold zSH
  simp only[e]
  rw[if_pos ⟨P.sh,by have:=P.dp;lia,by have:=P.ln;lia⟩]
 ·rw[D.py,if_pos ((zPJ _).mpr P.ok)]
theorem Pt.py{x:D}(h:Pt x):∃p,x.py=some p:=let ⟨p,e,_⟩:=h;⟨p,e⟩
theorem Pt.int{i:Int}(h:i.natAbs<2 ^ 200):Pt (.int i):=by
 have hl:i.natAbs.log2<200:=by
  by_cases h0:i.natAbs=0
  ·rw[h0];decide
  ·exact(Nat.log2_lt h0).mpr h
 refine⟨.int i,rfl,?_,Nat.zero_le _,zB7 _,?_⟩
 ·simp only[PyData.showable];exact decide_eq_true (by lia)
 ·show(Str.ofString (toString i)).length<5000
  rw[zSQ]
  have:=int_text_length_le (a:=i) (k:=200) (by decide) hl
  lia
theorem Pt.bl(b:Bool):Pt (.bl b):=⟨.bool b,rfl,rfl,Nat.zero_le _,by cases b<;>exact zB7 _,by cases b<;>decide +kernel⟩
theorem Pt.non:Pt .non:=⟨.none,rfl,rfl,Nat.zero_le _,zB7 _,by decide +kernel⟩
noncomputable def atoms:List D:=[.int 0,.int 1,.int (-1),.int 24,.int 25,.bl true,.non,.str "",.str "0",.int (10 ^ 59)]
structure At(p:PyData):Prop where
 sh:p.showable=true
 dp:p.depth=0
 ok:okS p.shown
 ln:p.shown.length<300
theorem zPL{x:Str}(h:x.cps.toList.all (λc=>decide (c<0x110000))=true):okS x:=λc hc=>of_decide_eq_true (List.all_eq_true.mp h c hc)
theorem At.int{i:Int}(h:i.natAbs<2 ^ 200):At (.int i):=by
 have hl:i.natAbs.log2<200:=by
  by_cases h0:i.natAbs=0
  ·rw[h0];decide
  ·exact(Nat.log2_lt h0).mpr h
 refine⟨?_,rfl,zB7 _,?_⟩
 ·simp only[PyData.showable];exact decide_eq_true (by lia)
 ·show(Str.ofString (toString i)).length<300
  rw[zSQ]
  have:=int_text_length_le (a:=i) (k:=200) (by decide) hl
  lia
theorem zIB{d:D}(h:d∈atoms):Pt d/\∃p,d.py=some p/\At p:=by
 have I:∀i:Int,i.natAbs<2 ^ 200->Pt (.int i)/\∃p,(D.int i).py=some p/\At p:=λi hi=>⟨Pt.int hi,_,rfl,At.int hi⟩
 simp only[atoms,List.mem_cons,List.not_mem_nil,or_false] at h
 rcases h with rfl|rfl|rfl|rfl|rfl|rfl|rfl|rfl|rfl|rfl
 ·exact I _ (by decide)
 ·exact I _ (by decide)
 ·exact I _ (by decide)
 ·exact I _ (by decide)
 ·exact I _ (by decide)
 ·exact⟨Pt.bl true,_,rfl,rfl,rfl,zB7 _,by decide +kernel⟩
 ·exact⟨Pt.non,_,rfl,rfl,rfl,zB7 _,by decide +kernel⟩
 ·exact⟨⟨.str "",zL4 (zB7 _),rfl,Nat.zero_le _,zB7 _,by decide +kernel⟩,.str "",zL4 (zB7 _),rfl,rfl,zPL (by decide +kernel),by decide +kernel⟩
 ·exact⟨⟨.str "0",zL4 (zB7 _),rfl,Nat.zero_le _,zB7 _,by decide +kernel⟩,.str "0",zL4 (zB7 _),rfl,rfl,zPL (by decide +kernel),by decide +kernel⟩
 ·exact I _ (by decide +kernel)
def Any:Nat->D->Prop
 |0,d=>d∈atoms
 |k+1,d=>d∈atoms\/∃ds:List D,ds.length<=3/\(∀e∈ds,Any k e)/\(d=.lst ds\/d=.tup ds)
theorem zJP:∀{ds:List D},(∀e∈ds,∃p,e.py=some p)->∃ps,D.pys ds=some ps
 |[],_=>⟨[],by rw[D.pys]⟩
 |d::ds,h=>by
  obtain⟨p,e⟩:=h d List.mem_cons_self
  obtain⟨ps,e2⟩:=zJP λx hx=>h x (List.mem_cons_of_mem _ hx)
  exact⟨p::ps,by rw[D.pys,e,e2]⟩
theorem Any.py:∀{k:Nat} {d:D},Any k d->∃p,d.py=some p
 |0,_,h=>let ⟨_,p,e,_⟩:=zIB h;⟨p,e⟩
 |k+1,d,h=>by
  rcases h with h|⟨ds,_,h,e⟩
  ·obtain⟨_,p,e,_⟩:=zIB h;exact⟨p,e⟩
  ·obtain⟨ps,e2⟩:=zJP λx hx=>Any.py (h x hx)
   rcases e with rfl|rfl
   ·exact⟨_,by rw[D.py,e2];rfl⟩
   ·exact⟨_,by rw[D.py,e2];rfl⟩
structure Ats(n:Nat)(ps:List PyData):Prop where
 sh:PyData.showableAll ps=true
 dp:PyData.depthAll ps=0
 ok:∀t∈PyData.shownAll ps,okS t
 ln:((PyData.shownAll ps).map (·.length)).sum<=300 * n
 ct:(PyData.shownAll ps).length=n
theorem zSR:∀{ds:List D},(∀e∈ds,e∈atoms)->∃ps,D.pys ds=some ps/\Ats ds.length ps
 |[],_=>⟨[],by rw[D.pys],by simp[PyData.showableAll],by simp[PyData.depthAll],by simp[PyData.shownAll],by simp[PyData.shownAll],by simp[PyData.shownAll]⟩
 |d::ds,h=>by
  obtain⟨_,p,e,A⟩:=zIB (h d List.mem_cons_self)
  obtain⟨ps,e2,B⟩:=zSR λx hx=>h x (List.mem_cons_of_mem _ hx)
  refine⟨p::ps,by rw[D.pys,e,e2],?_,?_,?_,?_,?_⟩
  ·rw[PyData.showableAll,A.sh,B.sh];rfl
  ·rw[PyData.depthAll,A.dp,B.dp];rfl
  ·rw[PyData.shownAll]
   intro t ht
   rcases List.mem_cons.mp ht with rfl|ht
   ·exact A.ok
   ·exact B.ok t ht
  ·rw[PyData.shownAll,List.map_cons,List.sum_cons,List.length_cons]
   have:=A.ln
   have:=B.ln
   lia
  ·rw[PyData.shownAll,List.length_cons,List.length_cons,B.ct]
theorem Any.pt{d:D}(h:Any 1 d):Pt d:=by
 rcases h with h|⟨ds,hl,h,e⟩
 ·exact(zIB h).1
 ·obtain⟨ps,e2,B⟩:=zSR h
  have hd:=B.dp
  rcases e with rfl|rfl
  ·refine⟨.list ps,by rw[D.py,e2];rfl,by rw[PyData.showable];exact B.sh,by rw[PyData.depth,hd];decide,?_,?_⟩
   ·show okS (PyData.shown (.list ps))
    rw[PyData.shown];exact zRW B.ok
   ·show(PyData.shown (.list ps)).length<5000
    rw[PyData.shown]
    have:=listText_len_le (PyData.shownAll ps)
    have:=B.ln
    have:=B.ct
    lia
  ·refine⟨.tuple ps,by rw[D.py,e2];rfl,by rw[PyData.showable];exact B.sh,by rw[PyData.depth,hd];decide,?_,?_⟩
   ·show okS (PyData.shown (.tuple ps))
    rw[PyData.shown];exact zPK B.ok
   ·show(PyData.shown (.tuple ps)).length<5000
    rw[PyData.shown]
    have:=tupleText_len_le (PyData.shownAll ps)
    have:=B.ln
    have:=B.ct
    lia
def Th(t:Nat)(d:D):Prop:=∀(m:Int) (ls:List D),d=.tup [.int m,.tup ls]->m<=10 ^ 59+t/\ls.length<=200 * 4 ^ t/\(∀l∈ls,∃p,l.py=some p)/\∀x y,.tup [x,y]∈ls->Pt x/\Pt y
theorem zRX{ds:List D}:.tup ds∉atoms:=by simp[atoms]
theorem zL5{m:Int}(h:.int m∈atoms):m<=10 ^ 59:=by
 simp only[atoms,List.mem_cons,D.int.injEq,reduceCtorEq,false_or,or_false,List.not_mem_nil] at h
 lia
theorem Any.tup{k:Nat}{ds:List D}(h:Any (k+1) (.tup ds)):ds.length<=3/\∀e∈ds,Any k e:=by
 rcases h with h|⟨es,hl,h,e⟩
 ·exact absurd h zRX
 ·rcases e with e|e
  ·cases e
  ·injection e with e;subst e;exact⟨hl,h⟩
theorem Any.int{k:Nat}{m:Int}(h:Any k (.int m)):m<=10 ^ 59:=by
 cases k with
 |zero=>exact zL5 h
 |succ k =>
  rcases h with h|⟨es,_,_,e⟩
  ·exact zL5 h
  ·rcases e with e|e<;>cases e
theorem Any.th{d:D}(h:Any 4 d):Th 0 d:=λm ls e=>by
 subst e
 obtain⟨_,h1⟩:=h.tup
 have hm:=(h1 (.int m) (by simp)).int
 obtain⟨hl,h2⟩:=(h1 (.tup ls) (by simp)).tup
 refine⟨by lia,by simp;lia,λl hl=>(h2 l hl).py,λx y hxy=>?_⟩
 obtain⟨_,h3⟩:=(h2 _ hxy).tup
 exact⟨(h3 x (by simp)).pt,(h3 y (by simp)).pt⟩
noncomputable def cnt:Nat->Nat
 |0=>1
 |k+1=>2+3 * cnt k
theorem zPM{ge:G}{deep:D}{Q:D->Prop}{c:Nat}(hs:∀(u:Sl) (k:Nat) (b:D),Bag k b->k+c<800000->∃r b',ge [u,.val deep,.own true b]=.ok (r,[u,.val deep,.own true b'])/\Q r/\Bag (k+c) b') :
  ∀(ns acc:List D) (u:Sl) (k:Nat) (b:D),Bag k b->k+ns.length * c<800000->acc.length+ns.length<10000->∃rs u' b',zMK (.nm 0) zI7 (zQY ge) ns (.lst acc) [u,.val deep,.own true b]=.ok (.lst (acc++rs),[u',.val deep,.own true b'])/\rs.length=ns.length/\(∀r∈rs,Q r)/\Bag (k+ns.length * c) b'
 |[],acc,u,k,b,B,_,_=>⟨[],u,b,by rw[List.append_nil];rfl,rfl,λr h=>by simp at h,by simpa using B⟩
 |n::ns,acc,u,k,b,B,hk,hl=>by
  rw[List.length_cons,Nat.succ_mul] at hk
  rw[List.length_cons] at hl
  obtain⟨r,b1,e1,q1,B1⟩:=hs (.val n) k b B (by lia)
  obtain⟨rs,u',b2,e2,l2,q2,B2⟩:=zPM hs ns (acc++[r]) (.val n) (k+c) b1 B1 (by lia) (by rw[List.length_append,List.length_singleton];lia)
  refine⟨r::rs,u',b2,?_,by rw[List.length_cons,l2];rfl,λx hx=>?_,B2.mono (by rw[List.length_cons,Nat.succ_mul];lia)⟩
  ·rw[zMK]
   refine zAG (a:=[.val n,.val deep,.own true b]) rfl (zAG (a:=(true,[.val n,.val deep,.own true b])) rfl ?_)
   show(if true=true then _ else _)=_
   rw[if_pos rfl]
   refine zAG (zO2 e1 (by lia)) ?_
   rw[e2,List.append_assoc];rfl
  ·rcases List.mem_cons.mp hx with rfl|hx
   ·exact q1
   ·exact q2 x hx
theorem zPN:atoms.length=10:=rfl
theorem zRY{k:Nat}{d:D}(h:d∈atoms):Any k d:=by
 cases k with
 |zero=>exact h
 |succ k=>exact .inl h
theorem zL6:∀(deep n k:Nat) (d:D),deep<n->Bag k d->k+cnt deep<800000->∃r d',zAT n [.own true d,.val (.int deep)]=.ok (false,r,d')/\Any deep r/\Bag (k+cnt deep) d'
 |deep,0,k,d,h,_,_=>by lia
 |deep,n+1,k,d,hn,B,hk=>by
  have c1:1<=cnt deep:=by cases deep<;>simp only[cnt]<;>lia
  have s1:zBQ (.nm 2) (zDJ [(gC (.int 0)),(gC (.int 1)),(g1 zJT (gC (.int 1))),(gC (.int 24)),(gC (.int 25)),(gC (.bl true)),(gC .non),(gC (.str "")),(gC (.str "0")),(g2 zLM (gC (.int 10)) (gC (.int 59)))]) [.own true d,.val (.int deep),.no,.no,.no]=.ok (.nx [.own true d,.val (.int deep),.val (.lst atoms),.no,.no]):=zA3 (d:=.lst atoms) rfl rfl
  obtain⟨w,d1,e1,w0,w1,B1⟩:=tk (g:=gC (.int 14)) (E:=[.own true d,.val (.int deep),.val (.lst atoms),.no,.no]) rfl B (by lia) rfl (by decide) (by decide)
  obtain⟨E3,hE3⟩:∃E3:Ev,E3=[.own true d1,.val (.int deep),.val (.lst atoms),.val (.int w),.no]:=⟨_,rfl⟩
  have s2:zBQ (.nm 3) (zAI zAB 0 [(gC (.int 14))]) [.own true d,.val (.int deep),.val (.lst atoms),.no,.no]=.ok (.nx E3):=by rw[hE3];exact zA3 e1 rfl
  have v2:zAC 2 E3=.ok (.lst atoms,E3):=by rw[hE3];rfl
  have v3:zAC 3 E3=.ok (.int w,E3):=by rw[hE3];rfl
  have t3:zCN (gB (g2 ltD (zAC 3) (gC (.int 10)))) (gB (g2 eqD (zAC 1) (gC (.int 0)))) E3=.ok (decide (w<10)||decide ((deep:Int)=0),E3):=by
   rw[hE3]
   refine zE1 (zCK (zAO (x:=.int w) (y:=.int 10) rfl rfl rfl)) (zCK (zAO (x:=.int deep) (y:=.int 0) rfl rfl (zF0 _ _)))
  by_cases ht:w<10\/(deep:Int)=0
  ·have:(decide (w<10)||decide ((deep:Int)=0))=true:=by simpa using ht
   rw[this] at t3
   have hm:=Int.emod_nonneg w (show(10:Int)≠0 by decide)
   have hm2:=Int.emod_lt_of_pos w (show(0:Int)<10 by decide)
   have hi:(w % 10).toNat<atoms.length:=by rw[zPN];lia
   refine⟨atoms[(w % 10).toNat],d1,?_,zRY (List.getElem_mem hi),B1.mono (by lia)⟩
   refine zA7 (E':=E3) (zAK s1 (zAK s2 (zA6 (zD5 t3 (zAV (zAO (x:=.lst atoms) (y:=.int (w % 10)) v2 (zAO (x:=.int w) (y:=.int 10) v3 rfl rfl) (zXT (zGV hm (List.getElem?_eq_getElem hi))))))))) (by rw[hE3];rfl)
  ·have:(decide (w<10)||decide ((deep:Int)=0))=false:=by simpa using ht
   rw[this] at t3
   obtain⟨dp,rfl⟩:∃dp,deep=dp+1:=⟨deep-1,by lia⟩
   simp only[cnt] at hk
   obtain⟨c,d2,e2,c0,c1',B2⟩:=tk (g:=gC (.int 4)) (E:=E3) (by rw[hE3];rfl) B1 (by lia) rfl (by decide) (by decide)
   have hr:zEC (zAI zAB 0 [(gC (.int 4))]) E3=.ok (zFA 0 c.toNat,E3.set 0 (.own true d2)):=zH0 e2 ⟨by lia,by lia⟩
   have hlen:(zFA 0 c.toNat).length=c.toNat:=by simp[zFA]
   obtain⟨rs,u',b',e3,l3,q3,B3⟩:=zPM (ge:=zAI (zAT n) 2 [(g2 zLK (zAC 1) (gC (.int 1)))]) (deep:=.int ((dp+1:Nat):Int)) (Q:=Any dp) (c:=cnt dp) (λu k b B hk=>by
    obtain⟨r,b',e,q,B'⟩:=zL6 dp n k b (by lia) B (by lia)
    refine⟨r,b',zB5 (i:=2) (E1:=[u,.val (.int ((dp+1:Nat):Int)),.own true b]) (t:=true) (t2:=true) (d0:=b) (d:=b) rfl (zAS (zAO (E1:=[u,.val (.int ((dp+1:Nat):Int)),.own true b]) (x:=.int ((dp+1:Nat):Int)) (y:=.int 1) rfl rfl (d:=.int dp) ?_)) rfl e,q,B'⟩
    show Out.ok (D.int (((dp+1:Nat):Int)-1))=_
    congr 2;lia) (zFA 0 c.toNat) [] .no (k+1+1) d2 B2 (by
     rw[hlen]
     have:c.toNat * cnt dp<=3 * cnt dp:=Nat.mul_le_mul_right _ (by lia)
     lia) (by rw[hlen,List.length_nil];lia)
   rw[List.nil_append] at e3
   have hc:zC9 (zEC (zAI zAB 0 [(gC (.int 4))])) 1 [1,0] (.nm 0) zI7 (zAI (zAT n) 2 [(g2 zLK (zAC 1) (gC (.int 1)))]) E3=.ok (.lst rs,[.own true b',.val (.int ((dp+1:Nat):Int)),.val (.lst atoms),.val (.int w),.no]):=by
    refine zAG hr (zAG (a:=(.lst rs,[u',.val (.int ((dp+1:Nat):Int)),.own true b'])) ?_ ?_)
    ·rw[hE3];exact e3
    ·rw[hE3];rfl
   have Bf:Bag (k+(2+3 * cnt dp)) b':=B3.mono (by
    rw[hlen]
    have:c.toNat * cnt dp<=3 * cnt dp:=Nat.mul_le_mul_right _ (by lia)
    lia)
   have hl3:rs.length<=3:=by rw[l3,hlen];lia
   obtain⟨E5,hE5⟩:∃E5:Ev,E5=[.own true b',.val (.int ((dp+1:Nat):Int)),.val (.lst atoms),.val (.int w),.val (.lst rs)]:=⟨_,rfl⟩
   have s4:zBQ (.nm 4) (zC9 (zEC (zAI zAB 0 [(gC (.int 4))])) 1 [1,0] (.nm 0) zI7 (zAI (zAT n) 2 [(g2 zLK (zAC 1) (gC (.int 1)))])) E3=.ok (.nx E5):=zA3 hc (by rw[hE5];rfl)
   have t5:gB (g2 ltD (zAC 3) (gC (.int 12))) E5=.ok (decide (w<12),E5):=by rw[hE5];exact zCK (zAO (x:=.int w) (y:=.int 12) rfl rfl rfl)
   by_cases h12:w<12
   ·rw[decide_eq_true h12] at t5
    refine⟨.lst rs,b',zA7 (E':=E5) (zAK s1 (zAK s2 (zAK (E1:=E3) (zDE t3 rfl) (zAK s4 (zAV (zAG t5 (by rw[hE5];rfl))))))) (by rw[hE5];rfl),.inr ⟨rs,hl3,q3,.inl rfl⟩,Bf⟩
   ·rw[decide_eq_false h12] at t5
    refine⟨.tup rs,b',zA7 (E':=E5) (zAK s1 (zAK s2 (zAK (E1:=E3) (zDE t3 rfl) (zAK s4 (zAV (zAG t5 (by rw[hE5];rfl))))))) (by rw[hE5];rfl),.inr ⟨rs,hl3,q3,.inr rfl⟩,Bf⟩
noncomputable def zXX:D->Bool
 |.tup ds=>decide (ds.length=2)
 |_=>false
theorem zU4{d:D}(h:zXX d=true):∃x y,d=.tup [x,y]:=by
 rcases zMZ d with⟨ds,rfl⟩|hn
 ·rcases zGZ ds with⟨x,y,rfl⟩|hl
  ·exact⟨x,y,rfl⟩
  ·exact absurd (of_decide_eq_true h) hl
 ·cases d<;>first|cases h|exact absurd rfl (hn _)
theorem zU5{t:Nat}{d:D}(T:Th t d)(ht:t<=2):∃b,zAU [.val d]=.ok (false,.bl b,.non)/\(b=true->∃m ls,d=.tup [.int m,.tup ls]/\1<=m/\∀l∈ls,∃x y,l=.tup [x,y]):=by
 have no:∀{h:false=true->∃m ls,d=.tup [.int m,.tup ls]/\1<=m/\∀l∈ls,∃x y,l=.tup [x,y]},(zCN (zBG (zDO (zB6 "tuple" (zAC 0)))) (zCN (gB (g2 neD (gN zDS [(zAC 0)]) (gC (.int 2)))) (zCN (zBG (zDO (zBV zAW [(g2 ixD (zAC 0) (gC (.int 0)))]))) (gB (g2 ltD (g2 ixD (zAC 0) (gC (.int 0))) (gC (.int 1))))))) [.val d]=.ok (true,[.val d])->zAU [.val d]=.ok (false,.bl false,.non):=λe=>zA7 (zA6 (zD5 e (zAV (d:=.bl false) rfl))) rfl
 rcases zMZ d with⟨ds,rfl⟩|h
 ·rcases zGZ ds with⟨x,y,rfl⟩|hl
  ·have l2:=(zD7 (i:=0) (E:=[.val (.tup [x,y])]) (ds:=[x,y]) rfl).trans rfl
   have w:zBV zAW [(g2 ixD (zAC 0) (gC (.int 0)))] [.val (.tup [x,y])]=.ok (.bl (isI x),[.val (.tup [x,y])]):=zBP (ds:=[x]) (zAS (zAO (x:=.tup [x,y]) (y:=.int 0) rfl rfl ix2.1)) (zEQ x)
   cases hx:isI x with
   |false =>
    rw[hx] at w
    exact⟨false,no (h:=λz=>by cases z) (zC0 (ds:=[x,y]) rfl (zE0 l2 (zJL (zBL (b:=false) (zEG w rfl))))),λz=>by cases z⟩
   |true =>
    rw[hx] at w
    obtain⟨m,rfl⟩:∃m,x=.int m:=by cases x<;>first|exact⟨_,rfl⟩|cases hx
    have lt:gB (g2 ltD (g2 ixD (zAC 0) (gC (.int 0))) (gC (.int 1))) [.val (.tup [.int m,y])]=.ok (decide (m<1),[.val (.tup [.int m,y])]):=zCK (zAO (x:=.int m) (y:=.int 1) (zAO (x:=.tup [.int m,y]) (y:=.int 0) rfl rfl ix2.1) rfl rfl)
    by_cases hm:m<1
    ·rw[decide_eq_true hm] at lt
     exact⟨false,no (h:=λz=>by cases z) (zC0 (ds:=[.int m,y]) rfl (zE0 l2 (zE0 (zBL (b:=true) (zEG w rfl)) lt))),λz=>by cases z⟩
    ·rw[decide_eq_false hm] at lt
     have t1:=zC0 (i:=0) (E:=[.val (.tup [.int m,y])]) (ds:=[.int m,y]) rfl (zE0 l2 (zE0 (zBL (b:=true) (zEG w rfl)) lt))
     have v1:g2 ixD (zAC 0) (gC (.int 1)) [.val (.tup [.int m,y])]=.ok (y,[.val (.tup [.int m,y])]):=zAO (x:=.tup [.int m,y]) (y:=.int 1) rfl rfl ix2.2
     rcases zMZ y with⟨ls,rfl⟩|hy
     ·obtain⟨_,hlen,_,_⟩:=T m ls rfl
      have hp:4 ^ t<=4 ^ 2:=Nat.pow_le_pow_right (by decide) ht
      have hc:zC9 (zED (g2 ixD (zAC 0) (gC (.int 1)))) 1 [] (.nm 0) zI7 (zPT (zB6 "tuple" (zAC 0)) (g2 eqD (gN zDS [(zAC 0)]) (gC (.int 2)))) [.val (.tup [.int m,.tup ls])]=.ok (.lst (ls.map λl=>.bl (zXX l)),[.val (.tup [.int m,.tup ls])]):=by
       refine zIA (λl=>.bl (zXX l)) (λE=>∃u,E=[u]) (zO4 v1) ⟨_,rfl⟩ (by lia) (λl _ E hE=>?_) (λEc _=>zH7 Ec 1 0 _)
       obtain⟨u,rfl⟩:=hE
       refine⟨_,rfl,[.val l],?_,_,rfl⟩
       rcases zMZ l with⟨es,rfl⟩|hn
       ·refine zRM (E1:=[.val (.tup es)]) (zEH (d:=.tup es) rfl) (zAO (x:=.int es.length) (zDF (zAS (d:=.tup es) rfl) rfl) (y:=.int 2) rfl ?_)
        rw[zF0]
        show Out.ok (D.bl _)=Out.ok (D.bl (decide (es.length=2)))
        congr 2
        exact decide_eq_decide.mpr (by lia)
       ·have:zXX l=false:=by cases l<;>first|rfl|exact absurd rfl (hn _)
        rw[this]
        refine zRN ((zEH (d:=l) rfl).trans ?_)
        rw[zH9 hn];rfl
      refine⟨ls.all zXX,zA7 (zAK (zDE t1 rfl) (zAK (zDE (zBL (b:=true) (zEG (zEH v1) rfl)) rfl) (zAV (zDF (zAS hc) (zKU _ _))))) rfl,λhb=>⟨m,ls,rfl,by lia,λl hl=>zU4 (List.all_eq_true.mp hb l hl)⟩⟩
     ·refine⟨false,zA7 (zAK (zDE t1 rfl) (zA6 (zD5 (zBL (b:=false) (zEG (zEH v1) ?_)) (zAV (d:=.bl false) rfl)))) rfl,λz=>by cases z⟩
      rw[zH9 hy];rfl
  ·refine⟨false,no (h:=λz=>by cases z) (zC0 (ds:=ds) rfl (zJL ((zD7 (i:=0) rfl).trans ?_))),λz=>by cases z⟩
   rw[decide_eq_true hl]
 ·exact⟨false,no (h:=λz=>by cases z) (zKT (i:=0) rfl h),λz=>by cases z⟩
structure Lb(r:D):Prop where
 py:∃p,r.py=some p
 pt:∀x y,r=.tup [x,y]->Pt x/\Pt y
theorem zPO{ds:List D}(h:∀e∈ds,∃p,e.py=some p):∃p,(D.tup ds).py=some p:=by
 obtain⟨ps,e⟩:=zJP h
 exact⟨_,by rw[D.py,e];rfl⟩
theorem zXY{ds:List D}(h:∀e∈ds,∃p,e.py=some p):∃p,(D.lst ds).py=some p:=by
 obtain⟨ps,e⟩:=zJP h
 exact⟨_,by rw[D.py,e];rfl⟩
theorem Lb.two{x y:D}(hx:Pt x)(hy:Pt y):Lb (.tup [x,y]) :=
 ⟨zPO λe he=>by
  simp only[List.mem_cons,List.not_mem_nil,or_false] at he
  rcases he with rfl|rfl
  ·exact hx.py
  ·exact hy.py,λa b e=>by cases e;exact⟨hx,hy⟩⟩
theorem zZH{x y:D}{m:Int}{k:Nat}{d:D}(hx:Pt x)(hy:Pt y)(h1:1<=m)(h2:m<=10 ^ 59+20)(B:Bag k d)(hk:k<700000) :
  ∃r d',zBI [.own true d,.val (.int m),.val (.tup [x,y])]=.ok (false,r,d')/\Lb r/\Bag (k+100) d':=by
 obtain⟨s,es,ps⟩:=hx.str
 have hm:Pt (.int m):=Pt.int (by lia)
 have hm3:Pt (.int (m+3)):=Pt.int (by lia)
 have hi1:Pt (.int (-1)):=Pt.int (by decide)
 obtain⟨l1,hl1⟩:∃l1:List D,l1=[.tup [y,x],.tup [x,x],.tup [x,.int m],.tup [.int (m+3),y],.tup [x,.int (-1)],.lst [x,y]]:=⟨_,rfl⟩
 obtain⟨l2,hl2⟩:∃l2:List D,l2=l1++[.tup [x,y,.int 0],.tup [x],.tup [.bl true,y],.tup [x,.non],.tup [.str s,y],.non]:=⟨_,rfl⟩
 have i0:∀(b:D) (u:Sl),g2 ixD (zAC 2) (gC (.int 0)) [.own true b,.val (.int m),.val (.tup [x,y]),u]=.ok (x,[.own true b,.val (.int m),.val (.tup [x,y]),u]):=λb u=>zAO (x:=.tup [x,y]) (y:=.int 0) rfl rfl ix2.1
 have i1:∀(b:D) (u:Sl),g2 ixD (zAC 2) (gC (.int 1)) [.own true b,.val (.int m),.val (.tup [x,y]),u]=.ok (y,[.own true b,.val (.int m),.val (.tup [x,y]),u]):=λb u=>zAO (x:=.tup [x,y]) (y:=.int 1) rfl rfl ix2.2
 have c2:(2:Nat)<10000:=by decide
 obtain⟨E,hE⟩:∃E:Ev,E=[.own true d,.val (.int m),.val (.tup [x,y]),.no]:=⟨_,rfl⟩
 have s1:zBQ (.nm 3) (zDJ [(zMT (zAC 2) (g1 zJT (gC (.int 1)))),(zAX [(g2 ixD (zAC 2) (gC (.int 0))),(g2 ixD (zAC 2) (gC (.int 0)))]),(zAX [(g2 ixD (zAC 2) (gC (.int 0))),(zAC 1)]),(zAX [(g2 zBT (zAC 1) (gC (.int 3))),(g2 ixD (zAC 2) (gC (.int 1)))]),(zAX [(g2 ixD (zAC 2) (gC (.int 0))),(g1 zJT (gC (.int 1)))]),(gN zI9 [(zAC 2)])]) E=.ok (.nx [.own true d,.val (.int m),.val (.tup [x,y]),.val (.lst l1)]):=by
  have v1:zAC 1 E=.ok (.int m,E):=by rw[hE];rfl
  have v2:zAC 2 E=.ok (.tup [x,y],E):=by rw[hE];rfl
  have j0:g2 ixD (zAC 2) (gC (.int 0)) E=.ok (x,E):=by rw[hE];exact i0 d .no
  have j1:g2 ixD (zAC 2) (gC (.int 1)) E=.ok (y,E):=by rw[hE];exact i1 d .no
  have n1:g1 zJT (gC (.int 1)) E=.ok (.int (-1),E):=rfl
  refine zA3 (d:=.lst l1) (E':=E) ?_ (by rw[hE];rfl)
  rw[hl1]
  exact zCU (zAF (zAG v2 (zAG n1 rfl)) (zAF (zA9 (zAF j0 (zAS j0)) c2) (zAF (zA9 (zAF j0 (zAS v1)) c2) (zAF (zA9 (zAF (zAO v1 (y:=.int 3) rfl (d:=.int (m+3)) rfl) (zAS j1)) c2) (zAF (zA9 (zAF j0 (zAS n1)) c2) (zAS (zDF (zAS v2) (d:=.lst [x,y]) rfl))))))) (show 6<10000 by decide)
 obtain⟨F,hF⟩:∃F:Ev,F=[.own true d,.val (.int m),.val (.tup [x,y]),.val (.lst l1)]:=⟨_,rfl⟩
 rw[<-hF] at s1
 have zKW:l1.length=6:=by rw[hl1];rfl
 have s2:zBQ (.nm 3) (g2 zBT (zAC 3) (zDJ [(g2 zBT (zAC 2) (zAX [(gC (.int 0))])),(zBM (zAC 2) none (some (gC (.int 1)))),(zAX [(gC (.bl true)),(g2 ixD (zAC 2) (gC (.int 1)))]),(zAX [(g2 ixD (zAC 2) (gC (.int 0))),(gC .non)]),(zAX [(gN zSH [(g2 ixD (zAC 2) (gC (.int 0)))]),(g2 ixD (zAC 2) (gC (.int 1)))]),(gC .non)])) F=.ok (.nx [.own true d,.val (.int m),.val (.tup [x,y]),.val (.lst l2)]):=by
  have v2:zAC 2 F=.ok (.tup [x,y],F):=by rw[hF];rfl
  have v3:zAC 3 F=.ok (.lst l1,F):=by rw[hF];rfl
  have j0:g2 ixD (zAC 2) (gC (.int 0)) F=.ok (x,F):=by rw[hF];exact i0 d _
  have j1:g2 ixD (zAC 2) (gC (.int 1)) F=.ok (y,F):=by rw[hF];exact i1 d _
  have sl:zBM (zAC 2) none (some (gC (.int 1))) F=.ok (.tup [x],F):=zAG v2 (zAG (a:=(none,F)) rfl (zAG (a:=(some 1,F)) rfl rfl))
  refine zA3 (d:=.lst l2) (E':=F) (zAO v3 (y:=.lst [.tup [x,y,.int 0],.tup [x],.tup [.bl true,y],.tup [x,.non],.tup [.str s,y],.non]) (zCU (zAF (zAO v2 (zA9 (zAS (d:=.int 0) rfl) (show 1<10000 by decide)) (d:=.tup [x,y,.int 0]) rfl) (zAF sl (zAF (zA9 (zAF (d:=.bl true) rfl (zAS j1)) c2) (zAF (zA9 (zAF j0 (zAS (d:=.non) rfl)) c2) (zAF (zA9 (zAF (zDF (zAS j0) es) (zAS j1)) c2) (zAS (d:=.non) rfl)))))) (show 6<10000 by decide)) ?_) (by rw[hF];rfl)
  rw[hl2];exact zUV (by rw[zKW];show 6+6<10000;decide) rfl
 rw[hE] at s1
 obtain⟨a,d1,e1,A1,B1⟩:=zL6 1 5 k d (by decide) B (by show k+5<800000;lia)
 have B1':Bag (k+5) d1:=B1
 obtain⟨p,d2,e2,p0,p1,B2⟩:=tk (g:=zAC 1) (E:=[.own true d1,.val (.int m),.val (.tup [x,y]),.val (.lst l2)]) rfl B1' (by lia) rfl h1 (by lia)
 obtain⟨q,d3,e3,q0,q1,B3⟩:=tk (g:=zAC 1) (E:=[.own true d2,.val (.int m),.val (.tup [x,y]),.val (.lst l2)]) rfl B2 (by lia) rfl h1 (by lia)
 obtain⟨w,d4,e4,w0,w1,B4⟩:=tk (g:=gC (.int 14)) (E:=[.own true d3,.val (.int m),.val (.tup [x,y]),.val (.lst l2)]) rfl B3 (by lia) rfl (by decide) (by decide)
 obtain⟨l3,hl3⟩:∃l3:List D,l3=l2++[.tup [x,a],.tup [.int p,.int q]]:=⟨_,rfl⟩
 have zZN:l3.length=14:=by rw[hl3,hl2,List.length_append,List.length_append,zKW];rfl
 have hi:w.toNat<l3.length:=by rw[zZN];lia
 have x3:g2 zBT (zAC 3) (zDJ [(zAX [(g2 ixD (zAC 2) (gC (.int 0))),(zAI (zAT 5) 0 [(gC (.int 1))])]),(zAX [(zAI zAB 0 [(zAC 1)]),(zAI zAB 0 [(zAC 1)])])]) [.own true d,.val (.int m),.val (.tup [x,y]),.val (.lst l2)]=.ok (.lst l3,[.own true d3,.val (.int m),.val (.tup [x,y]),.val (.lst l2)]):=by
  have c1:zAI (zAT 5) 0 [(gC (.int 1))] [.own true d,.val (.int m),.val (.tup [x,y]),.val (.lst l2)]=.ok (a,[.own true d1,.val (.int m),.val (.tup [x,y]),.val (.lst l2)]):=zB5 (i:=0) (E1:=[.own true d,.val (.int m),.val (.tup [x,y]),.val (.lst l2)]) (t:=true) (t2:=true) (d0:=d) (d:=d) rfl (zAS (d:=.int 1) rfl) rfl e1
  refine zAO (x:=.lst l2) (E1:=[.own true d,.val (.int m),.val (.tup [x,y]),.val (.lst l2)]) rfl (y:=.lst [.tup [x,a],.tup [.int p,.int q]]) (zCU (zAF (zA9 (zAF (i0 d _) (zAS c1)) c2) (zAS (zA9 (zAF e2 (zAS e3)) c2))) c2) ?_
  rw[hl3];exact zUV (by rw[hl2,List.length_append,zKW];show 6+6+2<10000;decide) rfl
 refine⟨l3[w.toNat],d4,zA7 (E':=[.own true d4,.val (.int m),.val (.tup [x,y]),.val (.lst l2)]) (zAK s1 (zAK s2 (zAV (zAO x3 e4 (zXT (zGV w0 (List.getElem?_eq_getElem hi))))))) rfl,?_,B4.mono (by lia)⟩
 generalize hr:l3[w.toNat]=r
 have mem:r∈[.tup [y,x],.tup [x,x],.tup [x,.int m],.tup [.int (m+3),y],.tup [x,.int (-1)],.lst [x,y]]++[.tup [x,y,.int 0],.tup [x],.tup [.bl true,y],.tup [x,.non],.tup [.str s,y],D.non]++[.tup [x,a],.tup [.int p,.int q]]:=by
  have:=List.getElem_mem hi
  rw[hr] at this
  rw[<-hl1,<-hl2,<-hl3];exact this
 simp only[List.mem_append,List.mem_cons,List.not_mem_nil,or_false] at mem
 have pI:Pt (.int p):=Pt.int (by lia)
 have qI:Pt (.int q):=Pt.int (by lia)
 rcases mem with((rfl|rfl|rfl|rfl|rfl|rfl)|(rfl|rfl|rfl|rfl|rfl|rfl))|(rfl|rfl)
 ·exact .two hy hx
 ·exact .two hx hx
 ·exact .two hx hm
 ·exact .two hm3 hy
 ·exact .two hx hi1
 ·refine⟨zXY λe he=>?_,λ_ _ z=>by cases z⟩
  simp only[List.mem_cons,List.not_mem_nil,or_false] at he
  rcases he with rfl|rfl
  ·exact hx.py
  ·exact hy.py
 ·refine⟨zPO λe he=>?_,λ_ _ z=>by cases z⟩
  simp only[List.mem_cons,List.not_mem_nil,or_false] at he
  rcases he with rfl|rfl|rfl
  ·exact hx.py
  ·exact hy.py
  ·exact⟨_,rfl⟩
 ·refine⟨zPO λe he=>?_,λ_ _ z=>by cases z⟩
  simp only[List.mem_cons,List.not_mem_nil,or_false] at he
  rw[he];exact hx.py
 ·exact .two (Pt.bl true) hy
 ·exact .two hx Pt.non
 ·exact .two ps hy
 ·exact⟨⟨_,rfl⟩,λ_ _ z=>by cases z⟩
 ·exact .two hx A1.pt
 ·exact .two pI qI
theorem zPP{α:Type}(xs:List α)(lo hi:Option Int):(zDW xs lo hi).length<=xs.length:=by
 unfold zDW;rw[List.length_take,List.length_drop];lia
theorem zPQ{α:Type}{xs:List α}{lo hi:Option Int}{x:α}(h:x∈zDW xs lo hi):x∈xs:=List.mem_of_mem_drop (List.mem_of_mem_take h)
theorem Th.lb{t:Nat}{m:Int}{ls:List D}(T:Th t (.tup [.int m,.tup ls])):∀l∈ls,Lb l:=λl hl=>by
 obtain⟨_,_,h3,h4⟩:=T m ls rfl
 exact⟨h3 l hl,λx y e=>h4 x y (e▸hl)⟩
theorem Th.of{t:Nat}{m:Int}{ls:List D}(h1:m<=10 ^ 59+t)(h2:ls.length<=200 * 4 ^ t)(h3:∀l∈ls,Lb l):Th t (.tup [.int m,.tup ls]):=λm' ls' e=>by
 injection e with e
 injection e with e1 e2
 injection e1 with e1
 injection e2 with e2
 injection e2 with e2
 subst e1 e2
 exact⟨h1,h2,λl hl=>(h3 l hl).py,λx y hxy=>(h3 _ hxy).pt x y rfl⟩
theorem Th.no{t:Nat}{d:D}(h:∀m ls,d≠.tup [.int m,.tup ls]):Th t d:=λm ls e=>absurd e (h m ls)
theorem zU6{ls:List D}(h:∀l∈ls,Lb l):∃b,eqD (.tup ls) (.tup [])=.ok (.bl b)/\(ls=[]->b=true):=by
 obtain⟨ps,e⟩:=zJP λl hl=>(h l hl).py
 have e1:(D.tup ls).py=some (.tuple ps):=by rw[D.py,e];rfl
 have e2:(D.tup []).py=some (.tuple []):=by rw[D.py,D.pys];rfl
 refine⟨PyData.eqv (.tuple ps) (.tuple []),?_,λz=>?_⟩
 ·unfold eqD
  rw[e1,e2]
  simp only
  rw[if_pos (by
   have:PyData.depth (.tuple [])=1:=by simp[PyData.depth,PyData.depthAll]
   rw[this];lia)]
 ·subst z
  rw[D.pys] at e
  cases e
  decide +kernel
section
variable{m:Int}{ls:List D}
noncomputable def bE(m:Int)(ls:List D)(b:D)(w a:Int):Ev:=[.own true b,.val (.tup [.int m,.tup ls]),.val (.int m),.val (.tup ls),.val (.int w),.val (.int a)]
theorem zGC{lo hi:Option G}{l h:Option Int}{b:D}{w a:Int}(h1:zF8 lo (bE m ls b w a)=.ok (l,bE m ls b w a))(h2:zF8 hi (bE m ls b w a)=.ok (h,bE m ls b w a)):zBM (zAC 3) lo hi (bE m ls b w a)=.ok (.tup (zDW ls l h),bE m ls b w a) :=
 zAG (a:=(.tup ls,bE m ls b w a)) rfl (zAG h1 (zAG h2 rfl))
theorem zU7{xs ys:List D}(h:xs.length+ys.length<10000):zBT (.tup xs) (.tup ys)=.ok (.tup (xs++ys)):=zKP h
theorem zU8{t k:Nat}{d:D}(ht:t<=1)(T:Th t (.tup [.int m,.tup ls]))(h1:1<=m)(h2:∀l∈ls,∃x y,l=.tup [x,y])(B:Bag k d)(hk:k<600000) :
  ∃r d',zCG [.own true d,.val (.tup [.int m,.tup ls])]=.ok (false,r,d')/\Th (t+1) r/\Bag (k+1000) d':=by
 obtain⟨hm,hlen,_,_⟩:=T m ls rfl
 have hp:4 ^ t<=4 ^ 1:=Nat.pow_le_pow_right (by decide) ht
 have hlb:=T.lb
 have h4:ls.length<=800:=by lia
 have up:∀{ls':List D} {m':Int},m'<=10 ^ 59+t+1->ls'.length<=4 * ls.length->(∀l∈ls',Lb l)->Th (t+1) (.tup [.int m',.tup ls']):=λa b c=>Th.of (by lia) (by rw[Nat.pow_succ];lia) c
 have s1:zBQ (.tp [(.nm 2),(.nm 3)]) (zAC 1) [.own true d,.val (.tup [.int m,.tup ls]),.no,.no,.no,.no]=.ok (.nx [.own true d,.val (.tup [.int m,.tup ls]),.val (.int m),.val (.tup ls),.no,.no]):=zA3 (d:=.tup [.int m,.tup ls]) rfl rfl
 obtain⟨w,d1,e1,w0,w1,B1⟩:=tk (g:=gC (.int 9)) (E:=[.own true d,.val (.tup [.int m,.tup ls]),.val (.int m),.val (.tup ls),.no,.no]) rfl B (by lia) rfl (by decide) (by decide)
 have s2:zBQ (.nm 4) (zAI zAB 0 [(gC (.int 9))]) [.own true d,.val (.tup [.int m,.tup ls]),.val (.int m),.val (.tup ls),.no,.no]=.ok (.nx [.own true d1,.val (.tup [.int m,.tup ls]),.val (.int m),.val (.tup ls),.val (.int w),.no]):=zA3 e1 rfl
 have hM:(1:Int)<=(if(ls.length:Int)>1 then(ls.length:Int) else 1)/\(if(ls.length:Int)>1 then(ls.length:Int) else 1)<2 ^ 200:=by split<;>lia
 obtain⟨a,d2,e2,a0,a1,B2⟩:=tk (g:=gN zKH [(gC (.int 1)),(gN zDS [(zAC 3)])]) (n:=if(ls.length:Int)>1 then(ls.length:Int) else 1) (E:=[.own true d1,.val (.tup [.int m,.tup ls]),.val (.int m),.val (.tup ls),.val (.int w),.no]) rfl B1 (by lia) (zDF (zAF (d:=.int 1) rfl (zAS (zDF (zAS (d:=.tup ls) rfl) (d:=.int ls.length) rfl))) rfl) hM.1 hM.2
 have s3:zBQ (.nm 5) (zAI zAB 0 [(gN zKH [(gC (.int 1)),(gN zDS [(zAC 3)])])]) [.own true d1,.val (.tup [.int m,.tup ls]),.val (.int m),.val (.tup ls),.val (.int w),.no]=.ok (.nx (bE m ls d2 w a)):=zA3 e2 rfl
 have cond:∀c:Int,gB (g2 eqD (zAC 4) (gC (.int c))) (bE m ls d2 w a)=.ok (decide (w=c),bE m ls d2 w a):=λc=>zCK (zAO (x:=.int w) (y:=.int c) rfl rfl (zF0 _ _))
 have f0:∀{g:GS} {r:Out Fl},g (bE m ls d2 w a)=r->(zBA (zBQ (.tp [(.nm 2),(.nm 3)]) (zAC 1)) (zBA (zBQ (.nm 4) (zAI zAB 0 [(gC (.int 9))])) (zBA (zBQ (.nm 5) (zAI zAB 0 [(gN zKH [(gC (.int 1)),(gN zDS [(zAC 3)])])])) g))) [.own true d,.val (.tup [.int m,.tup ls]),.no,.no,.no,.no]=r:=λh=>zAK s1 (zAK s2 (zAK s3 h))
 obtain⟨eb,he,heb⟩:=zU6 hlb
 have pa:zF8 (some (zAC 5)) (bE m ls d2 w a)=.ok (some a,bE m ls d2 w a):=rfl
 have pn:zF8 none (bE m ls d2 w a)=.ok (none,bE m ls d2 w a):=rfl
 have pp:∀c:Int,zF8 (some (g2 zBT (zAC 5) (gC (.int c)))) (bE m ls d2 w a)=.ok (some (a+c),bE m ls d2 w a):=λc=>rfl
 have vm:zAC 2 (bE m ls d2 w a)=.ok (.int m,bE m ls d2 w a):=rfl
 have cl:∀lo hi:Option Int,(zDW ls lo hi).length<=ls.length:=λlo hi=>zPP ls lo hi
 have cm:∀(lo hi:Option Int) l,l∈zDW ls lo hi->Lb l:=λlo hi l hl=>hlb l (zPQ hl)
 have c2:(2:Nat)<10000:=by decide
 by_cases w0':w=0
 ·have c0:=cond 0
  rw[decide_eq_true w0'] at c0
  obtain⟨z,d3,e3,A3,B3⟩:=zL6 2 5 (k+1+1) d2 (by decide) B2 (by show k+1+1+17<800000;lia)
  have B3':Bag (k+1+1+17) d3:=B3
  obtain⟨i,d4,e4,i0,i1,B4⟩:=tk (g:=gC (.int 7)) (E:=bE m ls d3 w a) rfl B3' (by lia) rfl (by decide) (by decide)
  obtain⟨l1,hl1⟩:∃l1:List D,l1=[.int (m+1),.int (m-1),.int 0,.int 25,.bl true,.non,z]:=⟨_,rfl⟩
  have zKW:l1.length=7:=by rw[hl1];rfl
  have hi:i.toNat<l1.length:=by rw[zKW];lia
  have x1:zDJ [(g2 zBT (zAC 2) (gC (.int 1))),(g2 zLK (zAC 2) (gC (.int 1))),(gC (.int 0)),(gC (.int 25)),(gC (.bl true)),(gC .non),(zAI (zAT 5) 0 [(gC (.int 2))])] (bE m ls d2 w a)=.ok (.lst l1,bE m ls d3 w a):=by
   rw[hl1]
   exact zCU (zAF (zAO vm (y:=.int 1) rfl (d:=.int (m+1)) rfl) (zAF (zAO vm (y:=.int 1) rfl (d:=.int (m-1)) rfl) (zAF (d:=.int 0) rfl (zAF (d:=.int 25) rfl (zAF (d:=.bl true) rfl (zAF (d:=.non) rfl (zAS (zB5 (i:=0) (E1:=bE m ls d2 w a) (t:=true) (t2:=true) (d0:=d2) (d:=d2) rfl (zAS (d:=.int 2) rfl) rfl e3)))))))) (show 7<10000 by decide)
  refine⟨.tup [l1[i.toNat],.tup ls],d4,zA7 (E':=bE m ls d4 w a) (f0 (zA6 (zD5 c0 (zAV (zA9 (zAF (zAO x1 e4 (zXT (zGV i0 (List.getElem?_eq_getElem hi)))) (zAS (d:=.tup ls) rfl)) c2))))) rfl,?_,B4.mono (by lia)⟩
  have mem:=List.getElem_mem hi
  generalize l1[i.toNat]=r at mem
  rw[hl1] at mem
  simp only[List.mem_cons,List.not_mem_nil,or_false] at mem
  rcases mem with rfl|rfl|rfl|rfl|rfl|rfl|rfl
  ·exact up (by lia) (by lia) hlb
  ·exact up (by lia) (by lia) hlb
  ·exact up (by lia) (by lia) hlb
  ·exact up (by lia) (by lia) hlb
  ·exact Th.no λ_ _ q=>by cases q
  ·exact Th.no λ_ _ q=>by cases q
  ·intro m' ls' q
   injection q with q
   injection q with q1 q2
   subst q1
   injection q2 with q2
   injection q2 with q2
   subst q2
   exact up (by have:=A3.int;lia) (by lia) hlb m' ls rfl
 ·have c0:=cond 0
  rw[decide_eq_false w0'] at c0
  have f1:∀{gi g:GS} {r:Out Fl},g (bE m ls d2 w a)=r->zBA (zC6 (gB (g2 eqD (zAC 4) (gC (.int 0)))) gi gNx) g (bE m ls d2 w a)=r:=λh=>zAK (zDE c0 rfl) h
  have t1:zCN (gB (g2 eqD (zAC 4) (gC (.int 1)))) (gB (g2 eqD (zAC 3) (zAX []))) (bE m ls d2 w a)=.ok (decide (w=1)||eb,bE m ls d2 w a):=zE1 (cond 1) (zCK (zAO (x:=.tup ls) (y:=.tup []) rfl rfl he))
  cases hc:(decide (w=1)||eb) with
  |true =>
   rw[hc] at t1
   obtain⟨i,d3,e3,i0,i1,B3⟩:=tk (g:=gC (.int 5)) (E:=bE m ls d2 w a) rfl B2 (by lia) rfl (by decide) (by decide)
   obtain⟨l1,hl1⟩:∃l1:List D,l1=[.tup [.int m,.lst ls],.lst [.int m,.tup ls],.tup [.int m],.tup [.int m,.tup ls,.tup []],.tup [.tup ls,.int m]]:=⟨_,rfl⟩
   have zKW:l1.length=5:=by rw[hl1];rfl
   have hi:i.toNat<l1.length:=by rw[zKW];lia
   have v3:zAC 3 (bE m ls d2 w a)=.ok (.tup ls,bE m ls d2 w a):=rfl
   have x1:zDJ [(zAX [(zAC 2),(gN zI9 [(zAC 3)])]),(zDJ [(zAC 2),(zAC 3)]),(zAX [(zAC 2)]),(zAX [(zAC 2),(zAC 3),(zAX [])]),(zAX [(zAC 3),(zAC 2)])] (bE m ls d2 w a)=.ok (.lst l1,bE m ls d2 w a):=by
    rw[hl1]
    exact zCU (zAF (zA9 (zAF vm (zAS (zDF (zAS v3) (d:=.lst ls) rfl))) c2) (zAF (zCU (zAF vm (zAS v3)) c2) (zAF (zA9 (zAS vm) (show 1<10000 by decide)) (zAF (zA9 (zAF vm (zAF v3 (zAS (zA9 zLT (show 0<10000 by decide))))) (show 3<10000 by decide)) (zAS (zA9 (zAF v3 (zAS vm)) c2)))))) (show 5<10000 by decide)
   refine⟨l1[i.toNat],d3,zA7 (E':=bE m ls d3 w a) (f0 (f1 (zA6 (zD5 t1 (zAV (zAO x1 e3 (zXT (zGV i0 (List.getElem?_eq_getElem hi))))))))) rfl,?_,B3.mono (by lia)⟩
   have mem:=List.getElem_mem hi
   generalize l1[i.toNat]=r at mem
   rw[hl1] at mem
   simp only[List.mem_cons,List.not_mem_nil,or_false] at mem
   rcases mem with rfl|rfl|rfl|rfl|rfl<;>exact Th.no λ_ _ q=>by cases q
  |false =>
   rw[hc] at t1
   have hne:ls≠[]:=λq=>by rw[heb q,Bool.or_true] at hc;cases hc
   have hpos:0<ls.length:=List.length_pos_iff.mpr hne
   have ha:a.toNat<ls.length:=by split at a1<;>lia
   have f2:∀{gi g:GS} {r:Out Fl},g (bE m ls d2 w a)=r->zBA (zC6 (zCN (gB (g2 eqD (zAC 4) (gC (.int 1)))) (gB (g2 eqD (zAC 3) (zAX [])))) gi gNx) g (bE m ls d2 w a)=r:=λh=>zAK (zDE t1 rfl) h
   have fin:∀{ls':List D} {b:D},ls'.length<=4 * ls.length->(∀l∈ls',Lb l)->Th (t+1) (.tup [.int m,.tup ls']):=λh1 h2=>up (by lia) h1 h2
   by_cases e2:w=2
   ·have c2':=cond 2
    rw[decide_eq_true e2] at c2'
    refine⟨.tup [.int m,.tup (zDW ls none (some a)++zDW ls (some (a+1)) none)],d2,zA7 (E':=bE m ls d2 w a) (f0 (f1 (f2 (zA6 (zD5 c2' (zAV (zA9 (zAF vm (zAS (zAO (zGC pn pa) (zGC (pp 1) pn) (zU7 ?_)))) c2))))))) rfl,fin (b:=d) ?_ ?_,B2.mono (by lia)⟩
    ·have:=cl none (some a);have:=cl (some (a+1)) none;lia
    ·have:=cl none (some a);have:=cl (some (a+1)) none;rw[List.length_append];lia
    ·intro l hl
     rcases List.mem_append.mp hl with hl|hl
     ·exact cm _ _ l hl
     ·exact cm _ _ l hl
   ·have c2':=cond 2
    rw[decide_eq_false e2] at c2'
    by_cases e3:w=3
    ·have c3:=cond 3
     rw[decide_eq_true e3] at c3
     refine⟨.tup [.int m,.tup (zDW ls none (some a)++zDW ls (some a) (some (a+1))++zDW ls (some a) none)],d2,zA7 (E':=bE m ls d2 w a) (f0 (f1 (f2 (zAK (zDE c2' rfl) (zA6 (zD5 c3 (zAV (zA9 (zAF vm (zAS (zAO (zAO (zGC pn pa) (zGC pa (pp 1)) (zU7 ?_)) (zGC pa pn) (zU7 ?_)))) c2)))))))) rfl,fin (b:=d) ?_ ?_,B2.mono (by lia)⟩
     ·have:=cl none (some a);have:=cl (some a) (some (a+1));lia
     ·have:=cl none (some a);have:=cl (some a) (some (a+1));have:=cl (some a) none;rw[List.length_append];lia
     ·have:=cl none (some a);have:=cl (some a) (some (a+1));have:=cl (some a) none;rw[List.length_append,List.length_append];lia
     ·intro l hl
      rcases List.mem_append.mp hl with hl|hl
      ·rcases List.mem_append.mp hl with hl|hl
       ·exact cm _ _ l hl
       ·exact cm _ _ l hl
      ·exact cm _ _ l hl
    ·have c3:=cond 3
     rw[decide_eq_false e3] at c3
     by_cases e4:w=4
     ·have c4:=cond 4
      rw[decide_eq_true e4] at c4
      have rv:zMT (zBM (zAC 3) (some (zAC 5)) (some (g2 zBT (zAC 5) (gC (.int 2))))) (g1 zJT (gC (.int 1))) (bE m ls d2 w a)=.ok (.tup (zDW ls (some a) (some (a+2))).reverse,bE m ls d2 w a):=zAG (zGC pa (pp 2)) (zAG (a:=(.int (-1),bE m ls d2 w a)) rfl rfl)
      refine⟨.tup [.int m,.tup (zDW ls none (some a)++(zDW ls (some a) (some (a+2))).reverse++zDW ls (some (a+2)) none)],d2,zA7 (E':=bE m ls d2 w a) (f0 (f1 (f2 (zAK (zDE c2' rfl) (zAK (zDE c3 rfl) (zA6 (zD5 c4 (zAV (zA9 (zAF vm (zAS (zAO (zAO (zGC pn pa) rv (zU7 ?_)) (zGC (pp 2) pn) (zU7 ?_)))) c2))))))))) rfl,fin (b:=d) ?_ ?_,B2.mono (by lia)⟩
      ·have:=cl none (some a);have:=cl (some a) (some (a+2));rw[List.length_reverse];lia
      ·have:=cl none (some a);have:=cl (some a) (some (a+2));have:=cl (some (a+2)) none;rw[List.length_append,List.length_reverse];lia
      ·have:=cl none (some a);have:=cl (some a) (some (a+2));have:=cl (some (a+2)) none;rw[List.length_append,List.length_append,List.length_reverse];lia
      ·intro l hl
       rcases List.mem_append.mp hl with hl|hl
       ·rcases List.mem_append.mp hl with hl|hl
        ·exact cm _ _ l hl
        ·exact cm _ _ l (List.mem_reverse.mp hl)
       ·exact cm _ _ l hl
     ·have c4:=cond 4
      rw[decide_eq_false e4] at c4
      obtain⟨x,y,exy⟩:=h2 _ (List.getElem_mem ha)
      obtain⟨hx,hy⟩:=(hlb _ (List.getElem_mem ha)).pt x y exy
      obtain⟨r,d3,e5,Lr,B3⟩:=zZH hx hy h1 (by lia) B2 (by lia)
      have x5:zAI zBI 0 [(zAC 2),(g2 ixD (zAC 3) (zAC 5))] (bE m ls d2 w a)=.ok (r,bE m ls d3 w a):=by
       refine zB5 (b:=false) (i:=0) (E1:=bE m ls d2 w a) (t:=true) (t2:=true) (d0:=d2) (d:=d2) rfl (zAF vm (zAS (zAO (x:=.tup ls) (y:=.int a) (E1:=bE m ls d2 w a) rfl rfl (zZB (zGV a0 (List.getElem?_eq_getElem ha)))))) rfl ?_
       rw[exy];exact e5
      have pp3:∀c:Int,zF8 (some (g2 zBT (zAC 5) (gC (.int c)))) (bE m ls d3 w a)=.ok (some (a+c),bE m ls d3 w a):=λc=>rfl
      have pn3:zF8 none (bE m ls d3 w a)=.ok (none,bE m ls d3 w a):=rfl
      refine⟨.tup [.int m,.tup (zDW ls none (some a)++[r]++zDW ls (some (a+1)) none)],d3,zA7 (E':=bE m ls d3 w a) (f0 (f1 (f2 (zAK (zDE c2' rfl) (zAK (zDE c3 rfl) (zAK (zDE c4 rfl) (zAV (zA9 (zAF vm (zAS (zAO (zAO (zGC pn pa) (zA9 (zAS x5) (show 1<10000 by decide)) (zU7 ?_)) (zGC (pp3 1) pn3) (zU7 ?_)))) c2)))))))) rfl,fin (b:=d) ?_ ?_,B3.mono (by lia)⟩
      ·have:=cl none (some a);rw[List.length_singleton];lia
      ·have:=cl none (some a);have:=cl (some (a+1)) none;rw[List.length_append,List.length_singleton];lia
      ·have:=cl none (some a);have:=cl (some (a+1)) none;rw[List.length_append,List.length_append,List.length_singleton];lia
      ·intro l hl
       rcases List.mem_append.mp hl with hl|hl
       ·rcases List.mem_append.mp hl with hl|hl
        ·exact cm _ _ l hl
        ·rw[List.mem_singleton.mp hl];exact Lr
       ·exact cm _ _ l hl
end
theorem zPR{p:Int×Int}(h1:p.1.natAbs<2 ^ 200)(h2:p.2.natAbs<2 ^ 200):Lb (zBF p):=.two (Pt.int h1) (Pt.int h2)
noncomputable def prF(d:D):List D:=match d with
 |.int x=>if x / 13≠x % 13 then[zBF (x / 13,x % 13)] else[]
 |_=>[]
theorem zU9{k:Nat}{d:D}(B:Bag k d)(hk:k<600000):∃r d',zBX [.own true d]=.ok (false,r,d')/\Th 0 r/\Bag (k+3) d':=by
 have hri:(ri 169).map D.int=zFA 0 169:=(zPA 169).symm
 obtain⟨prs,hprs⟩:∃prs,prs=((ri 169).map D.int).flatMap prF:=⟨_,rfl⟩
 have hmem:∀l∈prs,Lb l:=λl hl=>by
  rw[hprs] at hl
  obtain⟨e,he,hl⟩:=List.mem_flatMap.mp hl
  obtain⟨x,hx,rfl⟩:=List.mem_map.mp he
  have:=mem_ri.mp hx
  simp only[prF] at hl
  split at hl
  ·rw[List.mem_singleton.mp hl]
   exact zPR (by show(x / 13).natAbs<_;lia) (by show(x % 13).natAbs<_;lia)
  ·simp at hl
 have hlen:prs.length<=169:=by
  rw[hprs]
  have:∀l:List D,(l.flatMap prF).length<=l.length:=λl=>by
   induction l with
   |nil=>simp
   |cons a l ih =>
    rw[List.flatMap_cons,List.length_append,List.length_cons]
    have:(prF a).length<=1:=by
     unfold prF
     split
     ·split<;>simp
     ·simp
    lia
  have:=this ((ri 169).map D.int)
  rwa [List.length_map,zGX] at this
 have hc:zC9 (zEC (gC (.int 169))) 1 [] (.nm 0) (gB (g2 neD (g2 zEM (zAC 0) (gC (.int 13))) (g2 zER (zAC 0) (gC (.int 13))))) (zAX [(g2 zEM (zAC 0) (gC (.int 13))),(g2 zER (zAC 0) (gC (.int 13)))]) [.own true d,.no,.no]=.ok (.lst prs,[.own true d,.no,.no]):=by
  rw[hprs]
  refine zKQ prF (λE=>∃u,E=[u]) ((zH0 (j:=169) rfl ⟨by decide,by decide⟩).trans ?_) ⟨_,rfl⟩ (by rw[List.length_map,zGX];decide) (λe he E hE=>?_) (λEc _=>zH7 Ec 1 0 _)
  ·show Out.ok (zFA 0 169,_)=_
   rw[hri]
  ·obtain⟨u,rfl⟩:=hE
   obtain⟨x,_,rfl⟩:=List.mem_map.mp he
   have f1:g2 zEM (zAC 0) (gC (.int 13)) [.val (.int x)]=.ok (.int (x / 13),[.val (.int x)]):=zAO (x:=.int x) (y:=.int 13) rfl rfl (zO8 ⟨by decide,by decide⟩)
   have f2:g2 zER (zAC 0) (gC (.int 13)) [.val (.int x)]=.ok (.int (x % 13),[.val (.int x)]):=zAO (x:=.int x) (y:=.int 13) rfl rfl (zJM (by decide))
   refine⟨[.val (.int x)],rfl,decide (x / 13≠x % 13),[.val (.int x)],zCK (zAO f1 f2 (zHY _ _)),?_⟩
   by_cases h:x / 13≠x % 13
   ·exact .inl ⟨decide_eq_true h,_,_,zA9 (zAF f1 (zAS f2)) (show 2<10000 by decide),by simp only[prF,if_pos h];rfl,_,rfl⟩
   ·exact .inr ⟨decide_eq_false h,by simp only[prF,if_neg h],_,rfl⟩
 obtain⟨a,d1,e1,a0,a1,B1⟩:=tk (g:=gC (.int 30)) (E:=[.own true d,.val (.lst prs),.no]) rfl B (by lia) rfl (by decide) (by decide)
 obtain⟨m,d2,e2,m0,m1,B2⟩:=tk (g:=gC (.int 12)) (E:=[.own true d1,.val (.lst prs),.val (.int a)]) rfl B1 (by lia) rfl (by decide) (by decide)
 obtain⟨c,d3,e3,c0,c1,B3⟩:=tk (g:=gC (.int 4)) (E:=[.own true d2,.val (.lst prs),.val (.int a)]) rfl B2 (by lia) rfl (by decide) (by decide)
 have s1:zBQ (.nm 1) (zC9 (zEC (gC (.int 169))) 1 [] (.nm 0) (gB (g2 neD (g2 zEM (zAC 0) (gC (.int 13))) (g2 zER (zAC 0) (gC (.int 13))))) (zAX [(g2 zEM (zAC 0) (gC (.int 13))),(g2 zER (zAC 0) (gC (.int 13)))])) [.own true d,.no,.no]=.ok (.nx [.own true d,.val (.lst prs),.no]):=zA3 hc rfl
 have s2:zBQ (.nm 2) (zAI zAB 0 [(gC (.int 30))]) [.own true d,.val (.lst prs),.no]=.ok (.nx [.own true d1,.val (.lst prs),.val (.int a)]):=zA3 e1 rfl
 have x1:g2 zBT (gC (.int 13)) (zAI zAB 0 [(gC (.int 12))]) [.own true d1,.val (.lst prs),.val (.int a)]=.ok (.int (13+m),[.own true d2,.val (.lst prs),.val (.int a)]):=zAO (x:=.int 13) rfl e2 rfl
 have x2:zBM (zAC 1) (some (zAC 2)) (some (g2 zBT (g2 zBT (zAC 2) (gC (.int 119))) (zAI zAB 0 [(gC (.int 4))]))) [.own true d2,.val (.lst prs),.val (.int a)]=.ok (.lst (zDW prs (some a) (some (a+119+c))),[.own true d3,.val (.lst prs),.val (.int a)]):=by
  refine zAG (a:=(.lst prs,[.own true d2,.val (.lst prs),.val (.int a)])) rfl (zAG (a:=(some a,[.own true d2,.val (.lst prs),.val (.int a)])) rfl (zAG (a:=(some (a+119+c),[.own true d3,.val (.lst prs),.val (.int a)])) ?_ rfl))
  have:g2 zBT (g2 zBT (zAC 2) (gC (.int 119))) (zAI zAB 0 [(gC (.int 4))]) [.own true d2,.val (.lst prs),.val (.int a)]=.ok (.int (a+119+c),[.own true d3,.val (.lst prs),.val (.int a)]):=zAO (x:=.int (a+119)) (zAO (x:=.int a) (y:=.int 119) rfl rfl rfl) e3 rfl
  show(g2 zBT (g2 zBT (zAC 2) (gC (.int 119))) (zAI zAB 0 [(gC (.int 4))]) [.own true d2,.val (.lst prs),.val (.int a)]).bind _=_
  exact zAG this rfl
 refine⟨.tup [.int (13+m),.tup (zDW prs (some a) (some (a+119+c)))],d3,?_,Th.of (by lia) (by have:=zPP prs (some a) (some (a+119+c));simp;lia) λl hl=>hmem l (zPQ hl),B3⟩
 unfold zBX zEF
 exact zA7 (zAK s1 (zAK s2 (zAV (zA9 (zAF x1 (zAS (zDF (zAS x2) rfl))) (show 2<10000 by decide))))) rfl
theorem zRZ{α β:Type}(f:α->β)(xs:List α)(lo hi:Option Int):zDW (xs.map f) lo hi=(zDW xs lo hi).map f:=by
 unfold zDW
 rw[List.length_map,<-List.map_drop,<-List.map_take]
theorem zVA(ns:List Int):∃c:Int,zCE [.val (.lst (ns.map D.int)),.val (.int 0)]=.ok (false,.int c,.non):=by
 unfold zCE
 cases ns with
 |nil=>exact⟨0,zA7 (zAK (zDE (E1:=[.val (.lst []),.val (.int 0)]) (zCK (zAO (x:=.int 0) (y:=.int 0) rfl (zDF (zAS (d:=.lst []) rfl) rfl) rfl)) rfl) (zAV (d:=.int 0) rfl)) rfl⟩
 |cons n ns =>
  refine⟨n,zA7 (zA6 (E1:=[.val (.lst ((n::ns).map D.int)),.val (.int 0)]) (zD5 (E1:=[.val (.lst ((n::ns).map D.int)),.val (.int 0)]) (zCK (zAO (x:=.int 0) (y:=.int ((n::ns).map D.int).length) rfl (zDF (zAS (d:=.lst ((n::ns).map D.int)) rfl) rfl) ?_)) (zAV (zAO (x:=.lst ((n::ns).map D.int)) (y:=.int 0) rfl rfl (zRT (xs:=[]) (by decide) rfl))))) rfl⟩
  simp only[ltD]
  rw[decide_eq_true (by simp only[List.map_cons,List.length_cons];lia)]
theorem Net.th{many:Int}{ps:List (Int×Int)}(N:Net many ps):Th 0 (zVJ many ps):=by
 have:=N.m2
 have hl:=N.len
 refine Th.of (by lia) (by rw[List.length_map];lia) λl h=>?_
 obtain⟨p,hp,rfl⟩:=List.mem_map.mp h
 obtain⟨a,b,c,d,_⟩:=N.rg p hp
 exact zPR (by lia) (by lia)
section
variable{sc:D}{n:Int}
noncomputable abbrev wE(sc:D)(n:Int)(w:D)(u3 u4 u5 u6:Sl):Ev:=[.val sc,.val (.int n),.own false w,u3,u4,u5,u6]
theorem tk2{c:Int}{w:D}{k:Nat}{u3 u4 u5 u6:Sl}(B:Bag k w)(hk:k<900000)(h1:1<=c)(h2:c<2 ^ 200):∃r w',zAI zAB 2 [(gC (.int c))] (wE sc n w u3 u4 u5 u6)=.ok (.int r,wE sc n w' u3 u4 u5 u6)/\0<=r/\r<c/\Bag (k+1) w':=by
 obtain⟨r,w',e,r0,r1,B'⟩:=zO9 B hk h1 h2
 exact⟨r,w',zB5 (E1:=wE sc n w u3 u4 u5 u6) (i:=2) (t2:=false) (t:=false) rfl (zAS (d:=.int c) rfl) rfl e,r0,r1,B'⟩
noncomputable abbrev kS1:GS:=(zBQ (.nm 3) (g2 ixD (zDJ [(gC (.int 0)),(gC (.int 1)),(gC (.int 1)),(gC (.int 2))]) (zAI zAB 2 [(gC (.int 4))])))
theorem zZI{w:D}{k:Nat}{u3 u4 u5 u6:Sl}(B:Bag k w)(hk:k<900000):∃(b:Nat) (w':D),b<=2/\kS1 (wE sc n w u3 u4 u5 u6)=.ok (.nx (wE sc n w' (.val (.int b)) u4 u5 u6))/\Bag (k+1) w':=by
 obtain⟨r,w',e,r0,r1,B'⟩:=tk2 (sc:=sc) (n:=n) (c:=4) (u3:=u3) (u4:=u4) (u5:=u5) (u6:=u6) B hk (by decide) (by decide)
 have key:∃b:Nat,b<=2/\([D.int 0,.int 1,.int 1,.int 2])[r.toNat]?=some (.int b):=by
  have:r=0\/r=1\/r=2\/r=3:=by lia
  rcases this with rfl|rfl|rfl|rfl
  ·exact⟨0,by decide,rfl⟩
  ·exact⟨1,by decide,rfl⟩
  ·exact⟨1,by decide,rfl⟩
  ·exact⟨2,by decide,rfl⟩
 obtain⟨b,hb,hx⟩:=key
 exact⟨b,w',hb,zA3 (zAO (x:=.lst [.int 0,.int 1,.int 1,.int 2]) rfl e (zRT (xs:=[]) r0 hx)) rfl,B'⟩
noncomputable abbrev kS2:GS:=(zBQ (.nm 4) (g2 ixD (zAI zDD 2 [(gC (.int 24))]) (gC (.int 0))))
theorem zZJ{w:D}{k:Nat}{u3 u4 u5 u6:Sl}(B:Bag k w)(hk:k<700000):∃t w',kS2 (wE sc n w u3 u4 u5 u6)=.ok (.nx (wE sc n w' u3 (.val t) u5 u6))/\Th 0 t/\Bag (k+1000) w':=by
 obtain⟨many,ps,gate,w',e,N,_,_,_,B'⟩:=zU0 (most:=24) B hk (by decide) (by decide)
 exact⟨zVJ many ps,w',zA3 (zAO (x:=.tup [zVJ many ps,.int gate]) (zB5 (i:=2) (t2:=false) (t:=false) rfl (zAS (d:=.int 24) rfl) rfl e) (y:=.int 0) rfl rfl) rfl,N.th,B'⟩
noncomputable abbrev kS3:GS:=(zC6 (gB (g2 eqD (zAI zAB 2 [(gC (.int 8))]) (gC (.int 0))))
 (zBQ (.nm 4) (g2 ixD (zDJ [(zAI zBX 2 []),(zAI (zAT 5) 2 [(gC (.int 4))])]) (zAI zAB 2 [(gC (.int 2))])))
 gNx)
theorem zZK{w t:D}{k:Nat}{u3 u5 u6:Sl}(B:Bag k w)(hk:k<500000)(T:Th 0 t):∃t' w',kS3 (wE sc n w u3 (.val t) u5 u6)=.ok (.nx (wE sc n w' u3 (.val t') u5 u6))/\Th 0 t'/\Bag (k+1000) w':=by
 obtain⟨r,w1,e1,_,_,B1⟩:=tk2 (sc:=sc) (n:=n) (c:=8) (u3:=u3) (u4:=.val t) (u5:=u5) (u6:=u6) B (by lia) (by decide) (by decide)
 have ht:gB (g2 eqD (zAI zAB 2 [(gC (.int 8))]) (gC (.int 0))) (wE sc n w u3 (.val t) u5 u6)=.ok (decide (r=0),wE sc n w1 u3 (.val t) u5 u6):=zCK (zAO e1 (y:=.int 0) rfl (zF0 _ _))
 by_cases h:r=0
 ·rw[decide_eq_true h] at ht
  obtain⟨x,w2,e2,T2,B2⟩:=zU9 B1 (by lia)
  obtain⟨y,w3,e3,A3,B3⟩:=zL6 4 5 _ w2 (by decide) B2 (by have:cnt 4=161:=rfl;lia)
  obtain⟨z,w4,e4,z0,z1,B4⟩:=tk2 (sc:=sc) (n:=n) (c:=2) (u3:=u3) (u4:=.val t) (u5:=u5) (u6:=u6) B3 (by have:cnt 4=161:=rfl;lia) (by decide) (by decide)
  have key:∃q,([x,y])[z.toNat]?=some q/\Th 0 q:=by
   have:z=0\/z=1:=by lia
   rcases this with rfl|rfl
   ·exact⟨x,rfl,T2⟩
   ·exact⟨y,rfl,A3.th⟩
  obtain⟨q,hq,Tq⟩:=key
  have c2:zAI zBX 2 [] (wE sc n w1 u3 (.val t) u5 u6)=.ok (x,wE sc n w2 u3 (.val t) u5 u6):=zB5 (E1:=wE sc n w1 u3 (.val t) u5 u6) (i:=2) (t2:=false) (t:=false) (ds:=[]) rfl rfl rfl e2
  have c3:zAI (zAT 5) 2 [(gC (.int 4))] (wE sc n w2 u3 (.val t) u5 u6)=.ok (y,wE sc n w3 u3 (.val t) u5 u6):=zB5 (E1:=wE sc n w2 u3 (.val t) u5 u6) (i:=2) (t2:=false) (t:=false) rfl (zAS (d:=.int 4) rfl) rfl e3
  exact⟨q,w4,zD5 ht (zA3 (zAO (x:=.lst [x,y]) (zCU (zAF c2 (zAS c3)) (show 2<10000 by decide)) e4 (zRT (xs:=[]) z0 hq)) rfl),Tq,B4.mono (by have:cnt 4=161:=rfl;lia)⟩
 ·rw[decide_eq_false h] at ht
  exact⟨t,w1,zDE ht rfl,T,B1.mono (by lia)⟩
noncomputable abbrev kS4:GS:=(zMX (zEC (zAC 3)) (.nm 5)
 (zC6 (zDO (zBV zAU [(zAC 4)]))
 (zBQ (.nm 4) (zAI zCG 2 [(zAC 4)]))
 gNx))
theorem zZL{w t:D}{k b:Nat}{u5 u6:Sl}(hb:b<=2)(B:Bag k w)(hk:k<500000)(T:Th 0 t):∃t' w' u5',kS4 (wE sc n w (.val (.int b)) (.val t) u5 u6)=.ok (.nx (wE sc n w' (.val (.int b)) (.val t') u5' u6)):=by
 obtain⟨E',e,w',t',u5',rfl,_⟩:=zHX (gi:=zEC (zAC 3)) (t:=.nm 5) (g:=(zC6 (zDO (zBV zAU [(zAC 4)])) (zBQ (.nm 4) (zAI zCG 2 [(zAC 4)])) gNx)) (E:=wE sc n w (.val (.int b)) (.val t) u5 u6) (E1:=wE sc n w (.val (.int b)) (.val t) u5 u6) (ds:=zFA 0 b)
  (λi E=>∃w t u5,E=wE sc n w (.val (.int b)) (.val t) u5 u6/\Th i t/\Bag (k+1000 * i) w) (zH0 (j:=b) rfl ⟨by lia,by lia⟩) ⟨w,t,u5,rfl,T,B⟩
  (λi x E hx hP=>by
   obtain⟨w,t,u5,rfl,T,B⟩:=hP
   have hi:i<b:=by
    have:=(List.getElem?_eq_some_iff.mp hx).1
    rwa [zPA,List.length_map,zGX] at this
   refine⟨_,rfl,?_⟩
   obtain⟨c,ec,hc⟩:=zU5 T (by lia)
   have ht:zDO (zBV zAU [(zAC 4)]) (wE sc n w (.val (.int b)) (.val t) (.val x) u6)=.ok (c,wE sc n w (.val (.int b)) (.val t) (.val x) u6):=zEG (zBP (ds:=[t]) rfl ec) rfl
   cases c with
   |true =>
    obtain⟨m,ls,rfl,h1,h2⟩:=hc rfl
    obtain⟨r,w2,e2,T2,B2⟩:=zU8 (by lia) T h1 h2 B (by lia)
    exact⟨_,zD5 ht (zA3 (zB5 (i:=2) (t2:=false) (t:=false) rfl (zAS (d:=.tup [.int m,.tup ls]) rfl) rfl e2) rfl),w2,r,_,rfl,T2,B2.mono (by lia)⟩
   |false =>
    refine⟨_,zDE ht rfl,w,t,_,rfl,?_,B.mono (by lia)⟩
    intro m ls e
    obtain⟨a1,a2,a3,a4⟩:=T m ls e
    exact⟨by lia,Nat.le_trans a2 (by rw[Nat.pow_succ];lia),a3,a4⟩)
 exact⟨t',w',u5',e⟩
theorem zXZ(b:Bool):neD (.bl b) (.bl b)=.ok (.bl false):=by
 cases b<;>rfl
noncomputable abbrev kS5:GS:=(zBA (zBQ (.nm 6) (zBV zD2 [(zAC 4)]))
 (zC6 (zCN (zBG (zDO (zB6 "bool" (zAC 6)))) (gB (g2 neD (zAC 6) (zBV zB4 [(zAC 4)]))))
 (zC1 (gC (.bl false)))
 gNx))
theorem zZM{w t:D}{u3 u5 u6:Sl}:kS5 (wE sc n w u3 (.val t) u5 u6)=.ok (.nx (wE sc n w u3 (.val t) u5 (.val (.bl (zM0 t))))):=by
 have a:zBQ (.nm 6) (zBV zD2 [(zAC 4)]) (wE sc n w u3 (.val t) u5 u6)=.ok (.nx (wE sc n w u3 (.val t) u5 (.val (.bl (zM0 t))))):=zA3 (zBP (ds:=[t]) rfl (zXW t)) rfl
 refine zAK a (zDE (zE0 (zBL (b:=true) (zEG (zEH (d:=.bl (zM0 t)) rfl) rfl)) (zCK (zAO (x:=.bl (zM0 t)) rfl (zBP (ds:=[t]) rfl (zRV t)) (zXZ _)))) rfl)
end
theorem law_true:∀ns:List Int,ns.length<=63->∃b d',m_law [.val (.lst (ns.map D.int))]=.ok (b,.bl true,d'):=by
 intro ns hns
 obtain⟨c,ec⟩:=zVA ns
 obtain⟨sc,hsc⟩:∃sc:D,sc=.lst (ns.map D.int):=⟨_,rfl⟩
 have hcut:(zDW ns (some 1) (some 16)).length<=63:=by
  unfold zDW
  rw[List.length_take,List.length_drop];lia
 obtain⟨E',e,u1,u2,u3,u4,u5,u6,rfl⟩:=zHX (gi:=zED (g2 zBT (zDJ [(zBV zCE [(zAC 0),(gC (.int 0))])]) (zBM (zAC 0) (some (gC (.int 1))) (some (gC (.int 16)))))) (t:=.nm 1)
  (g:=(zBA (zHI 2 (zGP zCF [(zAC 1),(gC (.int 0))])) (zBA kS1 (zBA kS2 (zBA kS3 (zBA kS4 kS5)))))) (E:=[.val sc,.no,.no,.no,.no,.no,.no]) (E1:=[.val sc,.no,.no,.no,.no,.no,.no]) (ds:=(c::zDW ns (some 1) (some 16)).map D.int)
  (λi E=>∃u1 u2 u3 u4 u5 u6,E=[.val sc,u1,u2,u3,u4,u5,u6])
  (by
   rw[hsc]
   refine zUU (zAO (x:=.lst [.int c]) (y:=.lst ((zDW ns (some 1) (some 16)).map D.int)) (zCU (zAS (zBP (ds:=[.lst (ns.map D.int),.int 0]) rfl ec)) (show 1<10000 by decide)) ?_ ?_)
   ·rw[<-zRZ];rfl
   ·exact zUV (by rw[List.length_map];show 1+_<10000;lia) rfl) ⟨_,_,_,_,_,_,rfl⟩
  (λi x E hx hP=>by
   obtain⟨u1,u2,u3,u4,u5,u6,hE⟩:=hP
   subst hE
   rw[List.getElem?_map] at hx
   obtain⟨n,_,rfl⟩:=Option.map_eq_some_iff.mp hx
   refine⟨_,rfl,?_⟩
   obtain⟨w,ew,B⟩:=zUY n
   have e0:zHI 2 (zGP zCF [(zAC 1),(gC (.int 0))]) [.val sc,.val (.int n),u2,u3,u4,u5,u6]=.ok (.nx (wE sc n w u3 u4 u5 u6)):=zHZ (E':=[.val sc,.val (.int n),u2,u3,u4,u5,u6]) (zRL (ds:=[.int n,.int 0]) rfl ew)
   obtain⟨b,w1,hb,e1,B1⟩:=zZI (sc:=sc) (n:=n) (u3:=u3) (u4:=u4) (u5:=u5) (u6:=u6) B (by decide)
   obtain⟨t2,w2,e2,T2,B2⟩:=zZJ (sc:=sc) (n:=n) (u3:=.val (.int b)) (u4:=u4) (u5:=u5) (u6:=u6) B1 (by decide)
   obtain⟨t3,w3,e3,T3,B3⟩:=zZK (sc:=sc) (n:=n) (u3:=.val (.int b)) (u5:=u5) (u6:=u6) B2 (by decide) T2
   obtain⟨t4,w4,v5,e4⟩:=zZL (sc:=sc) (n:=n) (u5:=u5) (u6:=u6) hb B3 (by decide) T3
   exact⟨_,zAK e0 (zAK e1 (zAK e2 (zAK e3 (zAK e4 zZM)))),_,_,_,_,_,_,rfl⟩)
 refine⟨false,.non,?_⟩
 rw[<-hsc]
 exact zA7 (zAK e (zAV (d:=.bl true) rfl)) rfl
theorem zKW{α:Type}{us:List α}(h:us.length=1):∃a,us=[a]:=List.length_eq_one_iff.mp h
theorem yAF{α:Type}{us:List α}{n:Nat}(h:us.length=n+1):∃a r,us=a::r/\r.length=n:=by
 cases us with
 |nil=>cases h
 |cons a r=>exact⟨a,r,rfl,Nat.succ.inj h⟩
theorem zPV{α:Type}{us:List α}(h:us.length=2):∃a b,us=[a,b]:=by obtain⟨a,r,rfl,k⟩:=yAF (n:=1) h;obtain⟨b,rfl⟩:=zKW k;exact⟨a,b,rfl⟩
theorem zZN{α:Type}{us:List α}(h:us.length=3):∃a b c,us=[a,b,c]:=by obtain⟨a,r,rfl,k⟩:=yAF (n:=2) h;obtain⟨b,c,rfl⟩:=zPV k;exact⟨a,b,c,rfl⟩
theorem all_mk{l:PySem.W.OpenLaw}{w:World}{K:PySem.W.Frag}{h:Heap}{mg:Str->Option Value}{fa f_is_whole f__law_cell f__law_well f__law_take f__law_whole f_is_place f__law_shuffled f__law_is_net f__law_is_bendable f__law_full f_is_lane f__law_net f_is_net f__law_any f__law_lane_bent f__law_bent f_law:Addr}(X:K.In h)(G:h.Ns mainGlobals mg)(hfa:mg "law"=some (.ref fa))
  {od_is_whole an_is_whole od__law_cell an__law_cell od__law_well an__law_well od__law_take an__law_take od__law_whole an__law_whole od_is_place an_is_place od__law_shuffled an__law_shuffled od__law_is_net an__law_is_net od__law_is_bendable an__law_is_bendable od__law_full an__law_full od_is_lane an_is_lane od__law_net an__law_net od_is_net an_is_net od__law_any an__law_any od__law_lane_bent an__law_lane_bent od__law_bent an__law_bent od_law an_law:Option Addr} {sl_is_whole sl__law_cell sl__law_well sl__law_take sl__law_whole sl_is_place sl__law_shuffled sl__law_is_net sl__law_is_bendable sl__law_full sl_is_lane sl__law_net sl_is_net sl__law_any sl__law_lane_bent sl__law_bent sl_law:Array (Option Value)} {oc_is_whole kV_is_whole dc_is_whole pm_is_whole cd_is_whole ct_is_whole oc__law_cell kV__law_cell dc__law_cell pm__law_cell cd__law_cell ct__law_cell oc__law_well kV__law_well dc__law_well pm__law_well cd__law_well ct__law_well oc__law_take kV__law_take dc__law_take pm__law_take cd__law_take ct__law_take oc__law_whole kV__law_whole dc__law_whole pm__law_whole cd__law_whole ct__law_whole oc_is_place kV_is_place dc_is_place pm_is_place cd_is_place ct_is_place oc__law_shuffled kV__law_shuffled dc__law_shuffled pm__law_shuffled cd__law_shuffled ct__law_shuffled oc__law_is_net kV__law_is_net dc__law_is_net pm__law_is_net cd__law_is_net ct__law_is_net oc__law_is_bendable kV__law_is_bendable dc__law_is_bendable pm__law_is_bendable cd__law_is_bendable ct__law_is_bendable oc__law_full kV__law_full dc__law_full pm__law_full cd__law_full ct__law_full oc_is_lane kV_is_lane dc_is_lane pm_is_lane cd_is_lane ct_is_lane oc__law_net kV__law_net dc__law_net pm__law_net cd__law_net ct__law_net oc_is_net kV_is_net dc_is_net pm_is_net cd_is_net ct_is_net oc__law_any kV__law_any dc__law_any pm__law_any cd__law_any ct__law_any oc__law_lane_bent kV__law_lane_bent dc__law_lane_bent pm__law_lane_bent cd__law_lane_bent ct__law_lane_bent oc__law_bent kV__law_bent dc__law_bent pm__law_bent cd__law_bent ct__law_bent oc_law kV_law dc_law pm_law cd_law ct_law:Value} {t_MOST_LANES t_MOST_PLACES:Tok}
  (a_is_whole:PySem.W.nsIn K mainGlobals "is_whole"=some (some (.ref f_is_whole))) (l_is_whole:K.lookup f_is_whole=some ⟨oc_is_whole,od_is_whole,.func (PySem.W.fnOf "is_whole" "is_whole" (zA4 zCO) (zA0 zCO) (zAM zCO) .none kV_is_whole dc_is_whole pm_is_whole an_is_whole cd_is_whole ct_is_whole),sl_is_whole⟩) (c_is_whole:PySem.W.codeIn K cd_is_whole "is_whole"=true) (k_is_whole:PySem.W.keepIn K (.ref f_is_whole)=true)
  (a__law_cell:PySem.W.nsIn K mainGlobals "_law_cell"=some (some (.ref f__law_cell))) (l__law_cell:K.lookup f__law_cell=some ⟨oc__law_cell,od__law_cell,.func (PySem.W.fnOf "_law_cell" "_law_cell" (zA4 zB8) (zA0 zB8) (zAM zB8) .none kV__law_cell dc__law_cell pm__law_cell an__law_cell cd__law_cell ct__law_cell),sl__law_cell⟩) (c__law_cell:PySem.W.codeIn K cd__law_cell "_law_cell"=true) (k__law_cell:PySem.W.keepIn K (.ref f__law_cell)=true)
  (a__law_well:PySem.W.nsIn K mainGlobals "_law_well"=some (some (.ref f__law_well))) (l__law_well:K.lookup f__law_well=some ⟨oc__law_well,od__law_well,.func (PySem.W.fnOf "_law_well" "_law_well" (zA4 zB9) (zA0 zB9) (zAM zB9) .none kV__law_well dc__law_well pm__law_well an__law_well cd__law_well ct__law_well),sl__law_well⟩) (c__law_well:PySem.W.codeIn K cd__law_well "_law_well"=true) (k__law_well:PySem.W.keepIn K (.ref f__law_well)=true)
  (a__law_take:PySem.W.nsIn K mainGlobals "_law_take"=some (some (.ref f__law_take))) (l__law_take:K.lookup f__law_take=some ⟨oc__law_take,od__law_take,.func (PySem.W.fnOf "_law_take" "_law_take" (zA4 zCA) (zA0 zCA) (zAM zCA) .none kV__law_take dc__law_take pm__law_take an__law_take cd__law_take ct__law_take),sl__law_take⟩) (c__law_take:PySem.W.codeIn K cd__law_take "_law_take"=true) (k__law_take:PySem.W.keepIn K (.ref f__law_take)=true)
  (a__law_whole:PySem.W.nsIn K mainGlobals "_law_whole"=some (some (.ref f__law_whole))) (l__law_whole:K.lookup f__law_whole=some ⟨oc__law_whole,od__law_whole,.func (PySem.W.fnOf "_law_whole" "_law_whole" (zA4 zBZ) (zA0 zBZ) (zAM zBZ) .none kV__law_whole dc__law_whole pm__law_whole an__law_whole cd__law_whole ct__law_whole),sl__law_whole⟩) (c__law_whole:PySem.W.codeIn K cd__law_whole "_law_whole"=true) (k__law_whole:PySem.W.keepIn K (.ref f__law_whole)=true)
  (a_is_place:PySem.W.nsIn K mainGlobals "is_place"=some (some (.ref f_is_place))) (l_is_place:K.lookup f_is_place=some ⟨oc_is_place,od_is_place,.func (PySem.W.fnOf "is_place" "is_place" (zA4 zCP) (zA0 zCP) (zAM zCP) .none kV_is_place dc_is_place pm_is_place an_is_place cd_is_place ct_is_place),sl_is_place⟩) (c_is_place:PySem.W.codeIn K cd_is_place "is_place"=true) (k_is_place:PySem.W.keepIn K (.ref f_is_place)=true)
  (a__law_shuffled:PySem.W.nsIn K mainGlobals "_law_shuffled"=some (some (.ref f__law_shuffled))) (l__law_shuffled:K.lookup f__law_shuffled=some ⟨oc__law_shuffled,od__law_shuffled,.func (PySem.W.fnOf "_law_shuffled" "_law_shuffled" (zA4 zBE) (zA0 zBE) (zAM zBE) .none kV__law_shuffled dc__law_shuffled pm__law_shuffled an__law_shuffled cd__law_shuffled ct__law_shuffled),sl__law_shuffled⟩) (c__law_shuffled:PySem.W.codeIn K cd__law_shuffled "_law_shuffled"=true) (k__law_shuffled:PySem.W.keepIn K (.ref f__law_shuffled)=true)
  (a__law_is_net:PySem.W.nsIn K mainGlobals "_law_is_net"=some (some (.ref f__law_is_net))) (l__law_is_net:K.lookup f__law_is_net=some ⟨oc__law_is_net,od__law_is_net,.func (PySem.W.fnOf "_law_is_net" "_law_is_net" (zA4 zBR) (zA0 zBR) (zAM zBR) .none kV__law_is_net dc__law_is_net pm__law_is_net an__law_is_net cd__law_is_net ct__law_is_net),sl__law_is_net⟩) (c__law_is_net:PySem.W.codeIn K cd__law_is_net "_law_is_net"=true) (k__law_is_net:PySem.W.keepIn K (.ref f__law_is_net)=true)
  (a__law_is_bendable:PySem.W.nsIn K mainGlobals "_law_is_bendable"=some (some (.ref f__law_is_bendable))) (l__law_is_bendable:K.lookup f__law_is_bendable=some ⟨oc__law_is_bendable,od__law_is_bendable,.func (PySem.W.fnOf "_law_is_bendable" "_law_is_bendable" (zA4 zAZ) (zA0 zAZ) (zAM zAZ) .none kV__law_is_bendable dc__law_is_bendable pm__law_is_bendable an__law_is_bendable cd__law_is_bendable ct__law_is_bendable),sl__law_is_bendable⟩) (c__law_is_bendable:PySem.W.codeIn K cd__law_is_bendable "_law_is_bendable"=true) (k__law_is_bendable:PySem.W.keepIn K (.ref f__law_is_bendable)=true)
  (a__law_full:PySem.W.nsIn K mainGlobals "_law_full"=some (some (.ref f__law_full))) (l__law_full:K.lookup f__law_full=some ⟨oc__law_full,od__law_full,.func (PySem.W.fnOf "_law_full" "_law_full" (zA4 zCB) (zA0 zCB) (zAM zCB) .none kV__law_full dc__law_full pm__law_full an__law_full cd__law_full ct__law_full),sl__law_full⟩) (c__law_full:PySem.W.codeIn K cd__law_full "_law_full"=true) (k__law_full:PySem.W.keepIn K (.ref f__law_full)=true)
  (a_is_lane:PySem.W.nsIn K mainGlobals "is_lane"=some (some (.ref f_is_lane))) (l_is_lane:K.lookup f_is_lane=some ⟨oc_is_lane,od_is_lane,.func (PySem.W.fnOf "is_lane" "is_lane" (zA4 zDA) (zA0 zDA) (zAM zDA) .none kV_is_lane dc_is_lane pm_is_lane an_is_lane cd_is_lane ct_is_lane),sl_is_lane⟩) (c_is_lane:PySem.W.codeIn K cd_is_lane "is_lane"=true) (k_is_lane:PySem.W.keepIn K (.ref f_is_lane)=true)
  (a__law_net:PySem.W.nsIn K mainGlobals "_law_net"=some (some (.ref f__law_net))) (l__law_net:K.lookup f__law_net=some ⟨oc__law_net,od__law_net,.func (PySem.W.fnOf "_law_net" "_law_net" (zA4 zCQ) (zA0 zCQ) (zAM zCQ) .none kV__law_net dc__law_net pm__law_net an__law_net cd__law_net ct__law_net),sl__law_net⟩) (c__law_net:PySem.W.codeIn K cd__law_net "_law_net"=true) (k__law_net:PySem.W.keepIn K (.ref f__law_net)=true)
  (a_is_net:PySem.W.nsIn K mainGlobals "is_net"=some (some (.ref f_is_net))) (l_is_net:K.lookup f_is_net=some ⟨oc_is_net,od_is_net,.func (PySem.W.fnOf "is_net" "is_net" (zA4 zD1) (zA0 zD1) (zAM zD1) .none kV_is_net dc_is_net pm_is_net an_is_net cd_is_net ct_is_net),sl_is_net⟩) (c_is_net:PySem.W.codeIn K cd_is_net "is_net"=true) (k_is_net:PySem.W.keepIn K (.ref f_is_net)=true)
  (a__law_any:PySem.W.nsIn K mainGlobals "_law_any"=some (some (.ref f__law_any))) (l__law_any:K.lookup f__law_any=some ⟨oc__law_any,od__law_any,.func (PySem.W.fnOf "_law_any" "_law_any" (zA4 zCR) (zA0 zCR) (zAM zCR) .none kV__law_any dc__law_any pm__law_any an__law_any cd__law_any ct__law_any),sl__law_any⟩) (c__law_any:PySem.W.codeIn K cd__law_any "_law_any"=true) (k__law_any:PySem.W.keepIn K (.ref f__law_any)=true)
  (a__law_lane_bent:PySem.W.nsIn K mainGlobals "_law_lane_bent"=some (some (.ref f__law_lane_bent))) (l__law_lane_bent:K.lookup f__law_lane_bent=some ⟨oc__law_lane_bent,od__law_lane_bent,.func (PySem.W.fnOf "_law_lane_bent" "_law_lane_bent" (zA4 zA5) (zA0 zA5) (zAM zA5) .none kV__law_lane_bent dc__law_lane_bent pm__law_lane_bent an__law_lane_bent cd__law_lane_bent ct__law_lane_bent),sl__law_lane_bent⟩) (c__law_lane_bent:PySem.W.codeIn K cd__law_lane_bent "_law_lane_bent"=true) (k__law_lane_bent:PySem.W.keepIn K (.ref f__law_lane_bent)=true)
  (a__law_bent:PySem.W.nsIn K mainGlobals "_law_bent"=some (some (.ref f__law_bent))) (l__law_bent:K.lookup f__law_bent=some ⟨oc__law_bent,od__law_bent,.func (PySem.W.fnOf "_law_bent" "_law_bent" (zA4 zCC) (zA0 zCC) (zAM zCC) .none kV__law_bent dc__law_bent pm__law_bent an__law_bent cd__law_bent ct__law_bent),sl__law_bent⟩) (c__law_bent:PySem.W.codeIn K cd__law_bent "_law_bent"=true) (k__law_bent:PySem.W.keepIn K (.ref f__law_bent)=true)
  (a_law:PySem.W.nsIn K mainGlobals "law"=some (some (.ref f_law))) (l_law:K.lookup f_law=some ⟨oc_law,od_law,.func (PySem.W.fnOf "law" "law" (zA4 zHV) (zA0 zHV) (zAM zHV) .none kV_law dc_law pm_law an_law cd_law ct_law),sl_law⟩) (c_law:PySem.W.codeIn K cd_law "law"=true) (k_law:PySem.W.keepIn K (.ref f_law)=true)
  (v_MOST_LANES:PySem.W.nsIn K mainGlobals "MOST_LANES"=some (some (.int 120 t_MOST_LANES)))
  (v_MOST_PLACES:PySem.W.nsIn K mainGlobals "MOST_PLACES"=some (some (.int 24 t_MOST_PLACES)))
  (z_all:PySem.W.nsIn K mainGlobals "all"=some none) (z_bool:PySem.W.nsIn K mainGlobals "bool"=some none) (z_int:PySem.W.nsIn K mainGlobals "int"=some none) (z_isinstance:PySem.W.nsIn K mainGlobals "isinstance"=some none) (z_len:PySem.W.nsIn K mainGlobals "len"=some none) (z_list:PySem.W.nsIn K mainGlobals "list"=some none) (z_max:PySem.W.nsIn K mainGlobals "max"=some none) (z_min:PySem.W.nsIn K mainGlobals "min"=some none) (z_range:PySem.W.nsIn K mainGlobals "range"=some none) (z_sorted:PySem.W.nsIn K mainGlobals "sorted"=some none) (z_str:PySem.W.nsIn K mainGlobals "str"=some none) (z_tuple:PySem.W.nsIn K mainGlobals "tuple"=some none) (z_zip:PySem.W.nsIn K mainGlobals "zip"=some none) :
  ∃fd:FuncData,(∀(s:Shared) (v:Value),BindsTo s fd ⟨[v],[]⟩ [("script",v)])/\∀base:Heap,K.In base->base.Ns mainGlobals mg->CB K base->FnOk l.prog w K mg base CX0 9 fa fd ["script"] (spV K 1 m_law):=by
 have e:=hfa.symm.trans (PySem.W.mg_of X G a_law)
 cases e
 have T:Bt mg:=⟨PySem.W.mg_none_of X G z_all,PySem.W.mg_none_of X G z_bool,PySem.W.mg_none_of X G z_int,PySem.W.mg_none_of X G z_isinstance,PySem.W.mg_none_of X G z_len,PySem.W.mg_none_of X G z_list,PySem.W.mg_none_of X G z_max,PySem.W.mg_none_of X G z_min,PySem.W.mg_none_of X G z_range,PySem.W.mg_none_of X G z_sorted,PySem.W.mg_none_of X G z_str,PySem.W.mg_none_of X G z_tuple,PySem.W.mg_none_of X G z_zip,⟨_,PySem.W.mg_of X G v_MOST_LANES⟩,⟨_,PySem.W.mg_of X G v_MOST_PLACES⟩⟩
 have F_is_whole:=zCI (st:=zCO) l_is_whole c_is_whole k_is_whole
 have F__law_cell:=zCI (st:=zB8) l__law_cell c__law_cell k__law_cell
 have F__law_well:=zCI (st:=zB9) l__law_well c__law_well k__law_well
 have F__law_take:=zCI (st:=zCA) l__law_take c__law_take k__law_take
 have F__law_whole:=zCI (st:=zBZ) l__law_whole c__law_whole k__law_whole
 have F_is_place:=zCI (st:=zCP) l_is_place c_is_place k_is_place
 have F__law_shuffled:=zCI (st:=zBE) l__law_shuffled c__law_shuffled k__law_shuffled
 have F__law_is_net:=zCI (st:=zBR) l__law_is_net c__law_is_net k__law_is_net
 have F__law_is_bendable:=zCI (st:=zAZ) l__law_is_bendable c__law_is_bendable k__law_is_bendable
 have F__law_full:=zCI (st:=zCB) l__law_full c__law_full k__law_full
 have F_is_lane:=zCI (st:=zDA) l_is_lane c_is_lane k_is_lane
 have F__law_net:=zCI (st:=zCQ) l__law_net c__law_net k__law_net
 have F_is_net:=zCI (st:=zD1) l_is_net c_is_net k_is_net
 have F__law_any:=zCI (st:=zCR) l__law_any c__law_any k__law_any
 have F__law_lane_bent:=zCI (st:=zA5) l__law_lane_bent c__law_lane_bent k__law_lane_bent
 have F__law_bent:=zCI (st:=zCC) l__law_bent c__law_bent k__law_bent
 have F_law:=zCI (st:=zHV) l_law c_law k_law
 have b_is_whole:=F_is_whole.binds (ps:=["thing"]) λ_ _ _ _ _ _ us hl=>by
  obtain⟨a0,rfl⟩:=zKW hl
  rfl
 have b__law_cell:=F__law_cell.binds (ps:=["script","k"]) λ_ _ _ _ _ _ us hl=>by
  obtain⟨a0,a1,rfl⟩:=zPV hl
  rfl
 have b__law_well:=F__law_well.binds (ps:=["cell","turn"]) λ_ _ _ _ _ _ us hl=>by
  obtain⟨a0,a1,rfl⟩:=zPV hl
  rfl
 have b__law_take:=F__law_take.binds (ps:=["bag","many"]) λ_ _ _ _ _ _ us hl=>by
  obtain⟨a0,a1,rfl⟩:=zPV hl
  rfl
 have b__law_whole:=F__law_whole.binds (ps:=["thing"]) λ_ _ _ _ _ _ us hl=>by
  obtain⟨a0,rfl⟩:=zKW hl
  rfl
 have b_is_place:=F_is_place.binds (ps:=["many","thing"]) λ_ _ _ _ _ _ us hl=>by
  obtain⟨a0,a1,rfl⟩:=zPV hl
  rfl
 have b__law_shuffled:=F__law_shuffled.binds (ps:=["bag","some"]) λ_ _ _ _ _ _ us hl=>by
  obtain⟨a0,a1,rfl⟩:=zPV hl
  rfl
 have b__law_is_net:=F__law_is_net.binds (ps:=["thing"]) λ_ _ _ _ _ _ us hl=>by
  obtain⟨a0,rfl⟩:=zKW hl
  rfl
 have b__law_is_bendable:=F__law_is_bendable.binds (ps:=["thing"]) λ_ _ _ _ _ _ us hl=>by
  obtain⟨a0,rfl⟩:=zKW hl
  rfl
 have b__law_full:=F__law_full.binds (ps:=["bag"]) λ_ _ _ _ _ _ us hl=>by
  obtain⟨a0,rfl⟩:=zKW hl
  rfl
 have b_is_lane:=F_is_lane.binds (ps:=["many","thing"]) λ_ _ _ _ _ _ us hl=>by
  obtain⟨a0,a1,rfl⟩:=zPV hl
  rfl
 have b__law_net:=F__law_net.binds (ps:=["bag","most"]) λ_ _ _ _ _ _ us hl=>by
  obtain⟨a0,a1,rfl⟩:=zPV hl
  rfl
 have b_is_net:=F_is_net.binds (ps:=["thing"]) λ_ _ _ _ _ _ us hl=>by
  obtain⟨a0,rfl⟩:=zKW hl
  rfl
 have b__law_any:=F__law_any.binds (ps:=["bag","deep"]) λ_ _ _ _ _ _ us hl=>by
  obtain⟨a0,a1,rfl⟩:=zPV hl
  rfl
 have b__law_lane_bent:=F__law_lane_bent.binds (ps:=["bag","many","lane"]) λ_ _ _ _ _ _ us hl=>by
  obtain⟨a0,a1,a2,rfl⟩:=zZN hl
  rfl
 have b__law_bent:=F__law_bent.binds (ps:=["bag","thing"]) λ_ _ _ _ _ _ us hl=>by
  obtain⟨a0,a1,rfl⟩:=zPV hl
  rfl
 refine⟨PySem.W.fnOf "law" "law" (zA4 zHV) (zA0 zHV) (zAM zHV) .none kV_law dc_law pm_law an_law cd_law ct_law,λs v=>.of_eq rfl,λbase _ _ cb=>?_⟩
 have q_is_whole:=Fun.cal F_is_whole (zKK (P:=l.prog) (w:=w) (base:=base) F_is_whole T ) (PySem.W.mg_of X G a_is_whole) b_is_whole
 have q__law_cell:=Fun.cal F__law_cell (zJE (P:=l.prog) (w:=w) (base:=base) F__law_cell T ) (PySem.W.mg_of X G a__law_cell) b__law_cell
 have q__law_well:=Fun.cal F__law_well (zJF (P:=l.prog) (w:=w) (base:=base) F__law_well T ) (PySem.W.mg_of X G a__law_well) b__law_well
 have q__law_take:=Fun.cal F__law_take (zJG (P:=l.prog) (w:=w) (base:=base) F__law_take T ) (PySem.W.mg_of X G a__law_take) b__law_take
 have q__law_whole:=Fun.cal F__law_whole (zHW (P:=l.prog) (w:=w) (base:=base) F__law_whole T ) (PySem.W.mg_of X G a__law_whole) b__law_whole
 have q_is_place:=Fun.cal F_is_place (zKN (P:=l.prog) (w:=w) (base:=base) F_is_place T q_is_whole) (PySem.W.mg_of X G a_is_place) b_is_place
 have q__law_shuffled:=Fun.cal F__law_shuffled (zFC (P:=l.prog) (w:=w) (base:=base) F__law_shuffled T q__law_take) (PySem.W.mg_of X G a__law_shuffled) b__law_shuffled
 have q__law_is_net:=Fun.cal F__law_is_net (zGB (P:=l.prog) (w:=w) (base:=base) F__law_is_net T q__law_whole) (PySem.W.mg_of X G a__law_is_net) b__law_is_net
 have q__law_is_bendable:=Fun.cal F__law_is_bendable (zEE (P:=l.prog) (w:=w) (base:=base) F__law_is_bendable T q__law_whole) (PySem.W.mg_of X G a__law_is_bendable) b__law_is_bendable
 have q__law_full:=Fun.cal F__law_full (zJI (P:=l.prog) (w:=w) (base:=base) F__law_full T q__law_take) (PySem.W.mg_of X G a__law_full) b__law_full
 have q_is_lane:=Fun.cal F_is_lane (zMW (P:=l.prog) (w:=w) (base:=base) F_is_lane T q_is_place) (PySem.W.mg_of X G a_is_lane) b_is_lane
 have q__law_net:=Fun.cal F__law_net (zKO (P:=l.prog) (w:=w) (base:=base) F__law_net T q__law_take q__law_shuffled) (PySem.W.mg_of X G a__law_net) b__law_net
 have q_is_net:=Fun.cal F_is_net (zO0 (P:=l.prog) (w:=w) (base:=base) F_is_net T q_is_whole q_is_lane) (PySem.W.mg_of X G a_is_net) b_is_net
 have q__law_any:Cal l.prog w K mg base "_law_any" 6 2 (zAT 5):=Fun.cal F__law_any (zFY (P:=l.prog) (w:=w) (base:=base) F__law_any T (PySem.W.mg_of X G a__law_any) b__law_any q__law_take 5) (PySem.W.mg_of X G a__law_any) b__law_any
 have q__law_lane_bent:=Fun.cal F__law_lane_bent (zEZ (P:=l.prog) (w:=w) (base:=base) F__law_lane_bent T q__law_take q__law_any) (PySem.W.mg_of X G a__law_lane_bent) b__law_lane_bent
 have q__law_bent:=Fun.cal F__law_bent (zJK (P:=l.prog) (w:=w) (base:=base) F__law_bent T q__law_take q__law_any q__law_lane_bent) (PySem.W.mg_of X G a__law_bent) b__law_bent
 exact zXR F_law T q__law_well q_is_net q__law_cell q__law_take q__law_net q__law_is_bendable q__law_bent q__law_is_net q__law_full q__law_any
end My
open PySem PySem.W PyProof.Rows
set_option maxRecDepth 100000 in
set_option maxHeartbeats 0 in
theorem PySem.Challenge.cw_waymusts_k01_what_is_a_net_holds : PySem.Challenge.rw_waymusts_k01_what_is_a_net.Holds := by
 w_on;o_law;k_head;(case hw=>w_witness2)
 k_fill
 refine L2.walk_v (l:=PySem.Challenge.rw_waymusts_k01_what_is_a_net) (m:=My.m_law) (lv:=9) rfl rfl ⟨rfl,by decide,by decide,rfl⟩ (λw h Y=>PySem.W.kIn_of Y) ?tK My.law_true ?F
 case tK =>
  intro w
  refine' L2.Tabs.of ?h1 ?h2 ?h3 ?h4 ?ap
  (case h1=>refine' .no ?z;(case z=>k_is))
  (case h2=>refine' .no ?z;(case z=>k_is))
  (case h3=>refine' .no ?z;(case z=>k_is))
  (case h4=>refine' .no ?z;(case z=>k_is))
  (case ap=>decide)
 case F =>
  intro w mg fa h KX G hmg
  refine' My.all_mk KX G hmg ?a_is_whole ?l_is_whole ?c_is_whole ?k_is_whole ?a__law_cell ?l__law_cell ?c__law_cell ?k__law_cell ?a__law_well ?l__law_well ?c__law_well ?k__law_well ?a__law_take ?l__law_take ?c__law_take ?k__law_take ?a__law_whole ?l__law_whole ?c__law_whole ?k__law_whole ?a_is_place ?l_is_place ?c_is_place ?k_is_place ?a__law_shuffled ?l__law_shuffled ?c__law_shuffled ?k__law_shuffled ?a__law_is_net ?l__law_is_net ?c__law_is_net ?k__law_is_net ?a__law_is_bendable ?l__law_is_bendable ?c__law_is_bendable ?k__law_is_bendable ?a__law_full ?l__law_full ?c__law_full ?k__law_full ?a_is_lane ?l_is_lane ?c_is_lane ?k_is_lane ?a__law_net ?l__law_net ?c__law_net ?k__law_net ?a_is_net ?l_is_net ?c_is_net ?k_is_net ?a__law_any ?l__law_any ?c__law_any ?k__law_any ?a__law_lane_bent ?l__law_lane_bent ?c__law_lane_bent ?k__law_lane_bent ?a__law_bent ?l__law_bent ?c__law_bent ?k__law_bent ?a_law ?l_law ?c_law ?k_law ?v_MOST_LANES ?v_MOST_PLACES ?z_all ?z_bool ?z_int ?z_isinstance ?z_len ?z_list ?z_max ?z_min ?z_range ?z_sorted ?z_str ?z_tuple ?z_zip
  (case a_is_whole=>k_is);(case l_is_whole=>k_is);(case c_is_whole=>k_is);(case k_is_whole=>k_is)
  (case a__law_cell=>k_is);(case l__law_cell=>k_is);(case c__law_cell=>k_is);(case k__law_cell=>k_is)
  (case a__law_well=>k_is);(case l__law_well=>k_is);(case c__law_well=>k_is);(case k__law_well=>k_is)
  (case a__law_take=>k_is);(case l__law_take=>k_is);(case c__law_take=>k_is);(case k__law_take=>k_is)
  (case a__law_whole=>k_is);(case l__law_whole=>k_is);(case c__law_whole=>k_is);(case k__law_whole=>k_is)
  (case a_is_place=>k_is);(case l_is_place=>k_is);(case c_is_place=>k_is);(case k_is_place=>k_is)
  (case a__law_shuffled=>k_is);(case l__law_shuffled=>k_is);(case c__law_shuffled=>k_is);(case k__law_shuffled=>k_is)
  (case a__law_is_net=>k_is);(case l__law_is_net=>k_is);(case c__law_is_net=>k_is);(case k__law_is_net=>k_is)
  (case a__law_is_bendable=>k_is);(case l__law_is_bendable=>k_is);(case c__law_is_bendable=>k_is);(case k__law_is_bendable=>k_is)
  (case a__law_full=>k_is);(case l__law_full=>k_is);(case c__law_full=>k_is);(case k__law_full=>k_is)
  (case a_is_lane=>k_is);(case l_is_lane=>k_is);(case c_is_lane=>k_is);(case k_is_lane=>k_is)
  (case a__law_net=>k_is);(case l__law_net=>k_is);(case c__law_net=>k_is);(case k__law_net=>k_is)
  (case a_is_net=>k_is);(case l_is_net=>k_is);(case c_is_net=>k_is);(case k_is_net=>k_is)
  (case a__law_any=>k_is);(case l__law_any=>k_is);(case c__law_any=>k_is);(case k__law_any=>k_is)
  (case a__law_lane_bent=>k_is);(case l__law_lane_bent=>k_is);(case c__law_lane_bent=>k_is);(case k__law_lane_bent=>k_is)
  (case a__law_bent=>k_is);(case l__law_bent=>k_is);(case c__law_bent=>k_is);(case k__law_bent=>k_is)
  (case a_law=>k_is);(case l_law=>k_is);(case c_law=>k_is);(case k_law=>k_is)
  (case v_MOST_LANES=>k_is);(case v_MOST_PLACES=>k_is);(case z_all=>k_is);(case z_bool=>k_is)
  (case z_int=>k_is);(case z_isinstance=>k_is);(case z_len=>k_is);(case z_list=>k_is)
  (case z_max=>k_is);(case z_min=>k_is);(case z_range=>k_is);(case z_sorted=>k_is)
  (case z_str=>k_is);(case z_tuple=>k_is);(case z_zip=>k_is)
